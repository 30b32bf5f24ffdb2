import PyProof.Rows.All
import Wide.All
import OpenK.AllK
import Wide.FinOn
import HandS.ForMost
import HandS.Codes
import HandS.Evl
import HandS.IsInst
import HandS.Wide
import HandS.SortKw
import HandS.TupLe
import HandS.CallLocal
import HandS.More
import HandS.Dict
import HandS.Iter
import HandS.Text
import HandS.StrMore
import HandS.FStr
import HandS.Style
import PyProof.FString
import PyProof.FString4
import PySem.Challenge.RW_stylobate_k09_operations_on_one_value
set_option Elab.async false
set_option linter.all false
set_option maxRecDepth 100000
set_option maxHeartbeats 4000000
namespace My
open PySem PySem.Spec PyProof.Rows L2 Evl
/-! ### defs of the text, promises, the end -/
def Dn (K : PySem.W.Frag) (mg : Str → Option Value) (x : Str) (st : Stmt) (ps : List Str) : Prop := ∃ f fd, C8.Def K mg x st f fd ∧ Binds K fd ps []
section
variable {P : Program} {w : World} {K : PySem.W.Frag} {mg : Str → Option Value} {base : Heap}
theorem cal_of {x : Str} {st : Stmt} {N ps : List Str} {k : Nat} {sp : Sp} (D : Dn K mg x st ps) (S : FnScope N ps (C8.fnScope st)) (len : ∀ vs H Q E, sp vs H Q E → vs.length = ps.length)
    (hbody : ∀ (f : Addr) (cdv : Value) (A : Around) (outer : List Env) (s : Shared) (H : Hp) (vs : List V) (Q : VK) (E : XK), Room k (A.deeper (envOfC x (C8.fnScope st) s.heap.objs.size f cdv)) → sp vs H Q E →
      ∃ t, PSs (cxOf C8.CX0 P w K mg base N x (C8.fnScope st) f cdv A outer s H E).nox (C8.fnBody st) t ∧ t { nx := fun _ H' => Q .non H', rt := Q } (start N vs) H) : C8.Cal P w K mg base (k + 1) x sp [] := by
  obtain ⟨f, fd, F, b⟩ := D
  exact C8.cal0 F b .nil S len (hbody f)
theorem def_mk {x : Str} {st : Stmt} {f : Addr} {oc : Value} {od an : Option Addr} {osl : Array (Option Value)} {kV doc pm cdv ct : Value}
    (l : K.lookup f = some ⟨oc, od, .func (PySem.W.fnOf x x (C8.fnArgs st) (C8.fnBody st) (C8.fnScope st) .none kV doc pm an cdv ct), osl⟩)
    (c : PySem.W.codeIn K cdv x = true) (k : PySem.W.keepIn K (.ref f) = true) (m : mg x = some (.ref f)) : C8.Def K mg x st f (PySem.W.fnOf x x (C8.fnArgs st) (C8.fnBody st) (C8.fnScope st) .none kV doc pm an cdv ct) :=
  ⟨⟨oc, od, .none, kV, doc, pm, an, cdv, ct, osl, rfl, l, c⟩, m, k⟩
theorem dn_mk {x : Str} {st : Stmt} {f : Addr} {oc : Value} {od an : Option Addr} {osl : Array (Option Value)} {kV doc pm cdv ct : Value} {ps : List Str}
    (l : K.lookup f = some ⟨oc, od, .func (PySem.W.fnOf x x (C8.fnArgs st) (C8.fnBody st) (C8.fnScope st) .none kV doc pm an cdv ct), osl⟩)
    (c : PySem.W.codeIn K cdv x = true) (k : PySem.W.keepIn K (.ref f) = true) (m : mg x = some (.ref f))
    (h : ∀ (kV doc pm : Value) (an : Option Addr) (cdv ct : Value) (us : List Value), us.length = ps.length → bindArgs (PySem.W.fnOf x x (C8.fnArgs st) (C8.fnBody st) (C8.fnScope st) .none kV doc pm an cdv ct) ⟨us, []⟩ = pure (ps.zip us)) : Dn K mg x st ps :=
  ⟨f, _, def_mk l c k m, C8.Fun.binds (def_mk l c k m).fn rfl h⟩
end
/-! ### x is True, x is False, of any value -/
def rIsT : R2 := fun x y H Q => ∃ b : Bool, y = .bl b ∧ Q (.bl (decide (x = .bl b))) H
def rNotT : R2 := fun x y H Q => ∃ b : Bool, y = .bl b ∧ Q (.bl (!decide (x = .bl b))) H
section
variable {X : Cx}
theorem rel_bl {x : V} {v : Value} {b : Bool} (rx : RelV x v) : PySem.plainIs v (.bool b) = true ∧ (v == .bool b) = decide (x = .bl b) ∨ ∃ n, v = .builtin n := by
  cases x with
  | non => cases (show v = Value.none from rx); exact .inl ⟨rfl, rfl⟩
  | bl c => cases (show v = Value.bool c from rx); exact .inl ⟨rfl, by cases b <;> cases c <;> rfl⟩
  | int i => obtain ⟨t, e⟩ := (show ∃ t, v = Value.int i t from rx); cases e; exact .inl ⟨rfl, rfl⟩
  | str i => obtain ⟨t, e⟩ := (show ∃ t, v = Value.str i t from rx); cases e; exact .inl ⟨rfl, rfl⟩
  | byt i => obtain ⟨t, e⟩ := (show ∃ t, v = Value.bytes i t from rx); cases e; exact .inl ⟨rfl, rfl⟩
  | flt i => obtain ⟨t, e⟩ := (show ∃ t, v = Value.float i t from rx); cases e; exact .inl ⟨rfl, rfl⟩
  | ref a => cases (show v = Value.ref a from rx); exact .inl ⟨rfl, rfl⟩
  | ty n => cases (show v = Value.type n from rx); exact .inl ⟨rfl, rfl⟩
theorem rel_bl' {x : V} {v : Value} {b : Bool} (rx : RelV x v) : PySem.plainIs v (.bool b) = true ∧ (v == .bool b) = decide (x = .bl b) := by
  rcases rel_bl (b := b) rx with h | ⟨n, rfl⟩
  · exact h
  · cases x <;> first | exact nomatch (rx : Value.builtin n = _) | (obtain ⟨t, e⟩ := rx; exact nomatch e)
theorem op_isTF : OpR X (compareOp .Is) rIsT := by
  intro pins s σ H x y v u Q I rx ry h
  obtain ⟨b, rfl, q⟩ := h
  cases (show u = Value.bool b from ry)
  obtain ⟨h1, h2⟩ := rel_bl' (b := b) rx
  exact wpAny_is_plain h1 ⟨.bl _, H, I, rfl, by rw [h2]; exact q⟩
theorem op_notTF : OpR X (compareOp .IsNot) rNotT := by
  intro pins s σ H x y v u Q I rx ry h
  obtain ⟨b, rfl, q⟩ := h
  cases (show u = Value.bool b from ry)
  obtain ⟨h1, h2⟩ := rel_bl' (b := b) rx
  exact wpAny_isNot_plain h1 ⟨.bl _, H, I, rfl, by rw [h2]; exact q⟩
end
/-! ### what evaluates to what: further -/
section
variable {K : PySem.W.Frag} {σ : L2.St} {H H' : Hp} {ta tb te tx : TE} {t u : TT} {x y z v : V} {r : R2}
theorem rv_isT {b : Bool} : RV rIsT x (.bl b) H (.bl (decide (x = .bl b))) := fun H1 _ _ q => ⟨b, rfl, q H1 (Ex.refl H1)⟩
theorem rv_notT {b : Bool} : RV rNotT x (.bl b) H (.bl (!decide (x = .bl b))) := fun H1 _ _ q => ⟨b, rfl, q H1 (Ex.refl H1)⟩
theorem rv_isN : RV (fun x y H Q => y = .non ∧ Q (.bl (decide (x = .non))) H) x .non H (.bl (decide (x = .non))) := fun H1 _ _ q => ⟨rfl, q H1 (Ex.refl H1)⟩
theorem rv_notN : RV (fun x y H Q => y = .non ∧ Q (.bl (!decide (x = .non))) H) x .non H (.bl (!decide (x = .non))) := fun H1 _ _ q => ⟨rfl, q H1 (Ex.refl H1)⟩
theorem ev_int {i : Int} (h : Ev ta σ H (.int i)) : Ev (tCB (fun xs H Q => (∃ i, xs = [.int i] ∧ Q (.int i) H) ∨ ∃ k, xs = [.bl k] ∧ Q (.int (if k then 1 else 0)) H) (tCons ta tNil)) σ H (.int i) :=
  fun H1 e Q q => h H1 e _ fun H2 e2 => .inl ⟨i, rfl, q H2 e2⟩
theorem ev_intB {b : Bool} (h : Ev ta σ H (.bl b)) : Ev (tCB (fun xs H Q => (∃ i, xs = [.int i] ∧ Q (.int i) H) ∨ ∃ k, xs = [.bl k] ∧ Q (.int (if k then 1 else 0)) H) (tCons ta tNil)) σ H (.int (if b then 1 else 0)) :=
  fun H1 e Q q => h H1 e _ fun H2 e2 => .inr ⟨b, rfl, q H2 e2⟩
theorem ev_abs {i : Int} (h : Ev ta σ H (.int i)) : Ev (tCB (fun xs H Q => ∃ i, xs = [.int i] ∧ Q (.int (if i < 0 then -i else i)) H) (tCons ta tNil)) σ H (.int (if i < 0 then -i else i)) :=
  fun H1 e Q q => h H1 e _ fun H2 e2 => ⟨i, rfl, q H2 e2⟩
theorem ev_min2 {i j : Int} (ha : Ev ta σ H (.int i)) (hb : Ev tb σ H (.int j)) : Ev (tCB (fun xs H Q => ∃ i j, xs = [.int i, .int j] ∧ Q (.int (if j < i then j else i)) H) (tCons ta (tCons tb tNil))) σ H (.int (if j < i then j else i)) := fun H1 e Q q =>
  ha H1 e _ fun H2 e2 => hb H2 (e.trans e2) _ fun H3 e3 => ⟨i, j, rfl, q H3 (e2.trans e3)⟩
theorem ev_lenS {s : Str} (h : Ev ta σ H (.str s)) (hz : s.length ≤ 100000) : Ev (tCB (fun xs H Q => ∃ z, xs = [.str z] ∧ z.length ≤ sizeLine ∧ Q (.int z.length) H) (tCons ta tNil)) σ H (.int s.length) :=
  fun H1 e Q q => h H1 e _ fun H2 e2 => ⟨s, rfl, sz_of hz, q H2 e2⟩
/-- isinstance(x, T) of a plain value -/
def tyOf : V → String
  | .non => "NoneType"
  | .bl _ => "bool"
  | .int _ => "int"
  | .str _ => "str"
  | .byt _ => "bytes"
  | .flt _ => "float"
  | _ => "?"
def isTy (x : V) (T : String) : Bool := ((kitB (tyOf x) T).getD false)
theorem ev_isi {T : String} {tn : String} {b : Bool} (ha : Ev ta σ H x) (ht : ∀ H1, TyX K H1 x (.type tn)) (hk : kitB tn T = some b) : Ev (tCB (rIsi K) (tCons ta (tCons (tC (.ty T)) tNil))) σ H (.bl b) :=
  fun H1 e Q q => ha H1 e _ fun H2 e2 => ⟨x, .ty T, .type tn, .type T, b, rfl, .ty T, ht H2, kit_ty hk, q H2 e2⟩
theorem tx_int (i : Int) (H1 : Hp) : TyX K H1 (.int i) (.type "int") := .base (.int i)
theorem tx_bl (i : Bool) (H1 : Hp) : TyX K H1 (.bl i) (.type "bool") := .base (.bl i)
theorem tx_str (i : Str) (H1 : Hp) : TyX K H1 (.str i) (.type "str") := .base (.str i)
theorem tx_non (H1 : Hp) : TyX K H1 .non (.type "NoneType") := .base .non
section
variable {D : Ends} {tz : TS}
/-- if c: x = e, an int: told by the value x has behind it -/
theorem q_ifI {b : Bool} {i : Nat} {p q : Int} (h : EvT t σ H b) (h1 : b = true → Ev te σ H (.int p)) (h0 : σ[i]? = some (some (.int q))) (k : ∀ H1, Ex H H1 → tz D (σ.set i (some (.int (if b = true then p else q)))) H1) : tSeq (tIfS t (tAsg te (gName i)) tNext) tz D σ H := by
  refine q_ifAsg h (fun hb => ?_) (fun hb => ?_) k
  · rw [if_pos hb]
    exact h1 hb
  · rw [hb]
    show σ.set i (some (V.int q)) = σ
    apply List.ext_getElem?
    intro j
    rw [List.getElem?_set]
    split
    · rename_i e
      subst e
      rw [h0]
      have := (List.getElem?_eq_some_iff.mp h0).1
      rw [if_pos this]
    · rfl
end
/-- a promise of one value, all else as it was -/
theorem spv {sp : Sp} {vs : List V} (h : ∀ H1, Ex H H1 → ∀ Q : VK, (∀ H2, Ex H1 H2 → Q z H2) → ∀ E : XK, sp vs H1 Q E) : SpV sp vs H z := h
end
local macro_rules | `(tactic| walk_at "side") => `(tactic| first
  | exact .inr ⟨by decide, by decide⟩
  | exact .inl ⟨by decide, by decide⟩
  | exact .inl ⟨by omega, by omega⟩
  | exact .inr ⟨by omega, by omega⟩
  | exact ⟨by decide, by decide⟩
  | exact ⟨by omega, by omega⟩
  | decide
  | (show (_ : Int) < _; omega)
  | omega)
local macro_rules | `(tactic| walk_at "rv") => `(tactic| first
  | exact rv_I0
  | ((refine' rv_I ?k1); (case k1 => walk_at "side"))
  | exact rv_isT
  | exact rv_notT
  | exact rv_isN
  | exact rv_notN
  | exact rv_eq rfl
  | exact rv_ne rfl)
local macro_rules | `(tactic| walk_at "sq") => `(tactic| first | assumption | exact ex_l (by assumption) (by assumption) | exact sq_of (by assumption))
/-- what a part gives, read off its form -/
local macro_rules | `(tactic| walk_at "ev") => `(tactic| first
  | exact ev_var rfl
  | exact ev_c
  | ((with_reducible refine' ev_op ?k1 ?k2 ?k3); (case k1 => walk_at "ev"); (case k2 => walk_at "ev"); (case k3 => walk_at "rv"))
  | ((with_reducible refine' ev_un ?k1 ?k2); (case k1 => walk_at "ev"); (case k2 => exact ru_neg))
  | ((with_reducible refine' ev_int ?k1); (case k1 => walk_at "ev"))
  | ((with_reducible refine' ev_abs ?k1); (case k1 => walk_at "ev"))
  | ((with_reducible refine' ev_andV ?k1 ?k2); (case k1 => walk_at "ev"); (case k2 => intro _; walk_at "ev"))
  | ((with_reducible refine' ev_orV ?k1 ?k2); (case k1 => walk_at "ev"); (case k2 => intro _; walk_at "ev"))
  | ((with_reducible refine' ev_notV ?k1); (case k1 => walk_at "ev"))
  | ((refine' ev_len ?k1 ?k2); (case k1 => walk_at "ev"); (case k2 => walk_at "sq")))
local macro_rules | `(tactic| walk_at "et") => `(tactic| first
  | ((with_reducible refine' et_or ?k1 ?k2); (case k1 => walk_at "et"); (case k2 => intro _; walk_at "et"))
  | ((with_reducible refine' et_and ?k1 ?k2); (case k1 => walk_at "et"); (case k2 => intro _; walk_at "et"))
  | ((with_reducible refine' et_not ?k1); (case k1 => walk_at "et"))
  | (refine' et_test ?k1; (case k1 => walk_at "ev"))
  | (refine' et_B ?k1; (case k1 => walk_at "ev")))

/-! ### tuples made, tuples read, data compared -/
def SpU (sp : Sp) (vs : List V) (H : Hp) (xs : List V) : Prop := ∀ H1, Ex H H1 → ∀ Q : VK, (∀ p H2, H1 p = none → Ex H1 H2 → H2 p = some (.tup xs) → Q (.ref p) H2) → ∀ E : XK, sp vs H1 Q E
section
variable {K : PySem.W.Frag} {σ : L2.St} {H H' : Hp} {ta tb te : TE} {x y z v : V}
theorem eu_call {sp : Sp} {dvs vs xs : List V} {E : XK} {ta : TA} (h : EvA ta σ H vs) (hs : SpU sp (vs ++ dvs) H xs) : EvU (tCall sp dvs E ta) σ H xs := fun H1 e Q q =>
  h H1 e _ fun H2 e2 => hs H2 (e.trans e2) Q (fun p H3 hp e3 h3 => q p H3 (fresh_back e2 hp) (e2.trans e3) h3) E
theorem ev_lenT {p : Addr} {xs : List V} (ha : Ev ta σ H (.ref p)) (h : SqT K H p xs) : Ev (tCB (fun xs H Q => ∃ p ys, xs = [.ref p] ∧ (SqL K H p ys ∨ SqT K H p ys) ∧ Q (.int ys.length) H) (tCons ta tNil)) σ H (.int (xs.length : Int)) := fun H1 e Q q =>
  ha H1 e _ fun H2 e2 => ⟨p, xs, rfl, Or.inr (ex_t (e.trans e2) h), q H2 e2⟩
theorem eu_divmod {i j : Int} (ha : Ev ta σ H (.int i)) (hb : Ev tb σ H (.int j)) (hc : CDiv i j) :
    EvU (tCB (fun xs H Q => ∃ i j, xs = [.int i, .int j] ∧ CDiv i j ∧ ∀ p, H p = none → Q (.ref p) (upd H p (.tup [.int (i / j), .int (i % j)]))) (tCons ta (tCons tb tNil))) σ H [.int (i / j), .int (i % j)] := fun H1 e Q q =>
  ha H1 e _ fun H2 e2 => hb H2 (e.trans e2) _ fun H3 e3 => ⟨i, j, rfl, hc, fun p hp => q p _ (fresh_back (e2.trans e3) hp) ((e2.trans e3).trans (Ex.new hp)) upd_same⟩
theorem dp_ints : ∀ ns : List Int, DpAll K H (ns.map V.int) (ns.map PyData.int)
  | [] => .nil
  | n :: r => .cons (.int n) (dp_ints r)
theorem eqv_ints : ∀ ns ms : List Int, PyData.eqv (.tuple (ns.map PyData.int)) (.tuple (ms.map PyData.int)) = decide (ns = ms)
  | [], [] => rfl
  | [], _ :: _ => rfl
  | _ :: _, [] => rfl
  | n :: r, m :: t => by
    have ih := eqv_ints r t
    show ((n == m) && PyData.eqv (.tuple (r.map PyData.int)) (.tuple (t.map PyData.int))) = _
    rw [ih, Bool.eq_iff_iff, Bool.and_eq_true, decide_eq_true_eq, decide_eq_true_eq, beq_iff_eq, List.cons.injEq]
theorem dp_tup {p : Addr} {ns : List Int} (h : SqT K H p (ns.map V.int)) : Dp K H (.ref p) (.tuple (ns.map PyData.int)) := .tup h (dp_ints ns)
def shI (n : Nat) : Bool := SeqAt.shaped (.tuple ((List.replicate n 0).map PyData.int))
theorem rv_neT {p q : Addr} {ns ms : List Int} (hp : SqT K H p (ns.map V.int)) (hq : SqT K H q (ms.map V.int)) (s1 : SeqAt.shaped (.tuple (ns.map PyData.int)) = true) (s2 : SeqAt.shaped (.tuple (ms.map PyData.int)) = true) : RV (rNeD K) (.ref p) (.ref q) H (.bl (!decide (ns = ms))) := fun H1 e Q k =>
  ⟨_, _, dp_tup (ex_t e hp), dp_tup (ex_t e hq), s1, s2, by rw [eqv_ints]; exact k H1 (Ex.refl H1)⟩
theorem tx_tup {a : Addr} {xs : List V} (h : H a = some (.tup xs)) : ∀ H1, Ex H H1 → TyX K H1 (.ref a) (.type "tuple") := fun H1 e => .base (.tup (e _ _ h))
theorem ev_isi' {T : String} {tn : String} {b : Bool} (ha : Ev ta σ H x) (ht : ∀ H1, Ex H H1 → TyX K H1 x (.type tn)) (hk : kitB tn T = some b) : Ev (tCB (rIsi K) (tCons ta (tCons (tC (.ty T)) tNil))) σ H (.bl b) :=
  fun H1 e Q q => ha H1 e _ fun H2 e2 => ⟨x, .ty T, .type tn, .type T, b, rfl, .ty T, ht H2 (e.trans e2), kit_ty hk, q H2 e2⟩
theorem ev_chain {r r' : R2} {tc : TE} {b c : Bool} (ha : Ev ta σ H x) (hb : Ev tb σ H y) (hr : RV r x y H (.bl b)) (hc : b = true → Ev tc σ H z) (hr' : b = true → RV r' y z H (.bl c)) : Ev (tChain r r' ta tb tc) σ H (.bl (b && c)) := fun H1 e Q q =>
  ha H1 e _ fun H2 e2 => hb H2 (e.trans e2) _ fun H3 e3 => hr H3 ((e.trans e2).trans e3) _ fun H4 e4 => ⟨b, rfl, by
    cases b with
    | true =>
      show tc σ H4 fun w' H5 => r' y w' H5 Q
      exact hc rfl H4 (((e.trans e2).trans e3).trans e4) _ fun H5 e5 => hr' rfl H5 ((((e.trans e2).trans e3).trans e4).trans e5) Q fun H6 e6 => q H6 ((((e2.trans e3).trans e4).trans e5).trans e6)
    | false =>
      show Q (.bl false) H4
      exact q H4 ((e2.trans e3).trans e4)⟩
/-- a, b = (..): a new tuple unpacked into names -/
theorem gt2 {p : Addr} {i j : Nat} (h : SqT K H p [x, y]) {Q : L2.St → Hp → Prop} (k : Q ((σ.set i (some x)).set j (some y)) H) : gTup K 2 (gCons (gName i) (gCons (gName j) gNil)) (.ref p) σ H Q :=
  ⟨p, [x, y], rfl, h, rfl, x, [y], rfl, y, [], rfl, rfl, k⟩
theorem gt3 {p : Addr} {i j l : Nat} (h : SqT K H p [x, y, z]) {Q : L2.St → Hp → Prop} (k : Q (((σ.set i (some x)).set j (some y)).set l (some z)) H) : gTup K 3 (gCons (gName i) (gCons (gName j) (gCons (gName l) gNil))) (.ref p) σ H Q :=
  ⟨p, [x, y, z], rfl, h, rfl, x, [y, z], rfl, y, [z], rfl, z, [], rfl, rfl, k⟩
end
theorem hu64 {A : Around} {k : Nat} (hr : Room k A) : A.units + 64 < cLine := by
  have := hr.un
  omega
section
variable {K : PySem.W.Frag} {σ : L2.St} {H : Hp} {te : TE} {D : Ends} {tz : TS} {g : TG} {xs : List V}
theorem q_asgG (h : EvU te σ H xs) (k : ∀ p H1, H p = none → Ex H H1 → H1 p = some (.tup xs) → g (.ref p) σ H1 (tz D)) : tSeq (tAsg te g) tz D σ H := h H (Ex.refl H) _ fun p H1 hp e h1 => k p H1 hp e h1
theorem q_asgV {v : V} (h : Ev te σ H v) (k : ∀ H1, Ex H H1 → g v σ H1 (tz D)) : tSeq (tAsg te g) tz D σ H := h H (Ex.refl H) _ fun H1 e => k H1 e
end
/-! ### plain values and their types -/
inductive Pl : V → Prop where
  | non : Pl .non
  | bl (b : Bool) : Pl (.bl b)
  | int (i : Int) : Pl (.int i)
  | str (s : Str) : Pl (.str s)
def tyN : V → String
  | .bl _ => "bool"
  | .int _ => "int"
  | .str _ => "str"
  | _ => "NoneType"
def isInt : V → Bool
  | .int _ => true
  | _ => false
theorem tx_pl {K : PySem.W.Frag} {x : V} (h : Pl x) (H1 : Hp) : TyX K H1 x (.type (tyN x)) := by
  cases h with
  | non => exact .base .non
  | bl b => exact .base (.bl b)
  | int i => exact .base (.int i)
  | str s => exact .base (.str s)
theorem ev_isiP {K : PySem.W.Frag} {σ : L2.St} {H : Hp} {ta : TE} {x : V} {T : String} {b : Bool} (ha : Ev ta σ H x) (hx : Pl x) (hk : kitB (tyN x) T = some b) : Ev (tCB (rIsi K) (tCons ta (tCons (tC (.ty T)) tNil))) σ H (.bl b) :=
  ev_isi ha (tx_pl hx) hk
/-- isinstance(x, int) and not isinstance(x, bool) -/
theorem ev_isInt {K : PySem.W.Frag} {σ : L2.St} {H : Hp} {ta tb : TE} {x : V} (ha : Ev ta σ H x) (hb : Ev tb σ H x) (hx : Pl x) :
    Ev (tAndV (tCB (rIsi K) (tCons ta (tCons (tC (.ty "int")) tNil))) (tNotV (tCB (rIsi K) (tCons tb (tCons (tC (.ty "bool")) tNil))))) σ H (.bl (isInt x)) := by
  cases hx with
  | non => exact ev_is (ev_andV (ev_isiP (b := false) ha .non (by decide +kernel)) fun z => nomatch z) (show V.bl (false && true) = _ from rfl)
  | bl b => exact ev_is (ev_andV (ev_isiP (b := true) ha (.bl b) (by show kitB "bool" "int" = some true; decide +kernel)) fun _ => ev_notV (ev_isiP (b := true) hb (.bl b) (by show kitB "bool" "bool" = some true; decide +kernel))) rfl
  | int i => exact ev_is (ev_andV (ev_isiP (b := true) ha (.int i) (by show kitB "int" "int" = some true; decide +kernel)) fun _ => ev_notV (ev_isiP (b := false) hb (.int i) (by show kitB "int" "bool" = some false; decide +kernel))) rfl
  | str s => exact ev_is (ev_andV (ev_isiP (b := false) ha (.str s) (by show kitB "str" "int" = some false; decide +kernel)) fun z => nomatch z) (show V.bl (false && true) = _ from rfl)

/-! ### the order of tuples that need not be alike behind the first difference -/
section
open PySem.SeqAt PySem.MeetsSeq PySem.MeetsSeq2 PySem.MeetsSeq3
open PySem.AutoSeq1 (wpAny_loadPart')
/-- pairs walked from the left: the first that differ decide; z where none do -/
inductive Lx (A : Around) (s : Shared) (z : Bool) : List (Value × Value) → Bool → Prop
  | nil : Lx A s z [] z
  | eq {y x : Value} {ps : List (Value × Value)} {c : Bool} : EqAt A s y x true → Lx A s z ps c → Lx A s z ((y, x) :: ps) c
  | lt {y x : Value} {ps : List (Value × Value)} {c : Bool} : EqAt A s y x false → Ob.RcOp .Lt A s y x c → Lx A s z ((y, x) :: ps) c
theorem lt_meets (l b : Addr) (us vs : Array Value) (n m : Nat) (dl db : Option Addr) (sl sb : Array (Option Value)) :
    Meets (Builtin.«tuple.__lt__» ⟨[.ref l, .ref b], []⟩)
      (fun A R s => s.heap.get? l = some { cls := .type "tuple", dict := dl, data := .seq us n, slots := sl } ∧ s.heap.get? b = some { cls := .type "tuple", dict := db, data := .seq vs m, slots := sb } ∧
        ∃ c, Lx A.in1 s (decide (us.size < vs.size)) (us.toList.zip vs.toList) c ∧ R (.ok (.ret (.bool c))) s) := by
  refine .of_wp fun prog w A R s h => ?_
  obtain ⟨hp, g, d, tk, os⟩ := s
  obtain ⟨hl, hb, c, hx, h⟩ := h
  have f2 := AutoSeq1.sub_tuple_tuple
  wp_walk using wpAny_loadPart' hl, wpAny_loadPart' hb, wpAny_forIn_list _ (fun ps b s' => b.1 = none ∧ s' = ⟨hp, g, d, tk, os⟩ ∧ ∃ c, Lx A.in1 ⟨hp, g, d, tk, os⟩ (decide (us.size < vs.size)) ps c ∧ R (.ok (.ret (.bool c))) ⟨hp, g, d, tk, os⟩) _
  case turn =>
    rintro ⟨y, x⟩ ps b s' ⟨hb', rfl, c, hz, hR⟩
    cases hz with
    | eq he ht =>
      refine wpAny_bind (he prog w _ _ ?_)
      wp_walk
      exact ⟨rfl, rfl, c, ht, hR⟩
    | lt he hr =>
      refine wpAny_bind (he prog w _ _ ?_)
      have hri := hr prog w
      wp_walk using hri
      exact ⟨_, rfl, hR⟩
  case fin =>
    rintro ⟨b1, b2⟩ s' ⟨hb', rfl, c, hz, hR⟩
    simp only at hb'
    subst hb'
    cases hz
    wp_walk
    exact ⟨_, rfl, by simpa [Builtin.Tuple.tupleCompareSizes] using hR⟩
  case h => exact ⟨rfl, rfl, c, hx, h⟩
theorem lt_tuples {A : Around} {s : Shared} {l b : Addr} {us vs : Array Value} {c : Bool} (hl : s.heap.IsTuple l us) (hb : s.heap.IsTuple b vs) (hu : A.units < cLine) (hx : Lx A.in1 s (decide (us.size < vs.size)) (us.toList.zip vs.toList) c) :
    Ob.RcOp .Lt A s (.ref l) (.ref b) c := by
  intro prog w E Q h
  obtain ⟨⟨k1, dl, da, sl⟩, ho, hc, n, hd⟩ := hl
  obtain ⟨⟨k2, db, da2, sb⟩, ho2, hc2, m, hd2⟩ := hb
  simp only at hc hd hc2 hd2
  subst hc hd hc2 hd2
  exact richCompare_meets_room (op := .Lt) ⟨_, ho, rfl⟩ ⟨_, ho2, rfl⟩ F.slot_tuple_lt F.entry_tuple_lt (F.args_tuple_lt_2 _ _) (lt_meets l b us vs n m dl db sl sb) ⟨ho, ho2, c, hx, ⟨(fun z => nomatch z), h⟩⟩ hu
end
mutual
/-- less, of data -/
def ltD : PyData → PyData → Bool
  | .int a, .int b => decide (a < b)
  | .str x, .str y => decide (x.cps.toList < y.cps.toList)
  | .tuple xs, .tuple ys => ltDs xs ys
  | _, _ => false
def ltDs : List PyData → List PyData → Bool
  | [], [] => false
  | [], _ :: _ => true
  | _ :: _, [] => false
  | x :: xs, y :: ys => if PyData.eqv x y then ltDs xs ys else ltD x y
end
mutual
/-- may be compared by less -/
def ordD : PyData → PyData → Bool
  | .int _, .int _ => true
  | .str _, .str _ => true
  | .tuple xs, .tuple ys => ordDs xs ys
  | _, _ => false
def ordDs : List PyData → List PyData → Bool
  | [], _ => true
  | _ :: _, [] => true
  | x :: xs, y :: ys => if PyData.eqv x y then ordDs xs ys else ordD x y
end
theorem reads_len {h : Heap} : ∀ {ds : List PyData} {us : List Value} {as : List Addr}, ReadsAll h us ds as → us.length = ds.length
  | [], _, _, r => by cases r; rfl
  | _ :: ds, _, _, r => by
    cases r with
    | cons r1 r2 => exact congrArg (· + 1) (reads_len r2)
theorem lt_list {n : Nat} (IH : ∀ (d e : PyData) (A : Around) (s : Shared) (u v : Value) (as bs : List Addr), d.depth ≤ n → Reads s.heap u d as → Reads s.heap v e bs → d.canLay0 = true → e.canLay0 = true → ordD d e = true →
    A.units + d.depth < cLine → Ob.RcOp .Lt A s u v (ltD d e)) (A : Around) (s : Shared) : ∀ (xs ys : List PyData) (us vs : List Value) (as bs : List Addr), PyData.depthAll xs ≤ n → ReadsAll s.heap us xs as → ReadsAll s.heap vs ys bs →
    PyData.canLayAll0 xs = true → PyData.canLayAll0 ys = true → ordDs xs ys = true → A.units + PyData.depthAll xs < cLine → Lx A s (decide (xs.length < ys.length)) (us.zip vs) (ltDs xs ys) := by
  intro xs
  induction xs with
  | nil =>
    intro ys us vs as bs hn r1 r2 c1 c2 ho hu
    cases r1
    cases ys with
    | nil => exact .nil
    | cons y ys =>
      rw [show decide (([] : List PyData).length < (y :: ys).length) = true from decide_eq_true (Nat.zero_lt_succ _)]
      show Lx A s true [] true
      exact .nil
  | cons x xs ih =>
    intro ys us vs as bs hn r1 r2 c1 c2 ho hu
    cases ys with
    | nil =>
      cases r2
      rw [show decide ((x :: xs).length < ([] : List PyData).length) = false from decide_eq_false (Nat.not_lt_zero _), List.zip_nil_right]
      exact .nil
    | cons y ys =>
      have a1 : x.canLay0 = true ∧ PyData.canLayAll0 xs = true := by simpa [PyData.canLayAll0] using c1
      have a2 : y.canLay0 = true ∧ PyData.canLayAll0 ys = true := by simpa [PyData.canLayAll0] using c2
      have hd : A.units + max x.depth (PyData.depthAll xs) < cLine := hu
      have hn' : max x.depth (PyData.depthAll xs) ≤ n := hn
      rw [show decide ((x :: xs).length < (y :: ys).length) = decide (xs.length < ys.length) by simp]
      cases r1 with
      | cons p1 q1 =>
        cases r2 with
        | cons p2 q2 =>
          have he := PySem.SeqAt.eqAt_reads x y A s _ _ _ _ p1 p2 a1.1 a2.1 (by omega)
          by_cases c : PyData.eqv x y = true
          · have o : ordDs xs ys = true := by rw [ordDs, if_pos c] at ho; exact ho
            rw [show ltDs (x :: xs) (y :: ys) = ltDs xs ys by rw [ltDs, if_pos c]]
            rw [c] at he
            exact .eq he (ih ys _ _ _ _ (by omega) q1 q2 a1.2 a2.2 o (by omega))
          · have o : ordD x y = true := by rw [ordDs, if_neg c] at ho; exact ho
            rw [show ltDs (x :: xs) (y :: ys) = ltD x y by rw [ltDs, if_neg c]]
            rw [Bool.not_eq_true] at c
            rw [c] at he
            exact .lt he (IH x y A s _ _ _ _ (by omega) p1 p2 a1.1 a2.1 o (by omega))
theorem lt_reads : ∀ (n : Nat) (d e : PyData) (A : Around) (s : Shared) (u v : Value) (as bs : List Addr), d.depth ≤ n → Reads s.heap u d as → Reads s.heap v e bs → d.canLay0 = true → e.canLay0 = true → ordD d e = true →
    A.units + d.depth < cLine → Ob.RcOp .Lt A s u v (ltD d e) := by
  intro n
  induction n with
  | zero =>
    intro d e A s u v as bs hn r1 r2 c1 c2 ho hu
    cases r1 with
    | int a t =>
      cases r2 with
      | int b t' => rw [ltD]; exact Ob.RcOp.lt_int _ _ _ _
      | _ => simp [ordD] at ho
    | str a t =>
      cases r2 with
      | str b t' => rw [ltD]; exact fun prog w E Q h => lt_str h
      | _ => simp [ordD] at ho
    | tuple => simp [PyData.depth] at hn
    | _ => simp [ordD] at ho
  | succ n ih =>
    intro d e A s u v as bs hn r1 r2 c1 c2 ho hu
    cases r1 with
    | int a t =>
      cases r2 with
      | int b t' => rw [ltD]; exact Ob.RcOp.lt_int _ _ _ _
      | _ => simp [ordD] at ho
    | str a t =>
      cases r2 with
      | str b t' => rw [ltD]; exact fun prog w E Q h => lt_str h
      | _ => simp [ordD] at ho
    | tuple h1 h2 h3 h4 =>
      cases r2 with
      | tuple k1 k2 k3 k4 =>
        rename_i xs _ _ _ _ _ ys
        simp only [PyData.depth] at hn hu
        have l1 := reads_len h4
        have l2 := reads_len k4
        rw [ltD]
        refine lt_tuples ⟨_, h1, h2, _, h3⟩ ⟨_, k1, k2, _, k3⟩ (by omega) ?_
        rw [← Array.length_toList, ← Array.length_toList, l1, l2]
        exact lt_list ih A.in1 s _ _ _ _ _ _ (by omega) h4 k4 (by simpa [PyData.canLay0] using c1) (by simpa [PyData.canLay0] using c2) (by simpa [ordD] using ho) (by show A.units + 1 + _ < _; omega)
      | _ => simp [ordD] at ho
    | _ => simp [ordD] at ho
def rLtD (K : PySem.W.Frag) : R2 := fun x y H Q => ∃ d e, Dp K H x d ∧ Dp K H y e ∧ d.canLay0 = true ∧ e.canLay0 = true ∧ ordD d e = true ∧ d.depth ≤ 60 ∧ Q (.bl (ltD d e)) H
theorem op_ltD {X : Cx} (hu : X.A.units + 64 < cLine) : OpR X (compareOp .Lt) (rLtD X.K) := by
  intro pins s σ H x y v u Q I rx ry h
  obtain ⟨d, e, hd, he, c1, c2, o, dp, q⟩ := h
  obtain ⟨as, r1⟩ := Dp.reads I d x v hd rx
  obtain ⟨bs, r2⟩ := Dp.reads I e y u he ry
  exact lt_reads _ d e X.A s v u as bs (Nat.le_refl _) r1 r2 c1 c2 o (by omega) X.prog X.w _ _ ⟨.bl _, H, I, rfl, q⟩

/-! ### <= of two pairs (an int and an int or a text) -/
section
open PySem.SeqAt PySem.MeetsSeq PySem.MeetsSeq2 PySem.MeetsSeq3
open PySem.AutoSeq1 (wpAny_loadPart')
/-- the same of <=: z where none differ -/
inductive Lxe (A : Around) (s : Shared) (z : Bool) : List (Value × Value) → Bool → Prop
  | nil : Lxe A s z [] z
  | eq {y x : Value} {ps : List (Value × Value)} {c : Bool} : EqAt A s y x true → Lxe A s z ps c → Lxe A s z ((y, x) :: ps) c
  | le {y x : Value} {ps : List (Value × Value)} {c : Bool} : EqAt A s y x false → Ob.RcOp .LtE A s y x c → Lxe A s z ((y, x) :: ps) c
theorem le_meets (l b : Addr) (us vs : Array Value) (n m : Nat) (dl db : Option Addr) (sl sb : Array (Option Value)) :
    Meets (Builtin.«tuple.__le__» ⟨[.ref l, .ref b], []⟩)
      (fun A R s => s.heap.get? l = some { cls := .type "tuple", dict := dl, data := .seq us n, slots := sl } ∧ s.heap.get? b = some { cls := .type "tuple", dict := db, data := .seq vs m, slots := sb } ∧
        ∃ c, Lxe A.in1 s (decide (us.size ≤ vs.size)) (us.toList.zip vs.toList) c ∧ R (.ok (.ret (.bool c))) s) := by
  refine .of_wp fun prog w A R s h => ?_
  obtain ⟨hp, g, d, tk, os⟩ := s
  obtain ⟨hl, hb, c, hx, h⟩ := h
  have f2 := AutoSeq1.sub_tuple_tuple
  wp_walk using wpAny_loadPart' hl, wpAny_loadPart' hb, wpAny_forIn_list _ (fun ps b s' => b.1 = none ∧ s' = ⟨hp, g, d, tk, os⟩ ∧ ∃ c, Lxe A.in1 ⟨hp, g, d, tk, os⟩ (decide (us.size ≤ vs.size)) ps c ∧ R (.ok (.ret (.bool c))) ⟨hp, g, d, tk, os⟩) _
  case turn =>
    rintro ⟨y, x⟩ ps b s' ⟨hb', rfl, c, hz, hR⟩
    cases hz with
    | eq he ht =>
      refine wpAny_bind (he prog w _ _ ?_)
      wp_walk
      exact ⟨rfl, rfl, c, ht, hR⟩
    | le he hr =>
      refine wpAny_bind (he prog w _ _ ?_)
      have hri := hr prog w
      wp_walk using hri
      exact ⟨_, rfl, hR⟩
  case fin =>
    rintro ⟨b1, b2⟩ s' ⟨hb', rfl, c, hz, hR⟩
    simp only at hb'
    subst hb'
    cases hz
    wp_walk
    exact ⟨_, rfl, by simpa [Builtin.Tuple.tupleCompareSizes] using hR⟩
  case h => exact ⟨rfl, rfl, c, hx, h⟩
theorem le_tuples {A : Around} {s : Shared} {l b : Addr} {us vs : Array Value} {c : Bool} (hl : s.heap.IsTuple l us) (hb : s.heap.IsTuple b vs) (hu : A.units < cLine) (hx : Lxe A.in1 s (decide (us.size ≤ vs.size)) (us.toList.zip vs.toList) c) :
    Ob.RcOp .LtE A s (.ref l) (.ref b) c := by
  intro prog w E Q h
  obtain ⟨⟨k1, dl, da, sl⟩, ho, hc, n, hd⟩ := hl
  obtain ⟨⟨k2, db, da2, sb⟩, ho2, hc2, m, hd2⟩ := hb
  simp only at hc hd hc2 hd2
  subst hc hd hc2 hd2
  exact richCompare_meets_room (op := .LtE) ⟨_, ho, rfl⟩ ⟨_, ho2, rfl⟩ F.slot_tuple_le F.entry_tuple_le (F.args_tuple_le_2 _ _) (le_meets l b us vs n m dl db sl sb) ⟨ho, ho2, c, hx, ⟨(fun z => nomatch z), h⟩⟩ hu
end
/-- of two plain items of one kind -/
def leI : V → V → Bool
  | .int a, .int b => decide (a ≤ b)
  | .str x, .str y => !decide (y.cps.toList < x.cps.toList)
  | _, _ => false
def okI : V → V → Bool
  | .int _, .int _ => true
  | .str _, .str _ => true
  | _, _ => false
def rLe2 (K : PySem.W.Frag) : R2 := fun x y H Q => ∃ (a b : Addr) (i j : Int) (p q : V), x = .ref a ∧ y = .ref b ∧ SqT K H a [.int i, p] ∧ SqT K H b [.int j, q] ∧ flatV p = true ∧ flatV q = true ∧ (i = j → eqV p q = false → okI p q = true) ∧
  Q (.bl (if i = j then (if eqV p q = true then true else leI p q) else decide (i ≤ j))) H
theorem op_le2 {X : Cx} (hu : X.A.units + 64 < cLine) : OpR X (compareOp .LtE) (rLe2 X.K) := by
  intro pins s σ H x y v u Q I rx ry h
  obtain ⟨a, b, i, j, p, q, rfl, rfl, ha, hb, fp, fq, ho, k⟩ := h
  cases rx
  cases ry
  obtain ⟨us, r1, t1, _⟩ := I.tuple ha
  obtain ⟨vs, r2, t2, _⟩ := I.tuple hb
  cases r1 with
  | cons q1 w1 =>
    cases w1 with
    | cons q2 w2 =>
      cases w2
      cases r2 with
      | cons z1 y1 =>
        cases y1 with
        | cons z2 y2 =>
          cases y2
          obtain ⟨t, rfl⟩ := q1
          obtain ⟨t', rfl⟩ := z1
          refine le_tuples t1 t2 (by omega) (c := if i = j then (if eqV p q = true then true else leI p q) else decide (i ≤ j)) ?_ X.prog X.w _ _ ⟨.bl _, H, I, rfl, k⟩
          show Lxe X.A.in1 s true [_, _] _
          have e1 := SeqAt.EqAt.int_int (A := X.A.in1) (s := s) i t j t'
          by_cases e : i = j
          · rw [if_pos e]
            rw [show (i == j) = true from beq_iff_eq.mpr e] at e1
            refine .eq e1 ?_
            have e2 := eqAt_V (A := X.A.in1) (s := s) q2 z2 fp fq
            cases c : eqV p q with
            | true =>
              rw [c] at e2
              rw [if_pos rfl]
              exact .eq e2 .nil
            | false =>
              rw [c] at e2
              rw [if_neg (by decide)]
              refine .le e2 ?_
              have o := ho e c
              cases p <;> cases q <;> first | (simp [okI] at o; done) | skip
              · obtain ⟨_, rfl⟩ := q2
                obtain ⟨_, rfl⟩ := z2
                exact Ob.RcOp.le_int _ _ _ _
              · obtain ⟨_, rfl⟩ := q2
                obtain ⟨_, rfl⟩ := z2
                exact fun prog w E Q h => PySem.P.le_str h
          · rw [if_neg e]
            rw [show (i == j) = false from beq_eq_false_iff_ne.mpr e] at e1
            exact .le e1 (Ob.RcOp.le_int _ _ _ _)

/-! ### parts that give data -/
section
variable {K : PySem.W.Frag}
mutual
theorem ex_dp {H H' : Hp} (e : Ex H H') : ∀ {v : V} {d : PyData}, Dp K H v d → Dp K H' v d
  | _, _, .non => .non
  | _, _, .bl b => .bl b
  | _, _, .int i => .int i
  | _, _, .str x => .str x
  | _, _, .lst h a => .lst (ex_l e h) (ex_dps e a)
  | _, _, .tup h a => .tup (ex_t e h) (ex_dps e a)
theorem ex_dps {H H' : Hp} (e : Ex H H') : ∀ {vs : List V} {ds : List PyData}, DpAll K H vs ds → DpAll K H' vs ds
  | _, _, .nil => .nil
  | _, _, .cons h t => .cons (ex_dp e h) (ex_dps e t)
end
def EvD (K : PySem.W.Frag) (te : TE) (σ : L2.St) (H : Hp) (d : PyData) : Prop := ∀ H1, Ex H H1 → ∀ Q : VK, (∀ v H2, Ex H1 H2 → Dp K H2 v d → Q v H2) → te σ H1 Q
/-- a new list, a new tuple of data -/
def EvLD (K : PySem.W.Frag) (te : TE) (σ : L2.St) (H : Hp) (ds : List PyData) : Prop := ∀ H1, Ex H H1 → ∀ Q : VK, (∀ p H2 ys, H1 p = none → Ex H1 H2 → H2 p = some (.lst ys) → DpAll K H2 ys ds → Q (.ref p) H2) → te σ H1 Q
def EvUD (K : PySem.W.Frag) (te : TE) (σ : L2.St) (H : Hp) (ds : List PyData) : Prop := ∀ H1, Ex H H1 → ∀ Q : VK, (∀ p H2 ys, H1 p = none → Ex H1 H2 → H2 p = some (.tup ys) → DpAll K H2 ys ds → Q (.ref p) H2) → te σ H1 Q
def EvAD (K : PySem.W.Frag) (ta : TA) (σ : L2.St) (H : Hp) (ds : List PyData) : Prop := ∀ H1, Ex H H1 → ∀ Q : List V → Hp → Prop, (∀ vs H2, Ex H1 H2 → DpAll K H2 vs ds → Q vs H2) → ta σ H1 Q
variable {σ : L2.St} {H H' : Hp} {ta tb te : TE} {tr : TA} {x y z v : V} {d e : PyData} {ds es : List PyData}
theorem ed_val (h : Ev te σ H v) (hd : Dp K H v d) : EvD K te σ H d := fun H1 e Q q => h H1 e _ fun H2 e2 => q v H2 e2 (ex_dp (e.trans e2) hd)
theorem ed_tupU (h : EvUD K te σ H ds) : EvD K te σ H (.tuple ds) := fun H1 e Q q => h H1 e _ fun p H2 ys _ e2 h2 hd => q _ H2 e2 (.tup (st_of h2) hd)
theorem ed_lst (h : EvLD K te σ H ds) : EvD K te σ H (.list ds) := fun H1 e Q q => h H1 e _ fun p H2 ys _ e2 h2 hd => q _ H2 e2 (.lst (sq_of h2) hd)
theorem ad_nil : EvAD K tNil σ H [] := fun H1 _ _ q => q [] H1 (Ex.refl H1) .nil
theorem ad_cons (h : EvD K te σ H d) (hr : EvAD K tr σ H ds) : EvAD K (tCons te tr) σ H (d :: ds) := fun H1 e Q q =>
  h H1 e _ fun v H2 e2 hd => hr H2 (e.trans e2) _ fun vs H3 e3 hds => q (v :: vs) H3 (e2.trans e3) (.cons (ex_dp e3 hd) hds)
theorem dps_len : ∀ {vs : List V} {ds : List PyData} {H : Hp}, DpAll K H vs ds → vs.length = ds.length
  | _, _, _, .nil => rfl
  | _, _, _, .cons _ t => congrArg (· + 1) (dps_len t)
theorem ud_tup (h : EvAD K tr σ H ds) (hl : ds.length ≤ 100000) : EvUD K (tTup tr) σ H ds := fun H1 e Q q =>
  h H1 e _ fun vs H2 e2 hd => ⟨sz_of (by rw [dps_len hd]; exact hl), fun p hp => q p _ vs (fresh_back e2 hp) (e2.trans (Ex.new hp)) upd_same (ex_dps (Ex.new hp) hd)⟩
theorem ld_lst (h : EvAD K tr σ H ds) (hl : ds.length ≤ 100000) : EvLD K (tLst tr) σ H ds := fun H1 e Q q =>
  h H1 e _ fun vs H2 e2 hd => ⟨sz_of (by rw [dps_len hd]; exact hl), fun p hp => q p _ vs (fresh_back e2 hp) (e2.trans (Ex.new hp)) upd_same (ex_dps (Ex.new hp) hd)⟩
def SpD (K : PySem.W.Frag) (sp : Sp) (vs : List V) (H : Hp) (d : PyData) : Prop := ∀ H1, Ex H H1 → ∀ Q : VK, (∀ v H2, Ex H1 H2 → Dp K H2 v d → Q v H2) → ∀ E : XK, sp vs H1 Q E
def SpUD (K : PySem.W.Frag) (sp : Sp) (vs : List V) (H : Hp) (ds : List PyData) : Prop := ∀ H1, Ex H H1 → ∀ Q : VK, (∀ p H2 ys, H1 p = none → Ex H1 H2 → H2 p = some (.tup ys) → DpAll K H2 ys ds → Q (.ref p) H2) → ∀ E : XK, sp vs H1 Q E
theorem ud_call {sp : Sp} {dvs vs : List V} {E : XK} {ta : TA} (h : EvA ta σ H vs) (hs : SpUD K sp (vs ++ dvs) H ds) : EvUD K (tCall sp dvs E ta) σ H ds := fun H1 e Q q =>
  h H1 e _ fun H2 e2 => hs H2 (e.trans e2) Q (fun p H3 ys hp e3 h3 hd => q p H3 ys (fresh_back e2 hp) (e2.trans e3) h3 hd) E
/-- == , != , < of data -/
theorem ev_eqD (ha : EvD K ta σ H d) (hb : EvD K tb σ H e) (s1 : SeqAt.shaped d = true) (s2 : SeqAt.shaped e = true) : Ev (tOp (rEqD K) ta tb) σ H (.bl (PyData.eqv d e)) := fun H1 ex Q q =>
  ha H1 ex _ fun x H2 e2 h2 => hb H2 (ex.trans e2) _ fun y H3 e3 h3 => ⟨d, e, ex_dp e3 h2, h3, s1, s2, q H3 (e2.trans e3)⟩
theorem ev_neD (ha : EvD K ta σ H d) (hb : EvD K tb σ H e) (s1 : SeqAt.shaped d = true) (s2 : SeqAt.shaped e = true) : Ev (tOp (rNeD K) ta tb) σ H (.bl (!PyData.eqv d e)) := fun H1 ex Q q =>
  ha H1 ex _ fun x H2 e2 h2 => hb H2 (ex.trans e2) _ fun y H3 e3 h3 => ⟨d, e, ex_dp e3 h2, h3, s1, s2, q H3 (e2.trans e3)⟩
theorem ev_ltD (ha : EvD K ta σ H d) (hb : EvD K tb σ H e) (s1 : SeqAt.shaped d = true) (s2 : SeqAt.shaped e = true) (o : ordD d e = true) (dp : d.depth ≤ 60) : Ev (tOp (rLtD K) ta tb) σ H (.bl (ltD d e)) := fun H1 ex Q q =>
  ha H1 ex _ fun x H2 e2 h2 => hb H2 (ex.trans e2) _ fun y H3 e3 h3 => ⟨d, e, ex_dp e3 h2, h3, SeqAt.canLay_of_shaped s1, SeqAt.canLay_of_shaped s2, o, dp, q H3 (e2.trans e3)⟩
/-- tuple(a new list) -/
theorem ud_tuple {tl : TE} (h : EvLD K tl σ H ds) : EvUD K (tCB (fun xs H Q => ∃ p ys, xs = [.ref p] ∧ ((SqL K H p ys ∧ ∀ l, H l = none → Q (.ref l) (upd H l (.tup ys))) ∨ (SqT K H p ys ∧ Q (.ref p) H))) (tCons tl tNil)) σ H ds := fun H1 e Q q =>
  h H1 e _ fun p H2 ys _ e2 h2 hd => ⟨p, ys, rfl, .inl ⟨sq_of h2, fun l hl => q l _ ys (fresh_back e2 hl) (e2.trans (Ex.new hl)) upd_same (ex_dps (Ex.new hl) hd)⟩⟩
mutual
/-- no list within -/
def noL : PyData → Bool
  | .list _ => false
  | .tuple xs => noLs xs
  | .dict _ => false
  | .none | .bool _ | .int _ | .str _ => true
def noLs : List PyData → Bool
  | [] => true
  | x :: xs => noL x && noLs xs
end
mutual
theorem dp_upd {H : Hp} {D : Addr} {ys zs : List V} (hD : H D = some (.lst ys)) : ∀ {v : V} {d : PyData}, noL d = true → Dp K H v d → Dp K (upd H D (.lst zs)) v d
  | _, _, _, .non => .non
  | _, _, _, .bl b => .bl b
  | _, _, _, .int i => .int i
  | _, _, _, .str x => .str x
  | _, _, n, .lst h a => by simp [noL] at n
  | _, _, n, .tup h a => by
    refine .tup ?_ (dps_upd hD (by simpa [noL] using n) a)
    rcases h with (h | ⟨o, h⟩) | h
    · exact .inl (.inl (by rw [upd_ne (by intro z; rw [z, hD] at h; cases h)]; exact h))
    · exact .inl (.inr ⟨o, by rw [upd_ne (by intro z; rw [z, hD] at h; cases h)]; exact h⟩)
    · exact .inr h
theorem dps_upd {H : Hp} {D : Addr} {ys zs : List V} (hD : H D = some (.lst ys)) : ∀ {vs : List V} {ds : List PyData}, noLs ds = true → DpAll K H vs ds → DpAll K (upd H D (.lst zs)) vs ds
  | _, _, _, .nil => .nil
  | _, _, n, .cons h t => by
    have n' : (noL _ && noLs _) = true := n
    rw [Bool.and_eq_true] at n'
    exact .cons (dp_upd hD n'.1 h) (dps_upd hD n'.2 t)
end
theorem noLs_map {f : Nat → PyData} (h : ∀ i, noL (f i) = true) : ∀ l : List Nat, noLs (l.map f) = true
  | [] => rfl
  | i :: l => by
    show (noL (f i) && noLs (l.map f)) = true
    rw [h i, noLs_map h l]
    rfl
/-- [f(x) for x in xs] -/
theorem dps_snoc : ∀ {vs : List V} {ds : List PyData} {H : Hp} {v : V} {d : PyData}, DpAll K H vs ds → Dp K H v d → DpAll K H (vs ++ [v]) (ds ++ [d])
  | _, _, _, _, _, .nil, h => .cons h .nil
  | _, _, _, _, _, .cons a t, h => .cons a (dps_snoc t h)
theorem ld_lcL {a : Addr} {xs : List V} {tl : TE} {j : Nat} {vs : List Nat} (f : Nat → PyData) (h : Ev tl σ H (.ref a)) (hx : SqL K H a xs) (hz : xs.length ≤ 40000) (hn : ∀ i, noL (f i) = true) (hw : ∀ x, wipe ((wipe σ vs).set j (some x)) vs = wipe σ vs)
    (he : ∀ (i : Nat) (x : V) H1, Ex H H1 → xs[i]? = some x → EvD K te ((wipe σ vs).set j (some x)) H1 (f i)) :
    EvLD K (tLc (iList K tl) (gName j) tYes te vs) σ H ((List.range xs.length).map f) := fun H0 e0 Q q => h H0 e0 _ fun H1 e1 => ⟨a, rfl, ⟨xs, ex_l (e0.trans e1) hx⟩, fun D hD =>
  lc_list (xs := xs) (fun i H' => H1 D = none ∧ Ex H1 H' ∧ ∃ ys, H' D = some (.lst ys) ∧ DpAll K H' ys ((List.range i).map f)) ⟨hD, Ex.new hD, [], upd_same, .nil⟩ (fun i H' _ p => ex_l ((e0.trans e1).trans p.2.1) hx)
    (fun i x H' hi p => by
      obtain ⟨p1, p2, ys, p3, p4⟩ := p
      refine ⟨hw x, ?_⟩
      show te ((wipe σ vs).set j (some x)) H' fun y H4 => ∃ acc, H4 D = some (.lst acc) ∧ acc.length < sizeLine ∧ _
      refine he i x H' ((e0.trans e1).trans p2) hi H' (Ex.refl H') _ fun y H4 e4 hy => ⟨ys, e4 _ _ p3, sz_lt ?_, p1, Ex.mut (p2.trans e4) p1, ys ++ [y], upd_same, ?_⟩
      · have := dps_len p4
        rw [List.length_map, List.length_range] at this
        have := (List.getElem?_eq_some_iff.mp hi).1
        omega
      · rw [List.range_succ, List.map_append]
        exact dps_snoc (dps_upd (e4 _ _ p3) (noLs_map hn _) (ex_dps e4 p4)) (dp_upd (e4 _ _ p3) (hn i) hy))
    (fun H' p => by
      obtain ⟨p1, p2, ys, p3, p4⟩ := p
      exact q D H' ys (fresh_back e1 p1) (e1.trans p2) p3 p4)⟩
end

/-! ### a call of a local that holds a def -/
def tCallH (P : Program) (w : World) (K : PySem.W.Frag) (mg : Str → Option Value) (base : Heap) (i k : Nat) (t : TA) : TE := fun σ H Q => ∃ f sp, σ[i]? = some (some (.ref f)) ∧ L2.Held P w K mg base k f sp ∧ t σ H fun vs H1 => sp vs H1 Q (fun _ _ _ => False)
theorem pe_callH {X : Cx} {x : Str} {p pos : Pos} {e : Expr} {es : List Expr} {t : TA} {i k : Nat} (hr : Room k X.A) (hN : X.N[i]? = some x) (hv : Vis X.env.scope x) (ha : PA X (e :: es) t)
    (hdb : (x == ("__debug__" : Str)) = false := by decide) (hcd : (x == ("__classdict__" : Str)) = false := by decide)
    (he : starEach (e :: es) X.env = (false, eval e X.env) :: starEach es X.env := by rfl) (hpl : (backTo pos (starEach es X.env)).any (·.1) = false := by rfl) : PE X (.Call (.Name x p) (e :: es) [] pos) (tCallH X.prog X.w X.K X.mg X.base i k t) := by
  refine ⟨fun pins s σ H Q I h => ?_⟩
  obtain ⟨f, sp, hs, hH, ht⟩ := h
  refine (L2.pe_callA (S := fun g => if g = f then some sp else none) (fun g sq z => ?_) hr hN hv ha hdb hcd he hpl).run pins s σ H Q I ⟨f, sp, hs, if_pos rfl, ht⟩
  by_cases e : g = f
  · rw [if_pos e] at z
    cases z
    rw [e]
    exact hH
  · rw [if_neg e] at z
    cases z
theorem held_of {P : Program} {w : World} {K : PySem.W.Frag} {mg : Str → Option Value} {base : Heap} {j k : Nat} {x : Str} {sp : Sp} {f : Addr} (c : C8.Cal P w K mg base j x sp []) (m : mg x = some (.ref f)) (h : j ≤ k) : L2.Held P w K mg base k f sp := by
  obtain ⟨f', fd, ps, ds, F, hm, kp, b, v⟩ := c.ex
  rw [m] at hm
  cases hm
  cases v
  exact ⟨fd, ps, F.mono h, kp, b⟩
/-- a def of two values that gives a value -/
def spBin (pre : V → V → Prop) (op : V → V → V) : Sp := fun vs H Q _ => ∃ x y : V, vs = [x, y] ∧ pre x y ∧ ∀ H', Ex H H' → Q (op x y) H'
theorem ec_held {P : Program} {w : World} {K : PySem.W.Frag} {mg : Str → Option Value} {base : Heap} {i k : Nat} {σ : L2.St} {H : Hp} {ta tb : TE} {f : Addr} {pre : V → V → Prop} {op : V → V → V} {x y : V} (hσ : σ[i]? = some (some (.ref f))) (h : L2.Held P w K mg base k f (spBin pre op)) (hp : pre x y) (ha : Ev ta σ H x) (hb : Ev tb σ H y) :
    Ev (tCallH P w K mg base i k (tCons ta (tCons tb tNil))) σ H (op x y) := fun H1 e Q q => ⟨f, _, hσ, h, ha H1 e _ fun H2 e2 => hb H2 (e.trans e2) _ fun H3 e3 => ⟨x, y, rfl, hp, fun H' e' => q H' ((e2.trans e3).trans e')⟩⟩

/-! ### {n:04d}, {n:02d}: an int that isn't negative, zeros ahead -/
section
open PySem.Builtin
/-- the digits of a small number, zeros ahead of them up to W -/
def zdig (W : Nat) (n : Nat) : List Nat := List.replicate (W - (Nat.toDigits 10 n).length) 48 ++ (Nat.toDigits 10 n).map Char.toNat
def fsp (W : Nat) : Builtin.Float.FormatSpec := { fill := 48, align := 61, width := some W, type := some 100 }
theorem dig_ne (n : Nat) : ((Nat.toDigits 10 n).map Char.toNat).isEmpty = false := by
  have h := tDigits_len_ge 10 n
  cases e : Nat.toDigits 10 n with
  | nil => rw [e] at h; simp at h
  | cons _ _ => rfl
theorem log2_small {n : Nat} (h : n ≤ 1000000) : n.log2 < 1920 := by
  by_cases h0 : n = 0
  · rw [h0]; decide
  · have := (Nat.log2_lt (k := 20) h0).mpr (by omega)
    omega
theorem gives_zd {n W : Nat} {t u : Tok} {sp : Str} (hn : n ≤ 1000000) (hW : W ≤ 1000) (hp : ∀ name : String, Builtin.Float.parseFormatSpec sp.cps.toList name 62 = .ok (fsp W)) (h0 : (sp.length == 0) = false)
    (ha : ((sp.cps.toList.drop 1).any (· ≥ 128) || (sp.cps.getD 0 0 ≥ 128 && !([60, 62, 61, 94] : List Nat).contains (sp.cps.getD 1 0))) = false) :
    Gives (Builtin.«int.__format__» { pos := [Value.int (n : Int) t, Value.str sp u] }) (Made.str ⟨(zdig W n).toArray⟩) := by
  intro prog w A R s hR
  unfold Builtin.«int.__format__»
  simp only [selfAndOne, noKeywords, Builtin.Int.intOfSelf, asInt?, asStr?, List.isEmpty_nil, if_true, pure_bind, bind_pure, bind_assoc, h0, ha, Bool.false_eq_true, if_false,
    show (Value.str sp u == Value.none) = false from rfl]
  refine wpAny_bind (wpAny_typeNameOf (T := "str") (typeIs_str _ _ _) (by decide) fun _ => ?_)
  refine wpAny_bind (wpAny_typeNameOfCut_int ?_)
  simp only [hp]
  rw [if_pos (by rfl)]
  have hw1 : ¬ ((fsp W).width.getD 0 > 100000) := by show ¬ W > 100000; omega
  have key : ∀ S : Str, S = ⟨(zdig W n).toArray⟩ → wpAny (model prog w) A.in1 (retStr S) (fun fin s' =>
      match fin with
      | Fin.done f => R (Except.ok f) s'
      | Fin.again c' => c'.quiet = true ∧ codeAny (model prog w) A c' R s') (fun e s' => R (Except.error e) s') s := by
    intro S e
    subst e
    have hl : (Nat.toDigits 10 n).length ≤ 2000 := by
      have := digits10_le (n := n) (k := 7) (by decide) (by omega)
      omega
    unfold retStr
    refine wpAny_bind (wpAny_mkStr (wpAny_pure ?_) (by
      show (zdig W n).toArray.size ≤ sizeLine
      unfold zdig
      rw [List.size_toArray, List.length_append, List.length_replicate, List.length_map]
      exact Nat.le_trans (show _ ≤ 5000 by omega) (by decide)))
    exact hR.2
  show wpAny _ _ (do let r ← Builtin.overDigitLimit? (n : Int); _) _ _ _
  refine wpAny_bind ?_
  unfold Builtin.overDigitLimit?
  rw [if_pos (by rw [Int.natAbs_natCast]; exact log2_small hn)]
  refine wpAny_pure ?_
  show wpAny _ _ (if _ then _ else _) _ _ _
  rw [if_neg hw1]
  refine key _ ?_
  conv => lhs; whnf
  have e1 : decide ((n : Int) < 0) = false := decide_eq_false (by omega)
  have e2 : (List.map (fun c => (if ((fsp W).type.getD (if (sp.cps.back? == some 0) = true then 0 else 100) == 88) = true then c.toUpper else c).toNat) (Nat.toDigits 10 (n : Int).natAbs)) = (Nat.toDigits 10 n).map Char.toNat := by
    rw [Int.natAbs_natCast]
    apply List.map_congr_left
    intro c _
    rfl
  rw [e1, e2]
  have e3 := dig_ne n
  generalize hd : (Nat.toDigits 10 n).map Char.toNat = ds at *
  have e4 : zdig W n = List.replicate (W - ds.length) 48 ++ ds := by
    unfold zdig
    rw [hd, ← hd, List.length_map]
  rw [e4]
  simp only [fsp, e3, Bool.false_eq_true, if_false, if_true, List.length_nil, List.append_nil, List.nil_append, List.replicate_zero, beq_self_eq_true, Bool.and_self]
  have e5 : ((W : Int) - (((0 : Nat) : Int) + ((0 : Nat) : Int) + ((0 : Nat) : Int))).toNat = W := by omega
  have e6 : ((W : Int) - (((0 : Nat) : Int) + ((0 : Nat) : Int) + ((0 : Nat) : Int)) - (((List.replicate (W - ds.length) 48 ++ ds).length : Nat) : Int)).toNat = 0 := by
    rw [List.length_append, List.length_replicate]
    omega
  rw [e5, e6, List.replicate_zero, List.nil_append]
theorem zd_len (W n : Nat) (hW : W ≤ 1000) (hn : n ≤ 1000000) : (zdig W n).length ≤ 5000 := by
  have := digits10_le (n := n) (k := 7) (by decide) (by omega)
  unfold zdig
  rw [List.length_append, List.length_replicate, List.length_map]
  omega
theorem fmt_zd {prog : Program} {w : World} {A : Around} {E : Value → Shared → Prop} {s : Shared} {n W : Nat} {t : Tok} {sp : Str} {Q : Value → Shared → Prop} (hn : n ≤ 1000000) (hW : W ≤ 1000)
    (hp : ∀ name : String, Builtin.Float.parseFormatSpec sp.cps.toList name 62 = .ok (fsp W)) (h0 : (sp.length == 0) = false)
    (ha : ((sp.cps.toList.drop 1).any (· ≥ 128) || (sp.cps.getD 0 0 ≥ 128 && !([60, 62, 61, 94] : List Nat).contains (sp.cps.getD 1 0))) = false) (hl : sp.length ≤ sizeLine)
    (q : Q (.str ⟨(zdig W n).toArray⟩ (s.toks + 1)) { s with toks := s.toks + 1 + 1 }) : wpAny (model prog w) A (formatField (.int (n : Int) t) sp) Q E s :=
  wpAny_formatField_spec h0 (fun s' => typeIs_int _ _ t) slot_int_format entry_int_format args_int_format (fun u => gives_zd hn hW hp h0 ha) q hl (by
    show (zdig W n).toArray.size ≤ sizeLine
    rw [List.size_toArray]
    exact Nat.le_trans (zd_len W n hW hn) (by decide))
theorem parse_04 (name : String) : Builtin.Float.parseFormatSpec (Str.ofString "04d").cps.toList name 62 = .ok (fsp 4) := by rfl
theorem parse_02 (name : String) : Builtin.Float.parseFormatSpec (Str.ofString "02d").cps.toList name 62 = .ok (fsp 2) := by rfl
end
def tFmtZ (te ts : TE) : TE := fun σ H Q => te σ H fun x H1 => ∃ n : Nat, x = .int (n : Int) ∧ n ≤ 1000000 ∧ ts σ H1 fun y H2 => (y = .str (Str.ofString "04d") ∧ Q (.str (SX.S (zdig 4 n))) H2) ∨ (y = .str (Str.ofString "02d") ∧ Q (.str (SX.S (zdig 2 n))) H2)
theorem pe_fmtZ {X : Cx} {e es : Expr} {te ts : TE} {pos : Pos} (he : PE X e te) (hs : PE X es ts) : PE X (.FormattedValue e (-1) (some es) pos) (tFmtZ te ts) := by
  refine ⟨fun pins s σ H Q I h => ?_⟩
  refine wpAny_FormattedValue_spec (thn (he.run pins s σ H _ I h) fun v s1 hv => ?_)
  obtain ⟨x, H1, I1, r1, n, rfl, hn, q⟩ := hv
  obtain ⟨t, rfl⟩ := r1
  refine thn (hs.run pins s1 σ H1 _ I1 q) fun r s2 hr => ?_
  obtain ⟨y, H2, I2, r2, q⟩ := hr
  rcases q with ⟨rfl, q⟩ | ⟨rfl, q⟩
  · obtain ⟨t2, rfl⟩ := r2
    exact ⟨_, _, rfl, fmt_zd hn (by decide) parse_04 (by rfl) (by rfl) (by decide +kernel) ⟨.str _, H2, I2.tok _, ⟨_, rfl⟩, q⟩⟩
  · obtain ⟨t2, rfl⟩ := r2
    exact ⟨_, _, rfl, fmt_zd hn (by decide) parse_02 (by rfl) (by rfl) (by decide +kernel) ⟨.str _, H2, I2.tok _, ⟨_, rfl⟩, q⟩⟩

def unaryS : List Str := ["not", "negate", "abs", "sign", "is null", "lower", "upper", "length", "trim", "year", "month", "day", "weekday", "month start", "year start", "week start", "as date", "as decimal", "to decimal", "to int", "int to text", "decimal to text", "date to text", "text to int", "text to decimal", "text to date"]
def limV (n : Int) : V := if -1000000000000000 ≤ n ∧ n ≤ 1000000000000000 then .int n else .non
/-! ### the calendar -/
def leap (y : Int) : Bool := decide (y % 4 = 0) && (decide (y % 100 ≠ 0) || decide (y % 400 = 0))
def monthsL : List Int := [31, 28, 31, 30, 31, 30, 31, 31, 30, 31, 30, 31]
def mlen (y m : Int) : Int := if m = 2 ∧ leap y = true then 29 else monthsL.getD (m - 1).toNat 0
def cumN (y : Int) : Nat → Int
  | 0 => 0
  | k + 1 => cumN y k + mlen y ((k : Int) + 1)
def yst (y : Int) : Int := 365 * (y - 1) + (y - 1) / 4 - (y - 1) / 100 + (y - 1) / 400
def dayN (y m d : Int) : Int := -719162 + (yst y + cumN y (m - 1).toNat) + d - 1
def isD (y m d : Int) : Prop := (1 ≤ y ∧ y ≤ 9999) ∧ (1 ≤ m ∧ m ≤ 12) ∧ (1 ≤ d ∧ d ≤ mlen y m)
instance (y m d : Int) : Decidable (isD y m d) := by unfold isD; infer_instance
theorem month_cases {m : Int} (h : 1 ≤ m ∧ m ≤ 12) : m = 1 ∨ m = 2 ∨ m = 3 ∨ m = 4 ∨ m = 5 ∨ m = 6 ∨ m = 7 ∨ m = 8 ∨ m = 9 ∨ m = 10 ∨ m = 11 ∨ m = 12 := by omega
theorem mlen_in {y m : Int} (h : 1 ≤ m ∧ m ≤ 12) : 28 ≤ mlen y m ∧ mlen y m ≤ 31 := by
  unfold mlen
  split
  · omega
  · rcases month_cases h with rfl | rfl | rfl | rfl | rfl | rfl | rfl | rfl | rfl | rfl | rfl | rfl <;> decide
theorem cum12 (y : Int) : cumN y 12 = 365 + (if leap y = true then 1 else 0) := by
  simp only [cumN, mlen, monthsL]
  by_cases h : leap y = true
  · simp [h]
  · simp [h]
theorem cum_mono (y : Int) {j k : Nat} (h : j ≤ k) (hk : k ≤ 12) : cumN y j ≤ cumN y k := by
  induction k with
  | zero => rw [Nat.le_zero.mp h]; exact Int.le_refl _
  | succ k ih =>
    by_cases e : j = k + 1
    · rw [e]; exact Int.le_refl _
    · have h1 := ih (by omega) (by omega)
      have h2 := mlen_in (y := y) (m := (k : Int) + 1) (by omega)
      show cumN y j ≤ cumN y k + mlen y ((k : Int) + 1)
      omega
theorem cum_nn (y : Int) {k : Nat} (hk : k ≤ 12) : 0 ≤ cumN y k := cum_mono y (j := 0) (by omega) hk
theorem leap_iff (y : Int) : leap y = true ↔ y % 4 = 0 ∧ (y % 100 ≠ 0 ∨ y % 400 = 0) := by
  unfold leap
  rw [Bool.and_eq_true, Bool.or_eq_true, decide_eq_true_eq, decide_eq_true_eq, decide_eq_true_eq]
theorem yst_succ (y : Int) : yst (y + 1) = yst y + cumN y 12 := by
  rw [cum12]
  unfold yst
  by_cases h : leap y = true
  · rw [if_pos h]
    have := (leap_iff y).mp h
    omega
  · rw [if_neg h]
    have : ¬ (y % 4 = 0 ∧ (y % 100 ≠ 0 ∨ y % 400 = 0)) := fun z => h ((leap_iff y).mpr z)
    omega
theorem yst_mono {y z : Int} (h : y ≤ z) : yst y ≤ yst z := by
  unfold yst
  omega
/-- a date within its year -/
theorem in_year {y m d : Int} (h : isD y m d) : 0 ≤ cumN y (m - 1).toNat + d - 1 ∧ cumN y (m - 1).toNat + d - 1 < cumN y 12 ∧ cumN y (m - 1).toNat + d ≤ cumN y m.toNat := by
  obtain ⟨_, hm, hd⟩ := h
  have e : m.toNat = (m - 1).toNat + 1 := by omega
  have h1 := cum_nn y (k := (m - 1).toNat) (by omega)
  have h2 : cumN y m.toNat = cumN y (m - 1).toNat + mlen y m := by
    rw [e]
    show cumN y (m - 1).toNat + mlen y (((m - 1).toNat : Int) + 1) = _
    rw [show (((m - 1).toNat : Int) + 1) = m by omega]
  have h3 := cum_mono y (j := m.toNat) (k := 12) (by omega) (by omega)
  omega
theorem day_inj {y m d y' m' d' : Int} (h : isD y m d) (h' : isD y' m' d') (e : dayN y m d = dayN y' m' d') : y = y' ∧ m = m' ∧ d = d' := by
  obtain ⟨a1, a2, a3⟩ := in_year h
  obtain ⟨b1, b2, b3⟩ := in_year h'
  unfold dayN at e
  have ey : y = y' := by
    by_cases l : y < y'
    · have := yst_mono (show y + 1 ≤ y' by omega)
      rw [yst_succ] at this
      omega
    · by_cases g : y' < y
      · have := yst_mono (show y' + 1 ≤ y by omega)
        rw [yst_succ] at this
        omega
      · omega
  subst ey
  have em : m = m' := by
    by_cases l : m < m'
    · have := cum_mono y (j := m.toNat) (k := (m' - 1).toNat) (by have := h'.2.1; omega) (by have := h'.2.1; omega)
      have := h'.2.2.1
      omega
    · by_cases g : m' < m
      · have := cum_mono y (j := m'.toNat) (k := (m - 1).toNat) (by have := h.2.1; omega) (by have := h.2.1; omega)
        have := h.2.2.1
        omega
      · omega
  subst em
  exact ⟨rfl, rfl, by omega⟩
theorem day_in {y m d : Int} (h : isD y m d) : -719162 ≤ dayN y m d ∧ dayN y m d ≤ 2932896 := by
  obtain ⟨a1, a2, a3⟩ := in_year h
  have h1 := yst_mono h.1.1
  have h2 := yst_mono (show y + 1 ≤ 10000 by have := h.1.2; omega)
  rw [yst_succ] at h2
  have e1 : yst 1 = 0 := by decide
  have e2 : yst 10000 = 3652059 := by decide
  unfold dayN
  omega
/-- the parts of a day's number: cycles, centuries, fours, years, the rest -/
theorem parts {D c h f g r : Int} (hD : D = 146097 * c + 36524 * h + 1461 * f + 365 * g + r) (hc : 0 ≤ c ∧ c ≤ 24) (hh : 0 ≤ h ∧ h ≤ 3) (hf : 0 ≤ f ∧ f ≤ 24) (hg : 0 ≤ g ∧ g ≤ 3) (hr : 0 ≤ r ∧ r ≤ 365)
    (hl : r = 365 → g = 3 ∧ (f = 24 → h = 3)) : D = yst (400 * c + 100 * h + 4 * f + g + 1) + r ∧ r < cumN (400 * c + 100 * h + 4 * f + g + 1) 12 ∧ 1 ≤ 400 * c + 100 * h + 4 * f + g + 1 ∧ 400 * c + 100 * h + 4 * f + g + 1 ≤ 10000 := by
  have e4 : (400 * c + 100 * h + 4 * f + g) / 4 = 100 * c + 25 * h + f := by omega
  have e100 : (400 * c + 100 * h + 4 * f + g) / 100 = 4 * c + h := by omega
  have e400 : (400 * c + 100 * h + 4 * f + g) / 400 = c := by omega
  refine ⟨?_, ?_, by omega, by omega⟩
  · unfold yst
    rw [show 400 * c + 100 * h + 4 * f + g + 1 - 1 = 400 * c + 100 * h + 4 * f + g by omega, e4, e100, e400]
    omega
  · rw [cum12]
    by_cases e : r = 365
    · obtain ⟨l1, l2⟩ := hl e
      rw [if_pos ((leap_iff _).mpr ?_)]
      · omega
      · constructor
        · omega
        · by_cases q : f = 24
          · have := l2 q
            right
            omega
          · left
            omega
    · split <;> omega
noncomputable def dt (day : Int) : Int × Int × Int := by
  classical exact if h : ∃ t : Int × Int × Int, isD t.1 t.2.1 t.2.2 ∧ dayN t.1 t.2.1 t.2.2 = day then Classical.choose h else (0, 0, 0)
theorem dt_of {y m d : Int} (h : isD y m d) : dt (dayN y m d) = (y, m, d) := by
  have hx : ∃ t : Int × Int × Int, isD t.1 t.2.1 t.2.2 ∧ dayN t.1 t.2.1 t.2.2 = dayN y m d := ⟨(y, m, d), h, rfl⟩
  unfold dt
  rw [dif_pos hx]
  obtain ⟨h1, h2⟩ := Classical.choose_spec hx
  obtain ⟨e1, e2, e3⟩ := day_inj h1 h h2
  exact Prod.ext e1 (Prod.ext e2 e3)
theorem dt_eq {day y m d : Int} (h : isD y m d) (e : dayN y m d = day) : dt day = (y, m, d) := by
  rw [← e]
  exact dt_of h
/-- the year's day r, found month by month -/
theorem month_of {y r : Int} (h0 : 0 ≤ r) (h1 : r < cumN y 12) : ∃ k : Nat, k ≤ 11 ∧ cumN y k ≤ r ∧ r < cumN y (k + 1) := by
  have key : ∀ j : Nat, j ≤ 12 → r < cumN y j → ∃ k : Nat, k < j ∧ cumN y k ≤ r ∧ r < cumN y (k + 1) := by
    intro j
    induction j with
    | zero => intro _ h; exact absurd h (by show ¬ r < 0; omega)
    | succ j ih =>
      intro hj h
      by_cases q : r < cumN y j
      · obtain ⟨k, a, b, c⟩ := ih (by omega) q
        exact ⟨k, by omega, b, c⟩
      · exact ⟨j, by omega, by omega, h⟩
  obtain ⟨k, a, b, c⟩ := key 12 (by omega) h1
  exact ⟨k, by omega, b, c⟩
theorem day_split {day : Int} (h : -719162 ≤ day ∧ day ≤ 2932896) : ∃ y m d, isD y m d ∧ dayN y m d = day := by
  have key : ∀ D : Int, 0 ≤ D → D < 3652059 → ∃ y r : Int, 1 ≤ y ∧ y ≤ 9999 ∧ D = yst y + r ∧ 0 ≤ r ∧ r < cumN y 12 := by
    intro D h0 h1
    have p := parts (D := D) (c := D / 146097) (h := if D % 146097 / 36524 < 3 then D % 146097 / 36524 else 3)
      (f := (D % 146097 - (if D % 146097 / 36524 < 3 then D % 146097 / 36524 else 3) * 36524) / 1461)
      (g := if (D % 146097 - (if D % 146097 / 36524 < 3 then D % 146097 / 36524 else 3) * 36524) % 1461 / 365 < 3 then (D % 146097 - (if D % 146097 / 36524 < 3 then D % 146097 / 36524 else 3) * 36524) % 1461 / 365 else 3)
      (r := (D % 146097 - (if D % 146097 / 36524 < 3 then D % 146097 / 36524 else 3) * 36524) % 1461 - 365 * (if (D % 146097 - (if D % 146097 / 36524 < 3 then D % 146097 / 36524 else 3) * 36524) % 1461 / 365 < 3 then (D % 146097 - (if D % 146097 / 36524 < 3 then D % 146097 / 36524 else 3) * 36524) % 1461 / 365 else 3))
      (by split <;> split <;> omega) (by omega) (by split <;> omega) (by split <;> omega) (by split <;> split <;> omega) (by split <;> split <;> omega) (by split <;> split <;> omega)
    obtain ⟨p1, p2, p3, p4⟩ := p
    refine ⟨_, _, p3, ?_, p1, ?_, p2⟩
    · refine Int.not_lt.mp fun z => ?_
      have := yst_mono (show 10000 ≤ _ from z)
      rw [show yst 10000 = 3652059 by decide] at this
      have hr : 0 ≤ (D % 146097 - (if D % 146097 / 36524 < 3 then D % 146097 / 36524 else 3) * 36524) % 1461 - 365 * (if (D % 146097 - (if D % 146097 / 36524 < 3 then D % 146097 / 36524 else 3) * 36524) % 1461 / 365 < 3 then (D % 146097 - (if D % 146097 / 36524 < 3 then D % 146097 / 36524 else 3) * 36524) % 1461 / 365 else 3) := by split <;> split <;> omega
      omega
    · split <;> split <;> omega
  obtain ⟨y, r, h1, h2, h3, h4, h5⟩ := key (day + 719162) (by omega) (by omega)
  obtain ⟨k, k1, k2, k3⟩ := month_of h4 h5
  have k3' : r < cumN y k + mlen y ((k : Int) + 1) := k3
  refine ⟨y, (k : Int) + 1, r - cumN y k + 1, ⟨⟨h1, h2⟩, ⟨by omega, by omega⟩, by omega, by omega⟩, ?_⟩
  unfold dayN
  rw [show ((k : Int) + 1 - 1).toNat = k by omega]
  omega
theorem dt_ok {day : Int} (h : -719162 ≤ day ∧ day ≤ 2932896) : isD (dt day).1 (dt day).2.1 (dt day).2.2 ∧ dayN (dt day).1 (dt day).2.1 (dt day).2.2 = day := by
  obtain ⟨y, m, d, h1, h2⟩ := day_split h
  rw [dt_eq h1 h2]
  exact ⟨h1, h2⟩

def topS (i : Nat) : Stmt := PySem.Challenge.pw_stylobate_k09_operations_on_one_value.main.body.getD i (.Pass ⟨0, 0, 0, 0⟩)
abbrev s_is_integer : Stmt := topS 1
abbrev n_is_integer : List Str := ["value"]
theorem sc_is_integer : FnScope n_is_integer ["value"] (C8.fnScope s_is_integer) := C8.fnScope_by (by decide +kernel)
abbrev s_is_digits : Stmt := topS 3
abbrev n_is_digits : List Str := ["text"]
theorem sc_is_digits : FnScope n_is_digits ["text"] (C8.fnScope s_is_digits) := C8.fnScope_by (by decide +kernel)
abbrev s_lowered : Stmt := topS 4
abbrev n_lowered : List Str := ["text"]
theorem sc_lowered : FnScope n_lowered ["text"] (C8.fnScope s_lowered) := C8.fnScope_by (by decide +kernel)
abbrev s_raised : Stmt := topS 5
abbrev n_raised : List Str := ["text"]
theorem sc_raised : FnScope n_raised ["text"] (C8.fnScope s_raised) := C8.fnScope_by (by decide +kernel)
abbrev s_is_day : Stmt := topS 15
abbrev n_is_day : List Str := ["value"]
theorem sc_is_day : FnScope n_is_day ["value"] (C8.fnScope s_is_day) := C8.fnScope_by (by decide +kernel)
abbrev s__is_leap : Stmt := topS 16
abbrev n__is_leap : List Str := ["year"]
theorem sc__is_leap : FnScope n__is_leap ["year"] (C8.fnScope s__is_leap) := C8.fnScope_by (by decide +kernel)
abbrev s_month_length : Stmt := topS 17
abbrev n_month_length : List Str := ["year", "month"]
theorem sc_month_length : FnScope n_month_length ["year", "month"] (C8.fnScope s_month_length) := C8.fnScope_by (by decide +kernel)
abbrev s_day_of : Stmt := topS 18
abbrev n_day_of : List Str := ["year", "month", "date", "gone", "days", "earlier"]
theorem sc_day_of : FnScope n_day_of ["year", "month", "date"] (C8.fnScope s_day_of) := C8.fnScope_by (by decide +kernel)
abbrev s_date_of : Stmt := topS 19
abbrev n_date_of : List Str := ["day", "cycles", "rest", "centuries", "fours", "years", "year", "month"]
theorem sc_date_of : FnScope n_date_of ["day"] (C8.fnScope s_date_of) := C8.fnScope_by (by decide +kernel)
abbrev s_date_text : Stmt := topS 20
abbrev n_date_text : List Str := ["day", "year", "month", "date"]
theorem sc_date_text : FnScope n_date_text ["day"] (C8.fnScope s_date_text) := C8.fnScope_by (by decide +kernel)
abbrev s_read_date : Stmt := topS 21
abbrev n_read_date : List Str := ["text", "year", "month", "date"]
theorem sc_read_date : FnScope n_read_date ["text"] (C8.fnScope s_read_date) := C8.fnScope_by (by decide +kernel)
abbrev s_limited : Stmt := topS 26
abbrev n_limited : List Str := ["number"]
theorem sc_limited : FnScope n_limited ["number"] (C8.fnScope s_limited) := C8.fnScope_by (by decide +kernel)
abbrev s_rounded : Stmt := topS 27
abbrev n_rounded : List Str := ["number", "divisor", "size"]
theorem sc_rounded : FnScope n_rounded ["number", "divisor"] (C8.fnScope s_rounded) := C8.fnScope_by (by decide +kernel)
abbrev s_decimal_text : Stmt := topS 28
abbrev n_decimal_text : List Str := ["number", "whole", "rest", "sign", "digits"]
theorem sc_decimal_text : FnScope n_decimal_text ["number"] (C8.fnScope s_decimal_text) := C8.fnScope_by (by decide +kernel)
abbrev s_read_digits : Stmt := topS 29
abbrev n_read_digits : List Str := ["digits", "needed"]
theorem sc_read_digits : FnScope n_read_digits ["digits"] (C8.fnScope s_read_digits) := C8.fnScope_by (by decide +kernel)
abbrev s__signed : Stmt := topS 30
abbrev n__signed : List Str := ["sign", "digits", "size"]
theorem sc__signed : FnScope n__signed ["sign", "digits"] (C8.fnScope s__signed) := C8.fnScope_by (by decide +kernel)
abbrev s_read_integer : Stmt := topS 31
abbrev n_read_integer : List Str := ["text", "sign", "digits"]
theorem sc_read_integer : FnScope n_read_integer ["text"] (C8.fnScope s_read_integer) := C8.fnScope_by (by decide +kernel)
abbrev s_read_decimal : Stmt := topS 32
abbrev n_read_decimal : List Str := ["text", "sign", "size", "whole", "dot", "part"]
theorem sc_read_decimal : FnScope n_read_decimal ["text"] (C8.fnScope s_read_decimal) := C8.fnScope_by (by decide +kernel)
abbrev s_negated : Stmt := topS 34
abbrev n_negated : List Str := ["value"]
theorem sc_negated : FnScope n_negated ["value"] (C8.fnScope s_negated) := C8.fnScope_by (by decide +kernel)
abbrev s__negate : Stmt := topS 36
abbrev n__negate : List Str := ["number"]
theorem sc__negate : FnScope n__negate ["number"] (C8.fnScope s__negate) := C8.fnScope_by (by decide +kernel)
abbrev s__size : Stmt := topS 37
abbrev n__size : List Str := ["number"]
theorem sc__size : FnScope n__size ["number"] (C8.fnScope s__size) := C8.fnScope_by (by decide +kernel)
abbrev s__sign : Stmt := topS 38
abbrev n__sign : List Str := ["number"]
theorem sc__sign : FnScope n__sign ["number"] (C8.fnScope s__sign) := C8.fnScope_by (by decide +kernel)
abbrev s__value : Stmt := topS 39
abbrev n__value : List Str := ["value"]
theorem sc__value : FnScope n__value ["value"] (C8.fnScope s__value) := C8.fnScope_by (by decide +kernel)
abbrev s__to_decimal : Stmt := topS 40
abbrev n__to_decimal : List Str := ["number"]
theorem sc__to_decimal : FnScope n__to_decimal ["number"] (C8.fnScope s__to_decimal) := C8.fnScope_by (by decide +kernel)
abbrev s__to_integer : Stmt := topS 41
abbrev n__to_integer : List Str := ["number"]
theorem sc__to_integer : FnScope n__to_integer ["number"] (C8.fnScope s__to_integer) := C8.fnScope_by (by decide +kernel)
abbrev s__integer_text : Stmt := topS 42
abbrev n__integer_text : List Str := ["number"]
theorem sc__integer_text : FnScope n__integer_text ["number"] (C8.fnScope s__integer_text) := C8.fnScope_by (by decide +kernel)
abbrev s__decimal_text : Stmt := topS 43
abbrev n__decimal_text : List Str := ["number"]
theorem sc__decimal_text : FnScope n__decimal_text ["number"] (C8.fnScope s__decimal_text) := C8.fnScope_by (by decide +kernel)
abbrev s__lower : Stmt := topS 44
abbrev n__lower : List Str := ["text"]
theorem sc__lower : FnScope n__lower ["text"] (C8.fnScope s__lower) := C8.fnScope_by (by decide +kernel)
abbrev s__upper : Stmt := topS 45
abbrev n__upper : List Str := ["text"]
theorem sc__upper : FnScope n__upper ["text"] (C8.fnScope s__upper) := C8.fnScope_by (by decide +kernel)
abbrev s__length : Stmt := topS 46
abbrev n__length : List Str := ["text"]
theorem sc__length : FnScope n__length ["text"] (C8.fnScope s__length) := C8.fnScope_by (by decide +kernel)
abbrev s__trim : Stmt := topS 47
abbrev n__trim : List Str := ["text"]
theorem sc__trim : FnScope n__trim ["text"] (C8.fnScope s__trim) := C8.fnScope_by (by decide +kernel)
abbrev s__read_integer : Stmt := topS 48
abbrev n__read_integer : List Str := ["text"]
theorem sc__read_integer : FnScope n__read_integer ["text"] (C8.fnScope s__read_integer) := C8.fnScope_by (by decide +kernel)
abbrev s__read_decimal : Stmt := topS 49
abbrev n__read_decimal : List Str := ["text"]
theorem sc__read_decimal : FnScope n__read_decimal ["text"] (C8.fnScope s__read_decimal) := C8.fnScope_by (by decide +kernel)
abbrev s__read_date : Stmt := topS 50
abbrev n__read_date : List Str := ["text"]
theorem sc__read_date : FnScope n__read_date ["text"] (C8.fnScope s__read_date) := C8.fnScope_by (by decide +kernel)
abbrev s__year : Stmt := topS 51
abbrev n__year : List Str := ["day"]
theorem sc__year : FnScope n__year ["day"] (C8.fnScope s__year) := C8.fnScope_by (by decide +kernel)
abbrev s__month : Stmt := topS 52
abbrev n__month : List Str := ["day"]
theorem sc__month : FnScope n__month ["day"] (C8.fnScope s__month) := C8.fnScope_by (by decide +kernel)
abbrev s__date : Stmt := topS 53
abbrev n__date : List Str := ["day"]
theorem sc__date : FnScope n__date ["day"] (C8.fnScope s__date) := C8.fnScope_by (by decide +kernel)
abbrev s__weekday : Stmt := topS 54
abbrev n__weekday : List Str := ["day"]
theorem sc__weekday : FnScope n__weekday ["day"] (C8.fnScope s__weekday) := C8.fnScope_by (by decide +kernel)
abbrev s__month_start : Stmt := topS 55
abbrev n__month_start : List Str := ["day", "year", "month", "_"]
theorem sc__month_start : FnScope n__month_start ["day"] (C8.fnScope s__month_start) := C8.fnScope_by (by decide +kernel)
abbrev s__year_start : Stmt := topS 56
abbrev n__year_start : List Str := ["day"]
theorem sc__year_start : FnScope n__year_start ["day"] (C8.fnScope s__year_start) := C8.fnScope_by (by decide +kernel)
abbrev s__week_start : Stmt := topS 57
abbrev n__week_start : List Str := ["day"]
theorem sc__week_start : FnScope n__week_start ["day"] (C8.fnScope s__week_start) := C8.fnScope_by (by decide +kernel)
abbrev s__date_text : Stmt := topS 58
abbrev n__date_text : List Str := ["day"]
theorem sc__date_text : FnScope n__date_text ["day"] (C8.fnScope s__date_text) := C8.fnScope_by (by decide +kernel)
abbrev s_value_of_one : Stmt := topS 62
abbrev n_value_of_one : List Str := ["name", "value", "action"]
theorem sc_value_of_one : FnScope n_value_of_one ["name", "value"] (C8.fnScope s_value_of_one) := C8.fnScope_by (by decide +kernel)
abbrev s_unary : Stmt := topS 65
abbrev n_unary : List Str := ["name", "value"]
theorem sc_unary : FnScope n_unary ["name", "value"] (C8.fnScope s_unary) := C8.fnScope_by (by decide +kernel)
abbrev s__law_numbers : Stmt := topS 67
abbrev n__law_numbers : List Str := ["script", "count", "numbers", "k", "cell"]
theorem sc__law_numbers : FnScope n__law_numbers ["script", "count"] (C8.fnScope s__law_numbers) := C8.fnScope_by (by decide +kernel)
abbrev s__law_is_integer : Stmt := topS 68
abbrev n__law_is_integer : List Str := ["value"]
theorem sc__law_is_integer : FnScope n__law_is_integer ["value"] (C8.fnScope s__law_is_integer) := C8.fnScope_by (by decide +kernel)
abbrev s__law_rank : Stmt := topS 69
abbrev n__law_rank : List Str := ["value"]
theorem sc__law_rank : FnScope n__law_rank ["value"] (C8.fnScope s__law_rank) := C8.fnScope_by (by decide +kernel)
abbrev s__law_text : Stmt := topS 70
abbrev n__law_text : List Str := ["number", "size", "signs", "few", "word", "rest", "k"]
theorem sc__law_text : FnScope n__law_text ["number", "size"] (C8.fnScope s__law_text) := C8.fnScope_by (by decide +kernel)
abbrev s__law_value : Stmt := topS 71
abbrev n__law_value : List Str := ["number", "rest", "choice"]
theorem sc__law_value : FnScope n__law_value ["number"] (C8.fnScope s__law_value) := C8.fnScope_by (by decide +kernel)
abbrev s__law_told : Stmt := topS 72
abbrev n__law_told : List Str := ["told", "due"]
theorem sc__law_told : FnScope n__law_told ["told", "due"] (C8.fnScope s__law_told) := C8.fnScope_by (by decide +kernel)
abbrev s__law_dated : Stmt := topS 73
abbrev n__law_dated : List Str := ["name", "day", "year", "month", "number"]
theorem sc__law_dated : FnScope n__law_dated ["name", "day"] (C8.fnScope s__law_dated) := C8.fnScope_by (by decide +kernel)
abbrev s__law_numbered : Stmt := topS 74
abbrev n__law_numbered : List Str := ["name", "number"]
theorem sc__law_numbered : FnScope n__law_numbered ["name", "number"] (C8.fnScope s__law_numbered) := C8.fnScope_by (by decide +kernel)
abbrev s__law_due : Stmt := topS 75
abbrev n__law_due : List Str := ["name", "value"]
theorem sc__law_due : FnScope n__law_due ["name", "value"] (C8.fnScope s__law_due) := C8.fnScope_by (by decide +kernel)
abbrev s__law_drawn : Stmt := topS 76
abbrev n__law_drawn : List Str := ["numbers", "value", "number", "choice"]
theorem sc__law_drawn : FnScope n__law_drawn ["numbers"] (C8.fnScope s__law_drawn) := C8.fnScope_by (by decide +kernel)
abbrev s_law : Stmt := topS 77
abbrev n_law : List Str := ["script", "numbers", "names", "value", "name", "other"]
theorem sc_law : FnScope n_law ["script"] (C8.fnScope s_law) := C8.fnScope_by (by decide +kernel)
/-! ### the law's numbers -/
def cell0 (ns : List Int) (k : Nat) : Int := if 0 < ns.length then ns.getD (k - k / ns.length * ns.length) 0 else 0
def cell1 (ns : List Int) (k : Nat) : Int := if cell0 ns k < 0 then 1 - 2 * cell0 ns k else cell0 ns k
def cellM (c : Int) (k : Nat) : Int := (((c + 101 * (k : Int) + 13) * 40692 + (k : Int) * (k : Int) * 6271) % 2147483399 + 29 * (k : Int) + 5) * 3935559000370003845 % 18446744073709551533
def cellN (ns : List Int) (k : Nat) : Int := if (ns.length : Int) ≤ (k : Int) ∨ cell1 ns k < 1000000000 then cellM (cell1 ns k) k else cell1 ns k
def lawN (ns : List Int) (c : Nat) : List Int := (List.range c).map (cellN ns)
theorem cell1_nn (ns : List Int) (k : Nat) : 0 ≤ cell1 ns k := by
  unfold cell1
  split <;> omega
theorem cellN_nn (ns : List Int) (k : Nat) : 0 ≤ cellN ns k := by
  unfold cellN
  split
  · unfold cellM
    exact Int.emod_nonneg _ (by decide)
  · exact cell1_nn ns k
theorem lawN_len (ns : List Int) (c : Nat) : (lawN ns c).length = c := by
  unfold lawN
  rw [List.length_map, List.length_range]
theorem lawN_nn {ns : List Int} {c : Nat} : ∀ n ∈ lawN ns c, 0 ≤ n := by
  intro n h
  unfold lawN at h
  obtain ⟨k, _, e⟩ := List.mem_map.mp h
  rw [← e]
  exact cellN_nn ns k
theorem lawN_get {ns : List Int} {c i : Nat} (h : i < c) : (lawN ns c)[i]? = some (cellN ns i) := by
  unfold lawN
  rw [List.getElem?_map, List.getElem?_range h] <;> rfl
/-- the k-th of them, as the law's list of values -/
theorem lawN_at {ns : List Int} {c i : Nat} (h : i < c) : atI ((lawN ns c).map V.int) (i : Int) = some (.int (cellN ns i)) := atI_nat (by
  rw [List.getElem?_map, lawN_get h] <;> rfl)
def sp__law_numbers (K : PySem.W.Frag) : Sp := fun vs H Q _ => ∃ (a : Addr) (ns : List Int) (c : Nat), vs = [.ref a, .int (c : Int)] ∧ SqL K H a (ns.map V.int) ∧ ns.length ≤ 63 ∧ c ≤ 1000 ∧
  ∀ p H', H p = none → Ex H H' → H' p = some (.lst ((lawN ns c).map V.int)) → Q (.ref p) H'
section
variable {P : Program} {w : World} {K : PySem.W.Frag} {mg : Str → Option Value} {base : Heap}
theorem ok__law_numbers (D : Dn K mg "_law_numbers" s__law_numbers ["script", "count"]) (z_int : mg "int" = none) (z_len : mg "len" = none) (z_range : mg "range" = none) :
    C8.Cal P w K mg base 1 "_law_numbers" (sp__law_numbers K) [] := by
  refine cal_of D sc__law_numbers (fun vs H Q E h => ?_) (fun f cdv A outer s H vs Q E hr h => ?_)
  · obtain ⟨_, _, _, rfl, _⟩ := h
    rfl
  refine ⟨_, (pss_cons (ps_set (i := 2) sc__law_numbers.nd rfl (.inl rfl) (pe_lst pa_nil))
    (pss_cons (ps_for PassesOwn.never rfl (pi_range1 rfl z_range (pa_cons (pv 1) pa_nil)) (pg_name (i := 3) sc__law_numbers.nd rfl (.inl rfl))
      (pss_cons (ps_set (i := 4) sc__law_numbers.nd rfl (.inl rfl) pe_int)
    (pss_cons (ps_if (pt_cmpR op_gt (pe_callB call_len_seq (by rfl) z_len PySem.boot_len (pa_cons (pv 0) pa_nil)) pe_int (nomark _))
      (pss_one (ps_set (i := 4) sc__law_numbers.nd rfl (.inl rfl) (pe_callTy call_int1 (by rfl) z_int (by decide +kernel) (pa_cons (pe_ix ix_list (pv 0) (pe_op op_sub (pv 3) (pe_op op_mul (pe_op op_fdiv (pv 3) (pe_callB call_len_seq (by rfl) z_len PySem.boot_len (pa_cons (pv 0) pa_nil))) (pe_callB call_len_seq (by rfl) z_len PySem.boot_len (pa_cons (pv 0) pa_nil)))) (fun _ _ => rfl)) pa_nil))))
      pss_nil)
    (pss_cons (ps_if (pt_cmpR op_lt (pv 4) pe_int (nomark _))
      (pss_one (ps_set (i := 4) sc__law_numbers.nd rfl (.inl rfl) (pe_op op_sub pe_int (pe_op op_mul pe_int (pv 4)))))
      pss_nil)
    (Evl.pss_cut (ps_if (PW.pt (pw_or (pt_cmpR op_ge (pv 3) (pe_callB call_len_seq (by rfl) z_len PySem.boot_len (pa_cons (pv 0) pa_nil)) (nomark _)) (pw_or1 (pt_cmpR op_lt (pv 4) pe_int (nomark _)))))
      (pss_cons (ps_set (i := 4) sc__law_numbers.nd rfl (.inl rfl) (pe_op op_mod (pe_callTy call_int1 (by rfl) z_int (by decide +kernel) (pa_cons (pe_op op_add (pe_op op_mul (pe_op op_add (pe_op op_add (pv 4) (pe_op op_mul pe_int (pv 3))) pe_int) pe_int) (pe_op op_mul (pe_op op_mul (pv 3) (pv 3)) pe_int)) pa_nil)) pe_int))
    (pss_one (ps_set (i := 4) sc__law_numbers.nd rfl (.inl rfl) (pe_op op_mod (pe_callTy call_int1 (by rfl) z_int (by decide +kernel) (pa_cons (pe_op op_mul (pe_op op_add (pe_op op_add (pv 4) (pe_op op_mul pe_int (pv 3))) pe_int) pe_int) pa_nil)) pe_int))))
      pss_nil)
    (pss_one (ps_expr (pe_bm PySem.F.plainAttrs_list PySem.F.slot_list_append PySem.F.type_list_append mt_append (pv 2) (pa_cons (pv 4) pa_nil)))))))))
    (pss_one (ps_ret (pv 2))))), ?_⟩
  obtain ⟨a, ns, c, rfl, hS, h63, hc, q⟩ := h
  have hl : (ns.map V.int).length = ns.length := List.length_map _
  refine q_asgL (el_lst ea_nil (by decide)) fun p H1 hp e1 h1 => ?_
  refine q_forR1 (n := (c : Int)) (ea_cons (ev_var rfl) ea_nil) ⟨by omega, by omega⟩
    (fun i σ H' => ∃ y3 y4, σ = [some (.ref a), some (.int (c : Int)), some (.ref p), y3, y4] ∧ Ex H H' ∧ H' p = some (.lst ((lawN ns i).map V.int)))
    (fun H2 e2 => ⟨none, none, rfl, e1.trans e2, e2 _ _ h1⟩) (fun i σ H2 hi hw => ?_) (fun σ H2 hw => ?_)
  · obtain ⟨y3, y4, rfl, e2, h2⟩ := hw
    have hS2 : SqL K H2 a (ns.map V.int) := ex_l e2 hS
    refine q_asg ev_c fun H3 e3 => ?_
    have hS3 : SqL K H3 a (ns.map V.int) := ex_l e3 hS2
    -- the cell as the script has it
    refine q_ifAsg (v := .int (cell0 ns i)) (b := decide ((0 : Int) < ((ns.map V.int).length : Int))) ?_ (fun hb => ?_) (fun hb => ?_) fun H4 e4 => ?_
    · walk_at "et"
    · have h0 : 0 < ns.length := by
        have := of_decide_eq_true hb
        rw [hl] at this
        omega
      have em : i / ns.length * ns.length ≤ i := Nat.div_mul_le_self i ns.length
      have hlt : i - i / ns.length * ns.length < ns.length := by
        have := Nat.mod_lt i h0
        have := Nat.div_add_mod i ns.length
        rw [Nat.mul_comm] at this
        omega
      have ea : atI (ns.map V.int) ((i : Int) - (i : Int) / ((ns.map V.int).length : Int) * ((ns.map V.int).length : Int)) = some (.int (cell0 ns i)) := by
        rw [hl]
        have e5 : (i : Int) - (i : Int) / (ns.length : Int) * (ns.length : Int) = ((i - i / ns.length * ns.length : Nat) : Int) := by
          rw [Int.ofNat_sub em, Int.natCast_mul, Int.natCast_ediv]
        rw [e5]
        refine atI_nat ?_
        unfold cell0
        rw [if_pos h0, List.getElem?_map, List.getElem?_eq_getElem hlt, List.getD_eq_getElem?_getD, List.getElem?_eq_getElem hlt] <;> rfl
      refine ev_int (ev_op (ev_var rfl) (ev_op (ev_var rfl) (ev_op (ev_op (ev_var rfl) (ev_len (ev_var rfl) hS3) (rv_I ⟨?_, ?_⟩)) (ev_len (ev_var rfl) hS3) (rv_I ?_)) rv_I0) (rv_ixL hS3 ea))
      · rw [hl]; omega
      · rw [hl]; omega
      · rw [hl]; exact .inr ⟨by omega, by omega⟩
    · have h0 : ¬ 0 < ns.length := by
        have := of_decide_eq_false hb
        rw [hl] at this
        omega
      unfold cell0
      rw [if_neg h0]
      rfl
    have hS4 : SqL K H4 a (ns.map V.int) := ex_l e4 hS3
    refine q_ifAsg (v := .int (cell1 ns i)) (b := decide (cell0 ns i < 0)) (by walk_at "et") (fun hb => ?_) (fun hb => ?_) fun H5 e5 => ?_
    · refine ev_is (v := .int (1 - 2 * cell0 ns i)) (by walk_at "ev") ?_
      unfold cell1
      rw [if_pos (of_decide_eq_true hb)]
    · unfold cell1
      rw [if_neg (of_decide_eq_false hb)]
      rfl
    have hS5 : SqL K H5 a (ns.map V.int) := ex_l e5 hS4
    have h5 : H5 p = some (.lst ((lawN ns i).map V.int)) := e5 _ _ (e4 _ _ (e3 _ _ h2))
    have x5 : Ex H H5 := ((e2.trans e3).trans e4).trans e5
    -- the cell mixed
    refine q_cut (M := fun σ H' => σ = [some (.ref a), some (.int (c : Int)), some (.ref p), some (.int (i : Int)), some (.int (cellN ns i))] ∧ Ex H5 H') ?_ ?_
    · refine s_if (b := decide ((((ns.map V.int).length : Nat) : Int) ≤ (i : Int)) || decide (cell1 ns i < 1000000000)) ?_ (fun hb H6 e6 => ?_) (fun hb H6 e6 => ?_)
      · exact et_or (et_test (ev_op (ev_var rfl) (ev_len (ev_var rfl) hS5) rv_I0)) fun _ => et_test (ev_op (ev_var rfl) ev_c rv_I0)
      · have hb' : (ns.length : Int) ≤ (i : Int) ∨ cell1 ns i < 1000000000 := by
          rw [Bool.or_eq_true, decide_eq_true_eq, decide_eq_true_eq, hl] at hb
          exact hb
        refine q_asg (v := .int (((cell1 ns i + 101 * (i : Int) + 13) * 40692 + (i : Int) * (i : Int) * 6271) % 2147483399)) ?_ fun H7 e7 => ?_
        · refine ev_op (ev_int (ev_op (ev_op (ev_op (ev_op (ev_var rfl) (ev_op ev_c (ev_var rfl) (rv_I (.inl ⟨by decide, by decide⟩))) rv_I0) ev_c rv_I0) ev_c (rv_I (.inr ⟨by decide, by decide⟩))) (ev_op (ev_op (ev_var rfl) (ev_var rfl) (rv_I (.inl ⟨by omega, by omega⟩))) ev_c (rv_I (.inr ⟨by decide, by decide⟩))) rv_I0)) ev_c (rv_I (by decide))
        refine s_asg (v := .int (cellN ns i)) ?_ fun H8 e8 => ⟨rfl, (e6.trans e7).trans e8⟩
        refine ev_is (ev_op (ev_int (ev_op (ev_op (ev_op (ev_var rfl) (ev_op ev_c (ev_var rfl) (rv_I (.inl ⟨by decide, by decide⟩))) rv_I0) ev_c rv_I0) ev_c (rv_I (.inr ⟨by decide, by decide⟩)))) ev_c (rv_I (by decide))) ?_
        unfold cellN
        rw [if_pos hb']
        rfl
      · have hb' : ¬ ((ns.length : Int) ≤ (i : Int) ∨ cell1 ns i < 1000000000) := by
          intro z
          rw [Bool.or_eq_false_iff, decide_eq_false_iff_not, decide_eq_false_iff_not, hl] at hb
          rcases z with z | z
          · exact hb.1 z
          · exact hb.2 z
        refine ⟨?_, e6⟩
        unfold cellN
        rw [if_neg hb']
        rfl
    · intro σ' H' hm
      obtain ⟨rfl, x6⟩ := hm
      refine s_app (x6 _ _ h5) (ev_var rfl) (ev_var rfl) (by rw [List.length_map, lawN_len]; omega) fun H7 e7 => ?_
      refine ⟨_, _, rfl, Ex.mut ((x5.trans x6).trans e7) hp, ?_⟩
      rw [upd_same]
      unfold lawN
      rw [List.range_succ, List.map_append, List.map_append]
      rfl
  · obtain ⟨y3, y4, rfl, e2, h2⟩ := hw
    have ec : ((c : Int)).toNat = c := by omega
    rw [ec] at h2
    exact s_ret (ev_var rfl) fun H3 e3 => q p H3 hp (e2.trans e3) (e3 _ _ h2)
end

/-! ### the law's texts and values -/
def signsL : List Nat := (PySem.Str.ofString " !\"#$&'()*+,-./0123456789:;<=>?@ABCDEFGHIJKLMNOPQRSTUVWXYZ[\\]^_`abcdefghijklmnopqrstuvwxyz{|}~").cps.toList
def fewL : List Nat := (PySem.Str.ofString "ab*?\\ -'\"A").cps.toList
theorem signs_len : signsL.length = 94 := by decide +kernel
theorem few_len : fewL.length = 10 := by decide +kernel
theorem signs_ok : ∀ c ∈ signsL, 32 ≤ c ∧ c ≤ 126 := by decide +kernel
theorem few_ok : ∀ c ∈ fewL, 32 ≤ c ∧ c ≤ 126 := by decide +kernel
/-- what is written so far, and the rest of the number -/
def lawTS (n : Int) : Nat → List Nat × Int
  | 0 => ([], n / 3)
  | k + 1 => if n % 3 = 0 then ((lawTS n k).1 ++ [signsL.getD ((lawTS n k).2 % 94).toNat 0], (lawTS n k).2 / 94 + 7 * (k : Int))
      else ((lawTS n k).1 ++ [fewL.getD ((lawTS n k).2 % 10).toNat 0], (lawTS n k).2 / 10 + 7 * (k : Int))
def lawT (n : Int) (size : Nat) : List Nat := (lawTS n size).1
def okC (c : Nat) : Prop := 32 ≤ c ∧ c ≤ 126
theorem getD_mem {l : List Nat} {i : Nat} (h : i < l.length) : l.getD i 0 ∈ l := by
  rw [List.getD_eq_getElem?_getD, List.getElem?_eq_getElem h]
  exact List.getElem_mem h
theorem sign_at {l : List Nat} {r : Int} {m : Nat} (hl : l.length = m) (hm : 0 < m) : (r % (m : Int)).toNat < l.length := by
  have h1 := Int.emod_nonneg r (show (m : Int) ≠ 0 by omega)
  have h2 := Int.emod_lt_of_pos r (show (0 : Int) < (m : Int) by omega)
  omega
theorem pick {l : List Nat} {r : Int} {m : Nat} (hl : l.length = m) (hm : 0 < m) : atI l (r % (m : Int)) = some (l.getD (r % (m : Int)).toNat 0) := by
  have hx := sign_at (r := r) hl hm
  have h1 := Int.emod_nonneg r (show (m : Int) ≠ 0 by omega)
  have e : atI l (((r % (m : Int)).toNat : Nat) : Int) = some (l.getD (r % (m : Int)).toNat 0) := atI_nat (by
    rw [List.getElem?_eq_getElem hx, List.getD_eq_getElem?_getD, List.getElem?_eq_getElem hx] <;> rfl)
  rw [Int.toNat_of_nonneg h1] at e
  exact e
theorem lawT_len (n : Int) : ∀ k, (lawT n k).length = k
  | 0 => rfl
  | k + 1 => by
    have ih := lawT_len n k
    unfold lawT at ih ⊢
    rw [lawTS]
    split <;> (show (_ ++ [_]).length = k + 1; rw [List.length_append, ih] <;> rfl)
theorem lawT_ok (n : Int) : ∀ k, ∀ c ∈ lawT n k, okC c
  | 0, c, h => by cases h
  | k + 1, c, h => by
    have ih := lawT_ok n k
    unfold lawT at ih h
    rw [lawTS] at h
    split at h
    · rcases List.mem_append.mp h with h | h
      · exact ih c h
      · rw [List.mem_singleton.mp h]
        exact signs_ok _ (getD_mem (sign_at signs_len (by decide)))
    · rcases List.mem_append.mp h with h | h
      · exact ih c h
      · rw [List.mem_singleton.mp h]
        exact few_ok _ (getD_mem (sign_at few_len (by decide)))
def lawV (n : Int) : V :=
  if n % 8 = 0 then .non else if n % 8 = 1 then .bl (decide (n / 8 % 2 = 0)) else if n % 8 = 2 then .int (n / 8 % 3 - 1)
  else if n % 8 = 3 then .int (n / 8 % 2000000000000001 - 1000000000000000) else if n % 8 = 4 then .int (n / 8 % 3652059 - 719162)
  else if n % 8 = 5 then .int (n / 8 % 40 - 20) else .str (SX.S (lawT (n / 8 / 13) (n / 8 % 13).toNat))
/-- a plain value: None, a boolean, a small integer, a short text of plain signs -/
inductive VOk : V → Prop where
  | non : VOk .non
  | bl (b : Bool) : VOk (.bl b)
  | int (i : Int) (h : -1000000000000000 ≤ i ∧ i ≤ 1000000000000000) : VOk (.int i)
  | str (l : List Nat) (h : l.length ≤ 12) (hc : ∀ c ∈ l, okC c) : VOk (.str (SX.S l))
theorem lawV_ok (n : Int) : VOk (lawV n) := by
  unfold lawV
  split
  · exact .non
  split
  · exact .bl _
  split
  · exact .int _ (by omega)
  split
  · exact .int _ (by omega)
  split
  · exact .int _ (by omega)
  split
  · exact .int _ (by omega)
  · exact .str _ (by rw [lawT_len]; omega) (lawT_ok _ _)
def sp__law_text (K : PySem.W.Frag) : Sp := fun vs H Q _ => ∃ (n : Int) (z : Nat), vs = [.int n, .int (z : Int)] ∧ z ≤ 1000 ∧ ∀ H', Ex H H' → Q (.str (SX.S (lawT n z))) H'
def sp__law_value (K : PySem.W.Frag) : Sp := fun vs H Q _ => ∃ n : Int, vs = [.int n] ∧ ∀ H', Ex H H' → Q (lawV n) H'
theorem join_ones : ∀ l : List Nat, Txt.join (SX.S []) (l.map fun c => (⟨#[c]⟩ : Str)) = SX.S l := by
  intro l
  have e : (l.map fun c => (⟨#[c]⟩ : Str)) = (l.map fun c => [c]).map SX.S := by
    rw [List.map_map]
    rfl
  rw [e, SX.join_S]
  congr 1
  induction l with
  | nil => rfl
  | cons c r ih =>
    cases r with
    | nil => rfl
    | cons d r => 
      have e2 : TL.joinL [] (List.map (fun c => [c]) (c :: d :: r)) = c :: TL.joinL [] (List.map (fun c => [c]) (d :: r)) := rfl
      rw [e2, ih (by rw [List.map_map]; rfl)]
section
variable {P : Program} {w : World} {K : PySem.W.Frag} {mg : Str → Option Value} {base : Heap}
theorem ok__law_text (D : Dn K mg "_law_text" s__law_text ["number", "size"]) (z_int : mg "int" = none) (z_range : mg "range" = none) :
    C8.Cal P w K mg base 1 "_law_text" (sp__law_text K) [] := by
  refine cal_of D sc__law_text (fun vs H Q E h => ?_) (fun f cdv A outer s H vs Q E hr h => ?_)
  · obtain ⟨_, _, rfl, _⟩ := h
    rfl
  refine ⟨_, (pss_cons (ps_set (i := 2) sc__law_text.nd rfl (.inl rfl) pe_str)
    (pss_cons (ps_set (i := 3) sc__law_text.nd rfl (.inl rfl) pe_str)
    (pss_cons (ps_set (i := 4) sc__law_text.nd rfl (.inl rfl) (pe_lst pa_nil))
    (pss_cons (ps_set (i := 5) sc__law_text.nd rfl (.inl rfl) (pe_op op_fdiv (pe_callTy call_int1 (by rfl) z_int (by decide +kernel) (pa_cons (pv 0) pa_nil)) pe_int))
    (pss_cons (ps_for PassesOwn.never rfl (pi_range1 rfl z_range (pa_cons (pv 1) pa_nil)) (pg_name (i := 6) sc__law_text.nd rfl (.inl rfl))
      (pss_one (ps_if (pt_cmpR op_eq (pe_op op_mod (pe_callTy call_int1 (by rfl) z_int (by decide +kernel) (pa_cons (pv 0) pa_nil)) pe_int) pe_int (nomark _))
      (pss_cons (ps_expr (pe_bm PySem.F.plainAttrs_list PySem.F.slot_list_append PySem.F.type_list_append mt_append (pv 4) (pa_cons (pe_ix ix_str (pv 2) (pe_op op_mod (pe_callTy call_int1 (by rfl) z_int (by decide +kernel) (pa_cons (pv 5) pa_nil)) pe_int) (fun _ _ => rfl)) pa_nil)))
    (pss_one (ps_set (i := 5) sc__law_text.nd rfl (.inl rfl) (pe_op op_add (pe_op op_fdiv (pv 5) pe_int) (pe_op op_mul pe_int (pv 6))))))
      (pss_cons (ps_expr (pe_bm PySem.F.plainAttrs_list PySem.F.slot_list_append PySem.F.type_list_append mt_append (pv 4) (pa_cons (pe_ix ix_str (pv 3) (pe_op op_mod (pe_callTy call_int1 (by rfl) z_int (by decide +kernel) (pa_cons (pv 5) pa_nil)) pe_int) (fun _ _ => rfl)) pa_nil)))
    (pss_one (ps_set (i := 5) sc__law_text.nd rfl (.inl rfl) (pe_op op_add (pe_op op_fdiv (pv 5) pe_int) (pe_op op_mul pe_int (pv 6)))))))))
    (pss_one (ps_ret (pe_join pe_str (pv 4))))))))), ?_⟩
  obtain ⟨n, z, rfl, hz, q⟩ := h
  refine q_asg ev_c fun H1 e1 => ?_
  refine q_asg ev_c fun H2 e2 => ?_
  refine q_asgL (el_lst ea_nil (by decide)) fun p H3 hp e3 h3 => ?_
  refine q_asg (v := .int (n / 3)) (by walk_at "ev") fun H4 e4 => ?_
  have x2 : Ex H H2 := e1.trans e2
  refine q_forR1 (n := (z : Int)) (ea_cons (ev_var rfl) ea_nil) ⟨by omega, by omega⟩
    (fun i σ H' => ∃ y6, σ = [some (.int n), some (.int (z : Int)), some (.str (SX.S signsL)), some (.str (SX.S fewL)), some (.ref p), some (.int (lawTS n i).2), y6] ∧ Ex H2 H' ∧ H' p = some (.lst ((lawT n i).map fun c => V.str ⟨#[c]⟩)))
    (fun H5 e5 => ⟨none, rfl, (e3.trans e4).trans e5, e5 _ _ (e4 _ _ h3)⟩) (fun i σ H5 hi hw => ?_) (fun σ H5 hw => ?_)
  · obtain ⟨y6, rfl, e5, h5⟩ := hw
    have hlen : (((lawT n i).map fun c => V.str ⟨#[c]⟩)).length < 100000 := by
      rw [List.length_map, lawT_len]
      omega
    refine s_if (b := decide (V.int (n % 3) = V.int 0)) (by walk_at "et") (fun hb H6 e6 => ?_) (fun hb H6 e6 => ?_)
    · have hb' : n % 3 = 0 := V.int.inj (of_decide_eq_true hb)
      have hx := sign_at (r := (lawTS n i).2) signs_len (by decide)
      refine q_app (v := .str ⟨#[signsL.getD ((lawTS n i).2 % 94).toNat 0]⟩) (e6 _ _ h5) (ev_var rfl) ?_ hlen fun H7 e7 => ?_
      · refine ev_op (ev_var rfl) (y := .int ((lawTS n i).2 % 94)) (by walk_at "ev") (rv_ixS (by decide +kernel) ?_)
        exact pick (m := 94) signs_len (by decide)
      refine s_asg (v := .int ((lawTS n (i + 1)).2)) ?_ fun H8 e8 => ?_
      · refine ev_is (v := .int ((lawTS n i).2 / 94 + 7 * (i : Int))) (by walk_at "ev") ?_
        rw [lawTS, if_pos hb']
      · refine ⟨_, rfl, (Ex.mut ((e5.trans e6).trans e7) (fresh_back (Ex.refl _) hp)).trans e8, ?_⟩
        refine e8 _ _ ?_
        rw [upd_same]
        unfold lawT
        rw [lawTS, if_pos hb', List.map_append]
        rfl
    · have hb' : ¬ n % 3 = 0 := fun e => of_decide_eq_false hb (by rw [e])
      have hx := sign_at (r := (lawTS n i).2) few_len (by decide)
      refine q_app (v := .str ⟨#[fewL.getD ((lawTS n i).2 % 10).toNat 0]⟩) (e6 _ _ h5) (ev_var rfl) ?_ hlen fun H7 e7 => ?_
      · refine ev_op (ev_var rfl) (y := .int ((lawTS n i).2 % 10)) (by walk_at "ev") (rv_ixS (by decide +kernel) ?_)
        exact pick (m := 10) few_len (by decide)
      refine s_asg (v := .int ((lawTS n (i + 1)).2)) ?_ fun H8 e8 => ?_
      · refine ev_is (v := .int ((lawTS n i).2 / 10 + 7 * (i : Int))) (by walk_at "ev") ?_
        rw [lawTS, if_neg hb']
      · refine ⟨_, rfl, (Ex.mut ((e5.trans e6).trans e7) (fresh_back (Ex.refl _) hp)).trans e8, ?_⟩
        refine e8 _ _ ?_
        rw [upd_same]
        unfold lawT
        rw [lawTS, if_neg hb', List.map_append]
        rfl
  · obtain ⟨y6, rfl, e5, h5⟩ := hw
    have ez : ((z : Int)).toNat = z := by omega
    rw [ez] at h5
    have hl : ((lawT n z).map fun c => V.str ⟨#[c]⟩) = ((lawT n z).map fun c => (⟨#[c]⟩ : Str)).map V.str := by
      rw [List.map_map]
      rfl
    refine ⟨⟨_, rfl⟩, _, rfl, SX.S [], p, (lawT n z).map fun c => (⟨#[c]⟩ : Str), rfl, rfl, .inl (sq_of ?_), ?_, ?_⟩
    · rw [← hl]
      exact h5
    · have e9 : ((lawT n z).map fun c => (⟨#[c]⟩ : Str)).map (·.length) = List.replicate z 1 := by
        rw [List.map_map, List.eq_replicate_iff]
        refine ⟨by rw [List.length_map, lawT_len], fun b hb => ?_⟩
        obtain ⟨c, _, rfl⟩ := List.mem_map.mp hb
        rfl
      rw [e9, List.sum_replicate_nat, List.length_map, lawT_len]
      show z * 1 + z * 0 ≤ _
      omega
    · rw [join_ones]
      exact q _ (x2.trans e5)
theorem ec_text {σ : L2.St} {H : Hp} {ta tb : TE} {E : XK} {n m : Int} (ha : Ev ta σ H (.int n)) (hb : Ev tb σ H (.int m)) (h0 : 0 ≤ m) (h1 : m ≤ 1000) : Ev (tCall (sp__law_text K) [] E (tCons ta (tCons tb tNil))) σ H (.str (SX.S (lawT n m.toNat))) :=
  ev_call (ea_cons ha (ea_cons hb ea_nil)) fun H1 e Q q E => ⟨n, m.toNat, by rw [Int.toNat_of_nonneg h0]; rfl, by omega, q⟩
theorem ok__law_value (D : Dn K mg "_law_value" s__law_value ["number"]) (c__law_text : C8.Cal P w K mg base 1 "_law_text" (sp__law_text K) []) (z_int : mg "int" = none) :
    C8.Cal P w K mg base 2 "_law_value" (sp__law_value K) [] := by
  refine cal_of D sc__law_value (fun vs H Q E h => ?_) (fun f cdv A outer s H vs Q E hr h => ?_)
  · obtain ⟨_, rfl, _⟩ := h
    rfl
  refine ⟨_, (pss_cons (ps_set (i := 1) sc__law_value.nd rfl (.inl rfl) (pe_op op_fdiv (pe_callTy call_int1 (by rfl) z_int (by decide +kernel) (pa_cons (pv 0) pa_nil)) pe_int))
    (pss_cons (ps_set (i := 2) sc__law_value.nd rfl (.inl rfl) (pe_op op_mod (pe_callTy call_int1 (by rfl) z_int (by decide +kernel) (pa_cons (pv 0) pa_nil)) pe_int))
    (pss_cons (ps_if (pt_cmpR op_eq (pv 2) pe_int (nomark _))
      (pss_one (ps_ret pe_non))
      pss_nil)
    (pss_cons (ps_if (pt_cmpR op_eq (pv 2) pe_int (nomark _))
      (pss_one (ps_ret (pe_cmpR op_eq (pe_op op_mod (pv 1) pe_int) pe_int (nomark _))))
      pss_nil)
    (pss_cons (ps_if (pt_cmpR op_eq (pv 2) pe_int (nomark _))
      (pss_one (ps_ret (pe_op op_sub (pe_op op_mod (pe_callTy call_int1 (by rfl) z_int (by decide +kernel) (pa_cons (pv 1) pa_nil)) pe_int) pe_int)))
      pss_nil)
    (pss_cons (ps_if (pt_cmpR op_eq (pv 2) pe_int (nomark _))
      (pss_one (ps_ret (pe_op op_sub (pe_op op_mod (pe_callTy call_int1 (by rfl) z_int (by decide +kernel) (pa_cons (pv 1) pa_nil)) pe_int) pe_int)))
      pss_nil)
    (pss_cons (ps_if (pt_cmpR op_eq (pv 2) pe_int (nomark _))
      (pss_one (ps_ret (pe_op op_sub (pe_op op_mod (pe_callTy call_int1 (by rfl) z_int (by decide +kernel) (pa_cons (pv 1) pa_nil)) pe_int) pe_int)))
      pss_nil)
    (pss_cons (ps_if (pt_cmpR op_eq (pv 2) pe_int (nomark _))
      (pss_one (ps_ret (pe_op op_sub (pe_op op_mod (pe_callTy call_int1 (by rfl) z_int (by decide +kernel) (pa_cons (pv 1) pa_nil)) pe_int) pe_int)))
      pss_nil)
    (pss_one (ps_ret (C8.pe_c c__law_text hr (by decide) (by rfl) (pa_cons (pe_op op_fdiv (pv 1) pe_int) (pa_cons (pe_op op_mod (pe_callTy call_int1 (by rfl) z_int (by decide +kernel) (pa_cons (pv 1) pa_nil)) pe_int) pa_nil))))))))))))), ?_⟩
  obtain ⟨n, rfl, q⟩ := h
  refine q_asg (v := .int (n / 8)) (by walk_at "ev") fun H1 e1 => ?_
  refine q_asg (v := .int (n % 8)) (by walk_at "ev") fun H2 e2 => ?_
  have x2 : Ex H H2 := e1.trans e2
  refine q_when (b := decide (V.int (n % 8) = V.int 0)) (by walk_at "et") (fun hb H3 e3 => s_ret (v := lawV n) ?_ fun H4 e4 => q H4 ((x2.trans e3).trans e4)) (fun hb H3 e3 => ?_)
  · refine ev_is ev_c ?_
    unfold lawV
    rw [if_pos (V.int.inj (of_decide_eq_true hb))]
  have n0 : ¬ n % 8 = 0 := fun e => of_decide_eq_false hb (by rw [e])
  refine q_when (b := decide (V.int (n % 8) = V.int 1)) (by walk_at "et") (fun hb H4 e4 => s_ret (v := lawV n) ?_ fun H5 e5 => q H5 (((x2.trans e3).trans e4).trans e5)) (fun hb H4 e4 => ?_)
  · refine ev_is (v := .bl (decide (V.int (n / 8 % 2) = V.int 0))) (by walk_at "ev") ?_
    unfold lawV
    rw [if_neg n0, if_pos (V.int.inj (of_decide_eq_true hb)), dec_int]
    congr 1
  have n1 : ¬ n % 8 = 1 := fun e => of_decide_eq_false hb (by rw [e])
  refine q_when (b := decide (V.int (n % 8) = V.int 2)) (by walk_at "et") (fun hb H5 e5 => s_ret (v := lawV n) ?_ fun H6 e6 => q H6 ((((x2.trans e3).trans e4).trans e5).trans e6)) (fun hb H5 e5 => ?_)
  · refine ev_is (v := .int (n / 8 % 3 - 1)) (by walk_at "ev") ?_
    unfold lawV
    rw [if_neg n0, if_neg n1, if_pos (V.int.inj (of_decide_eq_true hb))]
  have n2 : ¬ n % 8 = 2 := fun e => of_decide_eq_false hb (by rw [e])
  refine q_when (b := decide (V.int (n % 8) = V.int 3)) (by walk_at "et") (fun hb H6 e6 => s_ret (v := lawV n) ?_ fun H7 e7 => q H7 (((((x2.trans e3).trans e4).trans e5).trans e6).trans e7)) (fun hb H6 e6 => ?_)
  · refine ev_is (v := .int (n / 8 % 2000000000000001 - 1000000000000000)) (by walk_at "ev") ?_
    unfold lawV
    rw [if_neg n0, if_neg n1, if_neg n2, if_pos (V.int.inj (of_decide_eq_true hb))]
  have n3 : ¬ n % 8 = 3 := fun e => of_decide_eq_false hb (by rw [e])
  refine q_when (b := decide (V.int (n % 8) = V.int 4)) (by walk_at "et") (fun hb H7 e7 => s_ret (v := lawV n) ?_ fun H8 e8 => q H8 ((((((x2.trans e3).trans e4).trans e5).trans e6).trans e7).trans e8)) (fun hb H7 e7 => ?_)
  · refine ev_is (v := .int (n / 8 % 3652059 - 719162)) (by walk_at "ev") ?_
    unfold lawV
    rw [if_neg n0, if_neg n1, if_neg n2, if_neg n3, if_pos (V.int.inj (of_decide_eq_true hb))]
  have n4 : ¬ n % 8 = 4 := fun e => of_decide_eq_false hb (by rw [e])
  refine q_when (b := decide (V.int (n % 8) = V.int 5)) (by walk_at "et") (fun hb H8 e8 => s_ret (v := lawV n) ?_ fun H9 e9 => q H9 (((((((x2.trans e3).trans e4).trans e5).trans e6).trans e7).trans e8).trans e9)) (fun hb H8 e8 => ?_)
  · refine ev_is (v := .int (n / 8 % 40 - 20)) (by walk_at "ev") ?_
    unfold lawV
    rw [if_neg n0, if_neg n1, if_neg n2, if_neg n3, if_neg n4, if_pos (V.int.inj (of_decide_eq_true hb))]
  have n5 : ¬ n % 8 = 5 := fun e => of_decide_eq_false hb (by rw [e])
  refine s_ret (v := lawV n) ?_ fun H9 e9 => q H9 (((((((x2.trans e3).trans e4).trans e5).trans e6).trans e7).trans e8).trans e9)
  refine ev_is (ec_text (n := n / 8 / 13) (m := n / 8 % 13) (by walk_at "ev") (by walk_at "ev") (by omega) (by omega)) ?_
  unfold lawV
  rw [if_neg n0, if_neg n1, if_neg n2, if_neg n3, if_neg n4, if_neg n5]
theorem ec_value {σ : L2.St} {H : Hp} {ta : TE} {E : XK} {n : Int} (ha : Ev ta σ H (.int n)) : Ev (tCall (sp__law_value K) [] E (tCons ta tNil)) σ H (lawV n) :=
  ev_call (ea_cons ha ea_nil) fun H1 e Q q E => ⟨n, rfl, q⟩
end

/-! ### ranks -/
def kr : V → Int
  | .non => 0
  | .bl _ => 1
  | .int _ => 2
  | _ => 3
def payV : V → V
  | .non => .int 0
  | .bl b => .int (if b then 1 else 0)
  | x => x
def rkL (x : V) : List V := [.int (kr x), payV x]
def payD : V → PyData
  | .non => .int 0
  | .bl b => .int (if b then 1 else 0)
  | .int i => .int i
  | .str s => .str s
  | _ => .none
def rkDs (x : V) : List PyData := [.int (kr x), payD x]
def rkD (x : V) : PyData := .tuple (rkDs x)
/-- plain, and its signs are signs -/
inductive Ok : V → Prop where
  | non : Ok .non
  | bl (b : Bool) : Ok (.bl b)
  | int (i : Int) : Ok (.int i)
  | str (s : Str) (h : PyData.strOk s = true) : Ok (.str s)
theorem Ok.pl {x : V} (h : Ok x) : Pl x := by cases h <;> constructor
theorem strOk_S {l : List Nat} (h : ∀ c ∈ l, 32 ≤ c ∧ c ≤ 126) : PyData.strOk (SX.S l) = true := by
  unfold PyData.strOk
  rw [Array.all_eq_true']
  intro c hc
  have := h c (by simpa using hc)
  exact decide_eq_true (by omega)
theorem dp_pay {K : PySem.W.Frag} {H : Hp} {x : V} (h : Ok x) : Dp K H (payV x) (payD x) := by
  cases h with
  | non => exact .int 0
  | bl b => exact .int _
  | int i => exact .int i
  | str s _ => exact .str s
theorem dp_rks {K : PySem.W.Frag} {H : Hp} {x : V} (h : Ok x) : DpAll K H (rkL x) (rkDs x) := .cons (.int _) (.cons (dp_pay h) .nil)
theorem dp_rk {K : PySem.W.Frag} {H : Hp} {x : V} {p : Addr} (h : Ok x) (hp : H p = some (.tup (rkL x))) : Dp K H (.ref p) (rkD x) := .tup (st_of hp) (dp_rks h)
theorem lay_rk {x : V} (h : Ok x) : (rkD x).canLay0 = true := by
  cases h with
  | non => rfl
  | bl b => rfl
  | int i => rfl
  | str s hs =>
    show (true && (PyData.strOk s && true)) = true
    rw [hs]
    rfl
theorem dep_rk {x : V} (h : Ok x) : (rkD x).depth = 1 := by cases h <;> rfl
theorem shaped_rk {x : V} (h : Ok x) : SeqAt.shaped (rkD x) = true := by
  unfold SeqAt.shaped
  rw [lay_rk h, dep_rk h]
  rfl
theorem noL_rk {x : V} (h : Ok x) : noL (rkD x) = true := by cases h <;> rfl
theorem ord_rk {x y : V} (hx : Ok x) (hy : Ok y) : ordD (rkD x) (rkD y) = true := by
  have step : ∀ (a b : Int) (p q : PyData), (a = b → ordD p q = true) → ordD (.tuple [.int a, p]) (.tuple [.int b, q]) = true := by
    intro a b p q h
    rw [ordD, ordDs]
    split
    · rename_i e
      rw [ordDs]
      split
      · rfl
      · exact h (beq_iff_eq.mp (show (a == b) = true from e))
    · rfl
  refine step _ _ _ _ fun e => ?_
  cases hx <;> cases hy <;> first | rfl | (simp [kr] at e)
theorem lays_rk : ∀ {xs : List V}, (∀ x ∈ xs, Ok x) → PyData.canLayAll0 (xs.map rkD) = true
  | [], _ => rfl
  | x :: xs, h => by
    show ((rkD x).canLay0 && PyData.canLayAll0 (xs.map rkD)) = true
    rw [lay_rk (h x (List.mem_cons_self ..)), lays_rk fun y hy => h y (List.mem_cons_of_mem _ hy)]
    rfl
theorem deps_rk : ∀ {xs : List V}, (∀ x ∈ xs, Ok x) → PyData.depthAll (xs.map rkD) ≤ 1
  | [], _ => by show 0 ≤ 1; decide
  | x :: xs, h => by
    show max (rkD x).depth (PyData.depthAll (xs.map rkD)) ≤ 1
    rw [dep_rk (h x (List.mem_cons_self ..))]
    have := deps_rk fun y hy => h y (List.mem_cons_of_mem _ hy)
    omega
theorem shaped_row {xs : List V} (h : ∀ x ∈ xs, Ok x) : SeqAt.shaped (.tuple (xs.map rkD)) = true := by
  have hd := deps_rk h
  show (PyData.canLayAll0 (xs.map rkD) && decide (PyData.depthAll (xs.map rkD) + 1 ≤ 64)) = true
  rw [lays_rk h, decide_eq_true (by omega)]
  rfl
theorem ords_rk : ∀ {xs ys : List V}, (∀ x ∈ xs, Ok x) → (∀ y ∈ ys, Ok y) → ordDs (xs.map rkD) (ys.map rkD) = true
  | [], _, _, _ => by rw [List.map_nil, ordDs]
  | _ :: _, [], _, _ => rfl
  | x :: xs, y :: ys, h1, h2 => by
    rw [List.map_cons, List.map_cons, ordDs]
    split
    · exact ords_rk (fun z hz => h1 z (List.mem_cons_of_mem _ hz)) (fun z hz => h2 z (List.mem_cons_of_mem _ hz))
    · exact ord_rk (h1 x (List.mem_cons_self ..)) (h2 y (List.mem_cons_self ..))
def sp_kind_rank (K : PySem.W.Frag) : Sp := fun vs H Q _ => ∃ x : V, vs = [x] ∧ Ok x ∧ ∀ H', Ex H H' → Q (.int (kr x)) H'
def sp_is_integer (K : PySem.W.Frag) : Sp := fun vs H Q _ => ∃ x : V, vs = [x] ∧ Pl x ∧ ∀ H', Ex H H' → Q (.bl (isInt x)) H'
def sp__law_is_integer (K : PySem.W.Frag) : Sp := fun vs H Q _ => ∃ x : V, vs = [x] ∧ Pl x ∧ ∀ H', Ex H H' → Q (.bl (isInt x)) H'
def sp_rank (K : PySem.W.Frag) : Sp := fun vs H Q _ => ∃ x : V, vs = [x] ∧ Ok x ∧ ∀ p H', H p = none → Ex H H' → H' p = some (.tup (rkL x)) → Q (.ref p) H'
def sp__law_rank (K : PySem.W.Frag) : Sp := fun vs H Q _ => ∃ x : V, vs = [x] ∧ Ok x ∧ ∀ p H', H p = none → Ex H H' → H' p = some (.tup (rkL x)) → Q (.ref p) H'
def sp_same (K : PySem.W.Frag) : Sp := fun vs H Q _ => ∃ x y : V, vs = [x, y] ∧ Ok x ∧ Ok y ∧ ∀ H', Ex H H' → Q (.bl (PyData.eqv (rkD x) (rkD y))) H'
def sp_before (K : PySem.W.Frag) : Sp := fun vs H Q _ => ∃ x y : V, vs = [x, y] ∧ Ok x ∧ Ok y ∧ ∀ H', Ex H H' → Q (.bl (ltD (rkD x) (rkD y))) H'
section
variable {P : Program} {w : World} {K : PySem.W.Frag} {mg : Str → Option Value} {base : Heap}
section
variable {σ : L2.St} {H : Hp} {ta tb tc : TE} {E : XK} {x y : V}
theorem ec_isint0 (ha : Ev ta σ H x) (h : Pl x) : Ev (tCall (sp_is_integer K) [] E (tCons ta tNil)) σ H (.bl (isInt x)) := ev_call (ea_cons ha ea_nil) fun H1 e Q q E => ⟨x, rfl, h, q⟩
theorem ec_isint (ha : Ev ta σ H x) (h : Pl x) : Ev (tCall (sp__law_is_integer K) [] E (tCons ta tNil)) σ H (.bl (isInt x)) := ev_call (ea_cons ha ea_nil) fun H1 e Q q E => ⟨x, rfl, h, q⟩
theorem ec_kr (ha : Ev ta σ H x) (h : Ok x) : Ev (tCall (sp_kind_rank K) [] E (tCons ta tNil)) σ H (.int (kr x)) := ev_call (ea_cons ha ea_nil) fun H1 e Q q E => ⟨x, rfl, h, q⟩
theorem ec_rank (ha : Ev ta σ H x) (h : Ok x) : EvU (tCall (sp_rank K) [] E (tCons ta tNil)) σ H (rkL x) := eu_call (ea_cons ha ea_nil) fun H1 e Q q E => ⟨x, rfl, h, q⟩
theorem ec_lrank (ha : Ev ta σ H x) (h : Ok x) : EvU (tCall (sp__law_rank K) [] E (tCons ta tNil)) σ H (rkL x) := eu_call (ea_cons ha ea_nil) fun H1 e Q q E => ⟨x, rfl, h, q⟩
theorem ud_rk (h : EvU ta σ H (rkL x)) (hx : Ok x) : EvUD K ta σ H (rkDs x) := fun H1 e Q q => h H1 e _ fun p H2 hp e2 h2 => q p H2 _ hp e2 h2 (dp_rks hx)
theorem ed_rk (h : EvU ta σ H (rkL x)) (hx : Ok x) : EvD K ta σ H (rkD x) := ed_tupU (ud_rk h hx)
theorem ec_same (ha : Ev ta σ H x) (hb : Ev tb σ H y) (h1 : Ok x) (h2 : Ok y) : Ev (tCall (sp_same K) [] E (tCons ta (tCons tb tNil))) σ H (.bl (PyData.eqv (rkD x) (rkD y))) := ev_call (ea_cons ha (ea_cons hb ea_nil)) fun H1 e Q q E => ⟨x, y, rfl, h1, h2, q⟩
theorem ec_before (ha : Ev ta σ H x) (hb : Ev tb σ H y) (h1 : Ok x) (h2 : Ok y) : Ev (tCall (sp_before K) [] E (tCons ta (tCons tb tNil))) σ H (.bl (ltD (rkD x) (rkD y))) := ev_call (ea_cons ha (ea_cons hb ea_nil)) fun H1 e Q q E => ⟨x, y, rfl, h1, h2, q⟩
end
theorem ok_is_integer (D : Dn K mg "is_integer" s_is_integer ["value"]) (z_bool : mg "bool" = none) (z_int : mg "int" = none) (z_isinstance : mg "isinstance" = none) :
    C8.Cal P w K mg base 1 "is_integer" (sp_is_integer K) [] := by
  refine cal_of D sc_is_integer (fun vs H Q E h => ?_) (fun f cdv A outer s H vs Q E hr h => ?_)
  · obtain ⟨_, rfl, _⟩ := h
    rfl
  refine ⟨_, (pss_one (ps_ret (pe_and (pe_callB call_isi (by rfl) z_isinstance (by decide +kernel) (pa_cons (pv 0) (pa_cons (pe_bltn (v := .ty "int") (u := .type "int") rfl z_int (by decide +kernel) rfl) pa_nil))) (pe_one (pe_not (pe_callB call_isi (by rfl) z_isinstance (by decide +kernel) (pa_cons (pv 0) (pa_cons (pe_bltn (v := .ty "bool") (u := .type "bool") rfl z_bool (by decide +kernel) rfl) pa_nil)))))))), ?_⟩
  obtain ⟨x, rfl, hx, q⟩ := h
  exact s_ret (ev_isInt (ev_var rfl) (ev_var rfl) hx) fun H2 e2 => q _ e2
theorem ok__law_is_integer (D : Dn K mg "_law_is_integer" s__law_is_integer ["value"]) (z_bool : mg "bool" = none) (z_int : mg "int" = none) (z_isinstance : mg "isinstance" = none) :
    C8.Cal P w K mg base 1 "_law_is_integer" (sp__law_is_integer K) [] := by
  refine cal_of D sc__law_is_integer (fun vs H Q E h => ?_) (fun f cdv A outer s H vs Q E hr h => ?_)
  · obtain ⟨_, rfl, _⟩ := h
    rfl
  refine ⟨_, (pss_one (ps_ret (pe_and (pe_callB call_isi (by rfl) z_isinstance (by decide +kernel) (pa_cons (pv 0) (pa_cons (pe_bltn (v := .ty "int") (u := .type "int") rfl z_int (by decide +kernel) rfl) pa_nil))) (pe_one (pe_not (pe_callB call_isi (by rfl) z_isinstance (by decide +kernel) (pa_cons (pv 0) (pa_cons (pe_bltn (v := .ty "bool") (u := .type "bool") rfl z_bool (by decide +kernel) rfl) pa_nil)))))))), ?_⟩
  obtain ⟨x, rfl, hx, q⟩ := h
  exact s_ret (ev_isInt (ev_var rfl) (ev_var rfl) hx) fun H2 e2 => q _ e2
theorem ok__law_rank (D : Dn K mg "_law_rank" s__law_rank ["value"]) (z_isinstance : mg "isinstance" = none) (z_str : mg "str" = none) :
    C8.Cal P w K mg base 1 "_law_rank" (sp__law_rank K) [] := by
  refine cal_of D sc__law_rank (fun vs H Q E h => ?_) (fun f cdv A outer s H vs Q E hr h => ?_)
  · obtain ⟨_, rfl, _⟩ := h
    rfl
  refine ⟨_, (pss_cons (ps_if (pt_cmpR op_isN (pv 0) pe_non (nomark _))
      (pss_one (ps_ret (pe_tup (pa_cons pe_int (pa_cons pe_int pa_nil)))))
      pss_nil)
    (pss_cons (ps_if (pt_cmpR op_isTF (pv 0) pe_bl (nomark _))
      (pss_one (ps_ret (pe_tup (pa_cons pe_int (pa_cons pe_int pa_nil)))))
      pss_nil)
    (pss_cons (ps_if (pt_cmpR op_isTF (pv 0) pe_bl (nomark _))
      (pss_one (ps_ret (pe_tup (pa_cons pe_int (pa_cons pe_int pa_nil)))))
      pss_nil)
    (pss_cons (ps_if (pt_val (pe_callB call_isi (by rfl) z_isinstance (by decide +kernel) (pa_cons (pv 0) (pa_cons (pe_bltn (v := .ty "str") (u := .type "str") rfl z_str (by decide +kernel) rfl) pa_nil))))
      (pss_one (ps_ret (pe_tup (pa_cons pe_int (pa_cons (pv 0) pa_nil)))))
      pss_nil)
    (pss_one (ps_ret (pe_tup (pa_cons pe_int (pa_cons (pv 0) pa_nil))))))))), ?_⟩
  obtain ⟨x, rfl, hx, q⟩ := h
  have one : ∀ {H0 H1 : Hp} {σ : L2.St} {ta tb : TE}, Ex H H0 → Ev ta σ H0 (.int (kr x)) → Ev tb σ H0 (payV x) → tRet (tTup (tCons ta (tCons tb tNil))) { nx := fun _ H' => Q .non H', rt := Q } σ H0 := fun {H0 H1 σ ta tb} e0 ha hb =>
    s_retU (xs := rkL x) (eu_tup (ea_cons ha (ea_cons hb ea_nil)) (by show 2 ≤ 100000; decide)) fun p H3 hp e3 h3 => q p H3 (fresh_back e0 hp) (e0.trans e3) h3
  cases hx with
  | non => exact q_when (b := true) (et_test (ev_op (ev_var rfl) ev_c rv_isN)) (fun _ H1 e1 => one (H1 := H) e1 ev_c ev_c) fun hb => nomatch hb
  | bl b =>
    refine q_when (b := false) (et_test (ev_op (ev_var rfl) ev_c rv_isN)) (fun hb => nomatch hb) fun _ H1 e1 => ?_
    refine q_when (b := decide (V.bl b = V.bl true)) (et_test (ev_op (ev_var rfl) ev_c rv_isT)) (fun hb H2 e2 => one (H1 := H) (e1.trans e2) ev_c ?_) fun hb H2 e2 => ?_
    · rw [V.bl.inj (of_decide_eq_true hb)]
      exact ev_c
    have hf : b = false := by
      cases b with
      | true => exact absurd hb (by decide)
      | false => rfl
    subst hf
    exact q_when (b := true) (et_test (ev_op (ev_var rfl) ev_c rv_isT)) (fun _ H3 e3 => one (H1 := H) ((e1.trans e2).trans e3) ev_c ev_c) fun hb => nomatch hb
  | int i =>
    refine q_when (b := false) (et_test (ev_op (ev_var rfl) ev_c rv_isN)) (fun hb => nomatch hb) fun _ H1 e1 => ?_
    refine q_when (b := false) (et_test (ev_op (ev_var rfl) ev_c rv_isT)) (fun hb => nomatch hb) fun _ H2 e2 => ?_
    refine q_when (b := false) (et_test (ev_op (ev_var rfl) ev_c rv_isT)) (fun hb => nomatch hb) fun _ H3 e3 => ?_
    refine q_when (b := false) (et_B (ev_isiP (ev_var rfl) (.int i) (by show kitB "int" "str" = some false; decide +kernel))) (fun hb => nomatch hb) fun _ H4 e4 => one (H1 := H) (((e1.trans e2).trans e3).trans e4) ev_c (ev_var rfl)
  | str s hs =>
    refine q_when (b := false) (et_test (ev_op (ev_var rfl) ev_c rv_isN)) (fun hb => nomatch hb) fun _ H1 e1 => ?_
    refine q_when (b := false) (et_test (ev_op (ev_var rfl) ev_c rv_isT)) (fun hb => nomatch hb) fun _ H2 e2 => ?_
    refine q_when (b := false) (et_test (ev_op (ev_var rfl) ev_c rv_isT)) (fun hb => nomatch hb) fun _ H3 e3 => ?_
    refine q_when (b := true) (et_B (ev_isiP (ev_var rfl) (.str s) (by show kitB "str" "str" = some true; decide +kernel))) (fun _ H4 e4 => one (H1 := H) (((e1.trans e2).trans e3).trans e4) ev_c (ev_var rfl)) fun hb => nomatch hb
end

/-! ### the program's calendar -/
def dayV (y m d : Int) : V := if isD y m d then .int (dayN y m d) else .non
def tri (t : Int × Int × Int) : List V := [.int t.1, .int t.2.1, .int t.2.2]
def sp__is_leap (K : PySem.W.Frag) : Sp := fun vs H Q _ => ∃ y : Int, vs = [.int y] ∧ ∀ H', Ex H H' → Q (.bl (leap y)) H'
def sp_month_length (K : PySem.W.Frag) : Sp := fun vs H Q _ => ∃ y m : Int, vs = [.int y, .int m] ∧ (1 ≤ m ∧ m ≤ 12) ∧ ∀ H', Ex H H' → Q (.int (mlen y m)) H'
def sp_day_of (K : PySem.W.Frag) : Sp := fun vs H Q _ => ∃ y m d : Int, vs = [.int y, .int m, .int d] ∧ ∀ H', Ex H H' → Q (dayV y m d) H'
def sp_date_of (K : PySem.W.Frag) : Sp := fun vs H Q _ => ∃ d : Int, vs = [.int d] ∧ (-719162 ≤ d ∧ d ≤ 2932896) ∧ ∀ p H', H p = none → Ex H H' → H' p = some (.tup (tri (dt d))) → Q (.ref p) H'
section
variable {P : Program} {w : World} {K : PySem.W.Frag} {mg : Str → Option Value} {base : Heap}
section
variable {σ : L2.St} {H : Hp} {ta tb tc : TE} {E : XK} {y m d : Int}
theorem ec_leap (ha : Ev ta σ H (.int y)) : Ev (tCall (sp__is_leap K) [] E (tCons ta tNil)) σ H (.bl (leap y)) := ev_call (ea_cons ha ea_nil) fun H1 e Q q E => ⟨y, rfl, q⟩
theorem ec_mlen (ha : Ev ta σ H (.int y)) (hb : Ev tb σ H (.int m)) (h : 1 ≤ m ∧ m ≤ 12) : Ev (tCall (sp_month_length K) [] E (tCons ta (tCons tb tNil))) σ H (.int (mlen y m)) := ev_call (ea_cons ha (ea_cons hb ea_nil)) fun H1 e Q q E => ⟨y, m, rfl, h, q⟩
theorem ec_day (ha : Ev ta σ H (.int y)) (hb : Ev tb σ H (.int m)) (hc : Ev tc σ H (.int d)) : Ev (tCall (sp_day_of K) [] E (tCons ta (tCons tb (tCons tc tNil)))) σ H (dayV y m d) := ev_call (ea_cons ha (ea_cons hb (ea_cons hc ea_nil))) fun H1 e Q q E => ⟨y, m, d, rfl, q⟩
theorem ec_date (ha : Ev ta σ H (.int d)) (h : -719162 ≤ d ∧ d ≤ 2932896) : EvU (tCall (sp_date_of K) [] E (tCons ta tNil)) σ H (tri (dt d)) := eu_call (ea_cons ha ea_nil) fun H1 e Q q E => ⟨d, rfl, h, q⟩
end
theorem ok__is_leap (D : Dn K mg "_is_leap" s__is_leap ["year"]) :
    C8.Cal P w K mg base 1 "_is_leap" (sp__is_leap K) [] := by
  refine cal_of D sc__is_leap (fun vs H Q E h => ?_) (fun f cdv A outer s H vs Q E hr h => ?_)
  · obtain ⟨_, rfl, _⟩ := h
    rfl
  refine ⟨_, (pss_one (ps_ret (pe_and (pe_cmpR op_eq (pe_op op_mod (pv 0) pe_int) pe_int (nomark _)) (pe_one (pe_or (pe_cmpR op_ne (pe_op op_mod (pv 0) pe_int) pe_int (nomark _)) (pe_one (pe_cmpR op_eq (pe_op op_mod (pv 0) pe_int) pe_int (nomark _)))))))), ?_⟩
  obtain ⟨y, rfl, q⟩ := h
  refine s_ret (v := .bl (leap y)) ?_ fun H2 e2 => q _ e2
  refine ev_is (v := .bl (decide (V.int (y % 4) = V.int 0) && ((!decide (V.int (y % 100) = V.int 0)) || decide (V.int (y % 400) = V.int 0)))) (by walk_at "ev") ?_
  unfold leap
  simp only [V.int.injEq, decide_not, ne_eq]
theorem ok_month_length (D : Dn K mg "month_length" s_month_length ["year", "month"]) (c__is_leap : C8.Cal P w K mg base 1 "_is_leap" (sp__is_leap K) []) {p__MONTHS : Addr} (g__MONTHS : ∃ u, mg "_MONTHS" = some u ∧ RelV (.ref p__MONTHS) u) (h__MONTHS : ∀ H : Hp, SqT K H p__MONTHS (monthsL.map V.int)) :
    C8.Cal P w K mg base 2 "month_length" (sp_month_length K) [] := by
  refine cal_of D sc_month_length (fun vs H Q E h => ?_) (fun f cdv A outer s H vs Q E hr h => ?_)
  · obtain ⟨_, _, rfl, _⟩ := h
    rfl
  refine ⟨_, (pss_cons (ps_if (PW.pt (pw_and (pt_cmpR op_eq (pv 1) pe_int (nomark _)) (pw_and1 (pt_val (C8.pe_c c__is_leap hr (by decide) (by rfl) (pa_cons (pv 0) pa_nil))))))
      (pss_one (ps_ret pe_int))
      pss_nil)
    (pss_one (ps_ret (pe_ix ix_tup (C8.pe_gc rfl g__MONTHS) (pe_op op_sub (pv 1) pe_int) (fun _ _ => rfl))))), ?_⟩
  obtain ⟨y, m, rfl, hm, q⟩ := h
  refine q_when (b := decide (V.int m = V.int 2) && leap y) (et_and (by walk_at "et") fun _ => et_B (ec_leap (ev_var rfl))) (fun hb H1 e1 => s_ret (v := .int (mlen y m)) ?_ fun H2 e2 => q _ (e1.trans e2)) fun hb H1 e1 => s_ret (v := .int (mlen y m)) ?_ fun H2 e2 => q _ (e1.trans e2)
  · refine ev_is ev_c ?_
    rw [Bool.and_eq_true, decide_eq_true_eq] at hb
    unfold mlen
    rw [if_pos ⟨V.int.inj hb.1, hb.2⟩]
  · have nb : ¬ (m = 2 ∧ leap y = true) := fun z => by
      rw [z.2, decide_eq_true (by rw [z.1])] at hb
      cases hb
    obtain ⟨u, g1, g2⟩ := g__MONTHS
    refine ev_op ev_c (ev_op (ev_var rfl) ev_c rv_I0) (rv_ixT (h__MONTHS H1) ?_)
    have e : m - 1 = (((m - 1).toNat : Nat) : Int) := by omega
    unfold mlen
    rw [if_neg nb, e]
    refine atI_nat ?_
    rw [List.getElem?_map, Int.toNat_natCast]
    have hl : (m - 1).toNat < monthsL.length := by show _ < 12; omega
    rw [List.getElem?_eq_getElem hl, List.getD_eq_getElem?_getD, List.getElem?_eq_getElem hl]
    rfl
theorem ok_day_of (D : Dn K mg "day_of" s_day_of ["year", "month", "date"]) (c_month_length : C8.Cal P w K mg base 2 "month_length" (sp_month_length K) []) (z_range : mg "range" = none) (g_FIRST_DAY : ∃ u, mg "FIRST_DAY" = some u ∧ RelV (.int (-719162)) u) (g__DAYS_OF_YEAR : ∃ u, mg "_DAYS_OF_YEAR" = some u ∧ RelV (.int (365)) u) (g__LAST_YEAR : ∃ u, mg "_LAST_YEAR" = some u ∧ RelV (.int (9999)) u) :
    C8.Cal P w K mg base 3 "day_of" (sp_day_of K) [] := by
  refine cal_of D sc_day_of (fun vs H Q E h => ?_) (fun f cdv A outer s H vs Q E hr h => ?_)
  · obtain ⟨_, _, _, rfl, _⟩ := h
    rfl
  refine ⟨_, (pss_cons (ps_if (pt_not (PW.pt (pw_and (pt_chain op_le op_le pe_int (pv 0) (C8.pe_gc rfl g__LAST_YEAR)) (pw_and1 (pt_chain op_le op_le pe_int (pv 1) pe_int)))))
      (pss_one (ps_ret pe_non))
      pss_nil)
    (pss_cons (ps_if (pt_not (pt_chain op_le op_le pe_int (pv 2) (C8.pe_c c_month_length hr (by decide) (by rfl) (pa_cons (pv 0) (pa_cons (pv 1) pa_nil)))))
      (pss_one (ps_ret pe_non))
      pss_nil)
    (pss_cons (ps_set (i := 3) sc_day_of.nd rfl (.inl rfl) (pe_op op_sub (pv 0) pe_int))
    (pss_cons (ps_set (i := 4) sc_day_of.nd rfl (.inl rfl) (pe_op op_add (pe_op op_sub (pe_op op_add (pe_op op_mul (C8.pe_gc rfl g__DAYS_OF_YEAR) (pv 3)) (pe_op op_fdiv (pv 3) pe_int)) (pe_op op_fdiv (pv 3) pe_int)) (pe_op op_fdiv (pv 3) pe_int)))
    (pss_cons (ps_for PassesOwn.never rfl (pi_range2 rfl z_range (pa_cons pe_int (pa_cons (pv 1) pa_nil))) (pg_name (i := 5) sc_day_of.nd rfl (.inl rfl))
      (pss_one (ps_aug (i := 4) sc_day_of.nd rfl (.inl rfl) (C8.pe_c c_month_length hr (by decide) (by rfl) (pa_cons (pv 0) (pa_cons (pv 5) pa_nil))) ip_add)))
    (pss_one (ps_ret (pe_op op_sub (pe_op op_add (pe_op op_add (C8.pe_gc rfl g_FIRST_DAY) (pv 4)) (pv 2)) pe_int)))))))), ?_⟩
  obtain ⟨y, m, d, rfl, q⟩ := h
  refine q_when (b := !((decide (1 ≤ y) && decide (y ≤ 9999)) && (decide (1 ≤ m) && decide (m ≤ 12)))) ?_ (fun hb H1 e1 => s_ret (v := dayV y m d) ?_ fun H2 e2 => q _ (e1.trans e2)) fun hb H1 e1 => ?_
  · exact et_not (et_and (et_test (ev_chain ev_c (ev_var rfl) rv_I0 (fun _ => ev_c) (fun _ => rv_I0))) fun _ => et_test (ev_chain ev_c (ev_var rfl) rv_I0 (fun _ => ev_c) (fun _ => rv_I0)))
  · refine ev_is ev_c ?_
    unfold dayV
    rw [if_neg]
    intro z
    obtain ⟨⟨a1, a2⟩, ⟨a3, a4⟩, _⟩ := z
    rw [decide_eq_true a1, decide_eq_true a2, decide_eq_true a3, decide_eq_true a4] at hb
    cases hb
  rw [Bool.not_eq_false', Bool.and_eq_true, Bool.and_eq_true, Bool.and_eq_true, decide_eq_true_eq, decide_eq_true_eq, decide_eq_true_eq, decide_eq_true_eq] at hb
  obtain ⟨⟨y1, y2⟩, m1, m2⟩ := hb
  refine q_when (b := !(decide (1 ≤ d) && decide (d ≤ mlen y m))) ?_ (fun hb H2 e2 => s_ret (v := dayV y m d) ?_ fun H3 e3 => q _ ((e1.trans e2).trans e3)) fun hb H2 e2 => ?_
  · exact et_not (et_test (ev_chain ev_c (ev_var rfl) rv_I0 (fun _ => ec_mlen (ev_var rfl) (ev_var rfl) ⟨m1, m2⟩) (fun _ => rv_I0)))
  · refine ev_is ev_c ?_
    unfold dayV
    rw [if_neg]
    intro z
    obtain ⟨_, _, ⟨a1, a2⟩⟩ := z
    rw [decide_eq_true a1, decide_eq_true a2] at hb
    cases hb
  rw [Bool.not_eq_false', Bool.and_eq_true, decide_eq_true_eq, decide_eq_true_eq] at hb
  have hD : isD y m d := ⟨⟨y1, y2⟩, ⟨m1, m2⟩, hb⟩
  refine q_asg (v := .int (y - 1)) (by walk_at "ev") fun H3 e3 => ?_
  refine q_asg (v := .int (yst y)) ?_ fun H4 e4 => ?_
  · exact ev_op (ev_op (ev_op (ev_op ev_c (ev_var rfl) (rv_I (.inl ⟨by decide, by decide⟩))) (ev_op (ev_var rfl) ev_c (rv_I ⟨by decide, by decide⟩)) rv_I0) (ev_op (ev_var rfl) ev_c (rv_I ⟨by decide, by decide⟩)) rv_I0) (ev_op (ev_var rfl) ev_c (rv_I ⟨by decide, by decide⟩)) rv_I0
  have x4 := ((e1.trans e2).trans e3).trans e4
  refine q_forR2 (lo := 1) (n := m) (ea_cons ev_c (ea_cons (ev_var rfl) ea_nil)) ⟨by omega, by omega, by omega, by omega⟩
    (fun i σ H' => ∃ y5, σ = [some (.int y), some (.int m), some (.int d), some (.int (y - 1)), some (.int (yst y + cumN y i)), y5] ∧ Ex H H')
    (fun H5 e5 => ⟨none, by show _ = [_, _, _, _, some (V.int (yst y + 0)), _]; rw [Int.add_zero]; rfl, x4.trans e5⟩) (fun i σ H5 hi hw => ?_) (fun σ H5 hw => ?_)
  · obtain ⟨y5, rfl, e5⟩ := hw
    refine s_aug (a := yst y + cumN y i) (b := mlen y (1 + (i : Int))) rfl (ec_mlen (ev_var rfl) (ev_var rfl) (by omega)) fun H6 e6 => ⟨some (.int (1 + (i : Int))), ?_, e5.trans e6⟩
    show _ = [_, _, _, _, some (V.int (yst y + (cumN y i + mlen y ((i : Int) + 1)))), _]
    rw [← Int.add_assoc, Int.add_comm (i : Int) 1]
    rfl
  · obtain ⟨y5, rfl, e5⟩ := hw
    refine s_ret (v := dayV y m d) ?_ fun H6 e6 => q _ (e5.trans e6)
    refine ev_is (v := .int (dayN y m d)) ?_ (by unfold dayV; rw [if_pos hD])
    exact ev_op (ev_op (ev_op ev_c (ev_var rfl) rv_I0) (ev_var rfl) rv_I0) ev_c rv_I0
theorem ok_date_of (D : Dn K mg "date_of" s_date_of ["day"]) (c_month_length : C8.Cal P w K mg base 2 "month_length" (sp_month_length K) []) (z_divmod : mg "divmod" = none) (z_min : mg "min" = none) (g_FIRST_DAY : ∃ u, mg "FIRST_DAY" = some u ∧ RelV (.int (-719162)) u) (g__DAYS_OF_100_YEARS : ∃ u, mg "_DAYS_OF_100_YEARS" = some u ∧ RelV (.int (36524)) u) (g__DAYS_OF_400_YEARS : ∃ u, mg "_DAYS_OF_400_YEARS" = some u ∧ RelV (.int (146097)) u) (g__DAYS_OF_4_YEARS : ∃ u, mg "_DAYS_OF_4_YEARS" = some u ∧ RelV (.int (1461)) u) (g__DAYS_OF_YEAR : ∃ u, mg "_DAYS_OF_YEAR" = some u ∧ RelV (.int (365)) u) :
    C8.Cal P w K mg base 3 "date_of" (sp_date_of K) [] := by
  refine cal_of D sc_date_of (fun vs H Q E h => ?_) (fun f cdv A outer s H vs Q E hr h => ?_)
  · obtain ⟨_, rfl, _⟩ := h
    rfl
  refine ⟨_, (pss_cons (ps_asg (pe_callB call_divmod (by rfl) z_divmod (by decide +kernel) (pa_cons (pe_op op_sub (pv 0) (C8.pe_gc rfl g_FIRST_DAY)) (pa_cons (C8.pe_gc rfl g__DAYS_OF_400_YEARS) pa_nil))) (pg_tup rfl (pgs_cons (pg_name (i := 1) sc_date_of.nd rfl (.inl rfl)) (pgs_cons (pg_name (i := 2) sc_date_of.nd rfl (.inl rfl)) pgs_nil))))
    (pss_cons (ps_set (i := 3) sc_date_of.nd rfl (.inl rfl) (pe_callB (call_min2 rfl) (by rfl) z_min (by decide +kernel) (pa_cons (pe_op op_fdiv (pv 2) (C8.pe_gc rfl g__DAYS_OF_100_YEARS)) (pa_cons pe_int pa_nil))))
    (pss_cons (ps_aug (i := 2) sc_date_of.nd rfl (.inl rfl) (pe_op op_mul (pv 3) (C8.pe_gc rfl g__DAYS_OF_100_YEARS)) ip_sub)
    (pss_cons (ps_asg (pe_callB call_divmod (by rfl) z_divmod (by decide +kernel) (pa_cons (pv 2) (pa_cons (C8.pe_gc rfl g__DAYS_OF_4_YEARS) pa_nil))) (pg_tup rfl (pgs_cons (pg_name (i := 4) sc_date_of.nd rfl (.inl rfl)) (pgs_cons (pg_name (i := 2) sc_date_of.nd rfl (.inl rfl)) pgs_nil))))
    (pss_cons (ps_set (i := 5) sc_date_of.nd rfl (.inl rfl) (pe_callB (call_min2 rfl) (by rfl) z_min (by decide +kernel) (pa_cons (pe_op op_fdiv (pv 2) (C8.pe_gc rfl g__DAYS_OF_YEAR)) (pa_cons pe_int pa_nil))))
    (pss_cons (ps_aug (i := 2) sc_date_of.nd rfl (.inl rfl) (pe_op op_mul (pv 5) (C8.pe_gc rfl g__DAYS_OF_YEAR)) ip_sub)
    (pss_cons (ps_set (i := 6) sc_date_of.nd rfl (.inl rfl) (pe_op op_add (pe_op op_add (pe_op op_add (pe_op op_add (pe_op op_mul pe_int (pv 1)) (pe_op op_mul pe_int (pv 3))) (pe_op op_mul pe_int (pv 4))) (pv 5)) pe_int))
    (pss_cons (ps_set (i := 7) sc_date_of.nd rfl (.inl rfl) pe_int)
    (pss_cons (ps_while PassesOwn.never (pt_cmpR op_ge (pv 2) (C8.pe_c c_month_length hr (by decide) (by rfl) (pa_cons (pv 6) (pa_cons (pv 7) pa_nil))) (nomark _))
      (pss_cons (ps_aug (i := 2) sc_date_of.nd rfl (.inl rfl) (C8.pe_c c_month_length hr (by decide) (by rfl) (pa_cons (pv 6) (pa_cons (pv 7) pa_nil))) ip_sub)
    (pss_one (ps_aug (i := 7) sc_date_of.nd rfl (.inl rfl) pe_int ip_add))))
    (pss_one (ps_ret (pe_tup (pa_cons (pv 6) (pa_cons (pv 7) (pa_cons (pe_op op_add (pv 2) pe_int) pa_nil))))))))))))))), ?_⟩
  obtain ⟨d, rfl, hd, q⟩ := h
  refine q_asgG (eu_divmod (i := d - -719162) (j := 146097) (ev_op (ev_var rfl) ev_c rv_I0) ev_c ⟨by decide, by decide⟩) fun p H1 hp e1 h1 => gt2 (st_of h1) ?_
  refine q_asg (v := .int (if (3 : Int) < (d - -719162) % 146097 / 36524 then 3 else (d - -719162) % 146097 / 36524)) (ev_min2 (ev_op (ev_var rfl) ev_c (rv_I ⟨by decide, by decide⟩)) ev_c) fun H2 e2 => ?_
  generalize hc : (if (3 : Int) < (d - -719162) % 146097 / 36524 then (3 : Int) else (d - -719162) % 146097 / 36524) = c
  have c0 : 0 ≤ c ∧ c ≤ 3 := by rw [← hc]; split <;> omega
  refine q_aug (a := (d - -719162) % 146097) (b := c * 36524) rfl (ev_op (ev_var rfl) ev_c (rv_I (.inr ⟨by decide, by decide⟩))) fun H3 e3 => ?_
  refine q_asgG (eu_divmod (i := (d - -719162) % 146097 - c * 36524) (j := 1461) (ev_var rfl) ev_c ⟨by decide, by decide⟩) fun p2 H4 hp2 e4 h4 => gt2 (st_of h4) ?_
  generalize hf : ((d - -719162) % 146097 - c * 36524) / 1461 = f
  generalize hr2 : ((d - -719162) % 146097 - c * 36524) % 1461 = r2
  refine q_asg (v := .int (if (3 : Int) < r2 / 365 then 3 else r2 / 365)) (ev_min2 (ev_op (ev_var rfl) ev_c (rv_I ⟨by decide, by decide⟩)) ev_c) fun H5 e5 => ?_
  generalize hg : (if (3 : Int) < r2 / 365 then (3 : Int) else r2 / 365) = g
  have g0 : 0 ≤ g ∧ g ≤ 3 := by rw [← hg]; split <;> omega
  refine q_aug (a := r2) (b := g * 365) rfl (ev_op (ev_var rfl) ev_c (rv_I (.inr ⟨by decide, by decide⟩))) fun H6 e6 => ?_
  refine q_asg (v := .int (400 * ((d - -719162) / 146097) + 100 * c + 4 * f + g + 1)) (by walk_at "ev") fun H7 e7 => ?_
  have hp := parts (D := d - -719162) (c := (d - -719162) / 146097) (h := c) (f := f) (g := g) (r := r2 - g * 365) (by omega) (by omega) c0
    (by rw [← hf]; rw [← hc]; split <;> omega) g0 (by rw [← hg]; split <;> omega) (by rw [← hc] at *; split at hc <;> (rw [← hg]; split <;> omega))
  generalize hy : 400 * ((d - -719162) / 146097) + 100 * c + 4 * f + g + 1 = y at *
  generalize hr3 : r2 - g * 365 = r at *
  obtain ⟨p1, p2', p3, p4⟩ := hp
  have r0 : 0 ≤ r := by rw [← hr3, ← hg]; split <;> omega
  have y9 : y ≤ 9999 := by
    refine Int.not_lt.mp fun z => ?_
    have := yst_mono (show 10000 ≤ y from z)
    rw [show yst 10000 = 3652059 by decide] at this
    omega
  refine q_asg ev_c fun H8 e8 => ?_
  have x8 := ((((((e1.trans e2).trans e3).trans e4).trans e5).trans e6).trans e7).trans e8
  refine q_while (fun n σ H' => ∃ k : Nat, n = 12 - k ∧ k ≤ 11 ∧ cumN y k ≤ r ∧ σ = [some (.int d), some (.int ((d - -719162) / 146097)), some (.int (r - cumN y k)), some (.int c), some (.int f), some (.int g), some (.int y), some (.int ((k : Int) + 1))] ∧ Ex H H') 12
    ⟨0, rfl, by decide, r0, by show _ = [_, _, some (V.int (r - 0)), _, _, _, _, _]; rw [Int.sub_zero]; rfl, x8⟩ fun n σ H' hw => ?_
  obtain ⟨k, rfl, hk, hck, rfl, e9⟩ := hw
  refine ⟨decide (mlen y ((k : Int) + 1) ≤ r - cumN y k), et_test (ev_op (ev_var rfl) (ec_mlen (ev_var rfl) (ev_var rfl) (by omega)) rv_I0), fun hb H1' e1' => ?_, fun hb H1' e1' => ?_⟩
  · have hb' := of_decide_eq_true hb
    have hc1 : cumN y (k + 1) ≤ r := by show cumN y k + mlen y ((k : Int) + 1) ≤ r; omega
    have hk1 : k + 1 ≤ 11 := by
      rcases Nat.lt_or_ge k 11 with z | z
      · omega
      · have ek : k = 11 := by omega
        subst ek
        have z2 : cumN y 12 ≤ r := hc1
        omega
    refine ⟨_, fun σ2 H2' hN => hN, ?_⟩
    refine q_aug (a := r - cumN y k) (b := mlen y ((k : Int) + 1)) rfl (ec_mlen (ev_var rfl) (ev_var rfl) (by omega)) fun H2' e2' => ?_
    refine s_aug (a := (k : Int) + 1) (b := 1) rfl ev_c fun H3' e3' => ⟨12 - (k + 1), by omega, k + 1, rfl, hk1, hc1, ?_, ((e9.trans e1').trans e2').trans e3'⟩
    show _ = [_, _, some (V.int (r - (cumN y k + mlen y ((k : Int) + 1)))), _, _, _, _, some (V.int (((k + 1 : Nat) : Int) + 1))]
    rw [← Int.sub_sub, Int.natCast_add]
    rfl
  · have hb' := of_decide_eq_false hb
    have hD : isD y ((k : Int) + 1) (r - cumN y k + 1) := ⟨⟨p3, y9⟩, ⟨by omega, by omega⟩, by omega, by omega⟩
    have he : dayN y ((k : Int) + 1) (r - cumN y k + 1) = d := by
      unfold dayN
      rw [show ((k : Int) + 1 - 1).toNat = k by omega]
      omega
    refine s_retU (xs := tri (dt d)) ?_ fun p H2' hp' e2' h2' => q p H2' ?_ ((e9.trans e1').trans e2') h2'
    · rw [dt_eq hD he]
      exact eu_tup (ea_cons (ev_var rfl) (ea_cons (ev_var rfl) (ea_cons (ev_op (ev_var rfl) ev_c rv_I0) ea_nil))) (by show 3 ≤ 100000; decide)
    · exact fresh_back (e9.trans e1') hp'
end

/-! ### the mathematics -/
def ab (i : Int) : Int := if i < 0 then -i else i
def rnd (n d : Int) : Int := if decide (V.bl (decide (n < 0)) = V.bl (decide (d < 0))) = true then (2 * ab n + ab d) / (2 * ab d) else -((2 * ab n + ab d) / (2 * ab d))
def quo (n d : Int) : Int := if decide (V.bl (decide (n < 0)) = V.bl (decide (d < 0))) = true then ab n / ab d else -(ab n / ab d)
theorem ab_nn (i : Int) : 0 ≤ ab i := by unfold ab; split <;> omega
theorem ab_pos {d : Int} (h : d ≠ 0) : 0 < ab d := by unfold ab; split <;> omega
theorem ab_or (i : Int) : (0 ≤ i ∧ ab i = i) ∨ (i < 0 ∧ ab i = -i) := by unfold ab; split <;> omega
theorem ab_neg (i : Int) : ab (-i) = ab i := by unfold ab; split <;> split <;> omega
/-- the off of a number from a multiple, by sizes -/
theorem off_eq {n d s t : Int} (h : t = if decide (V.bl (decide (n < 0)) = V.bl (decide (d < 0))) = true then s else -s) : (n - t * d = ab n - s * ab d ∧ 0 ≤ n) ∨ (n - t * d = -(ab n - s * ab d) ∧ n < 0) := by
  rw [dec_bl] at h
  unfold ab
  by_cases hn : n < 0 <;> by_cases hd : d < 0
  · rw [decide_eq_true hn, decide_eq_true hd, if_pos (beq_self_eq_true _)] at h
    rw [if_pos hn, if_pos hd, h, Int.mul_neg]
    exact .inr ⟨by omega, hn⟩
  · rw [decide_eq_true hn, decide_eq_false hd, if_neg (by decide)] at h
    rw [if_pos hn, if_neg hd, h, Int.neg_mul]
    exact .inr ⟨by omega, hn⟩
  · rw [decide_eq_false hn, decide_eq_true hd, if_neg (by decide)] at h
    rw [if_neg hn, if_pos hd, h, Int.neg_mul, Int.mul_neg]
    exact .inl ⟨by omega, by omega⟩
  · rw [decide_eq_false hn, decide_eq_false hd, if_pos (beq_self_eq_true _)] at h
    rw [if_neg hn, if_neg hd, h]
    exact .inl ⟨by omega, by omega⟩
theorem rnd_size {n d : Int} (h : d ≠ 0) : (2 * ab n + ab d) / (2 * ab d) * ab d * 2 ≤ 2 * ab n + ab d ∧ 2 * ab n + ab d < (2 * ab n + ab d) / (2 * ab d) * ab d * 2 + 2 * ab d ∧ 0 ≤ (2 * ab n + ab d) / (2 * ab d) := by
  have hd := ab_pos h
  have hn := ab_nn n
  have e := Int.mul_ediv_add_emod (2 * ab n + ab d) (2 * ab d)
  have h1 := Int.emod_nonneg (2 * ab n + ab d) (show 2 * ab d ≠ 0 by omega)
  have h2 := Int.emod_lt_of_pos (2 * ab n + ab d) (show 0 < 2 * ab d by omega)
  have e2 : 2 * ab d * ((2 * ab n + ab d) / (2 * ab d)) = (2 * ab n + ab d) / (2 * ab d) * ab d * 2 := by
    rw [Int.mul_comm (2 * ab d), Int.mul_comm 2 (ab d), ← Int.mul_assoc]
  have h3 : 0 ≤ (2 * ab n + ab d) / (2 * ab d) := Int.ediv_nonneg (by omega) (by omega)
  omega
theorem ab_ite {c : Prop} [Decidable c] {s : Int} (h : 0 ≤ s) : ab (if c then s else -s) = s := by
  unfold ab
  split <;> split <;> omega
/-- the nearest one: what the law asks of it -/
theorem rnd_near {n d : Int} (h : d ≠ 0) : ¬ 2 * ab (n - rnd n d * d) > ab d ∧ (2 * ab (n - rnd n d * d) = ab d → ab n < ab (rnd n d) * ab d) := by
  obtain ⟨h1, h2, h3⟩ := rnd_size (n := n) h
  have e1 : ab (rnd n d) = (2 * ab n + ab d) / (2 * ab d) := ab_ite h3
  rw [e1]
  have ho := off_eq (n := n) (d := d) (s := (2 * ab n + ab d) / (2 * ab d)) (t := rnd n d) rfl
  have e2 : ab (n - rnd n d * d) = ab (ab n - (2 * ab n + ab d) / (2 * ab d) * ab d) := by
    rcases ho with ⟨e, _⟩ | ⟨e, _⟩
    · rw [e]
    · rw [e, ab_neg]
  rw [e2]
  generalize (2 * ab n + ab d) / (2 * ab d) * ab d = m at *
  have hx := ab_or (ab n - m)
  have := ab_nn (ab n - m)
  constructor <;> omega
theorem quo_ok {n d : Int} (h : d ≠ 0) : ¬ ab (n - quo n d * d) ≥ ab d ∧ (n - quo n d * d = 0 ∨ decide (n - quo n d * d < 0) = decide (n < 0)) := by
  have hd := ab_pos h
  have hn := ab_nn n
  have e := Int.mul_ediv_add_emod (ab n) (ab d)
  have h1 := Int.emod_nonneg (ab n) (show ab d ≠ 0 by omega)
  have h2 := Int.emod_lt_of_pos (ab n) hd
  have ho := off_eq (n := n) (d := d) (s := ab n / ab d) (t := quo n d) rfl
  rw [Int.mul_comm] at e
  generalize ab n / ab d * ab d = m at *
  generalize n - quo n d * d = z at *
  rcases ho with ⟨e1, e3⟩ | ⟨e1, e3⟩
  · refine ⟨?_, ?_⟩
    · have : ab z = z := by unfold ab; split <;> omega
      omega
    · rw [decide_eq_false (show ¬ z < 0 by omega), decide_eq_false (show ¬ n < 0 by omega)]
      exact .inr rfl
  · refine ⟨?_, ?_⟩
    · have : ab z = -z := by unfold ab; split <;> omega
      omega
    · by_cases hz : z = 0
      · exact .inl hz
      · rw [decide_eq_true (show z < 0 by omega), decide_eq_true e3]
        exact .inr rfl
def big (n d : Int) : Prop := -(2 ^ 112) < n ∧ n < 2 ^ 112 ∧ -(2 ^ 112) < d ∧ d < 2 ^ 112 ∧ d ≠ 0
theorem pow112 {n : Int} (h1 : -(2 ^ 112) < n) (h2 : n < 2 ^ 112) : n.natAbs < 2 ^ 112 := by omega
theorem near_bound {n d : Int} (h : big n d) : (rnd n d).natAbs < 2 ^ 115 := by
  obtain ⟨h1, h2, h3⟩ := rnd_size (n := n) h.2.2.2.2
  have hd := ab_pos h.2.2.2.2
  have : (2 * ab n + ab d) / (2 * ab d) ≤ 2 * ab n + ab d := by
    have := Int.ediv_le_self (2 * ab d) (show 0 ≤ 2 * ab n + ab d by have := ab_nn n; omega)
    omega
  have a1 : ab n < 2 ^ 112 := by unfold ab; have := h.1; have := h.2.1; split <;> omega
  have a2 : ab d < 2 ^ 112 := by unfold ab; have := h.2.2.1; have := h.2.2.2.1; split <;> omega
  unfold rnd
  split <;> omega
theorem quo_bound {n d : Int} (h : big n d) : (quo n d).natAbs < 2 ^ 115 := by
  have hd := ab_pos h.2.2.2.2
  have h0 : 0 ≤ ab n / ab d := Int.ediv_nonneg (ab_nn n) (ab_nn d)
  have : ab n / ab d ≤ ab n := Int.ediv_le_self _ (ab_nn n)
  have a1 : ab n < 2 ^ 112 := by unfold ab; have := h.1; have := h.2.1; split <;> omega
  unfold quo
  split <;> omega
def sp_rounded (K : PySem.W.Frag) : Sp := fun vs H Q _ => ∃ n d : Int, vs = [.int n, .int d] ∧ big n d ∧ ∀ H', Ex H H' → Q (.int (rnd n d)) H'
def sp_quotient (K : PySem.W.Frag) : Sp := fun vs H Q _ => ∃ n d : Int, vs = [.int n, .int d] ∧ big n d ∧ ∀ H', Ex H H' → Q (.int (quo n d)) H'
theorem wdiv {n d : Int} (h0 : 0 < d) (h : d < 2 ^ 120) : CDivW n d := wide_div (b := 120) h0 (by omega) (by decide) (by decide)
theorem wmul {n d : Int} (h0 : n.natAbs < 2 ^ 115) (h : d.natAbs < 2 ^ 115) : CMulW n d := wide_mul h0 h (by decide) (by decide) (by decide)
section
variable {P : Program} {w : World} {K : PySem.W.Frag} {mg : Str → Option Value} {base : Heap}
theorem ok_rounded (D : Dn K mg "rounded" s_rounded ["number", "divisor"]) (z_abs : mg "abs" = none) :
    C8.Cal P w K mg base 1 "rounded" (sp_rounded K) [] := by
  refine cal_of D sc_rounded (fun vs H Q E h => ?_) (fun f cdv A outer s H vs Q E hr h => ?_)
  · obtain ⟨_, _, rfl, _⟩ := h
    rfl
  refine ⟨_, (pss_cons (ps_set (i := 2) sc_rounded.nd rfl (.inl rfl) (pe_op op_fdivW (pe_op op_add (pe_op op_mul pe_int (pe_callB call_abs (by rfl) z_abs (by decide +kernel) (pa_cons (pv 0) pa_nil))) (pe_callB call_abs (by rfl) z_abs (by decide +kernel) (pa_cons (pv 1) pa_nil))) (pe_op op_mul pe_int (pe_callB call_abs (by rfl) z_abs (by decide +kernel) (pa_cons (pv 1) pa_nil)))))
    (pss_one (ps_ret (pe_ifExp (pt_cmpR op_eq (pe_cmpR op_lt (pv 0) pe_int (nomark _)) (pe_cmpR op_lt (pv 1) pe_int (nomark _)) (nomark _)) (pv 2) (pe_un un_neg (pv 2)))))), ?_⟩
  obtain ⟨n, d, rfl, hb, q⟩ := h
  have hd := ab_pos hb.2.2.2.2
  have a2 : ab d < 2 ^ 112 := by unfold ab; have := hb.2.2.1; have := hb.2.2.2.1; split <;> omega
  refine q_asg (v := .int ((2 * ab n + ab d) / (2 * ab d))) ?_ fun H1 e1 => ?_
  · exact ev_op (ev_op (ev_op ev_c (ev_abs (ev_var rfl)) (rv_I (.inl ⟨by decide, by decide⟩))) (ev_abs (ev_var rfl)) rv_I0) (ev_op ev_c (ev_abs (ev_var rfl)) (rv_I (.inl ⟨by decide, by decide⟩))) (rv_I (wdiv (by show 0 < 2 * ab d; omega) (by show 2 * ab d < 2 ^ 120; omega)))
  refine s_ret (v := .int (rnd n d)) ?_ fun H2 e2 => q _ (e1.trans e2)
  refine ev_if (b := decide (V.bl (decide (n < 0)) = V.bl (decide (d < 0)))) (by walk_at "et") (fun h => ?_) (fun h => ?_)
  · refine ev_is (ev_var rfl) ?_
    unfold rnd
    rw [if_pos h]
  · refine ev_is (v := .int (-((2 * ab n + ab d) / (2 * ab d)))) (by walk_at "ev") ?_
    unfold rnd
    rw [if_neg (by rw [h]; decide)]
section
variable {σ : L2.St} {H : Hp} {ta tb : TE} {E : XK} {n d : Int}
theorem ec_rounded (hb : big n d) (ha : Ev ta σ H (.int n)) (hb : Ev tb σ H (.int d)) : Ev (tCall (sp_rounded K) [] E (tCons ta (tCons tb tNil))) σ H (.int (rnd n d)) := ev_call (ea_cons ha (ea_cons hb ea_nil)) fun H1 e Q q E => ⟨n, d, rfl, by assumption, q⟩
theorem ec_quotient (hb : big n d) (ha : Ev ta σ H (.int n)) (hb : Ev tb σ H (.int d)) : Ev (tCall (sp_quotient K) [] E (tCons ta (tCons tb tNil))) σ H (.int (quo n d)) := ev_call (ea_cons ha (ea_cons hb ea_nil)) fun H1 e Q q E => ⟨n, d, rfl, by assumption, q⟩
end
end

namespace Dg
/-! ### the mathematics: digits -/
abbrev dval : List Nat → Nat := NumText.digitsVal
def isD (c : Nat) : Bool := decide (48 ≤ c) && decide (c ≤ 57)
def digs (l : List Nat) : Bool := !l.isEmpty && l.all isD
theorem uni_dig : ∀ c : Fin 128, Unicode.isDigit c.1 = isD c.1 := by decide +kernel
theorem all_dig : ∀ l : List Nat, (l.all Unicode.isDigit && l.all fun c => decide (c < 128)) = l.all isD
  | [] => rfl
  | c :: r => by
    have ih := all_dig r
    rw [List.all_cons, List.all_cons, List.all_cons, ← ih]
    by_cases h : c < 128
    · rw [decide_eq_true h, show Unicode.isDigit c = isD c from uni_dig ⟨c, h⟩]
      cases isD c <;> cases r.all Unicode.isDigit <;> simp
    · have : isD c = false := by
        unfold isD
        rw [decide_eq_false (show ¬ c ≤ 57 by omega), Bool.and_false]
      rw [this, decide_eq_false h]
      simp
theorem digs_txt (l : List Nat) : (Txt.isdigit (SX.S l) && Txt.isascii (SX.S l)) = digs l := by
  unfold Txt.isdigit Txt.isascii digs
  rw [SX.S_len, show (SX.S l).cps.all Unicode.isDigit = l.all Unicode.isDigit from List.all_toArray, show ((SX.S l).cps.all fun c => decide (c < 128)) = l.all fun c => decide (c < 128) from List.all_toArray, Bool.and_assoc, all_dig]
  cases l <;> rfl
theorem mem_dig {l : List Nat} (h : l.all isD = true) : NumText.AllDigits l := fun c hc => by
  have := List.all_eq_true.mp h c hc
  unfold isD at this
  rw [Bool.and_eq_true, decide_eq_true_eq, decide_eq_true_eq] at this
  exact this
theorem fold_app (l : List Nat) : ∀ a : Nat, l.foldl (fun acc c => acc * 10 + (c - 48)) a = a * 10 ^ l.length + dval l := by
  induction l with
  | nil => intro a; simp [dval, NumText.digitsVal]
  | cons c r ih =>
    intro a
    show r.foldl _ (a * 10 + (c - 48)) = _ + r.foldl _ (0 * 10 + (c - 48))
    rw [ih, ih, List.length_cons, Nat.pow_succ, Nat.add_mul, Nat.zero_mul, Nat.zero_add, Nat.mul_assoc, Nat.mul_comm 10, Nat.add_assoc]
theorem dval_app (l r : List Nat) : dval (l ++ r) = dval l * 10 ^ r.length + dval r := by
  show (l ++ r).foldl _ 0 = _
  rw [List.foldl_append, fold_app]
  rfl
theorem dval_cons (c : Nat) (r : List Nat) : dval (c :: r) = (c - 48) * 10 ^ r.length + dval r := by
  have := dval_app [c] r
  rw [show dval [c] = c - 48 from by show 0 * 10 + (c - 48) = _; omega] at this
  exact this
theorem dval_lt : ∀ l : List Nat, l.all isD = true → dval l < 10 ^ l.length
  | [], _ => by decide
  | c :: r, h => by
    rw [List.all_cons, Bool.and_eq_true] at h
    have ih := dval_lt r h.2
    have hc := mem_dig (l := [c]) (by rw [List.all_cons, h.1]; rfl) c (List.mem_singleton.mpr rfl)
    rw [dval_cons, List.length_cons, Nat.pow_succ]
    have : (c - 48) * 10 ^ r.length ≤ 9 * 10 ^ r.length := Nat.mul_le_mul_right _ (by omega)
    omega
def noZ (l : List Nat) : List Nat := l.dropWhile (fun c => c == 48)
theorem dval_noZ : ∀ l : List Nat, dval (noZ l) = dval l
  | [] => rfl
  | c :: r => by
    unfold noZ
    rw [List.dropWhile_cons]
    split
    · rename_i h
      rw [show List.dropWhile (fun c => c == 48) r = noZ r from rfl, dval_noZ r, dval_cons, beq_iff_eq.mp h, Nat.sub_self, Nat.zero_mul, Nat.zero_add]
    · rfl
theorem all_noZ : ∀ {l : List Nat}, l.all isD = true → (noZ l).all isD = true
  | [], _ => rfl
  | c :: r, h => by
    unfold noZ
    rw [List.dropWhile_cons]
    split
    · exact all_noZ (by rw [List.all_cons, Bool.and_eq_true] at h; exact h.2)
    · exact h
theorem noZ_len (l : List Nat) : (noZ l).length ≤ l.length := (List.dropWhile_suffix _).length_le
/-- more than sixteen digits behind the zeros: beyond every limit -/
theorem noZ_big {l : List Nat} (h : l.all isD = true) (hl : 16 < (noZ l).length) : 10 ^ 16 ≤ dval l := by
  have ha := all_noZ h
  rw [← dval_noZ]
  have hd : ∀ c r, noZ l = c :: r → ¬ c = 48 := fun c r e hc => by
    have := List.head?_dropWhile_not (fun c => c == 48) l
    rw [show List.dropWhile (fun c => c == 48) l = c :: r from e] at this
    simp [hc] at this
  generalize noZ l = z at *
  cases z with
  | nil => simp at hl
  | cons c r =>
    have hc := mem_dig (l := [c]) (by rw [List.all_cons, Bool.and_eq_true] at ha; rw [List.all_cons, ha.1]; rfl) c (List.mem_singleton.mpr rfl)
    have hn := hd c r rfl
    rw [dval_cons]
    have h1 : 10 ^ 16 ≤ 10 ^ r.length := Nat.pow_le_pow_right (by decide) (by simp at hl; omega)
    have h2 : 1 * 10 ^ r.length ≤ (c - 48) * 10 ^ r.length := Nat.mul_le_mul_right _ (by omega)
    omega
theorem con48 : (SX.S [48]).cps.contains = fun c => c == 48 := by
  funext c
  show (#[48] : Array Nat).contains c = _
  rw [Bool.eq_iff_iff]
  simp
theorem tl_S (l : List Nat) : TL.tl (SX.S l) = l := TL.tl_mk l
theorem lstrip_S (l : List Nat) : Txt.lstripChars (SX.S l) (SX.S [48]) = SX.S (noZ l) := by
  unfold Txt.lstripChars
  rw [PySem.W.stripBy_eq, con48]
  apply TL.ext_tl
  unfold PySem.W.stripped
  simp only [if_true, Bool.false_eq_true, if_false]
  rw [TL.tl_strSub, TL.len_tl, tl_S, tl_S]
  show List.take _ (List.drop (List.takeWhile (fun c => c == 48) l).length l) = _
  have e : List.drop (List.takeWhile (fun c => c == 48) l).length l = noZ l := by
    have h := List.takeWhile_append_dropWhile (p := fun c => c == 48) (l := l)
    conv => lhs; arg 2; rw [← h]
    rw [List.drop_left]
    rfl
  rw [e]
  apply List.take_of_length_le
  have h := congrArg List.length (List.takeWhile_append_dropWhile (p := fun c => c == 48) (l := l))
  rw [List.length_append] at h
  have : (noZ l).length = (List.dropWhile (fun c => c == 48) l).length := rfl
  omega
/-- without zeros at the end -/
def noE (l : List Nat) : List Nat := (noZ l.reverse).reverse
theorem rstrip_S (l : List Nat) : Txt.rstripChars (SX.S l) (SX.S [48]) = SX.S (noE l) := by
  unfold Txt.rstripChars
  rw [PySem.W.stripBy_eq, con48]
  apply TL.ext_tl
  unfold PySem.W.stripped
  simp only [if_true, Bool.false_eq_true, if_false]
  rw [TL.tl_strSub, SX.S_len, tl_S, tl_S]
  show List.take (l.length - (List.takeWhile (fun c => c == 48) (List.drop 0 l).reverse).length - 0) (List.drop 0 l) = _
  rw [List.drop_zero, Nat.sub_zero]
  have h := List.takeWhile_append_dropWhile (p := fun c => c == 48) (l := l.reverse)
  have h2 : l = noE l ++ (List.takeWhile (fun c => c == 48) l.reverse).reverse := by
    have := congrArg List.reverse h
    rw [List.reverse_append, List.reverse_reverse] at this
    exact this.symm
  have h3 := congrArg List.length h2
  rw [List.length_append, List.length_reverse] at h3
  conv => lhs; arg 2; rw [h2]
  rw [show l.length - (List.takeWhile (fun c => c == 48) l.reverse).length = (noE l).length by omega, List.take_left]
theorem starts_S (l : List Nat) : Txt.startswith (SX.S l) (SX.S [45]) = decide (l.head? = some 45) := by
  cases l with
  | nil => rfl
  | cons c r =>
    unfold Txt.startswith
    rw [SX.S_len, SX.S_len, decide_eq_true (by simp), Bool.true_and]
    rw [Bool.eq_iff_iff, decide_eq_true_eq]
    show Builtin.Str.subAt (SX.S (c :: r)) (SX.S [45]) 0 = true ↔ some c = some 45
    unfold Builtin.Str.subAt
    simp
    show List.take 1 (c :: r) = [45] ↔ c = 45
    simp
/-- the text without a minus sign in front -/
def noM (l : List Nat) : List Nat := if l.head? = some 45 then l.drop 1 else l
def sgI (l : List Nat) (n : Nat) : Int := if l.head? = some 45 then -(n : Int) else (n : Int)
def rdI (l : List Nat) : V := if digs (noM l) = true then limV (sgI l (dval (noM l))) else .non
theorem numL_pad {r : Nat} (h : r < 10000) : List.replicate (4 - (TL.numL r).length) 48 ++ TL.numL r = [48 + r / 1000, 48 + r / 100 % 10, 48 + r / 10 % 10, 48 + r % 10] := by
  by_cases h1 : r < 10
  · rw [TL.numL_lt h1, show r / 1000 = 0 by omega, show r / 100 = 0 by omega, show r / 10 = 0 by omega, show r % 10 = r by omega]
    rfl
  by_cases h2 : r < 100
  · rw [TL.numL_step (by omega), TL.numL_lt (by omega), show r / 1000 = 0 by omega, show r / 100 = 0 by omega, show r / 10 % 10 = r / 10 by omega]
    rfl
  by_cases h3 : r < 1000
  · rw [TL.numL_step (by omega), TL.numL_step (by omega), TL.numL_lt (by omega), show r / 1000 = 0 by omega, show r / 10 / 10 = r / 100 by omega, show r / 100 % 10 = r / 100 by omega]
    rfl
  · rw [TL.numL_step (by omega), TL.numL_step (by omega), TL.numL_step (by omega), TL.numL_lt (by omega), show r / 10 / 10 / 10 = r / 1000 by omega, show r / 10 / 10 = r / 100 by omega]
    rfl
def four (r : Nat) : List Nat := [48 + r / 1000, 48 + r / 100 % 10, 48 + r / 10 % 10, 48 + r % 10]
theorem zfill_S {r : Nat} (h : r < 10000) : Txt.zfill (SX.S (TL.numL r)) 4 = SX.S (four r) := by
  unfold Txt.zfill four
  rw [← numL_pad h, SX.S_len]
  split
  · rename_i hl
    rw [show 4 - (TL.numL r).length = 0 by omega]
    rfl
  · unfold zfilled
    have hd := TL.numL_digits r
    cases e : TL.numL r with
    | nil => exact absurd e (TL.numL_ne r)
    | cons c t =>
      have hc := hd c (by rw [e]; exact List.mem_cons_self)
      have eg : (SX.S (c :: t)).cps[0]? = some c := rfl
      have e43 : ¬ c = 43 := by omega
      have e45 : ¬ c = 45 := by omega
      rw [eg]
      split
      · rename_i h; exact absurd (Option.some.inj h) e43
      · rename_i h; exact absurd (Option.some.inj h) e45
      · rw [Builtin.Str.padded.eq_1]
        apply TL.ext_tl
        rw [tl_S]
        show ((Array.replicate _ 48 ++ (SX.S (c :: t)).cps ++ Array.replicate 0 0) : Array Nat).toList = _
        simp [SX.S]
def dtx (n : Int) : List Nat := (if n < 0 then [45] else []) ++ (TL.numL (n.natAbs / 10000) ++ (if n.natAbs % 10000 = 0 then [] else 46 :: noE (four (n.natAbs % 10000))))

theorem ev_lenX {σ : L2.St} {H : Hp} {ta : TE} {w : List Nat} (ha : Ev ta σ H (.str (SX.S w))) (hz : w.length ≤ 100000) : Ev (tCB (fun xs H Q => ∃ z, xs = [.str z] ∧ z.length ≤ sizeLine ∧ Q (.int z.length) H) (tCons ta tNil)) σ H (.int (w.length : Int)) :=
  ev_is (ev_lenS ha (by rw [SX.S_len]; exact hz)) (by rw [SX.S_len])
section
variable {K : PySem.W.Frag} {σ : L2.St} {H : Hp} {ta tb : TE}
theorem ev_cat {a b : Str} (ha : Ev ta σ H (.str a)) (hb : Ev tb σ H (.str b)) (h : a.length + b.length ≤ 100000) : Ev (tOp (fun x y H Q => ∃ i j, x = .str i ∧ y = .str j ∧ i.length + j.length ≤ sizeLine ∧ Q (.str (i ++ j)) H) ta tb) σ H (.str (a ++ b)) := fun H1 e Q q =>
  ha H1 e _ fun H2 e2 => hb H2 (e.trans e2) _ fun H3 e3 => ⟨a, b, rfl, rfl, sz_of h, q H3 (e2.trans e3)⟩
end

/-! ### the program's numbers as texts -/
theorem c48 : PySem.Str.ofString "0" = SX.S [48] := by decide +kernel
theorem c45 : PySem.Str.ofString "-" = SX.S [45] := by decide +kernel
theorem c46 : PySem.Str.ofString "." = SX.S [46] := by decide +kernel
theorem c00 : PySem.Str.ofString "" = SX.S [] := by decide +kernel
theorem mt_ljustF {X : Cx} : MtR X "str.ljust" fun x xs H Q => ∃ (a f : Str) (i : Int), x = .str a ∧ xs = [.int i, .str f] ∧ PadOk i = true ∧ f.length = 1 ∧ Q (.str (Txt.ljustF a i (f.cps.getD 0 0))) H := by
  intro pins s σ H x xs v us Q I rx rv h
  obtain ⟨a, f, i, rfl, rfl, hp, hf, q⟩ := h
  obtain ⟨t, rfl⟩ := (show ∃ t, v = Value.str a t from rx)
  cases rv with
  | cons r1 rv =>
    cases rv with
    | cons r2 rv =>
      cases rv
      obtain ⟨u, rfl⟩ := r1
      obtain ⟨u2, rfl⟩ := r2
      exact ljust_fill hp hf fun t' k => ⟨.str _, H, I.tok k, ⟨t', rfl⟩, q⟩
section
variable {K : PySem.W.Frag} {σ : L2.St} {H : Hp} {D : Ends} {te ta tl th tb : TE}
theorem ev_m0 {r : V → List V → Hp → VK → Prop} {a : Str} {z : V} (h : Ev ta σ H (.str a)) (hr : ∀ H1 Q, (∀ H2, Ex H1 H2 → Q z H2) → r (.str a) [] H1 Q) : Ev (tM0 r ta) σ H z := fun H1 e Q q => h H1 e _ fun H2 e2 => ⟨⟨_, rfl⟩, hr H2 Q fun H3 e3 => q H3 (e2.trans e3)⟩
theorem ev_m1 {r : V → List V → Hp → VK → Prop} {a : Str} {y z : V} (h : Ev ta σ H (.str a)) (hb : Ev tb σ H y) (hr : ∀ H1 Q, (∀ H2, Ex H1 H2 → Q z H2) → r (.str a) [y] H1 Q) : Ev (tM1 r ta tb) σ H z := fun H1 e Q q =>
  h H1 e _ fun H2 e2 => ⟨⟨_, rfl⟩, hb H2 (e.trans e2) _ fun H3 e3 => hr H3 Q fun H4 e4 => q H4 ((e2.trans e3).trans e4)⟩
theorem ev_bmS {r : V → List V → Hp → VK → Prop} {a : Str} {z : V} {tr : TA} {ys : List V} (h : Ev ta σ H (.str a)) (hb : EvA tr σ H ys) (hr : ∀ H1 Q, (∀ H2, Ex H1 H2 → Q z H2) → r (.str a) ys H1 Q) : Ev (tBM K "str" r ta tr) σ H z := fun H1 e Q q =>
  h H1 e _ fun H2 e2 => ⟨rfl, hb H2 (e.trans e2) _ fun H3 e3 => hr H3 Q fun H4 e4 => q H4 ((e2.trans e3).trans e4)⟩
theorem ev_intS {a : Str} {n : Int} (h : Ev ta σ H (.str a)) (hn : intText? a = some n) (hl : a.length ≤ 640) : Ev (tCB (fun xs H Q => ∃ a n, xs = [.str a] ∧ intText? a = some n ∧ a.length ≤ 640 ∧ Q (.int n) H) (tCons ta tNil)) σ H (.int n) := fun H1 e Q q =>
  h H1 e _ fun H2 e2 => ⟨a, n, rfl, hn, hl, q H2 e2⟩
theorem ev_slF {to : TO} {l : List Nat} {i : Nat} (ha : Ev ta σ H (.str (SX.S l))) (hl : Ev tl σ H (.int (i : Int))) (hn : ∀ σ H Q, Q none H → to σ H Q) (hz : l.length ≤ 100000) : Ev (tSl C8.rSlX ta (tPart tl) to) σ H (.str (SX.S (l.drop i))) := fun H1 e Q q =>
  ha H1 e _ fun H2 e2 => hl H2 (e.trans e2) _ fun H3 e3 => ⟨_, rfl, hn _ _ _ ⟨SX.S l, rfl, by rw [SX.S_len]; exact sz_of hz, by rw [SX.slice_from (by omega), Int.toNat_natCast]; exact q H3 (e2.trans e3)⟩⟩
theorem eu_part {a b : Str} (ha : Ev ta σ H (.str a)) (hb : Ev tb σ H (.str b)) (h1 : (b.length == 0) = false) (hz : a.length ≤ 100000) : EvU (tM1 (fun x xs H Q => ∃ a b, x = .str a ∧ xs = [.str b] ∧ (b.length == 0) = false ∧ a.length ≤ sizeLine ∧ ∀ p, H p = none → Q (.ref p) (upd H p (.tup [.str (Txt.partition a b).1, .str (Txt.partition a b).2.1, .str (Txt.partition a b).2.2]))) ta tb) σ H [.str (Txt.partition a b).1, .str (Txt.partition a b).2.1, .str (Txt.partition a b).2.2] := fun H1 e Q q =>
  ha H1 e _ fun H2 e2 => ⟨⟨_, rfl⟩, hb H2 (e.trans e2) _ fun H3 e3 => ⟨a, b, rfl, rfl, h1, sz_of hz, fun p hp => q p _ (fresh_back (e2.trans e3) hp) ((e2.trans e3).trans (Ex.new hp)) upd_same⟩⟩
end
def pt3 (l : List Nat) : List Nat × List Nat × List Nat := match TL.par [46] [] l with
  | some (a, b) => (a, [46], b)
  | none => (l, [], [])
theorem part_S (l : List Nat) : Txt.partition (SX.S l) (SX.S [46]) = (SX.S (pt3 l).1, SX.S (pt3 l).2.1, SX.S (pt3 l).2.2) := by
  unfold pt3
  cases h : TL.par [46] [] l with
  | none => exact SX.partition_none (by decide) h
  | some p =>
    obtain ⟨a, b⟩ := p
    exact SX.partition_some (by decide) h
theorem pt3_len (l : List Nat) : (pt3 l).1.length ≤ l.length ∧ (pt3 l).2.2.length ≤ l.length := by
  have h : ∀ (l acc : List Nat) a b, TL.par [46] acc l = some (a, b) → a.length ≤ acc.length + l.length ∧ b.length ≤ l.length := by
    intro l
    induction l with
    | nil => intro acc a b h; exact nomatch h
    | cons c r ih =>
      intro acc a b h
      by_cases e : TL.pre [46] (c :: r) = true
      · rw [TL.par_hit e] at h
        have := Option.some.inj h
        obtain ⟨rfl, rfl⟩ := Prod.mk.inj this
        exact ⟨Nat.le_add_right _ _, by simp⟩
      · rw [TL.par_miss (by simpa using e)] at h
        have := ih _ _ _ h
        simp only [List.length_append, List.length_cons, List.length_nil] at this ⊢
        omega
  unfold pt3
  cases e : TL.par [46] [] l with
  | none => exact ⟨Nat.le_refl _, Nat.zero_le _⟩
  | some p =>
    obtain ⟨a, b⟩ := p
    have := h l [] a b e
    simp only [List.length_nil] at this
    exact ⟨by show a.length ≤ _; omega, this.2⟩
def pad4 (p : List Nat) : List Nat := p ++ List.replicate (4 - p.length) 48
def rdD (l : List Nat) : V :=
  if digs (pt3 (noM l)).1 = true then (if (pt3 (noM l)).2.1 ≠ [] ∧ ¬ (digs (pt3 (noM l)).2.2 = true ∧ (pt3 (noM l)).2.2.length ≤ 4) then .non else limV (sgI l (dval ((pt3 (noM l)).1 ++ pad4 (pt3 (noM l)).2.2)))) else .non
theorem ljust_S (p : List Nat) : Txt.ljustF (SX.S p) 4 ((SX.S [48]).cps.getD 0 0) = SX.S (pad4 p) := by
  apply TL.ext_tl
  rw [tl_S]
  show (Txt.ljustF (SX.S p) 4 48).cps.toList = _
  rw [ljustF_list, SX.S_len]
  rfl
def sp_is_digits (K : PySem.W.Frag) : Sp := fun vs H Q _ => ∃ l : List Nat, vs = [.str (SX.S l)] ∧ ∀ H', Ex H H' → Q (.bl (digs l)) H'
def sp_limited (K : PySem.W.Frag) : Sp := fun vs H Q _ => ∃ n : Int, vs = [.int n] ∧ ∀ H', Ex H H' → Q (limV n) H'
def sp_read_digits (K : PySem.W.Frag) : Sp := fun vs H Q _ => ∃ l : List Nat, vs = [.str (SX.S l)] ∧ l.all isD = true ∧ l.length ≤ 600 ∧ ∀ H', Ex H H' → Q (limV (dval l : Nat)) H'
def sp__signed (K : PySem.W.Frag) : Sp := fun vs H Q _ => ∃ (b : Bool) (l : List Nat), vs = [.bl b, .str (SX.S l)] ∧ l.all isD = true ∧ l.length ≤ 600 ∧ ∀ H', Ex H H' → Q (limV (if b = true then -((dval l : Nat) : Int) else (dval l : Nat))) H'
def sp_read_integer (K : PySem.W.Frag) : Sp := fun vs H Q _ => ∃ l : List Nat, vs = [.str (SX.S l)] ∧ l.length ≤ 600 ∧ ∀ H', Ex H H' → Q (rdI l) H'
def sp_read_decimal (K : PySem.W.Frag) : Sp := fun vs H Q _ => ∃ l : List Nat, vs = [.str (SX.S l)] ∧ l.length ≤ 200 ∧ ∀ H', Ex H H' → Q (rdD l) H'
def sp_decimal_text (K : PySem.W.Frag) : Sp := fun vs H Q _ => ∃ n : Int, vs = [.int n] ∧ n.natAbs < 10 ^ 30 ∧ ∀ H', Ex H H' → Q (.str (SX.S (dtx n))) H'
section
variable {P : Program} {w : World} {K : PySem.W.Frag} {mg : Str → Option Value} {base : Heap}
theorem ok_is_digits (D : Dn K mg "is_digits" s_is_digits ["text"]) :
    C8.Cal P w K mg base 1 "is_digits" (sp_is_digits K) [] := by
  refine cal_of D sc_is_digits (fun vs H Q E h => ?_) (fun f cdv A outer s H vs Q E hr h => ?_)
  · obtain ⟨_, rfl, _⟩ := h
    rfl
  refine ⟨_, (pss_one (ps_ret (pe_and (pe_m0 PySem.F.slot_str_isdigit PySem.F.type_str_isdigit mt_isdigit (pv 0) ) (pe_one (pe_m0 PySem.F.slot_str_isascii PySem.F.type_str_isascii mt_isascii (pv 0) ))))), ?_⟩
  obtain ⟨l, rfl, q⟩ := h
  refine s_ret (v := .bl (digs l)) (ev_is (v := .bl (Txt.isdigit (SX.S l) && Txt.isascii (SX.S l))) (ev_andV (ev_m0 (ev_var rfl) fun H1 Q q => ⟨_, rfl, rfl, trivial, q H1 (Ex.refl H1)⟩) fun _ => ev_m0 (ev_var rfl) fun H1 Q q => ⟨_, rfl, rfl, trivial, q H1 (Ex.refl H1)⟩) (by rw [digs_txt])) fun H1 e1 => q H1 e1
theorem ok_limited (D : Dn K mg "limited" s_limited ["number"]) (g_GREATEST : ∃ u, mg "GREATEST" = some u ∧ RelV (.int (1000000000000000)) u) :
    C8.Cal P w K mg base 1 "limited" (sp_limited K) [] := by
  refine cal_of D sc_limited (fun vs H Q E h => ?_) (fun f cdv A outer s H vs Q E hr h => ?_)
  · obtain ⟨_, rfl, _⟩ := h
    rfl
  refine ⟨_, (pss_cons (ps_if (pt_chain op_le op_le (pe_un un_neg (C8.pe_gc rfl g_GREATEST)) (pv 0) (C8.pe_gc rfl g_GREATEST))
      (pss_one (ps_ret (pv 0)))
      pss_nil)
    (pss_one (ps_ret pe_non))), ?_⟩
  obtain ⟨n, rfl, q⟩ := h
  refine q_when (b := decide (-1000000000000000 ≤ n) && decide (n ≤ 1000000000000000)) (et_test (ev_chain (ev_un ev_c ru_neg) (ev_var rfl) rv_I0 (fun _ => ev_c) (fun _ => rv_I0))) (fun hb H1 e1 => s_ret (v := limV n) ?_ fun H2 e2 => q _ (e1.trans e2)) fun hb H1 e1 => s_ret (v := limV n) ?_ fun H2 e2 => q _ (e1.trans e2)
  · rw [Bool.and_eq_true, decide_eq_true_eq, decide_eq_true_eq] at hb
    refine ev_is (ev_var rfl) ?_
    unfold limV
    rw [if_pos hb]
  · refine ev_is ev_c ?_
    unfold limV
    rw [if_neg]
    intro z
    rw [decide_eq_true z.1, decide_eq_true z.2] at hb
    cases hb
theorem ec_lim {σ : L2.St} {H : Hp} {ta : TE} {E : XK} {n : Int} (ha : Ev ta σ H (.int n)) : Ev (tCall (sp_limited K) [] E (tCons ta tNil)) σ H (limV n) := ev_call (ea_cons ha ea_nil) fun H1 e Q q E => ⟨n, rfl, q⟩
theorem ec_digs {σ : L2.St} {H : Hp} {ta : TE} {E : XK} {l : List Nat} (ha : Ev ta σ H (.str (SX.S l))) : Ev (tCall (sp_is_digits K) [] E (tCons ta tNil)) σ H (.bl (digs l)) := ev_call (ea_cons ha ea_nil) fun H1 e Q q E => ⟨l, rfl, q⟩
theorem ok_read_digits (D : Dn K mg "read_digits" s_read_digits ["digits"]) (c_limited : C8.Cal P w K mg base 1 "limited" (sp_limited K) []) (z_int : mg "int" = none) (z_len : mg "len" = none) (g__MOST_DIGITS : ∃ u, mg "_MOST_DIGITS" = some u ∧ RelV (.int (16)) u) :
    C8.Cal P w K mg base 2 "read_digits" (sp_read_digits K) [] := by
  refine cal_of D sc_read_digits (fun vs H Q E h => ?_) (fun f cdv A outer s H vs Q E hr h => ?_)
  · obtain ⟨_, rfl, _⟩ := h
    rfl
  refine ⟨_, (pss_cons (ps_set (i := 1) sc_read_digits.nd rfl (.inl rfl) (pe_m1 PySem.F.slot_str_lstrip PySem.F.type_str_lstrip mt_lstripChars (pv 0) pe_str))
    (pss_cons (ps_if (pt_cmpR op_gt (pe_callB call_len_str (by rfl) z_len PySem.boot_len (pa_cons (pv 1) pa_nil)) (C8.pe_gc rfl g__MOST_DIGITS) (nomark _))
      (pss_one (ps_ret pe_non))
      pss_nil)
    (pss_one (ps_ret (pe_ifExp (pt_cmpR op_ne (pv 1) pe_str (nomark _)) (C8.pe_c c_limited hr (by decide) (by rfl) (pa_cons (pe_callTy call_int_str (by rfl) z_int (by decide +kernel) (pa_cons (pv 1) pa_nil)) pa_nil)) pe_int))))), ?_⟩
  obtain ⟨l, rfl, hl, hz, q⟩ := h
  have hzn := noZ_len l
  refine q_asg (v := .str (SX.S (noZ l))) (ev_is (ev_m1 (ev_var rfl) ev_c fun H1 Q q => ⟨_, PySem.Str.ofString "0", rfl, rfl, by rw [SX.S_len]; exact sz_of (by omega), q H1 (Ex.refl H1)⟩) (by rw [c48, lstrip_S])) fun H1 e1 => ?_
  refine q_when (et_test (ev_op (ev_lenX (ev_var rfl) (by omega)) ev_c rv_I0)) (fun hb H2 e2 => s_ret (v := limV (dval l : Nat)) (ev_is ev_c ?_) fun H3 e3 => q _ ((e1.trans e2).trans e3)) fun hb H2 e2 => ?_
  · have h1 := of_decide_eq_true hb
    have h2 := noZ_big hl (by omega)
    unfold limV
    rw [if_neg (by omega)]
  · refine s_ret (v := limV (dval l : Nat)) (ev_if (et_test (ev_op (ev_var rfl) ev_c (rv_ne rfl))) (fun hc => ?_) fun hc => ?_) fun H3 e3 => q _ ((e1.trans e2).trans e3)
    · refine ec_lim (ev_intS (ev_var rfl) ?_ (by rw [SX.S_len]; omega))
      have hne : noZ l ≠ [] := fun e => by
        rw [e, c00] at hc
        simp at hc
      rw [SX.int_S (a := noZ l) (all_noZ hl) hne (by omega)]
      show some ((dval (noZ l) : Nat) : Int) = _
      rw [dval_noZ]
    · have hne : noZ l = [] := by
        rw [c00] at hc
        simp at hc
        exact hc
      refine ev_is ev_c ?_
      rw [← dval_noZ, hne]
      rfl
theorem ec_rdig {σ : L2.St} {H : Hp} {ta : TE} {E : XK} {l : List Nat} (ha : Ev ta σ H (.str (SX.S l))) (hl : l.all isD = true) (hz : l.length ≤ 600) : Ev (tCall (sp_read_digits K) [] E (tCons ta tNil)) σ H (limV (dval l : Nat)) := ev_call (ea_cons ha ea_nil) fun H1 e Q q E => ⟨l, rfl, hl, hz, q⟩
theorem ok__signed (D : Dn K mg "_signed" s__signed ["sign", "digits"]) (c_read_digits : C8.Cal P w K mg base 2 "read_digits" (sp_read_digits K) []) :
    C8.Cal P w K mg base 3 "_signed" (sp__signed K) [] := by
  refine cal_of D sc__signed (fun vs H Q E h => ?_) (fun f cdv A outer s H vs Q E hr h => ?_)
  · obtain ⟨_, _, rfl, _⟩ := h
    rfl
  refine ⟨_, (pss_cons (ps_set (i := 2) sc__signed.nd rfl (.inl rfl) (C8.pe_c c_read_digits hr (by decide) (by rfl) (pa_cons (pv 1) pa_nil)))
    (pss_one (ps_ret (pe_ifExp (PW.pt (pw_and (pt_val (pv 0)) (pw_and1 (pt_cmpR op_notN (pv 2) pe_non (nomark _))))) (pe_un un_neg (pv 2)) (pv 2))))), ?_⟩
  obtain ⟨b, l, rfl, hl, hz, q⟩ := h
  refine q_asg (ec_rdig (ev_var rfl) hl hz) fun H1 e1 => ?_
  refine s_ret (v := limV (if b = true then -((dval l : Nat) : Int) else (dval l : Nat))) (ev_if (et_and (et_B (ev_var rfl)) fun _ => et_test (ev_op (ev_var rfl) ev_c rv_notN)) (fun hc => ?_) fun hc => ?_) fun H2 e2 => q _ (e1.trans e2)
  · rw [Bool.and_eq_true] at hc
    have hn : ∃ i : Int, limV (dval l : Nat) = .int i ∧ i = (dval l : Nat) ∧ i ≤ 1000000000000000 := by
      unfold limV at hc ⊢
      split
      · exact ⟨_, rfl, rfl, by omega⟩
      · rename_i h; rw [if_neg h] at hc; exact nomatch hc.2
    obtain ⟨i, e1, e2, e3⟩ := hn
    rw [e1]
    refine ev_is (ev_un (ev_var rfl) ru_neg) ?_
    rw [if_pos hc.1, ← e2]
    unfold limV
    rw [if_pos (by omega)]
  · refine ev_is (ev_var rfl) ?_
    cases b with
    | false => rfl
    | true =>
      rw [Bool.true_and] at hc
      unfold limV at hc ⊢
      rw [if_pos rfl]
      split
      · rename_i h; rw [if_pos h] at hc; simp at hc
      · rename_i h; rw [if_neg (by omega)]
theorem ec_sgn {σ : L2.St} {H : Hp} {ta tb : TE} {E : XK} {b : Bool} {l : List Nat} (hb : Ev tb σ H (.bl b)) (ha : Ev ta σ H (.str (SX.S l))) (hl : l.all isD = true) (hz : l.length ≤ 600) : Ev (tCall (sp__signed K) [] E (tCons tb (tCons ta tNil))) σ H (limV (if b = true then -((dval l : Nat) : Int) else (dval l : Nat))) := ev_call (ea_cons hb (ea_cons ha ea_nil)) fun H1 e Q q E => ⟨b, l, rfl, hl, hz, q⟩
theorem noM_len (l : List Nat) : (noM l).length ≤ l.length := by
  unfold noM
  split
  · rw [List.length_drop]; omega
  · exact Nat.le_refl _
theorem digs_all {l : List Nat} (h : digs l = true) : l.all isD = true := by
  unfold digs at h
  rw [Bool.and_eq_true] at h
  exact h.2
theorem ev_min {σ : L2.St} {H : Hp} {ta : TE} {l : List Nat} (h : Ev ta σ H (.str (SX.S l))) : Ev (tM1 (fun x xs H Q => ∃ a b, x = .str a ∧ xs = [.str b] ∧ Q (.bl (Txt.startswith a b)) H) ta (tC (.str (PySem.Str.ofString "-")))) σ H (.bl (decide (l.head? = some 45))) :=
  ev_is (ev_m1 h ev_c fun H1 Q q => ⟨_, _, rfl, rfl, q H1 (Ex.refl H1)⟩) (by rw [c45, starts_S])
theorem sg_is (l : List Nat) (n : Nat) : (if decide (l.head? = some 45) = true then -((n : Nat) : Int) else (n : Nat)) = sgI l n := by
  unfold sgI
  by_cases h : l.head? = some 45
  · rw [if_pos h, decide_eq_true h, if_pos rfl]
  · rw [if_neg h, decide_eq_false h, if_neg (by decide)]
theorem ok_read_integer (D : Dn K mg "read_integer" s_read_integer ["text"]) (c__signed : C8.Cal P w K mg base 3 "_signed" (sp__signed K) []) (c_is_digits : C8.Cal P w K mg base 1 "is_digits" (sp_is_digits K) []) :
    C8.Cal P w K mg base 4 "read_integer" (sp_read_integer K) [] := by
  refine cal_of D sc_read_integer (fun vs H Q E h => ?_) (fun f cdv A outer s H vs Q E hr h => ?_)
  · obtain ⟨_, rfl, _⟩ := h
    rfl
  refine ⟨_, (pss_cons (ps_set (i := 1) sc_read_integer.nd rfl (.inl rfl) (pe_m1 PySem.F.slot_str_startswith PySem.F.type_str_startswith mt_startswith (pv 0) pe_str))
    (pss_cons (ps_set (i := 2) sc_read_integer.nd rfl (.inl rfl) (pe_ifExp (pt_val (pv 1)) (pe_slice C8.sl_txt (pv 0) (po_some pe_int) po_none) (pv 0)))
    (pss_cons (ps_if (pt_not (pt_val (C8.pe_c c_is_digits hr (by decide) (by rfl) (pa_cons (pv 2) pa_nil))))
      (pss_one (ps_ret pe_non))
      pss_nil)
    (pss_one (ps_ret (C8.pe_c c__signed hr (by decide) (by rfl) (pa_cons (pv 1) (pa_cons (pv 2) pa_nil)))))))), ?_⟩
  obtain ⟨l, rfl, hz, q⟩ := h
  have hm := noM_len l
  refine q_asg (ev_min (ev_var rfl)) fun H1 e1 => ?_
  refine q_asg (v := .str (SX.S (noM l))) (ev_if (et_B (ev_var rfl)) (fun hc => ?_) fun hc => ?_) fun H2 e2 => ?_
  · unfold noM
    rw [if_pos (of_decide_eq_true hc)]
    exact ev_slF (i := 1) (ev_var rfl) ev_c (fun _ _ _ q => q) (by omega)
  · unfold noM
    rw [if_neg (of_decide_eq_false hc)]
    exact ev_var rfl
  refine q_when (et_not (et_B (ec_digs (ev_var rfl)))) (fun hc H3 e3 => s_ret (v := rdI l) (ev_is ev_c ?_) fun H4 e4 => q _ (((e1.trans e2).trans e3).trans e4)) fun hc H3 e3 => ?_
  · unfold rdI
    rw [if_neg (by intro e; rw [e] at hc; exact nomatch hc)]
  · have hd : digs (noM l) = true := by
      cases h : digs (noM l) with
      | true => rfl
      | false => rw [h] at hc; exact nomatch hc
    refine s_ret (v := rdI l) (ev_is (ec_sgn (ev_var rfl) (ev_var rfl) (digs_all hd) (by omega)) ?_) fun H4 e4 => q _ (((e1.trans e2).trans e3).trans e4)
    unfold rdI
    rw [if_pos hd, sg_is]
theorem digs_pad {p q : List Nat} (h : digs p = true) (hq : q.all isD = true) : (p ++ pad4 q).all isD = true := by
  unfold pad4
  rw [List.all_append, List.all_append, digs_all h, hq, Bool.true_and, Bool.true_and, List.all_eq_true]
  intro c hc
  rw [(List.mem_replicate.mp hc).2]
  rfl
theorem pt3_dot (l : List Nat) : (pt3 l).2.1 = [] → (pt3 l).2.2 = [] := by
  unfold pt3
  cases TL.par [46] [] l with
  | none => intro _; rfl
  | some p => intro h; exact nomatch h
theorem ok_read_decimal (D : Dn K mg "read_decimal" s_read_decimal ["text"]) (c__signed : C8.Cal P w K mg base 3 "_signed" (sp__signed K) []) (c_is_digits : C8.Cal P w K mg base 1 "is_digits" (sp_is_digits K) []) (z_len : mg "len" = none) :
    C8.Cal P w K mg base 4 "read_decimal" (sp_read_decimal K) [] := by
  refine cal_of D sc_read_decimal (fun vs H Q E h => ?_) (fun f cdv A outer s H vs Q E hr h => ?_)
  · obtain ⟨_, rfl, _⟩ := h
    rfl
  refine ⟨_, (pss_cons (ps_set (i := 1) sc_read_decimal.nd rfl (.inl rfl) (pe_m1 PySem.F.slot_str_startswith PySem.F.type_str_startswith mt_startswith (pv 0) pe_str))
    (pss_cons (ps_set (i := 2) sc_read_decimal.nd rfl (.inl rfl) (pe_ifExp (pt_val (pv 1)) (pe_slice C8.sl_txt (pv 0) (po_some pe_int) po_none) (pv 0)))
    (pss_cons (ps_asg (pe_partition (pv 2) pe_str) (pg_tup rfl (pgs_cons (pg_name (i := 3) sc_read_decimal.nd rfl (.inl rfl)) (pgs_cons (pg_name (i := 4) sc_read_decimal.nd rfl (.inl rfl)) (pgs_cons (pg_name (i := 5) sc_read_decimal.nd rfl (.inl rfl)) pgs_nil)))))
    (pss_cons (ps_if (pt_not (pt_val (C8.pe_c c_is_digits hr (by decide) (by rfl) (pa_cons (pv 3) pa_nil))))
      (pss_one (ps_ret pe_non))
      pss_nil)
    (pss_cons (ps_if (PW.pt (pw_and (pt_cmpR op_ne (pv 4) pe_str (nomark _)) (pw_and1 (pt_not (PW.pt (pw_and (pt_val (C8.pe_c c_is_digits hr (by decide) (by rfl) (pa_cons (pv 5) pa_nil))) (pw_and1 (pt_cmpR op_le (pe_callB call_len_str (by rfl) z_len PySem.boot_len (pa_cons (pv 5) pa_nil)) pe_int (nomark _)))))))))
      (pss_one (ps_ret pe_non))
      pss_nil)
    (pss_one (ps_ret (C8.pe_c c__signed hr (by decide) (by rfl) (pa_cons (pv 1) (pa_cons (pe_op op_add_str (pv 3) (pe_bm PySem.F.plainAttrs_str PySem.F.slot_str_ljust PySem.F.type_str_ljust mt_ljustF (pv 5) (pa_cons pe_int (pa_cons pe_str pa_nil)))) pa_nil)))))))))), ?_⟩
  obtain ⟨l, rfl, hz, q⟩ := h
  have hm := noM_len l
  obtain ⟨hp1, hp2⟩ := pt3_len (noM l)
  refine q_asg (ev_min (ev_var rfl)) fun H1 e1 => ?_
  refine q_asg (v := .str (SX.S (noM l))) (ev_if (et_B (ev_var rfl)) (fun hc => ?_) fun hc => ?_) fun H2 e2 => ?_
  · unfold noM
    rw [if_pos (of_decide_eq_true hc)]
    exact ev_slF (i := 1) (ev_var rfl) ev_c (fun _ _ _ q => q) (by omega)
  · unfold noM
    rw [if_neg (of_decide_eq_false hc)]
    exact ev_var rfl
  refine q_asgG (xs := [.str (SX.S (pt3 (noM l)).1), .str (SX.S (pt3 (noM l)).2.1), .str (SX.S (pt3 (noM l)).2.2)]) ?_ fun pp H3 hpp e3 h3 => gt3 (st_of h3) ?_
  · have e := part_S (noM l)
    have := eu_part (σ := [some (.str (SX.S l)), some (.bl (decide (l.head? = some 45))), some (.str (SX.S (noM l))), none, none, none]) (H := H2) (ta := tVar 2) (tb := tC (.str (PySem.Str.ofString "."))) (a := SX.S (noM l)) (b := PySem.Str.ofString ".") (ev_var rfl) ev_c (by decide +kernel) (by rw [SX.S_len]; omega)
    rw [c46, e] at this
    rw [← c46] at this
    exact this
  unfold rdD at q
  have hdot := pt3_dot (noM l)
  generalize (pt3 (noM l)).1 = w at *
  generalize (pt3 (noM l)).2.1 = d at *
  generalize (pt3 (noM l)).2.2 = p at *
  have x3 := (e1.trans e2).trans e3
  refine q_when (et_not (et_B (ec_digs (ev_var rfl)))) (fun hc H4 e4 => s_ret (v := .non) ev_c fun H5 e5 => ?_) fun hc H4 e4 => ?_
  · have q2 := q _ ((x3.trans e4).trans e5)
    rw [if_neg (by intro e; rw [e] at hc; exact nomatch hc)] at q2
    exact q2
  have hw : digs w = true := by
    cases h : digs w with
    | true => rfl
    | false => rw [h] at hc; exact nomatch hc
  rw [if_pos hw] at q
  have x4 := x3.trans e4
  refine q_when (b := (!decide (V.str (SX.S d) = V.str (PySem.Str.ofString ""))) && !(digs p && decide ((p.length : Int) ≤ 4))) (et_and (et_test (ev_op (ev_var rfl) ev_c (rv_ne rfl))) fun _ => et_not (et_and (et_B (ec_digs (ev_var rfl))) fun _ => et_test (ev_op (ev_lenX (ev_var rfl) (by omega)) ev_c rv_I0))) (fun hc H5 e5 => s_ret (v := .non) ev_c fun H6 e6 => ?_) fun hc H5 e5 => ?_
  · have q2 := q _ ((x4.trans e5).trans e6)
    rw [if_pos] at q2
    · exact q2
    · rw [c00, Bool.and_eq_true, Bool.not_eq_true', decide_eq_false_iff_not, Bool.not_eq_true', Bool.and_eq_false_iff, decide_eq_false_iff_not] at hc
      refine ⟨fun e => hc.1 (by rw [e]), fun h => ?_⟩
      rcases hc.2 with h2 | h2
      · rw [h.1] at h2; exact nomatch h2
      · exact h2 (by omega)
  · have hn : ¬ (d ≠ [] ∧ ¬ (digs p = true ∧ p.length ≤ 4)) := by
      rintro ⟨h1, h2⟩
      have a1 : decide (V.str (SX.S d) = V.str (PySem.Str.ofString "")) = false := decide_eq_false fun e => h1 (SX.S_inj ((V.str.inj e).trans c00))
      have a2 : (digs p && decide ((p.length : Int) ≤ 4)) = false := by
        rw [Bool.and_eq_false_iff, decide_eq_false_iff_not]
        by_cases h3 : digs p = true
        · exact .inr fun h4 => h2 ⟨h3, by omega⟩
        · exact .inl (by simpa using h3)
      rw [a1, a2] at hc
      exact nomatch hc
    have hpd : p.all isD = true := by
      by_cases e : d = []
      · rw [hdot e]; rfl
      · exact digs_all (Decidable.byContradiction fun h => hn ⟨e, fun h2 => h h2.1⟩)
    rw [if_neg hn] at q
    have hpl : (pad4 p).length ≤ 204 := by unfold pad4; rw [List.length_append, List.length_replicate]; omega
    refine s_ret (ec_sgn (l := w ++ pad4 p) (ev_var rfl) (ev_is (ev_cat (b := SX.S (pad4 p)) (ev_var rfl) (ev_is (ev_bmS (ev_var rfl) (ea_cons ev_c (ea_cons ev_c ea_nil)) fun H1 Q q => ⟨_, PySem.Str.ofString "0", 4, rfl, rfl, by decide, by decide +kernel, q H1 (Ex.refl H1)⟩) (by rw [c48, ljust_S])) (by rw [SX.S_len, SX.S_len]; omega)) (by rw [SX.S_cat])) (digs_pad hw hpd) (by rw [List.length_append]; omega)) fun H6 e6 => ?_
    rw [sg_is]
    exact q _ ((x4.trans e5).trans e6)
theorem ev_strI {σ : L2.St} {H : Hp} {ta : TE} {n : Nat} (h : Ev ta σ H (.int (n : Int))) (hn : n < 10 ^ 30) : Ev (tCB (fun xs H Q => ∃ i, xs = [.int i] ∧ i.natAbs.log2 < 1920 ∧ Q (.str (PySem.Str.ofString (toString i))) H) (tCons ta tNil)) σ H (.str (SX.S (TL.numL n))) := fun H1 e Q q =>
  h H1 e _ fun H2 e2 => ⟨_, rfl, by
    have h1 : Nat.log2 n < 1920 := by
      by_cases h0 : n = 0
      · rw [h0]; decide
      · exact Nat.lt_trans ((Nat.log2_lt h0).mpr (Nat.lt_of_lt_of_le hn (by decide : 10 ^ 30 ≤ 2 ^ 100))) (by decide)
    exact h1, by rw [SX.num_S]; exact q H2 e2⟩
theorem js_str {t : TE} {ts : List TE} {acc y : Str} {σ : L2.St} {H : Hp} {Q : Str → Hp → Prop} (h : Ev t σ H (.str y)) (hz : (acc ++ y).length ≤ 100000) (k : ∀ H1, Ex H H1 → tJs ts (acc ++ y) σ H1 Q) : tJs (t :: ts) acc σ H Q := h H (Ex.refl H) _ fun H1 e1 => ⟨y, rfl, sz_of hz, k H1 e1⟩
theorem fm_str {te : TE} {y : Str} {σ : L2.St} {H : Hp} (h : Ev te σ H (.str y)) (hz : y.length ≤ 100000) : Ev (tFmt te) σ H (.str y) := fun H1 e Q q => h H1 e _ fun H2 e2 => .inl ⟨y, rfl, sz_of hz, q H2 e2⟩
theorem fm_int {te : TE} {n : Nat} {σ : L2.St} {H : Hp} (h : Ev te σ H (.int (n : Int))) (hn : n < 10 ^ 30) : Ev (tFmt te) σ H (.str (SX.S (TL.numL n))) := fun H1 e Q q => h H1 e _ fun H2 e2 => .inr ⟨_, rfl, by
    have h1 : Nat.log2 n < 1920 := by
      by_cases h0 : n = 0
      · rw [h0]; decide
      · exact Nat.lt_trans ((Nat.log2_lt h0).mpr (Nat.lt_of_lt_of_le hn (by decide : 10 ^ 30 ≤ 2 ^ 100))) (by decide)
    exact h1, by rw [SX.num_S]; exact q H2 e2⟩
theorem noE_len (l : List Nat) : (noE l).length ≤ l.length := by
  unfold noE
  rw [List.length_reverse]
  have := noZ_len l.reverse
  rw [List.length_reverse] at this
  exact this
theorem ok_decimal_text (D : Dn K mg "decimal_text" s_decimal_text ["number"]) (z_abs : mg "abs" = none) (z_divmod : mg "divmod" = none) (z_str : mg "str" = none) (g__SCALE : ∃ u, mg "_SCALE" = some u ∧ RelV (.int (10000)) u) :
    C8.Cal P w K mg base 1 "decimal_text" (sp_decimal_text K) [] := by
  refine cal_of D sc_decimal_text (fun vs H Q E h => ?_) (fun f cdv A outer s H vs Q E hr h => ?_)
  · obtain ⟨_, rfl, _⟩ := h
    rfl
  refine ⟨_, (pss_cons (ps_asg (pe_callB call_divmod (by rfl) z_divmod (by decide +kernel) (pa_cons (pe_callB call_abs (by rfl) z_abs (by decide +kernel) (pa_cons (pv 0) pa_nil)) (pa_cons (C8.pe_gc rfl g__SCALE) pa_nil))) (pg_tup rfl (pgs_cons (pg_name (i := 1) sc_decimal_text.nd rfl (.inl rfl)) (pgs_cons (pg_name (i := 2) sc_decimal_text.nd rfl (.inl rfl)) pgs_nil))))
    (pss_cons (ps_set (i := 3) sc_decimal_text.nd rfl (.inl rfl) (pe_ifExp (pt_cmpR op_lt (pv 0) pe_int (nomark _)) pe_str pe_str))
    (pss_cons (ps_if (pt_cmpR op_eq (pv 2) pe_int (nomark _))
      (pss_one (ps_ret (pe_joined (PJ.cons (pe_fmt (pv 3)) (PJ.cons (pe_fmt (pv 1)) PJ.nil)))))
      pss_nil)
    (pss_cons (ps_set (i := 4) sc_decimal_text.nd rfl (.inl rfl) (pe_m1 PySem.F.slot_str_rstrip PySem.F.type_str_rstrip mt_rstripChars (pe_bm PySem.F.plainAttrs_str PySem.F.slot_str_zfill PySem.F.type_str_zfill mt_zfill (pe_callTy call_str_int (by rfl) z_str (by decide +kernel) (pa_cons (pv 2) pa_nil)) (pa_cons pe_int pa_nil)) pe_str))
    (pss_one (ps_ret (pe_joined (PJ.cons (pe_fmt (pv 3)) (PJ.cons (pe_fmt (pv 1)) (PJ.cons pe_str (PJ.cons (pe_fmt (pv 4)) PJ.nil))))))))))), ?_⟩
  obtain ⟨n, rfl, hn, q⟩ := h
  have ha : ab n = (n.natAbs : Int) := by unfold ab; split <;> omega
  have hl := TL.numL_len (n := n.natAbs / 10000) (k := 30) (by decide) (by omega)
  refine q_asgG (xs := [.int ((n.natAbs / 10000 : Nat) : Int), .int ((n.natAbs % 10000 : Nat) : Int)]) ?_ fun pp H1 hpp e1 h1 => gt2 (st_of h1) ?_
  · have := eu_divmod (σ := [some (.int n), none, none, none, none]) (H := H) (ta := _) (tb := tC (.int 10000)) (i := (n.natAbs : Int)) (j := 10000) (ev_is (ev_abs (ta := tVar 0) (i := n) (ev_var rfl)) (by rw [← ha]; rfl)) ev_c ⟨by decide, by decide⟩
    rw [show ((n.natAbs : Int) / 10000) = ((n.natAbs / 10000 : Nat) : Int) by omega, show ((n.natAbs : Int) % 10000) = ((n.natAbs % 10000 : Nat) : Int) by omega] at this
    exact this
  have hr : n.natAbs % 10000 < 10000 := Nat.mod_lt _ (by decide)
  have hq : n.natAbs / 10000 < 10 ^ 30 := by omega
  unfold dtx at q
  generalize n.natAbs / 10000 = wh at *
  generalize n.natAbs % 10000 = r at *
  refine q_asg (v := .str (SX.S (if n < 0 then [45] else []))) (ev_if (b := decide (n < 0)) (by walk_at "et") (fun hc => ev_is ev_c ?_) fun hc => ev_is ev_c ?_) fun H2 e2 => ?_
  · rw [if_pos (of_decide_eq_true hc), c45]
  · rw [if_neg (of_decide_eq_false hc), c00]
  have hsl : (if n < 0 then [45] else [] : List Nat).length ≤ 1 := by split <;> decide
  generalize (if n < 0 then [45] else [] : List Nat) = sg at *
  have x2 := e1.trans e2
  have em : ∀ x : Str, Str.empty ++ x = x := fun x => TL.ext_tl (by rw [TL.tl_append]; rfl)
  refine q_when (b := decide (V.int (r : Int) = V.int ((0 : Nat) : Int))) (et_test (ev_op (ev_var rfl) ev_c (rv_eq rfl))) (fun hc H3 e3 => ?_) fun hc H3 e3 => ?_
  · have h0 : r = 0 := by have := V.int.inj (of_decide_eq_true hc); omega
    refine s_ret (v := .str (SX.S (sg ++ TL.numL wh))) (fun H4 e4 Q k => ?_) fun H4 e4 => ?_
    · refine js_str (fm_str (ev_var rfl) (by rw [SX.S_len]; omega)) (by rw [em, SX.S_len]; omega) fun H5 e5 => js_str (fm_int (ev_var rfl) hq) (by rw [em, SX.S_cat, SX.S_len, List.length_append]; omega) fun H6 e6 => ?_
      rw [em, SX.S_cat]
      exact k H6 (e5.trans e6)
    · have q2 := q _ ((x2.trans e3).trans e4)
      rw [if_pos h0, List.append_nil] at q2
      exact q2
  · have h0 : ¬ r = 0 := fun e => of_decide_eq_false hc (by rw [e])
    have hnl := noE_len (four r)
    have hfl : (four r).length = 4 := rfl
    refine q_asg (v := .str (SX.S (noE (four r)))) (ev_is (ev_m1 (ev_is (ev_bmS (ev_strI (ev_var rfl) (by omega)) (ea_cons ev_c ea_nil) fun H1 Q q => ⟨_, 4, rfl, rfl, by decide, q H1 (Ex.refl H1)⟩) (by rw [zfill_S hr])) ev_c fun H1 Q q => ⟨_, PySem.Str.ofString "0", rfl, rfl, by rw [SX.S_len]; exact sz_of (by omega), q H1 (Ex.refl H1)⟩) (by rw [c48, rstrip_S])) fun H4 e4 => ?_
    refine s_ret (v := .str (SX.S (sg ++ (TL.numL wh ++ 46 :: noE (four r))))) (fun H5 e5 Q k => ?_) fun H5 e5 => ?_
    · refine js_str (fm_str (ev_var rfl) (by rw [SX.S_len]; omega)) (by rw [em, SX.S_len]; omega) fun H6 e6 => js_str (fm_int (ev_var rfl) hq) (by rw [em, SX.S_cat, SX.S_len, List.length_append]; omega) fun H7 e7 => js_str (ev_is (v := .str (PySem.Str.ofString ".")) ev_c (by rw [c46])) (by rw [em, SX.S_cat, SX.S_cat, SX.S_len, List.length_append, List.length_append]; show _ + 1 ≤ _; omega) fun H8 e8 => js_str (fm_str (ev_var rfl) (by rw [SX.S_len]; omega)) (by rw [em, SX.S_cat, SX.S_cat, SX.S_cat, SX.S_len, List.length_append, List.length_append, List.length_append]; show _ + 1 + _ ≤ _; omega) fun H9 e9 => ?_
      rw [em, SX.S_cat, SX.S_cat, SX.S_cat, show sg ++ TL.numL wh ++ [46] ++ noE (four r) = sg ++ (TL.numL wh ++ 46 :: noE (four r)) by simp]
      exact k H9 (((e6.trans e7).trans e8).trans e9)
    · have q2 := q _ (((x2.trans e3).trans e4).trans e5)
      rw [if_neg h0] at q2
      exact q2
end

section
variable {σ : L2.St} {H : Hp} {ta tb tl : TE} {K : PySem.W.Frag}
theorem ev_ixN {xs : List V} {i : Int} {v : V} (ha : EvL ta σ H xs) (hb : Ev tb σ H (.int i)) (hi : atI xs i = some v) : Ev (tOp (rIxL K) ta tb) σ H v := fun H1 e Q q =>
  ha H1 e _ fun p H2 hp e2 h2 => hb H2 (e.trans e2) _ fun H3 e3 => rv_ixL (sq_of (e3 _ _ h2)) hi H3 (Ex.refl H3) Q fun H4 e4 => q H4 ((e2.trans e3).trans e4)
theorem ev_slT {to : TO} {l : List Nat} {i : Nat} (ha : Ev ta σ H (.str (SX.S l))) (hn : ∀ σ H Q, Q none H → to σ H Q) (hl : Ev tl σ H (.int (i : Int))) (hz : l.length ≤ 100000) : Ev (tSl C8.rSlX ta to (tPart tl)) σ H (.str (SX.S (l.take i))) := fun H1 e Q q =>
  ha H1 e _ fun H2 e2 => hn _ _ _ (hl H2 (e.trans e2) _ fun H3 e3 => ⟨_, rfl, SX.S l, rfl, by rw [SX.S_len]; exact sz_of hz, by rw [SX.slice_to (by omega), Int.toNat_natCast]; exact q H3 (e2.trans e3)⟩)
end
section
variable {σ : L2.St} {H : Hp} {D : Ends} {tz : TS} {te : TE}
theorem q_forX {tu : TS} {j : Nat} {w : List Nat} (h : Ev te σ H (.str (SX.S w))) (Pv : Nat → L2.St → Hp → Prop) (h0 : ∀ H1, Ex H H1 → Pv 0 σ H1)
    (hs : ∀ (i : Nat) (c : Nat) σ' H', w[i]? = some c → Pv i σ' H' → tu { nx := Pv (i + 1), rt := D.rt, bk := tz D, ct := Pv (i + 1) } (σ'.set j (some (.str ⟨#[c]⟩))) H')
    (hd : ∀ σ' H', Pv w.length σ' H' → tz D σ' H') : tSeq (tFor (iStr te) (gName j) tu) tz D σ H := by
  have ec : ∀ i, (SX.S w).cps[i]? = w[i]? := fun i => List.getElem?_toArray
  have es : (SX.S w).cps.size = w.length := List.size_toArray
  refine h H (Ex.refl H) _ fun H1 e1 => ⟨SX.S w, rfl, fun i m σ' H' => Pv i σ' H' ∧ i ≤ w.length ∧ w.length - i ≤ m, ⟨_, h0 H1 e1, Nat.zero_le _, Nat.le_refl _⟩, fun i m σ' H' p => ?_⟩
  obtain ⟨p, hi, hm⟩ := p
  by_cases hlt : i < w.length
  · refine .inr ⟨by show i < (SX.S w).cps.size; omega, fun σ2 H2 => Pv (i + 1) σ2 H2, fun σ2 H2 q => ⟨m - 1, by omega, q, hlt, by omega⟩, ?_⟩
    rintro x H2 ⟨rfl, c, hc, rfl⟩
    rw [ec] at hc
    exact hs i c σ' _ hc p
  · refine .inl ⟨by show (SX.S w).cps.size ≤ i; omega, ?_⟩
    rw [show i = w.length by omega] at p
    exact hd _ _ p
theorem q_callG {sp : Sp} {dvs vs : List V} {E : XK} {tr : TA} {g : TG} (h : EvA tr σ H vs) (k : ∀ H1, Ex H H1 → sp (vs ++ dvs) H1 (fun x H2 => g x σ H2 (tz D)) E) : tSeq (tAsg (tCall sp dvs E tr) g) tz D σ H := h H (Ex.refl H) _ fun H1 e1 => k H1 e1
end
theorem slice_mid {a : List Nat} {i j : Nat} (h : i ≤ j) (hj : j ≤ a.length) : Txt.slice (SX.S a) (some (i : Int)) (some (j : Int)) = SX.S ((a.drop i).take (j - i)) := by
  rw [← C8.cutS_slice]
  unfold cutS
  rw [SX.S_len, HT.sIx_nat, HT.sIx_nat, Nat.min_eq_left hj, Nat.min_eq_left (show i ≤ a.length by omega)]
theorem ev_slM {σ : L2.St} {H : Hp} {ta tl th : TE} {l : List Nat} {i j : Nat} (ha : Ev ta σ H (.str (SX.S l))) (hl : Ev tl σ H (.int (i : Int))) (hh : Ev th σ H (.int (j : Int))) (h : i ≤ j) (hj : j ≤ l.length) (hz : l.length ≤ 100000) : Ev (tSl C8.rSlX ta (tPart tl) (tPart th)) σ H (.str (SX.S ((l.drop i).take (j - i)))) := fun H1 e Q q =>
  ha H1 e _ fun H2 e2 => hl H2 (e.trans e2) _ fun H3 e3 => ⟨_, rfl, hh H3 ((e.trans e2).trans e3) _ fun H4 e4 => ⟨_, rfl, SX.S l, rfl, by rw [SX.S_len]; exact sz_of hz, by rw [slice_mid h hj]; exact q H4 ((e2.trans e3).trans e4)⟩⟩
theorem q_par2 {σ : L2.St} {H : Hp} {ta : TA} {D : Ends} {tz : TS} {i j : Nat} {x y : V} (h : EvA ta σ H [x, y]) (k : ∀ H1, Ex H H1 → tz D ((σ.set i (some x)).set j (some y)) H1) : tSeq (tPar i j ta) tz D σ H := h H (Ex.refl H) _ fun H1 e => ⟨x, y, rfl, k H1 e⟩
theorem q_par3 {σ : L2.St} {H : Hp} {ta : TA} {D : Ends} {tz : TS} {i j l : Nat} {x y z : V} (h : EvA ta σ H [x, y, z]) (k : ∀ H1, Ex H H1 → tz D (((σ.set i (some x)).set j (some y)).set l (some z)) H1) : tSeq (tPar3 i j l ta) tz D σ H := h H (Ex.refl H) _ fun H1 e => ⟨x, y, z, rfl, k H1 e⟩

end Dg
open Dg hiding isD
/-! ### dates as texts (the program) -/
def lowL : Nat → Nat → List Nat
  | 0, _ => []
  | k + 1, n => (48 + n / 10 ^ k % 10) :: lowL k n
theorem lowL_len (n : Nat) : ∀ k, (lowL k n).length = k
  | 0 => rfl
  | k + 1 => by rw [lowL, List.length_cons, lowL_len n k]
theorem lowL_dig (n : Nat) : ∀ k, (lowL k n).all Dg.isD = true
  | 0 => rfl
  | k + 1 => by
    rw [lowL, List.all_cons, lowL_dig n k, Bool.and_true]
    unfold Dg.isD
    rw [decide_eq_true (by omega), decide_eq_true (by omega)]
    rfl
theorem lowL_val (n : Nat) : ∀ k, dval (lowL k n) = n % 10 ^ k
  | 0 => by rw [Nat.pow_zero, Nat.mod_one]; rfl
  | k + 1 => by
    rw [lowL, dval_cons, lowL_len, lowL_val n k, Nat.mod_pow_succ, show 48 + n / 10 ^ k % 10 - 48 = n / 10 ^ k % 10 by omega, Nat.mul_comm, Nat.add_comm]
theorem lowL_digs (n k : Nat) : digs (lowL (k + 1) n) = true := by
  unfold digs
  rw [lowL_dig]
  rfl
theorem zdig_num (W n : Nat) : zdig W n = List.replicate (W - (TL.numL n).length) 48 ++ TL.numL n := by
  have e : TL.numL n = (Nat.toDigits 10 n).map Char.toNat := rfl
  unfold zdig
  rw [e, List.length_map]
theorem zdig4 {n : Nat} (h : n < 10000) : zdig 4 n = lowL 4 n := by
  rw [zdig_num, numL_pad h]
  show [48 + n / 1000, 48 + n / 100 % 10, 48 + n / 10 % 10, 48 + n % 10] = [48 + n / 10 ^ 3 % 10, 48 + n / 10 ^ 2 % 10, 48 + n / 10 ^ 1 % 10, 48 + n / 10 ^ 0 % 10]
  rw [show n / 10 ^ 3 % 10 = n / 1000 by omega, show n / 10 ^ 2 % 10 = n / 100 % 10 by omega, show n / 10 ^ 1 % 10 = n / 10 % 10 by omega, show n / 10 ^ 0 % 10 = n % 10 by omega]
theorem zdig2 {n : Nat} (h : n < 100) : zdig 2 n = lowL 2 n := by
  rw [zdig_num]
  show _ = [48 + n / 10 ^ 1 % 10, 48 + n / 10 ^ 0 % 10]
  rw [show n / 10 ^ 1 % 10 = n / 10 by omega, show n / 10 ^ 0 % 10 = n % 10 by omega]
  by_cases h1 : n < 10
  · rw [TL.numL_lt h1, show n / 10 = 0 by omega, show n % 10 = n by omega]
    rfl
  · rw [TL.numL_step (by omega), TL.numL_lt (by omega)]
    rfl
noncomputable def dtx3 (d : Int) : List Nat := lowL 4 (dt d).1.toNat ++ ([45] ++ (lowL 2 (dt d).2.1.toNat ++ ([45] ++ lowL 2 (dt d).2.2.toNat)))
theorem dtx3_len (d : Int) : (dtx3 d).length = 10 := by
  unfold dtx3
  rw [List.length_append, List.length_append, List.length_append, List.length_append, lowL_len, lowL_len, lowL_len]
  rfl
/-- what is read of a text -/
def rdOk (l : List Nat) : Prop := l.length = 10 ∧ l.getD 4 0 = 45 ∧ l.getD 7 0 = 45
instance (l : List Nat) : Decidable (rdOk l) := by unfold rdOk; exact inferInstance
def p1 (l : List Nat) : List Nat := l.take 4
def p2 (l : List Nat) : List Nat := (l.drop 5).take 2
def p3 (l : List Nat) : List Nat := l.drop 8
def rd3 (l : List Nat) : V := if rdOk l ∧ digs (p1 l) = true ∧ digs (p2 l) = true ∧ digs (p3 l) = true then dayV (dval (p1 l) : Nat) (dval (p2 l) : Nat) (dval (p3 l) : Nat) else .non
theorem rd3_pl (l : List Nat) : rd3 l = .non ∨ ∃ i : Int, rd3 l = .int i := by
  unfold rd3 dayV
  split
  · split
    · exact .inr ⟨_, rfl⟩
    · exact .inl rfl
  · exact .inl rfl
theorem rd3_dtx {d : Int} (h : -719162 ≤ d ∧ d ≤ 2932896) : rd3 (dtx3 d) = .int d := by
  obtain ⟨hD, hd⟩ := dt_ok h
  have ml := mlen_in (y := (dt d).1) hD.2.1
  obtain ⟨⟨y0, y1⟩, ⟨m0, m1⟩, d0, d1⟩ := _root_.id hD
  have e1 : p1 (dtx3 d) = lowL 4 (dt d).1.toNat := by
    unfold p1 dtx3
    rw [List.take_append_of_le_length (by rw [lowL_len]; omega), List.take_of_length_le (by rw [lowL_len]; omega)]
  have e2 : p2 (dtx3 d) = lowL 2 (dt d).2.1.toNat := rfl
  have e3 : p3 (dtx3 d) = lowL 2 (dt d).2.2.toNat := rfl
  have hk : rdOk (dtx3 d) := ⟨dtx3_len d, rfl, rfl⟩
  unfold rd3
  rw [e1, e2, e3, if_pos ⟨hk, lowL_digs _ _, lowL_digs _ _, lowL_digs _ _⟩, lowL_val, lowL_val, lowL_val, Nat.mod_eq_of_lt (by omega), Nat.mod_eq_of_lt (by omega), Nat.mod_eq_of_lt (by omega)]
  rw [Int.toNat_of_nonneg (by omega), Int.toNat_of_nonneg (by omega), Int.toNat_of_nonneg (by omega)]
  unfold dayV
  rw [if_pos hD, hd]
def sp_date_text (K : PySem.W.Frag) : Sp := fun vs H Q _ => ∃ d : Int, vs = [.int d] ∧ (-719162 ≤ d ∧ d ≤ 2932896) ∧ ∀ H', Ex H H' → Q (.str (SX.S (dtx3 d))) H'
def sp_read_date (K : PySem.W.Frag) : Sp := fun vs H Q _ => ∃ l : List Nat, vs = [.str (SX.S l)] ∧ l.length ≤ 200 ∧ ∀ H', Ex H H' → Q (rd3 l) H'
section
variable {P : Program} {w : World} {K : PySem.W.Frag} {mg : Str → Option Value} {base : Heap}
section
variable {σ : L2.St} {H : Hp} {ta tb tc td te : TE} {E : XK}
theorem ec_dtx {d : Int} (ha : Ev ta σ H (.int d)) (h : -719162 ≤ d ∧ d ≤ 2932896) : Ev (tCall (sp_date_text K) [] E (tCons ta tNil)) σ H (.str (SX.S (dtx3 d))) := ev_call (ea_cons ha ea_nil) fun H1 e Q q E => ⟨d, rfl, h, q⟩
theorem ec_rd3 {l : List Nat} (ha : Ev ta σ H (.str (SX.S l))) (h : l.length ≤ 200) : Ev (tCall (sp_read_date K) [] E (tCons ta tNil)) σ H (rd3 l) := ev_call (ea_cons ha ea_nil) fun H1 e Q q E => ⟨l, rfl, h, q⟩
theorem fm_z4 {n : Nat} (h : Ev te σ H (.int (n : Int))) (hn : n < 10000) : Ev (tFmtZ te (tC (.str (Str.ofString "04d")))) σ H (.str (SX.S (lowL 4 n))) := fun H1 e Q q => h H1 e _ fun H2 e2 => ⟨n, rfl, by omega, .inl ⟨rfl, by rw [zdig4 hn]; exact q H2 e2⟩⟩
theorem fm_z2 {n : Nat} (h : Ev te σ H (.int (n : Int))) (hn : n < 100) : Ev (tFmtZ te (tC (.str (Str.ofString "02d")))) σ H (.str (SX.S (lowL 2 n))) := fun H1 e Q q => h H1 e _ fun H2 e2 => ⟨n, rfl, by omega, .inr ⟨rfl, by rw [zdig2 hn]; exact q H2 e2⟩⟩
/-- text[i] beside one sign -/
theorem ev_at {l : List Nat} {i : Nat} (ha : Ev ta σ H (.str (SX.S l))) (hb : Ev tb σ H (.int (i : Int))) (hi : i < l.length) (hz : l.length ≤ 1000) : Ev (tOp rIxS ta tb) σ H (.str ⟨#[l.getD i 0]⟩) :=
  ev_op ha hb (rv_ixS (by rw [SX.S_len]; omega) (atI_nat (by
    show l[i]? = _
    rw [List.getD_eq_getElem?_getD, List.getElem?_eq_getElem hi]
    rfl)))
end
theorem one45 (c : Nat) : decide (V.str ⟨#[c]⟩ = V.str (PySem.Str.ofString "-")) = decide (c = 45) := by
  rw [c45]
  refine decide_eq_decide.mpr ⟨fun e => ?_, fun e => e ▸ rfl⟩
  have e2 : SX.S [c] = SX.S [45] := V.str.inj e
  exact List.head_eq_of_cons_eq (SX.S_inj e2)
/-- the first test of both readers -/
theorem et_first {σ : L2.St} {H : Hp} {l : List Nat} {tl : TE} (hl : Ev tl σ H (.int (l.length : Int))) (h0 : σ[0]? = some (some (.str (SX.S l)))) (hz : l.length ≤ 200) :
    EvT (tOr (tTest (tOp rNe tl (tC (.int 10)))) (tOr (tTest (tOp rNe (tOp rIxS (tVar 0) (tC (.int 4))) (tC (.str (PySem.Str.ofString "-"))))) (tTest (tOp rNe (tOp rIxS (tVar 0) (tC (.int 7))) (tC (.str (PySem.Str.ofString "-"))))))) σ H (!decide (rdOk l)) := by
  refine et_is (et_or (et_test (ev_op hl ev_c (rv_ne rfl))) fun hb => et_or (et_test (ev_op (ev_at (i := 4) (ev_var h0) ev_c ?_ (by omega)) ev_c (rv_ne rfl))) fun _ => et_test (ev_op (ev_at (i := 7) (ev_var h0) ev_c ?_ (by omega)) ev_c (rv_ne rfl))) ?_
  · rw [Bool.not_eq_false', decide_eq_true_eq] at hb
    have := V.int.inj hb
    omega
  · rw [Bool.not_eq_false', decide_eq_true_eq] at hb
    have := V.int.inj hb
    omega
  · rw [one45, one45]
    have e : decide (V.int (l.length : Int) = V.int 10) = decide (l.length = 10) := decide_eq_decide.mpr ⟨fun e => by have := V.int.inj e; omega, fun e => by rw [e]; rfl⟩
    rw [e, ← Bool.not_and, ← Bool.not_and]
    congr 1
    rw [Bool.eq_iff_iff, Bool.and_eq_true, Bool.and_eq_true, decide_eq_true_eq, decide_eq_true_eq, decide_eq_true_eq, decide_eq_true_eq]
    rfl
theorem ok_date_text (D : Dn K mg "date_text" s_date_text ["day"]) (c_date_of : C8.Cal P w K mg base 3 "date_of" (sp_date_of K) []) :
    C8.Cal P w K mg base 4 "date_text" (sp_date_text K) [] := by
  refine cal_of D sc_date_text (fun vs H Q E h => ?_) (fun f cdv A outer s H vs Q E hr h => ?_)
  · obtain ⟨_, rfl, _⟩ := h
    rfl
  refine ⟨_, (pss_cons (ps_asg (C8.pe_c c_date_of hr (by decide) (by rfl) (pa_cons (pv 0) pa_nil)) (pg_tup rfl (pgs_cons (pg_name (i := 1) sc_date_text.nd rfl (.inl rfl)) (pgs_cons (pg_name (i := 2) sc_date_text.nd rfl (.inl rfl)) (pgs_cons (pg_name (i := 3) sc_date_text.nd rfl (.inl rfl)) pgs_nil)))))
    (pss_one (ps_ret (pe_joined (PJ.cons (pe_fmtZ (pv 1) (pe_joined1 pe_str)) (PJ.cons pe_str (PJ.cons (pe_fmtZ (pv 2) (pe_joined1 pe_str)) (PJ.cons pe_str (PJ.cons (pe_fmtZ (pv 3) (pe_joined1 pe_str)) PJ.nil))))))))), ?_⟩
  obtain ⟨d, rfl, hd, q⟩ := h
  obtain ⟨hD, _⟩ := dt_ok hd
  have ml := mlen_in (y := (dt d).1) hD.2.1
  obtain ⟨⟨y0, y1⟩, ⟨m0, m1⟩, d0, d1⟩ := hD
  have hq : dtx3 d = lowL 4 (dt d).1.toNat ++ ([45] ++ (lowL 2 (dt d).2.1.toNat ++ ([45] ++ lowL 2 (dt d).2.2.toNat))) := rfl
  rw [hq] at q
  refine q_asgG (ec_date (ev_var rfl) hd) fun p H1 hp e1 h1 => gt3 (st_of h1) ?_
  obtain ⟨y, hy⟩ := Int.eq_ofNat_of_zero_le (show 0 ≤ (dt d).1 by omega)
  obtain ⟨m, hm⟩ := Int.eq_ofNat_of_zero_le (show 0 ≤ (dt d).2.1 by omega)
  obtain ⟨t, ht⟩ := Int.eq_ofNat_of_zero_le (show 0 ≤ (dt d).2.2 by omega)
  rw [hy] at y0 y1 ml
  rw [hm] at m0 m1
  rw [hy, hm, ht, Int.toNat_natCast, Int.toNat_natCast, Int.toNat_natCast] at q
  have d2 : t < 100 := by rw [ht] at d1; rw [hy, hm] at d1; rw [hm] at ml; omega
  rw [hy, hm, ht]
  have em : ∀ x : Str, Str.empty ++ x = x := fun x => TL.ext_tl (by rw [TL.tl_append]; rfl)
  refine s_ret (v := .str (SX.S (lowL 4 y ++ ([45] ++ (lowL 2 m ++ ([45] ++ lowL 2 t)))))) (fun H4 e4 Q k => ?_) fun H4 e4 => q _ (e1.trans e4)
  have h4 := lowL_len y 4
  have h2 := lowL_len m 2
  have h3 := lowL_len t 2
  refine js_str (fm_z4 (ev_var rfl) (by omega)) (by rw [em, SX.S_len]; omega) fun H5 e5 => js_str (y := SX.S [45]) (ev_is ev_c (by rw [c45])) (by rw [em, SX.S_cat, SX.S_len, List.length_append, h4]; decide) fun H6 e6 => js_str (fm_z2 (ev_var rfl) (by omega)) (by rw [em, SX.S_cat, SX.S_cat, SX.S_len, List.length_append, List.length_append, h4, h2]; decide) fun H7 e7 => js_str (y := SX.S [45]) (ev_is ev_c (by rw [c45])) (by rw [em, SX.S_cat, SX.S_cat, SX.S_cat, SX.S_len, List.length_append, List.length_append, List.length_append, h4, h2]; decide) fun H8 e8 => js_str (fm_z2 (ev_var rfl) (by omega)) (by rw [em, SX.S_cat, SX.S_cat, SX.S_cat, SX.S_cat, SX.S_len, List.length_append, List.length_append, List.length_append, List.length_append, h4, h2, h3]; decide) fun H9 e9 => ?_
  rw [em, SX.S_cat, SX.S_cat, SX.S_cat, SX.S_cat, List.append_assoc, List.append_assoc, List.append_assoc]
  exact k H9 ((((e5.trans e6).trans e7).trans e8).trans e9)
theorem ok_read_date (D : Dn K mg "read_date" s_read_date ["text"]) (c_day_of : C8.Cal P w K mg base 3 "day_of" (sp_day_of K) []) (c_is_digits : C8.Cal P w K mg base 1 "is_digits" (sp_is_digits K) []) (z_int : mg "int" = none) (z_len : mg "len" = none) :
    C8.Cal P w K mg base 4 "read_date" (sp_read_date K) [] := by
  refine cal_of D sc_read_date (fun vs H Q E h => ?_) (fun f cdv A outer s H vs Q E hr h => ?_)
  · obtain ⟨_, rfl, _⟩ := h
    rfl
  refine ⟨_, (pss_cons (ps_if (PW.pt (pw_or (pt_cmpR op_ne (pe_callB call_len_str (by rfl) z_len PySem.boot_len (pa_cons (pv 0) pa_nil)) pe_int (nomark _)) (pw_or (pt_cmpR op_ne (pe_ix ix_str (pv 0) pe_int (fun _ _ => rfl)) pe_str (nomark _)) (pw_or1 (pt_cmpR op_ne (pe_ix ix_str (pv 0) pe_int (fun _ _ => rfl)) pe_str (nomark _))))))
      (pss_one (ps_ret pe_non))
      pss_nil)
    (pss_cons (ps_par3 (i := 1) (j := 2) (l := 3) (by rfl) sc_read_date.nd rfl rfl rfl (by decide) (by decide) (by decide) rfl rfl rfl (pa_cons (pe_slice C8.sl_txt (pv 0) po_none (po_some pe_int)) (pa_cons (pe_slice C8.sl_txt (pv 0) (po_some pe_int) (po_some pe_int)) (pa_cons (pe_slice C8.sl_txt (pv 0) (po_some pe_int) po_none) pa_nil))) (by rfl))
    (pss_cons (ps_if (pt_not (PW.pt (pw_and (pt_val (C8.pe_c c_is_digits hr (by decide) (by rfl) (pa_cons (pv 1) pa_nil))) (pw_and (pt_val (C8.pe_c c_is_digits hr (by decide) (by rfl) (pa_cons (pv 2) pa_nil))) (pw_and1 (pt_val (C8.pe_c c_is_digits hr (by decide) (by rfl) (pa_cons (pv 3) pa_nil))))))))
      (pss_one (ps_ret pe_non))
      pss_nil)
    (pss_one (ps_ret (C8.pe_c c_day_of hr (by decide) (by rfl) (pa_cons (pe_callTy call_int_str (by rfl) z_int (by decide +kernel) (pa_cons (pv 1) pa_nil)) (pa_cons (pe_callTy call_int_str (by rfl) z_int (by decide +kernel) (pa_cons (pv 2) pa_nil)) (pa_cons (pe_callTy call_int_str (by rfl) z_int (by decide +kernel) (pa_cons (pv 3) pa_nil)) pa_nil))))))))), ?_⟩
  obtain ⟨l, rfl, hz, q⟩ := h
  refine q_when (et_first (ev_lenX (ev_var rfl) (by omega)) rfl hz) (fun hb H1 e1 => ?_) fun hb H1 e1 => ?_
  · refine s_ret (v := rd3 l) (ev_is ev_c ?_) fun H2 e2 => q _ (e1.trans e2)
    unfold rd3
    rw [if_neg]
    intro z
    rw [decide_eq_true z.1] at hb
    exact nomatch hb
  rw [Bool.not_eq_false', decide_eq_true_eq] at hb
  have hl := hb.1
  refine q_par3 (x := .str (SX.S (p1 l))) (y := .str (SX.S (p2 l))) (z := .str (SX.S (p3 l))) (ea_cons (ev_slT (i := 4) (ev_var rfl) (fun _ _ _ q => q) ev_c (by omega)) (ea_cons (ev_slM (i := 5) (j := 7) (ev_var rfl) ev_c ev_c (by omega) (by omega) (by omega)) (ea_cons (ev_slF (i := 8) (ev_var rfl) ev_c (fun _ _ _ q => q) (by omega)) ea_nil))) fun H2 e2 => ?_
  have x2 := e1.trans e2
  have l1 : (p1 l).length ≤ 10 := by unfold p1; rw [List.length_take]; omega
  have l2 : (p2 l).length ≤ 10 := by unfold p2; rw [List.length_take]; omega
  have l3 : (p3 l).length ≤ 10 := by unfold p3; rw [List.length_drop]; omega
  refine q_when (b := !(digs (p1 l) && (digs (p2 l) && digs (p3 l)))) (et_not (et_and (et_B (ec_digs (ev_var rfl))) fun _ => et_and (et_B (ec_digs (ev_var rfl))) fun _ => et_B (ec_digs (ev_var rfl)))) (fun hc H3 e3 => ?_) fun hc H3 e3 => ?_
  · refine s_ret (v := rd3 l) (ev_is ev_c ?_) fun H4 e4 => q _ ((x2.trans e3).trans e4)
    unfold rd3
    rw [if_neg]
    rintro ⟨_, z1, z2, z3⟩
    rw [z1, z2, z3] at hc
    exact nomatch hc
  rw [Bool.not_eq_false', Bool.and_eq_true, Bool.and_eq_true] at hc
  have hi : ∀ {x : List Nat}, digs x = true → x.length ≤ 10 → intText? (SX.S x) = some ((dval x : Nat) : Int) := fun hx hxl => by
    unfold digs at hx
    rw [Bool.and_eq_true, Bool.not_eq_true'] at hx
    exact SX.int_S hx.2 (fun e => by rw [e] at hx; exact nomatch hx.1) (by omega)
  refine s_ret (v := rd3 l) (ev_is (ec_day (ev_intS (ev_var rfl) (hi hc.1 l1) (by rw [SX.S_len]; omega)) (ev_intS (ev_var rfl) (hi hc.2.1 l2) (by rw [SX.S_len]; omega)) (ev_intS (ev_var rfl) (hi hc.2.2 l3) (by rw [SX.S_len]; omega))) ?_) fun H4 e4 => q _ ((x2.trans e3).trans e4)
  unfold rd3
  rw [if_pos ⟨hb, hc⟩]
end

/-! ### the operations on one value -/
def isDay : V → Bool
  | .int i => decide (-719162 ≤ i) && decide (i ≤ 2932896)
  | _ => false
def isStr : V → Bool
  | .str _ => true
  | _ => false
def iOf : V → Int
  | .int i => i
  | _ => 0
def tOf : V → List Nat
  | .str s => TL.tl s
  | _ => []
def neg3 (x : V) : V := if x = .bl true then .bl false else if x = .bl false then .bl true else .non
/-- plain, its ints small, its texts of plain signs -/
inductive U9 : V → Prop where
  | non : U9 .non
  | bl (b : Bool) : U9 (.bl b)
  | int (i : Int) (h : -1000000000000000 ≤ i ∧ i ≤ 1000000000000000) : U9 (.int i)
  | str (l : List Nat) (h : l.length ≤ 100) (hc : ∀ c ∈ l, c ≤ 126) : U9 (.str (SX.S l))
theorem strOk_le {l : List Nat} (h : ∀ c ∈ l, c ≤ 126) : PyData.strOk (SX.S l) = true := by
  unfold PyData.strOk
  rw [Array.all_eq_true']
  intro c hc
  have := h c (by simpa using hc)
  exact decide_eq_true (by omega)
theorem U9.ok {x : V} (h : U9 x) : Ok x := by
  cases h with
  | non => exact .non
  | bl b => exact .bl b
  | int i _ => exact .int i
  | str l _ hc => exact .str _ (strOk_le hc)
def itx (n : Int) : List Nat := (if n < 0 then [45] else []) ++ TL.numL n.natAbs
theorem itx_S (n : Int) : Str.ofString (toString n) = SX.S (itx n) := by
  cases n with
  | ofNat m =>
    have := SX.num_S m
    unfold itx
    rw [if_neg (by show ¬ ((m : Int) < 0); omega)]
    exact this
  | negSucc m =>
    have e : toString (Int.negSucc m) = "-" ++ toString (((m + 1 : Nat)) : Int) := rfl
    rw [e]
    have e2 : Str.ofString ("-" ++ toString (((m + 1 : Nat)) : Int)) = Str.ofString "-" ++ Str.ofString (toString (((m + 1 : Nat)) : Int)) := by
      rw [Str.ofString_eq_toList, Str.ofString_eq_toList, Str.ofString_eq_toList, String.toList_append, List.map_append]
      exact TL.ext_tl (by rw [TL.tl_append])
    rw [e2, SX.num_S, c45, SX.S_cat]
    unfold itx
    rw [if_pos (by omega)]
    rfl
theorem itx_ok (n : Int) : ∀ c ∈ itx n, c ≤ 126 := by
  intro c hc
  unfold itx at hc
  rcases List.mem_append.mp hc with h | h
  · split at h
    · rw [List.mem_singleton.mp h]; decide
    · cases h
  · have := TL.numL_digits n.natAbs c h
    omega
theorem itx_len {n : Int} (h : n.natAbs < 10 ^ 30) : (itx n).length ≤ 31 := by
  have hl := TL.numL_len (n := n.natAbs) (k := 30) (by decide) h
  unfold itx
  rw [List.length_append]
  have : (if n < 0 then [45] else [] : List Nat).length ≤ 1 := by split <;> decide
  omega
def sgnV (n : Int) : V := if n = 0 then .int 0 else if n > 0 then .int 1 else .int (-1)
/-- what a name does to an int, a day, a text -/
inductive NmN : Str → (Int → V) → Prop
  | neg : NmN "negate" fun n => .int (-n)
  | abs : NmN "abs" fun n => .int (ab n)
  | sign : NmN "sign" sgnV
  | asDec : NmN "as decimal" fun n => .int n
  | toDec : NmN "to decimal" fun n => limV (10000 * n)
  | toInt : NmN "to int" fun n => .int (rnd n 10000)
  | iText : NmN "int to text" fun n => .str (SX.S (itx n))
  | dText : NmN "decimal to text" fun n => .str (SX.S (dtx n))
inductive TxN : Str → (List Nat → V) → Prop
  | toI : TxN "text to int" rdI
  | toD : TxN "text to decimal" rdD
  | toT : TxN "text to date" rd3
inductive DtN : Str → (Int → V) → Prop
  | year : DtN "year" fun d => .int (dt d).1
  | month : DtN "month" fun d => .int (dt d).2.1
  | day : DtN "day" fun d => .int (dt d).2.2
  | week : DtN "weekday" fun d => .int ((d + 719162) % 7 + 1)
  | ms : DtN "month start" fun d => dayV (dt d).1 (dt d).2.1 1
  | ys : DtN "year start" fun d => dayV (dt d).1 1 1
  | ws : DtN "week start" fun d => .int (d - (d + 719162) % 7)
  | asDt : DtN "as date" fun d => .int d
  | text : DtN "date to text" fun d => .str (SX.S (dtx3 d))
inductive On : Str → V → V → Prop
  | not (x : V) : On "not" x (neg3 x)
  | null (x : V) : On "is null" x (.bl (decide (x = .non)))
  | num {nm : Str} {f : Int → V} (x : V) (h : NmN nm f) : On nm x (if isInt x = true then f (iOf x) else .non)
  | txt {nm : Str} {f : List Nat → V} (x : V) (h : TxN nm f) : On nm x (if isStr x = true then f (tOf x) else .non)
  | dat {nm : Str} {f : Int → V} (x : V) (h : DtN nm f) : On nm x (if isDay x = true then f (iOf x) else .non)
def fourS : List Str := ["lower", "upper", "length", "trim"]
def spUn (pre : V → Prop) (op : V → V) : Sp := fun vs H Q _ => ∃ x : V, vs = [x] ∧ pre x ∧ ∀ H', Ex H H' → Q (op x) H'
def inS (x : V) : Prop := ∃ n : Int, x = .int n ∧ -1000000000000000 ≤ n ∧ n ≤ 1000000000000000
def dyS (x : V) : Prop := ∃ n : Int, x = .int n ∧ -719162 ≤ n ∧ n ≤ 2932896
def txS (x : V) : Prop := ∃ l : List Nat, x = .str (SX.S l) ∧ l.length ≤ 100
def anyS (_ : V) : Prop := True
def sp_is_day (K : PySem.W.Frag) : Sp := fun vs H Q _ => ∃ x : V, vs = [x] ∧ Pl x ∧ ∀ H', Ex H H' → Q (.bl (isDay x)) H'
def sp_negated (K : PySem.W.Frag) : Sp := fun vs H Q _ => ∃ x : V, vs = [x] ∧ ∀ H', Ex H H' → Q (neg3 x) H'
def sp__negate (K : PySem.W.Frag) : Sp := spUn inS fun x => .int (-(iOf x))
def sp__size (K : PySem.W.Frag) : Sp := spUn inS fun x => .int (ab (iOf x))
def sp__sign (K : PySem.W.Frag) : Sp := spUn inS fun x => sgnV (iOf x)
def sp__value (K : PySem.W.Frag) : Sp := spUn anyS fun x => x
def sp__to_decimal (K : PySem.W.Frag) : Sp := spUn inS fun x => limV (10000 * iOf x)
def sp__to_integer (K : PySem.W.Frag) : Sp := spUn inS fun x => .int (rnd (iOf x) 10000)
def sp__integer_text (K : PySem.W.Frag) : Sp := spUn inS fun x => .str (SX.S (itx (iOf x)))
def sp__decimal_text (K : PySem.W.Frag) : Sp := spUn inS fun x => .str (SX.S (dtx (iOf x)))
def sp__read_integer (K : PySem.W.Frag) : Sp := spUn txS fun x => rdI (tOf x)
def sp__read_decimal (K : PySem.W.Frag) : Sp := spUn txS fun x => rdD (tOf x)
def sp__read_date (K : PySem.W.Frag) : Sp := spUn txS fun x => rd3 (tOf x)
noncomputable def sp__year (K : PySem.W.Frag) : Sp := spUn dyS fun x => .int (dt (iOf x)).1
noncomputable def sp__month (K : PySem.W.Frag) : Sp := spUn dyS fun x => .int (dt (iOf x)).2.1
noncomputable def sp__date (K : PySem.W.Frag) : Sp := spUn dyS fun x => .int (dt (iOf x)).2.2
def sp__weekday (K : PySem.W.Frag) : Sp := spUn dyS fun x => .int ((iOf x + 719162) % 7 + 1)
noncomputable def sp__month_start (K : PySem.W.Frag) : Sp := spUn dyS fun x => dayV (dt (iOf x)).1 (dt (iOf x)).2.1 1
noncomputable def sp__year_start (K : PySem.W.Frag) : Sp := spUn dyS fun x => dayV (dt (iOf x)).1 1 1
def sp__week_start (K : PySem.W.Frag) : Sp := spUn dyS fun x => .int (iOf x - (iOf x + 719162) % 7)
noncomputable def sp__date_text (K : PySem.W.Frag) : Sp := spUn dyS fun x => .str (SX.S (dtx3 (iOf x)))
inductive Op1 (P : Program) (w : World) (K : PySem.W.Frag) (mg : Str → Option Value) (base : Heap) (dI dT dD : Addr) : Str → V → V → Prop
  | onI {nm : Str} {x : V} {f : Addr} {pre : V → Prop} {op : V → V} : PySem.W.nsIn K dI nm = some (some (.ref f)) → L2.Held P w K mg base 8 f (spUn pre op) → (isInt x = true → pre x) → Op1 P w K mg base dI dT dD nm x (if isInt x = true then op x else .non)
  | onT {nm : Str} {x : V} {f : Addr} {pre : V → Prop} {op : V → V} : PySem.W.nsIn K dI nm = some none → PySem.W.nsIn K dT nm = some (some (.ref f)) → L2.Held P w K mg base 8 f (spUn pre op) → (isStr x = true → pre x) → Op1 P w K mg base dI dT dD nm x (if isStr x = true then op x else .non)
  | onN {nm : Str} {x : V} {f : Addr} : PySem.W.nsIn K dI nm = some none → PySem.W.nsIn K dT nm = some (some (.ref f)) → isStr x = false → Op1 P w K mg base dI dT dD nm x .non
  | onD {nm : Str} {x : V} {f : Addr} {pre : V → Prop} {op : V → V} : PySem.W.nsIn K dI nm = some none → PySem.W.nsIn K dT nm = some none → PySem.W.nsIn K dD nm = some (some (.ref f)) → L2.Held P w K mg base 8 f (spUn pre op) → (isDay x = true → pre x) → Op1 P w K mg base dI dT dD nm x (if isDay x = true then op x else .non)
/-- what value_of_one is asked -/
inductive Ask : Str → V → V → Prop
  | on {nm : Str} {x z : V} (h : On nm x z) : Ask nm x z
  | four {nm : Str} {x : V} (h : nm ∈ fourS) (hx : isStr x = false) : Ask nm x .non
theorem nm_not {nm : Str} {f : Int → V} (h : NmN nm f) : decide (V.str nm = V.str "not") = false ∧ decide (V.str nm = V.str "is null") = false := by
  cases h <;> exact ⟨by decide +kernel, by decide +kernel⟩
theorem tx_not {nm : Str} {f : List Nat → V} (h : TxN nm f) : decide (V.str nm = V.str "not") = false ∧ decide (V.str nm = V.str "is null") = false := by
  cases h <;> exact ⟨by decide +kernel, by decide +kernel⟩
theorem dt_not {nm : Str} {f : Int → V} (h : DtN nm f) : decide (V.str nm = V.str "not") = false ∧ decide (V.str nm = V.str "is null") = false := by
  cases h <;> exact ⟨by decide +kernel, by decide +kernel⟩
theorem four_not {nm : Str} (h : nm ∈ fourS) : decide (V.str nm = V.str "not") = false ∧ decide (V.str nm = V.str "is null") = false := by
  unfold fourS at h
  simp only [List.mem_cons, List.not_mem_nil, or_false] at h
  rcases h with h | h | h | h <;> subst h <;> exact ⟨by decide +kernel, by decide +kernel⟩
noncomputable def sp_value_of_one (K : PySem.W.Frag) : Sp := fun vs H Q _ => ∃ (nm : Str) (x z : V), vs = [.str nm, x] ∧ U9 x ∧ Ask nm x z ∧ ∀ H', Ex H H' → Q z H'
noncomputable def sp_unary (K : PySem.W.Frag) : Sp := fun vs H Q _ => ∃ (nm : Str) (x z : V), vs = [.str nm, x] ∧ U9 x ∧ Ask nm x z ∧ ∀ H', Ex H H' → Q z H'
theorem rv_inKD {K : PySem.W.Frag} {d : Addr} {z : Str} {r : Option Value} {H : Hp} (e : PySem.W.nsIn K d z = some r) : RV (fun x y H Q => ∃ (z : Str) (r : Option Value), x = .str z ∧ y = .ref d ∧ PySem.W.nsIn K d z = some r ∧ Q (.bl r.isSome) H) (.str z) (.ref d) H (.bl r.isSome) :=
  fun H1 _ _ q => ⟨z, r, rfl, rfl, e, q H1 (Ex.refl H1)⟩
theorem rv_ixKD {K : PySem.W.Frag} {w : World} {d : Addr} {es : Array DictEntry} {n : Nat} {z : Str} {u : Value} {v : V} {H : Hp} (D : KDict K w d es n) (e : PySem.W.nsIn K d z = some (some u)) (r : RelV v u) : RV (rIxD K w) (.ref d) (.str z) H v :=
  fun H1 _ _ q => ⟨d, z, v, rfl, rfl, ⟨es, n, u, D.at_, D.lit, e, r⟩, q H1 (Ex.refl H1)⟩
theorem ev_isStr {K : PySem.W.Frag} {σ : L2.St} {H : Hp} {ta : TE} {x : V} (ha : Ev ta σ H x) (hx : Pl x) : Ev (tCB (rIsi K) (tCons ta (tCons (tC (.ty "str")) tNil))) σ H (.bl (isStr x)) := by
  cases hx with
  | non => exact ev_isiP (b := false) ha .non (by decide +kernel)
  | bl b => exact ev_isiP (b := false) ha (.bl b) (by show kitB "bool" "str" = some false; decide +kernel)
  | int i => exact ev_isiP (b := false) ha (.int i) (by show kitB "int" "str" = some false; decide +kernel)
  | str s => exact ev_isiP (b := true) ha (.str s) (by show kitB "str" "str" = some true; decide +kernel)
section
variable {P : Program} {w : World} {K : PySem.W.Frag} {mg : Str → Option Value} {base : Heap}
section
variable {σ : L2.St} {H : Hp} {ta tb tc : TE} {E : XK} {x y z : V} {nm : Str}
theorem ec_isday (ha : Ev ta σ H x) (h : Pl x) : Ev (tCall (sp_is_day K) [] E (tCons ta tNil)) σ H (.bl (isDay x)) := ev_call (ea_cons ha ea_nil) fun H1 e Q q E => ⟨x, rfl, h, q⟩
theorem ec_neg3 (ha : Ev ta σ H x) : Ev (tCall (sp_negated K) [] E (tCons ta tNil)) σ H (neg3 x) := ev_call (ea_cons ha ea_nil) fun H1 e Q q E => ⟨x, rfl, q⟩
theorem ev_ixU {xs : List V} {i : Int} {v : V} (ha : EvU ta σ H xs) (hb : Ev tb σ H (.int i)) (hi : atI xs i = some v) : Ev (tOp (rIxT K) ta tb) σ H v := fun H1 e Q q =>
  ha H1 e _ fun p H2 hp e2 h2 => hb H2 (e.trans e2) _ fun H3 e3 => rv_ixT (st_of (e3 _ _ h2)) hi H3 (Ex.refl H3) Q fun H4 e4 => q H4 ((e2.trans e3).trans e4)
theorem ev_strZ {n : Int} (h : Ev ta σ H (.int n)) (hn : n.natAbs < 10 ^ 30) : Ev (tCB (fun xs H Q => ∃ i, xs = [.int i] ∧ i.natAbs.log2 < 1920 ∧ Q (.str (PySem.Str.ofString (toString i))) H) (tCons ta tNil)) σ H (.str (SX.S (itx n))) := fun H1 e Q q =>
  h H1 e _ fun H2 e2 => ⟨_, rfl, by
    by_cases h0 : n.natAbs = 0
    · rw [h0]; decide
    · exact Nat.lt_trans ((Nat.log2_lt h0).mpr (Nat.lt_of_lt_of_le hn (by decide : 10 ^ 30 ≤ 2 ^ 100))) (by decide), by rw [itx_S]; exact q H2 e2⟩
theorem ec_dtext {n : Int} (ha : Ev ta σ H (.int n)) (hn : n.natAbs < 10 ^ 30) : Ev (tCall (sp_decimal_text K) [] E (tCons ta tNil)) σ H (.str (SX.S (dtx n))) := ev_call (ea_cons ha ea_nil) fun H1 e Q q E => ⟨n, rfl, hn, q⟩
theorem ec_rdD {l : List Nat} (ha : Ev ta σ H (.str (SX.S l))) (hn : l.length ≤ 200) : Ev (tCall (sp_read_decimal K) [] E (tCons ta tNil)) σ H (rdD l) := ev_call (ea_cons ha ea_nil) fun H1 e Q q E => ⟨l, rfl, hn, q⟩
theorem ec_rdI {l : List Nat} (ha : Ev ta σ H (.str (SX.S l))) (hn : l.length ≤ 200) : Ev (tCall (sp_read_integer K) [] E (tCons ta tNil)) σ H (rdI l) := ev_call (ea_cons ha ea_nil) fun H1 e Q q E => ⟨l, rfl, by omega, q⟩
theorem ec_wd {d : Int} (ha : Ev ta σ H (.int d)) (h : -719162 ≤ d ∧ d ≤ 2932896) : Ev (tCall (sp__weekday K) [] E (tCons ta tNil)) σ H (.int ((d + 719162) % 7 + 1)) := ev_call (ea_cons ha ea_nil) fun H1 e Q q E => ⟨.int d, rfl, ⟨d, rfl, h⟩, q⟩
theorem ec_held1 {i k : Nat} {f : Addr} {pre : V → Prop} {op : V → V} (hσ : σ[i]? = some (some (.ref f))) (h : L2.Held P w K mg base k f (spUn pre op)) (hp : pre x) (ha : Ev ta σ H x) : Ev (tCallH P w K mg base i k (tCons ta tNil)) σ H (op x) := fun H1 e Q q =>
  ⟨f, _, hσ, h, ha H1 e _ fun H2 e2 => ⟨x, rfl, hp, fun H' e' => q H' (e2.trans e')⟩⟩
end
theorem ok_is_day (D : Dn K mg "is_day" s_is_day ["value"]) (c_is_integer : C8.Cal P w K mg base 1 "is_integer" (sp_is_integer K) []) (g_FIRST_DAY : ∃ u, mg "FIRST_DAY" = some u ∧ RelV (.int (-719162)) u) (g_LAST_DAY : ∃ u, mg "LAST_DAY" = some u ∧ RelV (.int (2932896)) u) :
    C8.Cal P w K mg base 2 "is_day" (sp_is_day K) [] := by
  refine cal_of D sc_is_day (fun vs H Q E h => ?_) (fun f cdv A outer s H vs Q E hr h => ?_)
  · obtain ⟨_, rfl, _⟩ := h
    rfl
  refine ⟨_, (pss_one (ps_ret (pe_and (C8.pe_c c_is_integer hr (by decide) (by rfl) (pa_cons (pv 0) pa_nil)) (pe_one (pe_chain op_le op_le (C8.pe_gc rfl g_FIRST_DAY) (pv 0) (C8.pe_gc rfl g_LAST_DAY)))))), ?_⟩
  obtain ⟨x, rfl, hx, q⟩ := h
  refine s_ret (v := .bl (isDay x)) ?_ fun H2 e2 => q _ e2
  cases hx with
  | int i => exact ev_is (ev_andV (ec_isint0 (ev_var rfl) (.int i)) fun _ => ev_chain ev_c (ev_var rfl) rv_I0 (fun _ => ev_c) (fun _ => rv_I0)) rfl
  | non => exact ev_is (ev_andV (b := true) (ec_isint0 (ev_var rfl) .non) fun z => nomatch z) rfl
  | bl b => exact ev_is (ev_andV (b := true) (ec_isint0 (ev_var rfl) (.bl b)) fun z => nomatch z) rfl
  | str s => exact ev_is (ev_andV (b := true) (ec_isint0 (ev_var rfl) (.str s)) fun z => nomatch z) rfl
theorem ok_negated (D : Dn K mg "negated" s_negated ["value"]) :
    C8.Cal P w K mg base 1 "negated" (sp_negated K) [] := by
  refine cal_of D sc_negated (fun vs H Q E h => ?_) (fun f cdv A outer s H vs Q E hr h => ?_)
  · obtain ⟨_, rfl, _⟩ := h
    rfl
  refine ⟨_, (pss_cons (ps_if (pt_cmpR op_isTF (pv 0) pe_bl (nomark _))
      (pss_one (ps_ret pe_bl))
      pss_nil)
    (pss_cons (ps_if (pt_cmpR op_isTF (pv 0) pe_bl (nomark _))
      (pss_one (ps_ret pe_bl))
      pss_nil)
    (pss_one (ps_ret pe_non)))), ?_⟩
  obtain ⟨x, rfl, q⟩ := h
  refine q_when (b := decide (x = .bl true)) (by walk_at "et") (fun hb H1 e1 => s_ret (v := neg3 x) ?_ fun H2 e2 => q _ (e1.trans e2)) fun hb H1 e1 => ?_
  · refine ev_is ev_c ?_
    unfold neg3
    rw [if_pos (of_decide_eq_true hb)]
  refine q_when (b := decide (x = .bl false)) (by walk_at "et") (fun hc H2 e2 => s_ret (v := neg3 x) ?_ fun H3 e3 => q _ ((e1.trans e2).trans e3)) fun hc H2 e2 => s_ret (v := neg3 x) ?_ fun H3 e3 => q _ ((e1.trans e2).trans e3)
  · refine ev_is ev_c ?_
    unfold neg3
    rw [if_neg (of_decide_eq_false hb), if_pos (of_decide_eq_true hc)]
  · refine ev_is ev_c ?_
    unfold neg3
    rw [if_neg (of_decide_eq_false hb), if_neg (of_decide_eq_false hc)]
theorem ok__negate (D : Dn K mg "_negate" s__negate ["number"]) :
    C8.Cal P w K mg base 1 "_negate" (sp__negate K) [] := by
  refine cal_of D sc__negate (fun vs H Q E h => ?_) (fun f cdv A outer s H vs Q E hr h => ?_)
  · obtain ⟨_, rfl, _⟩ := h
    rfl
  refine ⟨_, (pss_one (ps_ret (pe_un un_neg (pv 0)))), ?_⟩
  obtain ⟨x, rfl, ⟨n, rfl, hn⟩, q⟩ := h
  exact s_ret (ev_un (ev_var rfl) ru_neg) fun H2 e2 => q _ e2
theorem ok__size (D : Dn K mg "_size" s__size ["number"]) (z_abs : mg "abs" = none) :
    C8.Cal P w K mg base 1 "_size" (sp__size K) [] := by
  refine cal_of D sc__size (fun vs H Q E h => ?_) (fun f cdv A outer s H vs Q E hr h => ?_)
  · obtain ⟨_, rfl, _⟩ := h
    rfl
  refine ⟨_, (pss_one (ps_ret (pe_callB call_abs (by rfl) z_abs (by decide +kernel) (pa_cons (pv 0) pa_nil)))), ?_⟩
  obtain ⟨x, rfl, ⟨n, rfl, hn⟩, q⟩ := h
  exact s_ret (v := .int (ab n)) (ev_abs (ev_var rfl)) fun H2 e2 => q _ e2
theorem ok__sign (D : Dn K mg "_sign" s__sign ["number"]) :
    C8.Cal P w K mg base 1 "_sign" (sp__sign K) [] := by
  refine cal_of D sc__sign (fun vs H Q E h => ?_) (fun f cdv A outer s H vs Q E hr h => ?_)
  · obtain ⟨_, rfl, _⟩ := h
    rfl
  refine ⟨_, (pss_cons (ps_if (pt_cmpR op_eq (pv 0) pe_int (nomark _))
      (pss_one (ps_ret pe_int))
      pss_nil)
    (pss_one (ps_ret (pe_ifExp (pt_cmpR op_gt (pv 0) pe_int (nomark _)) pe_int (pe_un un_neg pe_int))))), ?_⟩
  obtain ⟨x, rfl, ⟨n, rfl, hn⟩, q⟩ := h
  refine q_when (b := decide (V.int n = V.int 0)) (by walk_at "et") (fun hb H1 e1 => s_ret (v := sgnV n) (ev_is ev_c ?_) fun H2 e2 => q _ (e1.trans e2)) fun hb H1 e1 => s_ret (v := sgnV n) (ev_if (b := decide (n > 0)) (by walk_at "et") (fun hc => ev_is ev_c ?_) fun hc => ev_is (ev_un ev_c ru_neg) ?_) fun H2 e2 => q _ (e1.trans e2)
  · unfold sgnV
    rw [if_pos (V.int.inj (of_decide_eq_true hb))]
  · unfold sgnV
    rw [if_neg (fun z => of_decide_eq_false hb (by rw [z])), if_pos (of_decide_eq_true hc)]
  · unfold sgnV
    rw [if_neg (fun z => of_decide_eq_false hb (by rw [z])), if_neg (of_decide_eq_false hc)]
theorem ok__value (D : Dn K mg "_value" s__value ["value"]) :
    C8.Cal P w K mg base 1 "_value" (sp__value K) [] := by
  refine cal_of D sc__value (fun vs H Q E h => ?_) (fun f cdv A outer s H vs Q E hr h => ?_)
  · obtain ⟨_, rfl, _⟩ := h
    rfl
  refine ⟨_, (pss_one (ps_ret (pv 0))), ?_⟩
  obtain ⟨x, rfl, _, q⟩ := h
  exact s_ret (ev_var rfl) fun H2 e2 => q _ e2
theorem ok__to_decimal (D : Dn K mg "_to_decimal" s__to_decimal ["number"]) (c_limited : C8.Cal P w K mg base 1 "limited" (sp_limited K) []) :
    C8.Cal P w K mg base 2 "_to_decimal" (sp__to_decimal K) [] := by
  refine cal_of D sc__to_decimal (fun vs H Q E h => ?_) (fun f cdv A outer s H vs Q E hr h => ?_)
  · obtain ⟨_, rfl, _⟩ := h
    rfl
  refine ⟨_, (pss_one (ps_ret (C8.pe_c c_limited hr (by decide) (by rfl) (pa_cons (pe_op op_mul pe_int (pv 0)) pa_nil)))), ?_⟩
  obtain ⟨x, rfl, ⟨n, rfl, hn⟩, q⟩ := h
  exact s_ret (v := limV (10000 * n)) (ec_lim (ev_op ev_c (ev_var rfl) (rv_I (.inl ⟨by decide, by decide⟩)))) fun H2 e2 => q _ e2
theorem ok__to_integer (D : Dn K mg "_to_integer" s__to_integer ["number"]) (c_rounded : C8.Cal P w K mg base 1 "rounded" (sp_rounded K) []) :
    C8.Cal P w K mg base 2 "_to_integer" (sp__to_integer K) [] := by
  refine cal_of D sc__to_integer (fun vs H Q E h => ?_) (fun f cdv A outer s H vs Q E hr h => ?_)
  · obtain ⟨_, rfl, _⟩ := h
    rfl
  refine ⟨_, (pss_one (ps_ret (C8.pe_c c_rounded hr (by decide) (by rfl) (pa_cons (pv 0) (pa_cons pe_int pa_nil))))), ?_⟩
  obtain ⟨x, rfl, ⟨n, rfl, hn⟩, q⟩ := h
  exact s_ret (v := .int (rnd n 10000)) (ec_rounded (n := n) (d := 10000) ⟨by omega, by omega, by decide, by decide, by decide⟩ (ev_var rfl) ev_c) fun H2 e2 => q _ e2
theorem ok__integer_text (D : Dn K mg "_integer_text" s__integer_text ["number"]) (z_str : mg "str" = none) :
    C8.Cal P w K mg base 1 "_integer_text" (sp__integer_text K) [] := by
  refine cal_of D sc__integer_text (fun vs H Q E h => ?_) (fun f cdv A outer s H vs Q E hr h => ?_)
  · obtain ⟨_, rfl, _⟩ := h
    rfl
  refine ⟨_, (pss_one (ps_ret (pe_callTy call_str_int (by rfl) z_str (by decide +kernel) (pa_cons (pv 0) pa_nil)))), ?_⟩
  obtain ⟨x, rfl, ⟨n, rfl, hn⟩, q⟩ := h
  exact s_ret (v := .str (SX.S (itx n))) (ev_strZ (ev_var rfl) (by omega)) fun H2 e2 => q _ e2
theorem ok__decimal_text (D : Dn K mg "_decimal_text" s__decimal_text ["number"]) (c_decimal_text : C8.Cal P w K mg base 1 "decimal_text" (sp_decimal_text K) []) :
    C8.Cal P w K mg base 2 "_decimal_text" (sp__decimal_text K) [] := by
  refine cal_of D sc__decimal_text (fun vs H Q E h => ?_) (fun f cdv A outer s H vs Q E hr h => ?_)
  · obtain ⟨_, rfl, _⟩ := h
    rfl
  refine ⟨_, (pss_one (ps_ret (C8.pe_c c_decimal_text hr (by decide) (by rfl) (pa_cons (pv 0) pa_nil)))), ?_⟩
  obtain ⟨x, rfl, ⟨n, rfl, hn⟩, q⟩ := h
  exact s_ret (v := .str (SX.S (dtx n))) (ec_dtext (ev_var rfl) (by omega)) fun H2 e2 => q _ e2
theorem ok__read_integer (D : Dn K mg "_read_integer" s__read_integer ["text"]) (c_read_integer : C8.Cal P w K mg base 4 "read_integer" (sp_read_integer K) []) :
    C8.Cal P w K mg base 5 "_read_integer" (sp__read_integer K) [] := by
  refine cal_of D sc__read_integer (fun vs H Q E h => ?_) (fun f cdv A outer s H vs Q E hr h => ?_)
  · obtain ⟨_, rfl, _⟩ := h
    rfl
  refine ⟨_, (pss_one (ps_ret (C8.pe_c c_read_integer hr (by decide) (by rfl) (pa_cons (pv 0) pa_nil)))), ?_⟩
  obtain ⟨x, rfl, ⟨l, rfl, hl⟩, q⟩ := h
  exact s_ret (v := rdI l) (ec_rdI (ev_var rfl) (by omega)) fun H2 e2 => q _ e2
theorem ok__read_decimal (D : Dn K mg "_read_decimal" s__read_decimal ["text"]) (c_read_decimal : C8.Cal P w K mg base 4 "read_decimal" (sp_read_decimal K) []) :
    C8.Cal P w K mg base 5 "_read_decimal" (sp__read_decimal K) [] := by
  refine cal_of D sc__read_decimal (fun vs H Q E h => ?_) (fun f cdv A outer s H vs Q E hr h => ?_)
  · obtain ⟨_, rfl, _⟩ := h
    rfl
  refine ⟨_, (pss_one (ps_ret (C8.pe_c c_read_decimal hr (by decide) (by rfl) (pa_cons (pv 0) pa_nil)))), ?_⟩
  obtain ⟨x, rfl, ⟨l, rfl, hl⟩, q⟩ := h
  exact s_ret (v := rdD l) (ec_rdD (ev_var rfl) (by omega)) fun H2 e2 => q _ e2
theorem ok__read_date (D : Dn K mg "_read_date" s__read_date ["text"]) (c_read_date : C8.Cal P w K mg base 4 "read_date" (sp_read_date K) []) :
    C8.Cal P w K mg base 5 "_read_date" (sp__read_date K) [] := by
  refine cal_of D sc__read_date (fun vs H Q E h => ?_) (fun f cdv A outer s H vs Q E hr h => ?_)
  · obtain ⟨_, rfl, _⟩ := h
    rfl
  refine ⟨_, (pss_one (ps_ret (C8.pe_c c_read_date hr (by decide) (by rfl) (pa_cons (pv 0) pa_nil)))), ?_⟩
  obtain ⟨x, rfl, ⟨l, rfl, hl⟩, q⟩ := h
  exact s_ret (v := rd3 l) (ec_rd3 (ev_var rfl) (by omega)) fun H2 e2 => q _ e2
theorem ok__year (D : Dn K mg "_year" s__year ["day"]) (c_date_of : C8.Cal P w K mg base 3 "date_of" (sp_date_of K) []) :
    C8.Cal P w K mg base 4 "_year" (sp__year K) [] := by
  refine cal_of D sc__year (fun vs H Q E h => ?_) (fun f cdv A outer s H vs Q E hr h => ?_)
  · obtain ⟨_, rfl, _⟩ := h
    rfl
  refine ⟨_, (pss_one (ps_ret (pe_ix ix_tup (C8.pe_c c_date_of hr (by decide) (by rfl) (pa_cons (pv 0) pa_nil)) pe_int (fun _ _ => rfl)))), ?_⟩
  obtain ⟨x, rfl, ⟨n, rfl, hn⟩, q⟩ := h
  exact s_ret (v := .int (dt n).1) (ev_ixU (ec_date (ev_var rfl) hn) ev_c rfl) fun H2 e2 => q _ e2
theorem ok__month (D : Dn K mg "_month" s__month ["day"]) (c_date_of : C8.Cal P w K mg base 3 "date_of" (sp_date_of K) []) :
    C8.Cal P w K mg base 4 "_month" (sp__month K) [] := by
  refine cal_of D sc__month (fun vs H Q E h => ?_) (fun f cdv A outer s H vs Q E hr h => ?_)
  · obtain ⟨_, rfl, _⟩ := h
    rfl
  refine ⟨_, (pss_one (ps_ret (pe_ix ix_tup (C8.pe_c c_date_of hr (by decide) (by rfl) (pa_cons (pv 0) pa_nil)) pe_int (fun _ _ => rfl)))), ?_⟩
  obtain ⟨x, rfl, ⟨n, rfl, hn⟩, q⟩ := h
  exact s_ret (v := .int (dt n).2.1) (ev_ixU (ec_date (ev_var rfl) hn) ev_c rfl) fun H2 e2 => q _ e2
theorem ok__date (D : Dn K mg "_date" s__date ["day"]) (c_date_of : C8.Cal P w K mg base 3 "date_of" (sp_date_of K) []) :
    C8.Cal P w K mg base 4 "_date" (sp__date K) [] := by
  refine cal_of D sc__date (fun vs H Q E h => ?_) (fun f cdv A outer s H vs Q E hr h => ?_)
  · obtain ⟨_, rfl, _⟩ := h
    rfl
  refine ⟨_, (pss_one (ps_ret (pe_ix ix_tup (C8.pe_c c_date_of hr (by decide) (by rfl) (pa_cons (pv 0) pa_nil)) pe_int (fun _ _ => rfl)))), ?_⟩
  obtain ⟨x, rfl, ⟨n, rfl, hn⟩, q⟩ := h
  exact s_ret (v := .int (dt n).2.2) (ev_ixU (ec_date (ev_var rfl) hn) ev_c rfl) fun H2 e2 => q _ e2
theorem ok__weekday (D : Dn K mg "_weekday" s__weekday ["day"]) (g_FIRST_DAY : ∃ u, mg "FIRST_DAY" = some u ∧ RelV (.int (-719162)) u) :
    C8.Cal P w K mg base 1 "_weekday" (sp__weekday K) [] := by
  refine cal_of D sc__weekday (fun vs H Q E h => ?_) (fun f cdv A outer s H vs Q E hr h => ?_)
  · obtain ⟨_, rfl, _⟩ := h
    rfl
  refine ⟨_, (pss_one (ps_ret (pe_op op_add (pe_op op_mod (pe_op op_sub (pv 0) (C8.pe_gc rfl g_FIRST_DAY)) pe_int) pe_int))), ?_⟩
  obtain ⟨x, rfl, ⟨n, rfl, hn⟩, q⟩ := h
  exact s_ret (v := .int ((n + 719162) % 7 + 1)) (ev_is (v := .int ((n - -719162) % 7 + 1)) (ev_op (ev_op (ev_op (ev_var rfl) ev_c rv_I0) ev_c (rv_I (by decide))) ev_c rv_I0) (by congr 2)) fun H2 e2 => q _ e2
theorem ok__month_start (D : Dn K mg "_month_start" s__month_start ["day"]) (c_date_of : C8.Cal P w K mg base 3 "date_of" (sp_date_of K) []) (c_day_of : C8.Cal P w K mg base 3 "day_of" (sp_day_of K) []) :
    C8.Cal P w K mg base 4 "_month_start" (sp__month_start K) [] := by
  refine cal_of D sc__month_start (fun vs H Q E h => ?_) (fun f cdv A outer s H vs Q E hr h => ?_)
  · obtain ⟨_, rfl, _⟩ := h
    rfl
  refine ⟨_, (pss_cons (ps_asg (C8.pe_c c_date_of hr (by decide) (by rfl) (pa_cons (pv 0) pa_nil)) (pg_tup rfl (pgs_cons (pg_name (i := 1) sc__month_start.nd rfl (.inl rfl)) (pgs_cons (pg_name (i := 2) sc__month_start.nd rfl (.inl rfl)) (pgs_cons (pg_name (i := 3) sc__month_start.nd rfl (.inl rfl)) pgs_nil)))))
    (pss_one (ps_ret (C8.pe_c c_day_of hr (by decide) (by rfl) (pa_cons (pv 1) (pa_cons (pv 2) (pa_cons pe_int pa_nil))))))), ?_⟩
  obtain ⟨x, rfl, ⟨n, rfl, hn⟩, q⟩ := h
  refine q_asgG (ec_date (ev_var rfl) hn) fun p H1 hp e1 h1 => gt3 (st_of h1) ?_
  exact s_ret (v := dayV (dt n).1 (dt n).2.1 1) (ec_day (ev_var rfl) (ev_var rfl) ev_c) fun H2 e2 => q _ (e1.trans e2)
theorem ok__year_start (D : Dn K mg "_year_start" s__year_start ["day"]) (c_date_of : C8.Cal P w K mg base 3 "date_of" (sp_date_of K) []) (c_day_of : C8.Cal P w K mg base 3 "day_of" (sp_day_of K) []) :
    C8.Cal P w K mg base 4 "_year_start" (sp__year_start K) [] := by
  refine cal_of D sc__year_start (fun vs H Q E h => ?_) (fun f cdv A outer s H vs Q E hr h => ?_)
  · obtain ⟨_, rfl, _⟩ := h
    rfl
  refine ⟨_, (pss_one (ps_ret (C8.pe_c c_day_of hr (by decide) (by rfl) (pa_cons (pe_ix ix_tup (C8.pe_c c_date_of hr (by decide) (by rfl) (pa_cons (pv 0) pa_nil)) pe_int (fun _ _ => rfl)) (pa_cons pe_int (pa_cons pe_int pa_nil)))))), ?_⟩
  obtain ⟨x, rfl, ⟨n, rfl, hn⟩, q⟩ := h
  exact s_ret (v := dayV (dt n).1 1 1) (ec_day (ev_ixU (ec_date (ev_var rfl) hn) ev_c rfl) ev_c ev_c) fun H2 e2 => q _ e2
theorem ok__week_start (D : Dn K mg "_week_start" s__week_start ["day"]) (c__weekday : C8.Cal P w K mg base 1 "_weekday" (sp__weekday K) []) :
    C8.Cal P w K mg base 2 "_week_start" (sp__week_start K) [] := by
  refine cal_of D sc__week_start (fun vs H Q E h => ?_) (fun f cdv A outer s H vs Q E hr h => ?_)
  · obtain ⟨_, rfl, _⟩ := h
    rfl
  refine ⟨_, (pss_one (ps_ret (pe_op op_sub (pe_op op_add (pv 0) pe_int) (C8.pe_c c__weekday hr (by decide) (by rfl) (pa_cons (pv 0) pa_nil))))), ?_⟩
  obtain ⟨x, rfl, ⟨n, rfl, hn⟩, q⟩ := h
  exact s_ret (v := .int (n - (n + 719162) % 7)) (ev_is (v := .int (n + 1 - ((n + 719162) % 7 + 1))) (ev_op (ev_op (ev_var rfl) ev_c rv_I0) (ec_wd (ev_var rfl) hn) rv_I0) (by congr 1; omega)) fun H2 e2 => q _ e2
theorem ok__date_text (D : Dn K mg "_date_text" s__date_text ["day"]) (c_date_text : C8.Cal P w K mg base 4 "date_text" (sp_date_text K) []) :
    C8.Cal P w K mg base 5 "_date_text" (sp__date_text K) [] := by
  refine cal_of D sc__date_text (fun vs H Q E h => ?_) (fun f cdv A outer s H vs Q E hr h => ?_)
  · obtain ⟨_, rfl, _⟩ := h
    rfl
  refine ⟨_, (pss_one (ps_ret (C8.pe_c c_date_text hr (by decide) (by rfl) (pa_cons (pv 0) pa_nil)))), ?_⟩
  obtain ⟨x, rfl, ⟨n, rfl, hn⟩, q⟩ := h
  exact s_ret (v := .str (SX.S (dtx3 n))) (ec_dtx (ev_var rfl) hn) fun H2 e2 => q _ e2
theorem ok_value_of_one (D : Dn K mg "value_of_one" s_value_of_one ["name", "value"]) (c_is_day : C8.Cal P w K mg base 2 "is_day" (sp_is_day K) []) (c_is_integer : C8.Cal P w K mg base 1 "is_integer" (sp_is_integer K) []) (c_negated : C8.Cal P w K mg base 1 "negated" (sp_negated K) []) (z_isinstance : mg "isinstance" = none) (z_str : mg "str" = none) {p__OF_DATES : Addr} {es__OF_DATES : Array DictEntry} {n__OF_DATES : Nat} (g__OF_DATES : ∃ u, mg "_OF_DATES" = some u ∧ RelV (.ref p__OF_DATES) u) (h__OF_DATES : KDict K w p__OF_DATES es__OF_DATES n__OF_DATES) {p__OF_INTEGERS : Addr} {es__OF_INTEGERS : Array DictEntry} {n__OF_INTEGERS : Nat} (g__OF_INTEGERS : ∃ u, mg "_OF_INTEGERS" = some u ∧ RelV (.ref p__OF_INTEGERS) u) (h__OF_INTEGERS : KDict K w p__OF_INTEGERS es__OF_INTEGERS n__OF_INTEGERS) {p__OF_TEXTS : Addr} {es__OF_TEXTS : Array DictEntry} {n__OF_TEXTS : Nat} (g__OF_TEXTS : ∃ u, mg "_OF_TEXTS" = some u ∧ RelV (.ref p__OF_TEXTS) u) (h__OF_TEXTS : KDict K w p__OF_TEXTS es__OF_TEXTS n__OF_TEXTS) (tab : ∀ nm x z, U9 x → Ask nm x z → On nm x z ∧ (nm = "not" ∨ nm = "is null") ∨ (decide (V.str nm = V.str "not") = false ∧ decide (V.str nm = V.str "is null") = false) ∧ Op1 P w K mg base p__OF_INTEGERS p__OF_TEXTS p__OF_DATES nm x z) :
    C8.Cal P w K mg base 9 "value_of_one" (sp_value_of_one K) [] := by
  refine cal_of D sc_value_of_one (fun vs H Q E h => ?_) (fun f cdv A outer s H vs Q E hr h => ?_)
  · obtain ⟨_, _, _, rfl, _⟩ := h
    rfl
  refine ⟨_, (pss_cons (ps_if (pt_cmpR op_eq (pv 0) pe_str (nomark _))
      (pss_one (ps_ret (C8.pe_c c_negated hr (by decide) (by rfl) (pa_cons (pv 1) pa_nil))))
      pss_nil)
    (pss_cons (ps_if (pt_cmpR op_eq (pv 0) pe_str (nomark _))
      (pss_one (ps_ret (pe_cmpR op_isN (pv 1) pe_non (nomark _))))
      pss_nil)
    (pss_cons (ps_if (pt_cmpR (op_in_kd h__OF_INTEGERS) (pv 0) (C8.pe_gc rfl g__OF_INTEGERS) (by with_unfolding_all rfl))
      (pss_cons (ps_set (i := 2) sc_value_of_one.nd rfl (.inl rfl) (pe_ix ix_kdict (C8.pe_gc rfl g__OF_INTEGERS) (pv 0) (fun _ _ => rfl)))
    (pss_one (ps_ret (pe_ifExp (pt_val (C8.pe_c c_is_integer hr (by decide) (by rfl) (pa_cons (pv 1) pa_nil))) (pe_callH (i := 2) hr rfl (Or.inl rfl) (pa_cons (pv 1) pa_nil)) pe_non))))
      pss_nil)
    (pss_cons (ps_if (pt_cmpR (op_in_kd h__OF_TEXTS) (pv 0) (C8.pe_gc rfl g__OF_TEXTS) (by with_unfolding_all rfl))
      (pss_cons (ps_set (i := 2) sc_value_of_one.nd rfl (.inl rfl) (pe_ix ix_kdict (C8.pe_gc rfl g__OF_TEXTS) (pv 0) (fun _ _ => rfl)))
    (pss_one (ps_ret (pe_ifExp (pt_val (pe_callB call_isi (by rfl) z_isinstance (by decide +kernel) (pa_cons (pv 1) (pa_cons (pe_bltn (v := .ty "str") (u := .type "str") rfl z_str (by decide +kernel) rfl) pa_nil)))) (pe_callH (i := 2) hr rfl (Or.inl rfl) (pa_cons (pv 1) pa_nil)) pe_non))))
      pss_nil)
    (pss_cons (ps_set (i := 2) sc_value_of_one.nd rfl (.inl rfl) (pe_ix ix_kdict (C8.pe_gc rfl g__OF_DATES) (pv 0) (fun _ _ => rfl)))
    (pss_one (ps_ret (pe_ifExp (pt_val (C8.pe_c c_is_day hr (by decide) (by rfl) (pa_cons (pv 1) pa_nil))) (pe_callH (i := 2) hr rfl (Or.inl rfl) (pa_cons (pv 1) pa_nil)) pe_non)))))))), ?_⟩
  obtain ⟨nm, x, z, rfl, hx, hop, q⟩ := h
  have plx := hx.ok.pl
  rcases tab nm x z hx hop with ⟨hon, hnm⟩ | ⟨⟨n1, n2⟩, T⟩
  · rcases hnm with h | h <;> subst h
    · have hz : z = neg3 x := by cases hon with
        | not => rfl
        | num _ h => cases h
        | txt _ h => cases h
        | dat _ h => cases h
      subst hz
      exact q_when (b := true) (et_is (et_test (ev_op (ev_var rfl) ev_c (rv_eq rfl))) (by decide +kernel)) (fun _ H1 e1 => s_ret (ec_neg3 (ev_var rfl)) fun H2 e2 => q _ (e1.trans e2)) fun hb => nomatch hb
    · have hz : z = .bl (decide (x = .non)) := by cases hon with
        | null => rfl
        | num _ h => cases h
        | txt _ h => cases h
        | dat _ h => cases h
      subst hz
      refine q_when (b := false) (et_is (et_test (ev_op (ev_var rfl) ev_c (rv_eq rfl))) (by decide +kernel)) (fun hb => nomatch hb) fun _ H1 e1 => ?_
      exact q_when (b := true) (et_is (et_test (ev_op (ev_var rfl) ev_c (rv_eq rfl))) (by decide +kernel)) (fun _ H2 e2 => s_ret (ev_op (ev_var rfl) ev_c rv_isN) fun H3 e3 => q _ ((e1.trans e2).trans e3)) fun hb => nomatch hb
  refine q_when (b := false) (et_is (et_test (ev_op (ev_var rfl) ev_c (rv_eq rfl))) n1) (fun hb => nomatch hb) fun _ H1 e1 => ?_
  refine q_when (b := false) (et_is (et_test (ev_op (ev_var rfl) ev_c (rv_eq rfl))) n2) (fun hb => nomatch hb) fun _ H2 e2 => ?_
  have x2 := e1.trans e2
  have no : ∀ {d : Addr} {H0 : Hp}, PySem.W.nsIn K d nm = some none → EvT (tTest (tOp (fun x y H Q => ∃ (z : Str) (r : Option Value), x = .str z ∧ y = .ref d ∧ PySem.W.nsIn K d z = some r ∧ Q (.bl r.isSome) H) (tVar 0) (tC (.ref d)))) (start n_value_of_one [.str nm, x]) H0 false := fun e => et_test (ev_op (ev_var rfl) ev_c (rv_inKD e))
  have yes : ∀ {d f : Addr} {H0 : Hp}, PySem.W.nsIn K d nm = some (some (.ref f)) → EvT (tTest (tOp (fun x y H Q => ∃ (z : Str) (r : Option Value), x = .str z ∧ y = .ref d ∧ PySem.W.nsIn K d z = some r ∧ Q (.bl r.isSome) H) (tVar 0) (tC (.ref d)))) (start n_value_of_one [.str nm, x]) H0 true := fun e => et_test (ev_op (ev_var rfl) ev_c (rv_inKD e))
  cases T with
  | onI a1 hh hp =>
    refine q_when (yes a1) (fun _ H3 e3 => ?_) fun hb => nomatch hb
    refine q_asg (ev_op ev_c (ev_var rfl) (rv_ixKD (v := .ref _) h__OF_INTEGERS a1 rfl)) fun H4 e4 => ?_
    refine s_ret (ev_if (et_B (ec_isint0 (ev_var rfl) plx)) (fun hb => ?_) fun hb => ?_) fun H5 e5 => q _ (((x2.trans e3).trans e4).trans e5)
    · exact ev_is (ec_held1 rfl hh (hp hb) (ev_var rfl)) (by rw [if_pos hb])
    · exact ev_is ev_c (by rw [if_neg (by rw [hb]; decide)])
  | onT a1 a2 hh hp =>
    refine q_when (no a1) (fun hb => nomatch hb) fun _ H3 e3 => ?_
    refine q_when (yes a2) (fun _ H4 e4 => ?_) fun hb => nomatch hb
    refine q_asg (ev_op ev_c (ev_var rfl) (rv_ixKD (v := .ref _) h__OF_TEXTS a2 rfl)) fun H5 e5 => ?_
    refine s_ret (ev_if (et_B (ev_isStr (ev_var rfl) plx)) (fun hb => ?_) fun hb => ?_) fun H6 e6 => q _ ((((x2.trans e3).trans e4).trans e5).trans e6)
    · exact ev_is (ec_held1 rfl hh (hp hb) (ev_var rfl)) (by rw [if_pos hb])
    · exact ev_is ev_c (by rw [if_neg (by rw [hb]; decide)])
  | onN a1 a2 hn =>
    refine q_when (no a1) (fun hb => nomatch hb) fun _ H3 e3 => ?_
    refine q_when (yes a2) (fun _ H4 e4 => ?_) fun hb => nomatch hb
    refine q_asg (ev_op ev_c (ev_var rfl) (rv_ixKD (v := .ref _) h__OF_TEXTS a2 rfl)) fun H5 e5 => ?_
    refine s_ret (ev_if (et_B (ev_isStr (ev_var rfl) plx)) (fun hb => ?_) fun hb => ev_c) fun H6 e6 => q _ ((((x2.trans e3).trans e4).trans e5).trans e6)
    rw [hn] at hb
    cases hb
  | onD a1 a2 a3 hh hp =>
    refine q_when (no a1) (fun hb => nomatch hb) fun _ H3 e3 => ?_
    refine q_when (no a2) (fun hb => nomatch hb) fun _ H4 e4 => ?_
    refine q_asg (ev_op ev_c (ev_var rfl) (rv_ixKD (v := .ref _) h__OF_DATES a3 rfl)) fun H5 e5 => ?_
    refine s_ret (ev_if (et_B (ec_isday (ev_var rfl) plx)) (fun hb => ?_) fun hb => ?_) fun H6 e6 => q _ ((((x2.trans e3).trans e4).trans e5).trans e6)
    · exact ev_is (ec_held1 rfl hh (hp hb) (ev_var rfl)) (by rw [if_pos hb])
    · exact ev_is ev_c (by rw [if_neg (by rw [hb]; decide)])
section
variable {σ : L2.St} {H : Hp} {ta tb tc : TE} {E : XK} {x y z : V} {nm : Str}
theorem ec_one (h : Ask nm x z) (h1 : U9 x) (ha : Ev ta σ H (.str nm)) (hb : Ev tb σ H x) : Ev (tCall (sp_value_of_one K) [] E (tCons ta (tCons tb tNil))) σ H z := ev_call (ea_cons ha (ea_cons hb ea_nil)) fun H1 e Q q E => ⟨nm, x, z, rfl, h1, h, q⟩
theorem ec_unary (h : Ask nm x z) (h1 : U9 x) (ha : Ev ta σ H (.str nm)) (hb : Ev tb σ H x) : Ev (tCall (sp_unary K) [] E (tCons ta (tCons tb tNil))) σ H z := ev_call (ea_cons ha (ea_cons hb ea_nil)) fun H1 e Q q E => ⟨nm, x, z, rfl, h1, h, q⟩
end
theorem ok_unary (D : Dn K mg "unary" s_unary ["name", "value"]) (c_value_of_one : C8.Cal P w K mg base 9 "value_of_one" (sp_value_of_one K) []) :
    C8.Cal P w K mg base 10 "unary" (sp_unary K) [] := by
  refine cal_of D sc_unary (fun vs H Q E h => ?_) (fun f cdv A outer s H vs Q E hr h => ?_)
  · obtain ⟨_, _, _, rfl, _⟩ := h
    rfl
  refine ⟨_, (pss_one (ps_ret (C8.pe_c c_value_of_one hr (by decide) (by rfl) (pa_cons (pv 0) (pa_cons (pv 1) pa_nil))))), ?_⟩
  obtain ⟨nm, x, z, rfl, hx, hop, q⟩ := h
  exact s_ret (ec_one hop hx (ev_var rfl) (ev_var rfl)) fun H2 e2 => q _ e2
end

/-! ### the law -/
section
variable {σ : L2.St} {H : Hp} {ty tk tv : TE} {trs : List (TE × TE)} {x y v : V} {ps : List (V × V)}
def EvP (trs : List (TE × TE)) (σ : L2.St) (H : Hp) (ps : List (V × V)) : Prop := ∀ H1, Ex H H1 → ∀ Q : List (V × V) → Hp → Prop, (∀ H2, Ex H1 H2 → Q ps H2) → tPairs trs σ H1 Q
theorem ep_nil : EvP [] σ H [] := fun H1 _ _ q => q H1 (Ex.refl H1)
theorem ep_cons (hk : Ev tk σ H x) (hv : Ev tv σ H y) (hr : EvP trs σ H ps) : EvP ((tk, tv) :: trs) σ H ((x, y) :: ps) := fun H1 e Q q =>
  hk H1 e _ fun H2 e2 => hv H2 (e.trans e2) _ fun H3 e3 => hr H3 ((e.trans e2).trans e3) _ fun H4 e4 => q H4 ((e2.trans e3).trans e4)
/-- {..}[k], a dict written -/
theorem ev_disp {kvs : List (L2.Key × V)} {k : L2.Key} (h : EvP trs σ H (kvs.map fun kv => (kV kv.1, kv.2))) (hl : kvs.length ≤ 15) (hy : Ev ty σ H (kV k)) (hv : valV (mergeK [] kvs) k = some v) : Ev (tDGet (tDisp trs) ty) σ H v := fun H1 e Q q p hp =>
  h _ (e.trans (Ex.new hp)) _ fun H2 e2 => ⟨e2 _ _ upd_same, kvs, rfl, hl, hy _ (Ex.mut ((e.trans (Ex.new hp)).trans e2) (fresh_back e hp)) _ fun H3 e3 =>
    ⟨p, v, rfl, .inl ⟨_, k, .inl (e3 _ _ upd_same), rfl, hv.symm⟩, q H3 ((Ex.mut ((Ex.new hp).trans e2) hp).trans e3)⟩⟩
end
theorem mem_noE {l : List Nat} {c : Nat} (h : c ∈ noE l) : c ∈ l := by
  unfold noE noZ at h
  rw [List.mem_reverse] at h
  exact List.mem_reverse.mp ((List.dropWhile_suffix _).subset h)
theorem dtx_ok (n : Int) : ∀ c ∈ dtx n, c ≤ 126 := by
  intro c hc
  unfold dtx at hc
  rcases List.mem_append.mp hc with h | h
  · split at h
    · rw [List.mem_singleton.mp h]; decide
    · cases h
  rcases List.mem_append.mp h with h | h
  · have := TL.numL_digits _ c h
    omega
  · split at h
    · cases h
    · rcases List.mem_cons.mp h with h | h
      · rw [h]; decide
      · have h2 := mem_noE h
        unfold four at h2
        simp only [List.mem_cons, List.not_mem_nil, or_false] at h2
        have : n.natAbs % 10000 < 10000 := Nat.mod_lt _ (by decide)
        rcases h2 with h2 | h2 | h2 | h2 <;> omega
theorem dtx_len' {n : Int} (h : n.natAbs < 10 ^ 30) : (dtx n).length ≤ 40 := by
  unfold dtx
  have hl := TL.numL_len (n := n.natAbs / 10000) (k := 30) (by decide) (by omega)
  have hE := noE_len (four (n.natAbs % 10000))
  have h4 : (four (n.natAbs % 10000)).length = 4 := rfl
  rw [List.length_append, List.length_append]
  have h1 : (if n < 0 then [45] else [] : List Nat).length ≤ 1 := by split <;> decide
  have h2 : (if n.natAbs % 10000 = 0 then [] else 46 :: noE (four (n.natAbs % 10000)) : List Nat).length ≤ 5 := by
    split
    · decide
    · rw [List.length_cons]; omega
  omega
theorem lowL_ok (n : Nat) : ∀ k, ∀ c ∈ lowL k n, c ≤ 126
  | 0, c, h => by cases h
  | k + 1, c, h => by
    rw [lowL] at h
    rcases List.mem_cons.mp h with h | h
    · omega
    · exact lowL_ok n k c h
theorem dtx3_ok (d : Int) : ∀ c ∈ dtx3 d, c ≤ 126 := by
  intro c hc
  unfold dtx3 at hc
  simp only [List.mem_append, List.mem_singleton] at hc
  rcases hc with h | h | h | h | h
  · exact lowL_ok _ _ c h
  · omega
  · exact lowL_ok _ _ c h
  · omega
  · exact lowL_ok _ _ c h
theorem lim_ok (n : Int) : Ok (limV n) := by
  unfold limV
  split
  · exact .int _
  · exact .non
theorem dayV_ok (y m d : Int) : Ok (dayV y m d) := by
  unfold dayV
  split
  · exact .int _
  · exact .non
theorem nm_ok {nm : Str} {f : Int → V} (h : NmN nm f) (n : Int) : Ok (f n) := by
  cases h with
  | neg => exact .int _
  | abs => exact .int _
  | sign =>
    show Ok (sgnV n)
    unfold sgnV
    split
    · exact .int _
    · split <;> exact .int _
  | asDec => exact .int _
  | toDec => exact lim_ok _
  | toInt => exact .int _
  | iText => exact .str _ (strOk_le (itx_ok n))
  | dText => exact .str _ (strOk_le (dtx_ok n))
theorem tx_ok {nm : Str} {f : List Nat → V} (h : TxN nm f) (l : List Nat) : Ok (f l) := by
  cases h with
  | toI =>
    unfold rdI
    split
    · exact lim_ok _
    · exact .non
  | toD =>
    unfold rdD
    split
    · split
      · exact .non
      · exact lim_ok _
    · exact .non
  | toT =>
    rcases rd3_pl l with h | ⟨i, h⟩ <;> rw [h]
    · exact .non
    · exact .int i
theorem dt_okV {nm : Str} {f : Int → V} (h : DtN nm f) (n : Int) : Ok (f n) := by
  cases h with
  | ms => exact dayV_ok _ _ _
  | ys => exact dayV_ok _ _ _
  | text => exact .str _ (strOk_le (dtx3_ok n))
  | _ => exact .int _
theorem on_ok {nm : Str} {x z : V} (h : On nm x z) : Ok z := by
  cases h with
  | not =>
    unfold neg3
    split
    · exact .bl _
    · split
      · exact .bl _
      · exact .non
  | null => exact .bl _
  | num x h =>
    split
    · exact nm_ok h _
    · exact .non
  | txt x h =>
    split
    · exact tx_ok h _
    · exact .non
  | dat x h =>
    split
    · exact dt_okV h _
    · exact .non
def fourL : List V := [.str "lower", .str "upper", .str "length", .str "trim"]
def nineL : List V := [.str "year", .str "month", .str "day", .str "weekday", .str "month start", .str "year start", .str "week start", .str "as date", .str "date to text"]
def eightL : List V := [.str "negate", .str "abs", .str "sign", .str "as decimal", .str "to decimal", .str "to int", .str "int to text", .str "decimal to text"]
theorem each_name {nm : Str} (h : nm ∈ unaryS) : (inV (.str nm) fourL = true ∧ nm ∈ fourS) ∨ (inV (.str nm) fourL = false ∧ ∀ x, ∃ z, On nm x z) := by
  unfold unaryS at h
  simp only [List.mem_cons, List.not_mem_nil, or_false] at h
  rcases h with h | h | h | h | h | h | h | h | h | h | h | h | h | h | h | h | h | h | h | h | h | h | h | h | h | h <;> subst h
  · exact .inr ⟨by decide +kernel, fun x => ⟨_, .not x⟩⟩
  · exact .inr ⟨by decide +kernel, fun x => ⟨_, .num x .neg⟩⟩
  · exact .inr ⟨by decide +kernel, fun x => ⟨_, .num x .abs⟩⟩
  · exact .inr ⟨by decide +kernel, fun x => ⟨_, .num x .sign⟩⟩
  · exact .inr ⟨by decide +kernel, fun x => ⟨_, .null x⟩⟩
  · exact .inl ⟨by decide +kernel, by decide +kernel⟩
  · exact .inl ⟨by decide +kernel, by decide +kernel⟩
  · exact .inl ⟨by decide +kernel, by decide +kernel⟩
  · exact .inl ⟨by decide +kernel, by decide +kernel⟩
  · exact .inr ⟨by decide +kernel, fun x => ⟨_, .dat x .year⟩⟩
  · exact .inr ⟨by decide +kernel, fun x => ⟨_, .dat x .month⟩⟩
  · exact .inr ⟨by decide +kernel, fun x => ⟨_, .dat x .day⟩⟩
  · exact .inr ⟨by decide +kernel, fun x => ⟨_, .dat x .week⟩⟩
  · exact .inr ⟨by decide +kernel, fun x => ⟨_, .dat x .ms⟩⟩
  · exact .inr ⟨by decide +kernel, fun x => ⟨_, .dat x .ys⟩⟩
  · exact .inr ⟨by decide +kernel, fun x => ⟨_, .dat x .ws⟩⟩
  · exact .inr ⟨by decide +kernel, fun x => ⟨_, .dat x .asDt⟩⟩
  · exact .inr ⟨by decide +kernel, fun x => ⟨_, .num x .asDec⟩⟩
  · exact .inr ⟨by decide +kernel, fun x => ⟨_, .num x .toDec⟩⟩
  · exact .inr ⟨by decide +kernel, fun x => ⟨_, .num x .toInt⟩⟩
  · exact .inr ⟨by decide +kernel, fun x => ⟨_, .num x .iText⟩⟩
  · exact .inr ⟨by decide +kernel, fun x => ⟨_, .num x .dText⟩⟩
  · exact .inr ⟨by decide +kernel, fun x => ⟨_, .dat x .text⟩⟩
  · exact .inr ⟨by decide +kernel, fun x => ⟨_, .txt x .toI⟩⟩
  · exact .inr ⟨by decide +kernel, fun x => ⟨_, .txt x .toD⟩⟩
  · exact .inr ⟨by decide +kernel, fun x => ⟨_, .txt x .toT⟩⟩
theorem VOk.u9 {x : V} (h : VOk x) : U9 x := by
  cases h with
  | non => exact .non
  | bl b => exact .bl b
  | int i h => exact .int i h
  | str l h hc => exact .str l (by omega) fun c hx => (hc c hx).2
def sp__law_told (K : PySem.W.Frag) : Sp := fun vs H Q _ => ∃ x : V, vs = [x, x] ∧ Ok x ∧ ∀ H', Ex H H' → Q (.bl true) H'
noncomputable def sp__law_dated (K : PySem.W.Frag) : Sp := fun vs H Q _ => ∃ (nm : Str) (f : Int → V) (d : Int), vs = [.str nm, .int d] ∧ (-719162 ≤ d ∧ d ≤ 2932896) ∧ DtN nm f ∧ ∀ H', Ex H H' → Q (f d) H'
def sp__law_numbered (K : PySem.W.Frag) : Sp := fun vs H Q _ => ∃ (nm : Str) (f : Int → V) (n : Int), vs = [.str nm, .int n] ∧ (-1000000000000000 ≤ n ∧ n ≤ 1000000000000000) ∧ NmN nm f ∧ ∀ H', Ex H H' → Q (f n) H'
noncomputable def sp__law_due (K : PySem.W.Frag) : Sp := fun vs H Q _ => ∃ (nm : Str) (x z : V), vs = [.str nm, x] ∧ U9 x ∧ On nm x z ∧ ∀ H', Ex H H' → Q z H'
def sp__law_drawn (K : PySem.W.Frag) : Sp := fun vs H Q _ => ∃ (p : Addr) (ns : List Int), vs = [.ref p] ∧ SqL K H p ((lawN ns 4).map V.int) ∧ ∀ x H', U9 x → Ex H H' → Q x H'
def sp_law (K : PySem.W.Frag) : Sp := fun vs H Q _ => ∃ (a : Addr) (ns : List Int), vs = [.ref a] ∧ SqL K H a (ns.map V.int) ∧ ns.length ≤ 63 ∧ ∀ H', Q (.bl true) H'
theorem sp_law_of {K : PySem.W.Frag} {H : Hp} {a : Addr} {ns : List Int} (hl : ns.length ≤ 63) (hS : SqL K H a (ns.map V.int)) : sp_law K [.ref a] H (fun v _ => v = .bl true) fun _ _ _ => False :=
  ⟨a, ns, rfl, hS, hl, fun _ => rfl⟩
section
variable {P : Program} {w : World} {K : PySem.W.Frag} {mg : Str → Option Value} {base : Heap}
section
variable {σ : L2.St} {H : Hp} {ta tb tc : TE} {E : XK} {x y z : V} {nm : Str}
theorem ec_told (h : Ok x) (ha : Ev ta σ H x) (hb : Ev tb σ H x) : Ev (tCall (sp__law_told K) [] E (tCons ta (tCons tb tNil))) σ H (.bl true) := ev_call (ea_cons ha (ea_cons hb ea_nil)) fun H1 e Q q E => ⟨x, rfl, h, q⟩
theorem ec_dated {f : Int → V} {d : Int} (hf : DtN nm f) (hd : -719162 ≤ d ∧ d ≤ 2932896) (ha : Ev ta σ H (.str nm)) (hb : Ev tb σ H (.int d)) : Ev (tCall (sp__law_dated K) [] E (tCons ta (tCons tb tNil))) σ H (f d) := ev_call (ea_cons ha (ea_cons hb ea_nil)) fun H1 e Q q E => ⟨nm, f, d, rfl, hd, hf, q⟩
theorem ec_numd {f : Int → V} {d : Int} (hf : NmN nm f) (hd : -1000000000000000 ≤ d ∧ d ≤ 1000000000000000) (ha : Ev ta σ H (.str nm)) (hb : Ev tb σ H (.int d)) : Ev (tCall (sp__law_numbered K) [] E (tCons ta (tCons tb tNil))) σ H (f d) := ev_call (ea_cons ha (ea_cons hb ea_nil)) fun H1 e Q q E => ⟨nm, f, d, rfl, hd, hf, q⟩
theorem ec_due (h : On nm x z) (h1 : U9 x) (ha : Ev ta σ H (.str nm)) (hb : Ev tb σ H x) : Ev (tCall (sp__law_due K) [] E (tCons ta (tCons tb tNil))) σ H z := ev_call (ea_cons ha (ea_cons hb ea_nil)) fun H1 e Q q E => ⟨nm, x, z, rfl, h1, h, q⟩
theorem el_catN {l : Addr} {xs ys : List V} (ha : Ev ta σ H (.ref l)) (h1 : H l = some (.lst xs)) (hb : EvL tb σ H ys) (hz : xs.length + ys.length ≤ 100000) : EvL (tOp rCat ta tb) σ H (xs ++ ys) := fun H1 e Q q =>
  ha H1 e _ fun H2 e2 => hb H2 (e.trans e2) _ fun b H3 _ e3 hb3 => ⟨l, b, xs, ys, rfl, rfl, ((e.trans e2).trans e3) _ _ h1, hb3, sz_of hz, fun p hp => q p _ (fresh_back (e2.trans e3) hp) ((e2.trans e3).trans (Ex.new hp)) upd_same⟩
theorem dp_strs : ∀ {l : List Str} {H : Hp}, DpAll K H (l.map V.str) (l.map PyData.str)
  | [], _ => .nil
  | x :: l, _ => .cons (.str x) dp_strs
theorem ed_strs {l : List Str} (h : EvL ta σ H (l.map V.str)) : EvD K ta σ H (.list (l.map PyData.str)) := fun H1 e Q q => h H1 e _ fun p H2 _ e2 h2 => q (.ref p) H2 e2 (.lst (sq_of h2) dp_strs)
theorem el_listT {p : Addr} {xs : List V} (ha : Ev ta σ H (.ref p)) (h : ∀ H1, SqT K H1 p xs) : EvL (tCB (fun xs H Q => ∃ p ys, xs = [.ref p] ∧ (SqL K H p ys ∨ SqT K H p ys) ∧ ∀ l, H l = none → Q (.ref l) (upd H l (.lst ys))) (tCons ta tNil)) σ H xs := fun H1 e Q q =>
  ha H1 e _ fun H2 e2 => ⟨p, xs, rfl, Or.inr (h H2), fun l hl => q l _ (fresh_back e2 hl) (e2.trans (Ex.new hl)) upd_same⟩
end
theorem ok__law_told (D : Dn K mg "_law_told" s__law_told ["told", "due"]) (c__law_is_integer : C8.Cal P w K mg base 1 "_law_is_integer" (sp__law_is_integer K) []) (c__law_rank : C8.Cal P w K mg base 1 "_law_rank" (sp__law_rank K) []) (z_bool : mg "bool" = none) (z_isinstance : mg "isinstance" = none) (z_str : mg "str" = none) :
    C8.Cal P w K mg base 2 "_law_told" (sp__law_told K) [] := by
  refine cal_of D sc__law_told (fun vs H Q E h => ?_) (fun f cdv A outer s H vs Q E hr h => ?_)
  · obtain ⟨_, rfl, _⟩ := h
    rfl
  refine ⟨_, (pss_cons (ps_if (pt_cmpR (op_neD (hu64 hr)) (C8.pe_c c__law_rank hr (by decide) (by rfl) (pa_cons (pv 0) pa_nil)) (C8.pe_c c__law_rank hr (by decide) (by rfl) (pa_cons (pv 1) pa_nil)) (nomark _))
      (pss_one (ps_ret pe_bl))
      pss_nil)
    (pss_one (ps_ret (pe_or (pe_cmpR op_isN (pv 1) pe_non (nomark _)) (pe_or (pe_callB call_isi (by rfl) z_isinstance (by decide +kernel) (pa_cons (pv 1) (pa_cons (pe_bltn (v := .ty "str") (u := .type "str") rfl z_str (by decide +kernel) rfl) pa_nil))) (pe_or (pe_callB call_isi (by rfl) z_isinstance (by decide +kernel) (pa_cons (pv 1) (pa_cons (pe_bltn (v := .ty "bool") (u := .type "bool") rfl z_bool (by decide +kernel) rfl) pa_nil))) (pe_one (C8.pe_c c__law_is_integer hr (by decide) (by rfl) (pa_cons (pv 0) pa_nil))))))))), ?_⟩
  obtain ⟨x, rfl, hx, q⟩ := h
  have er : PyData.eqv (rkD x) (rkD x) = true := PySem.SeqAt.eqv_refl _ (lay_rk hx)
  refine q_when (b := !PyData.eqv (rkD x) (rkD x)) (et_test (ev_neD (ed_rk (ec_lrank (ev_var rfl) hx) hx) (ed_rk (ec_lrank (ev_var rfl) hx) hx) (shaped_rk hx) (shaped_rk hx))) (fun hb => by rw [er] at hb; cases hb) fun _ H1 e1 => ?_
  refine s_ret (v := .bl true) ?_ fun H2 e2 => q _ (e1.trans e2)
  cases hx with
  | non => exact ev_is (ev_orV (b := true) (ev_op (ev_var rfl) ev_c rv_isN) fun z => nomatch z) rfl
  | str s hs => exact ev_is (ev_orV (ev_op (ev_var rfl) ev_c rv_isN) fun _ => ev_orV (b := true) (ev_isStr (ev_var rfl) (.str s)) fun z => nomatch z) rfl
  | bl b => exact ev_is (ev_orV (ev_op (ev_var rfl) ev_c rv_isN) fun _ => ev_orV (ev_isStr (ev_var rfl) (.bl b)) fun _ => ev_orV (a := true) (b := true) (ev_isiP (ev_var rfl) (.bl b) (by show kitB "bool" "bool" = some true; decide +kernel)) fun z => nomatch z) rfl
  | int i => exact ev_is (ev_orV (ev_op (ev_var rfl) ev_c rv_isN) fun _ => ev_orV (ev_isStr (ev_var rfl) (.int i)) fun _ => ev_orV (a := false) (ev_isiP (ev_var rfl) (.int i) (by show kitB "int" "bool" = some false; decide +kernel)) fun _ => ec_isint (ev_var rfl) (.int i)) rfl
theorem ok__law_dated (D : Dn K mg "_law_dated" s__law_dated ["name", "day"]) (c_date_of : C8.Cal P w K mg base 3 "date_of" (sp_date_of K) []) (c_date_text : C8.Cal P w K mg base 4 "date_text" (sp_date_text K) []) (c_day_of : C8.Cal P w K mg base 3 "day_of" (sp_day_of K) []) (z_int : mg "int" = none) :
    C8.Cal P w K mg base 5 "_law_dated" (sp__law_dated K) [] := by
  refine cal_of D sc__law_dated (fun vs H Q E h => ?_) (fun f cdv A outer s H vs Q E hr h => ?_)
  · obtain ⟨_, _, _, rfl, _⟩ := h
    rfl
  refine ⟨_, (pss_cons (ps_asg (C8.pe_c c_date_of hr (by decide) (by rfl) (pa_cons (pv 1) pa_nil)) (pg_tup rfl (pgs_cons (pg_name (i := 2) sc__law_dated.nd rfl (.inl rfl)) (pgs_cons (pg_name (i := 3) sc__law_dated.nd rfl (.inl rfl)) (pgs_cons (pg_name (i := 4) sc__law_dated.nd rfl (.inl rfl)) pgs_nil)))))
    (pss_cons (ps_if (pt_cmpR op_eq (pv 0) pe_str (nomark _))
      (pss_one (ps_ret (pe_op op_add (pe_op op_mod (pe_callTy call_int1 (by rfl) z_int (by decide +kernel) (pa_cons (pe_op op_add (pv 1) pe_int) pa_nil)) pe_int) pe_int)))
      pss_nil)
    (pss_cons (ps_if (pt_cmpR op_eq (pv 0) pe_str (nomark _))
      (pss_one (ps_ret (pe_op op_sub (pv 1) (pe_op op_mod (pe_callTy call_int1 (by rfl) z_int (by decide +kernel) (pa_cons (pe_op op_add (pv 1) pe_int) pa_nil)) pe_int))))
      pss_nil)
    (pss_cons (ps_if (pt_cmpR op_eq (pv 0) pe_str (nomark _))
      (pss_one (ps_ret (C8.pe_c c_date_text hr (by decide) (by rfl) (pa_cons (pv 1) pa_nil))))
      pss_nil)
    (pss_one (ps_ret (pe_dget (hu_of hr) (pe_disp (pps_cons pe_str (pv 2) (pps_cons pe_str (pv 3) (pps_cons pe_str (pv 4) (pps_cons pe_str (pv 1) (pps_cons pe_str (C8.pe_c c_day_of hr (by decide) (by rfl) (pa_cons (pv 2) (pa_cons (pv 3) (pa_cons pe_int pa_nil)))) (pps_cons pe_str (C8.pe_c c_day_of hr (by decide) (by rfl) (pa_cons (pv 2) (pa_cons pe_int (pa_cons pe_int pa_nil)))) pps_nil)))))) (by rfl) (by rfl) (fun z => by cases z) (by decide)) (pv 0) (fun _ _ => rfl)))))))), ?_⟩
  obtain ⟨nm, f, d, rfl, hd, hf, q⟩ := h
  refine q_asgG (ec_date (ev_var rfl) hd) fun p H1 hp e1 h1 => gt3 (st_of h1) ?_
  have qn : ∀ {l : Str} {tz tu : TS} {D : Ends} {σ : L2.St} {H0 : Hp}, σ[0]? = some (some (.str nm)) → decide (V.str nm = V.str l) = false → (∀ H1, Ex H0 H1 → tz D σ H1) → tSeq (tIfS (tTest (tOp rEq (tVar 0) (tC (.str l)))) tu tNext) tz D σ H0 := fun h0 hb k =>
    q_when (et_is (et_test (ev_op (ev_var h0) ev_c (rv_eq rfl))) hb) (fun z => nomatch z) fun _ H1 e => k H1 e
  have fin : ∀ {v : V} {H0 : Hp} {k : L2.Key}, Ex H1 H0 → k = Sum.inr nm → valV (mergeK [] [(Sum.inr "year", .int (dt d).1), (Sum.inr "month", .int (dt d).2.1), (Sum.inr "day", .int (dt d).2.2), (Sum.inr "as date", .int d), (Sum.inr "month start", dayV (dt d).1 (dt d).2.1 1), (Sum.inr "year start", dayV (dt d).1 1 1)]) k = some v → v = f d →
      tRet (tDGet (tDisp [(tC (.str "year"), tVar 2), (tC (.str "month"), tVar 3), (tC (.str "day"), tVar 4), (tC (.str "as date"), tVar 1), (tC (.str "month start"), tCall (sp_day_of K) [] C8.E0 (tCons (tVar 2) (tCons (tVar 3) (tCons (tC (.int 1)) tNil)))), (tC (.str "year start"), tCall (sp_day_of K) [] C8.E0 (tCons (tVar 2) (tCons (tC (.int 1)) (tCons (tC (.int 1)) tNil))))]) (tVar 0)) { nx := fun _ H' => Q .non H', rt := Q } [some (.str nm), some (.int d), some (.int (dt d).1), some (.int (dt d).2.1), some (.int (dt d).2.2)] H0 := fun {v H0 k} e0 hk hv hz => by
    subst hk hz
    exact s_ret (ev_disp (kvs := [(Sum.inr "year", .int (dt d).1), (Sum.inr "month", .int (dt d).2.1), (Sum.inr "day", .int (dt d).2.2), (Sum.inr "as date", .int d), (Sum.inr "month start", dayV (dt d).1 (dt d).2.1 1), (Sum.inr "year start", dayV (dt d).1 1 1)]) (k := Sum.inr nm)
      (ep_cons ev_c (ev_var rfl) (ep_cons ev_c (ev_var rfl) (ep_cons ev_c (ev_var rfl) (ep_cons ev_c (ev_var rfl) (ep_cons ev_c (ec_day (ev_var rfl) (ev_var rfl) ev_c) (ep_cons ev_c (ec_day (ev_var rfl) ev_c ev_c) ep_nil)))))) (by show 6 ≤ 15; decide) (ev_var rfl) hv) fun H2 e2 => q _ ((e1.trans e0).trans e2)
  cases hf with
  | week =>
    refine q_when (b := true) (et_is (et_test (ev_op (ev_var rfl) ev_c (rv_eq rfl))) (by decide +kernel)) (fun _ H2 e2 => ?_) fun hb => nomatch hb
    exact s_ret (v := .int ((d + 719162) % 7 + 1)) (ev_op (ev_op (ev_int (ev_op (ev_var rfl) ev_c rv_I0)) ev_c (rv_I (by decide))) ev_c rv_I0) fun H3 e3 => q _ ((e1.trans e2).trans e3)
  | ws =>
    refine qn rfl (by decide +kernel) fun H2 e2 => ?_
    refine q_when (b := true) (et_is (et_test (ev_op (ev_var rfl) ev_c (rv_eq rfl))) (by decide +kernel)) (fun _ H3 e3 => ?_) fun hb => nomatch hb
    exact s_ret (v := .int (d - (d + 719162) % 7)) (ev_op (ev_var rfl) (ev_op (ev_int (ev_op (ev_var rfl) ev_c rv_I0)) ev_c (rv_I (by decide))) rv_I0) fun H4 e4 => q _ (((e1.trans e2).trans e3).trans e4)
  | text =>
    refine qn rfl (by decide +kernel) fun H2 e2 => qn rfl (by decide +kernel) fun H3 e3 => ?_
    refine q_when (b := true) (et_is (et_test (ev_op (ev_var rfl) ev_c (rv_eq rfl))) (by decide +kernel)) (fun _ H4 e4 => ?_) fun hb => nomatch hb
    exact s_ret (ec_dtx (ev_var rfl) hd) fun H5 e5 => q _ ((((e1.trans e2).trans e3).trans e4).trans e5)
  | year => exact qn rfl (by decide +kernel) fun H2 e2 => qn rfl (by decide +kernel) fun H3 e3 => qn rfl (by decide +kernel) fun H4 e4 => fin ((e2.trans e3).trans e4) rfl rfl rfl
  | month => exact qn rfl (by decide +kernel) fun H2 e2 => qn rfl (by decide +kernel) fun H3 e3 => qn rfl (by decide +kernel) fun H4 e4 => fin ((e2.trans e3).trans e4) rfl rfl rfl
  | day => exact qn rfl (by decide +kernel) fun H2 e2 => qn rfl (by decide +kernel) fun H3 e3 => qn rfl (by decide +kernel) fun H4 e4 => fin ((e2.trans e3).trans e4) rfl rfl rfl
  | ms => exact qn rfl (by decide +kernel) fun H2 e2 => qn rfl (by decide +kernel) fun H3 e3 => qn rfl (by decide +kernel) fun H4 e4 => fin ((e2.trans e3).trans e4) rfl rfl rfl
  | ys => exact qn rfl (by decide +kernel) fun H2 e2 => qn rfl (by decide +kernel) fun H3 e3 => qn rfl (by decide +kernel) fun H4 e4 => fin ((e2.trans e3).trans e4) rfl rfl rfl
  | asDt => exact qn rfl (by decide +kernel) fun H2 e2 => qn rfl (by decide +kernel) fun H3 e3 => qn rfl (by decide +kernel) fun H4 e4 => fin ((e2.trans e3).trans e4) rfl rfl rfl
theorem ok__law_numbered (D : Dn K mg "_law_numbered" s__law_numbered ["name", "number"]) (c_decimal_text : C8.Cal P w K mg base 1 "decimal_text" (sp_decimal_text K) []) (c_limited : C8.Cal P w K mg base 1 "limited" (sp_limited K) []) (c_rounded : C8.Cal P w K mg base 1 "rounded" (sp_rounded K) []) (z_int : mg "int" = none) (z_max : mg "max" = none) (z_str : mg "str" = none) :
    C8.Cal P w K mg base 2 "_law_numbered" (sp__law_numbered K) [] := by
  refine cal_of D sc__law_numbered (fun vs H Q E h => ?_) (fun f cdv A outer s H vs Q E hr h => ?_)
  · obtain ⟨_, _, _, rfl, _⟩ := h
    rfl
  refine ⟨_, (pss_cons (ps_if (pt_cmpR op_eq (pv 0) pe_str (nomark _))
      (pss_one (ps_ret (pe_ix ix_list (pe_lst (pa_cons pe_int (pa_cons pe_int (pa_cons (pe_un un_neg pe_int) pa_nil)))) (pe_op op_add (pe_callTy call_int1 (by rfl) z_int (by decide +kernel) (pa_cons (pe_cmpR op_gt (pv 1) pe_int (nomark _)) pa_nil)) (pe_op op_mul pe_int (pe_callTy call_int1 (by rfl) z_int (by decide +kernel) (pa_cons (pe_cmpR op_lt (pv 1) pe_int (nomark _)) pa_nil)))) (fun _ _ => rfl))))
      pss_nil)
    (pss_cons (ps_if (pt_cmpR op_eq (pv 0) pe_str (nomark _))
      (pss_one (ps_ret (pe_callTy call_str_int (by rfl) z_str (by decide +kernel) (pa_cons (pv 1) pa_nil))))
      pss_nil)
    (pss_cons (ps_if (pt_cmpR op_eq (pv 0) pe_str (nomark _))
      (pss_one (ps_ret (C8.pe_c c_decimal_text hr (by decide) (by rfl) (pa_cons (pv 1) pa_nil))))
      pss_nil)
    (pss_cons (ps_if (pt_cmpR op_eq (pv 0) pe_str (nomark _))
      (pss_one (ps_ret (C8.pe_c c_limited hr (by decide) (by rfl) (pa_cons (pe_op op_mul pe_int (pv 1)) pa_nil))))
      pss_nil)
    (pss_cons (ps_if (pt_cmpR op_eq (pv 0) pe_str (nomark _))
      (pss_one (ps_ret (C8.pe_c c_rounded hr (by decide) (by rfl) (pa_cons (pv 1) (pa_cons pe_int pa_nil)))))
      pss_nil)
    (pss_one (ps_ret (pe_dget (hu_of hr) (pe_disp (pps_cons pe_str (pe_op op_sub pe_int (pv 1)) (pps_cons pe_str (pe_callB (call_max2 rfl) (by rfl) z_max (by decide +kernel) (pa_cons (pv 1) (pa_cons (pe_op op_sub pe_int (pv 1)) pa_nil))) (pps_cons pe_str (pv 1) pps_nil))) (by rfl) (by rfl) (fun z => by cases z) (by decide)) (pv 0) (fun _ _ => rfl))))))))), ?_⟩
  obtain ⟨nm, f, n, rfl, hd, hf, q⟩ := h
  have qn : ∀ {l : Str} {tz tu : TS} {D : Ends} {σ : L2.St} {H0 : Hp}, σ[0]? = some (some (.str nm)) → decide (V.str nm = V.str l) = false → (∀ H1, Ex H0 H1 → tz D σ H1) → tSeq (tIfS (tTest (tOp rEq (tVar 0) (tC (.str l)))) tu tNext) tz D σ H0 := fun h0 hb k =>
    q_when (et_is (et_test (ev_op (ev_var h0) ev_c (rv_eq rfl))) hb) (fun z => nomatch z) fun _ H1 e => k H1 e
  have qy : ∀ {l : Str} {tz tu : TS} {D : Ends} {σ : L2.St} {H0 : Hp}, σ[0]? = some (some (.str nm)) → decide (V.str nm = V.str l) = true → (∀ H1, Ex H0 H1 → tu { D with nx := tz D } σ H1) → tSeq (tIfS (tTest (tOp rEq (tVar 0) (tC (.str l)))) tu tNext) tz D σ H0 := fun h0 hb k =>
    q_when (et_is (et_test (ev_op (ev_var h0) ev_c (rv_eq rfl))) hb) (fun _ H1 e => k H1 e) fun z => nomatch z
  have fin : ∀ {v : V} {H0 : Hp} {k : L2.Key}, Ex H H0 → k = Sum.inr nm → valV (mergeK [] [(Sum.inr "negate", .int (0 - n)), (Sum.inr "abs", .int (if 0 - n > n then 0 - n else n)), (Sum.inr "as decimal", .int n)]) k = some v → v = f n →
      tRet (tDGet (tDisp [(tC (.str "negate"), tOp (rI0 fun i j => .int (i - j)) (tC (.int 0)) (tVar 1)), (tC (.str "abs"), tCB rMax2 (tCons (tVar 1) (tCons (tOp (rI0 fun i j => .int (i - j)) (tC (.int 0)) (tVar 1)) tNil))), (tC (.str "as decimal"), tVar 1)]) (tVar 0)) { nx := fun _ H' => Q .non H', rt := Q } [some (.str nm), some (.int n)] H0 := fun {v H0 k} e0 hk hv hz => by
    subst hk hz
    exact s_ret (ev_disp (kvs := [(Sum.inr "negate", .int (0 - n)), (Sum.inr "abs", .int (if 0 - n > n then 0 - n else n)), (Sum.inr "as decimal", .int n)]) (k := Sum.inr nm)
      (ep_cons ev_c (ev_op ev_c (ev_var rfl) rv_I0) (ep_cons ev_c (ev_max2 (ev_var rfl) (ev_op ev_c (ev_var rfl) rv_I0)) (ep_cons ev_c (ev_var rfl) ep_nil))) (by show 3 ≤ 15; decide) (ev_var rfl) hv) fun H2 e2 => q _ (e0.trans e2)
  have b30 : n.natAbs < 10 ^ 30 := by omega
  cases hf with
  | sign =>
    refine qy rfl (by decide +kernel) fun H1 e1 => ?_
    have hx : atI [V.int 0, V.int 1, V.int (-1)] ((if decide (n > 0) = true then 1 else 0) + 2 * (if decide (n < 0) = true then 1 else 0)) = some (sgnV n) := by
      unfold sgnV
      by_cases h0 : n = 0
      · subst h0; rfl
      · by_cases h1 : n > 0
        · rw [if_neg h0, if_pos h1, decide_eq_true h1, decide_eq_false (show ¬ n < 0 by omega)]; rfl
        · rw [if_neg h0, if_neg h1, decide_eq_false h1, decide_eq_true (show n < 0 by omega)]; rfl
    exact s_ret (ev_ixN (el_lst (ea_cons ev_c (ea_cons ev_c (ea_cons (ev_un ev_c ru_neg) ea_nil))) (by show 3 ≤ 100000; decide)) (ev_op (ev_intB (b := decide (n > 0)) (by walk_at "ev")) (ev_op ev_c (ev_intB (b := decide (n < 0)) (by walk_at "ev")) (rv_I (.inl ⟨by decide, by decide⟩))) rv_I0) hx) fun H2 e2 => q _ (e1.trans e2)
  | iText => exact qn rfl (by decide +kernel) fun H1 e1 => qy rfl (by decide +kernel) fun H2 e2 => s_ret (ev_strZ (ev_var rfl) b30) fun H3 e3 => q _ ((e1.trans e2).trans e3)
  | dText => exact qn rfl (by decide +kernel) fun H1 e1 => qn rfl (by decide +kernel) fun H2 e2 => qy rfl (by decide +kernel) fun H3 e3 => s_ret (ec_dtext (ev_var rfl) b30) fun H4 e4 => q _ (((e1.trans e2).trans e3).trans e4)
  | toDec => exact qn rfl (by decide +kernel) fun H1 e1 => qn rfl (by decide +kernel) fun H2 e2 => qn rfl (by decide +kernel) fun H3 e3 => qy rfl (by decide +kernel) fun H4 e4 => s_ret (ec_lim (ev_op ev_c (ev_var rfl) (rv_I (.inl ⟨by decide, by decide⟩)))) fun H5 e5 => q _ ((((e1.trans e2).trans e3).trans e4).trans e5)
  | toInt => exact qn rfl (by decide +kernel) fun H1 e1 => qn rfl (by decide +kernel) fun H2 e2 => qn rfl (by decide +kernel) fun H3 e3 => qn rfl (by decide +kernel) fun H4 e4 => qy rfl (by decide +kernel) fun H5 e5 => s_ret (ec_rounded (n := n) (d := 10000) ⟨by omega, by omega, by decide, by decide, by decide⟩ (ev_var rfl) ev_c) fun H6 e6 => q _ (((((e1.trans e2).trans e3).trans e4).trans e5).trans e6)
  | neg => exact qn rfl (by decide +kernel) fun H1 e1 => qn rfl (by decide +kernel) fun H2 e2 => qn rfl (by decide +kernel) fun H3 e3 => qn rfl (by decide +kernel) fun H4 e4 => qn rfl (by decide +kernel) fun H5 e5 => fin (v := .int (0 - n)) ((((e1.trans e2).trans e3).trans e4).trans e5) rfl rfl (show V.int (0 - n) = V.int (-n) by rw [Int.zero_sub])
  | abs => exact qn rfl (by decide +kernel) fun H1 e1 => qn rfl (by decide +kernel) fun H2 e2 => qn rfl (by decide +kernel) fun H3 e3 => qn rfl (by decide +kernel) fun H4 e4 => qn rfl (by decide +kernel) fun H5 e5 => fin (v := .int (if 0 - n > n then 0 - n else n)) ((((e1.trans e2).trans e3).trans e4).trans e5) rfl rfl (show V.int (if 0 - n > n then 0 - n else n) = V.int (ab n) by congr 1; unfold ab; split <;> split <;> omega)
  | asDec => exact qn rfl (by decide +kernel) fun H1 e1 => qn rfl (by decide +kernel) fun H2 e2 => qn rfl (by decide +kernel) fun H3 e3 => qn rfl (by decide +kernel) fun H4 e4 => qn rfl (by decide +kernel) fun H5 e5 => fin ((((e1.trans e2).trans e3).trans e4).trans e5) rfl rfl rfl
theorem isx_of {x : V} (hx : Pl x) : isInt x = true → ∃ n, x = .int n := by
  cases hx <;> first | (exact fun _ => ⟨_, rfl⟩) | (exact fun h => nomatch h)
def isBl : V → Bool
  | .bl _ => true
  | _ => false
theorem ev_isBl {σ : L2.St} {H : Hp} {ta : TE} {x : V} (ha : Ev ta σ H x) (hx : Pl x) : Ev (tCB (rIsi K) (tCons ta (tCons (tC (.ty "bool")) tNil))) σ H (.bl (isBl x)) := by
  cases hx with
  | non => exact ev_isiP (b := false) ha .non (by decide +kernel)
  | bl b => exact ev_isiP (b := true) ha (.bl b) (by show kitB "bool" "bool" = some true; decide +kernel)
  | int i => exact ev_isiP (b := false) ha (.int i) (by show kitB "int" "bool" = some false; decide +kernel)
  | str s => exact ev_isiP (b := false) ha (.str s) (by show kitB "str" "bool" = some false; decide +kernel)
theorem ok__law_due (D : Dn K mg "_law_due" s__law_due ["name", "value"]) (c__law_dated : C8.Cal P w K mg base 5 "_law_dated" (sp__law_dated K) []) (c__law_is_integer : C8.Cal P w K mg base 1 "_law_is_integer" (sp__law_is_integer K) []) (c__law_numbered : C8.Cal P w K mg base 2 "_law_numbered" (sp__law_numbered K) []) (c_read_date : C8.Cal P w K mg base 4 "read_date" (sp_read_date K) []) (c_read_decimal : C8.Cal P w K mg base 4 "read_decimal" (sp_read_decimal K) []) (c_read_integer : C8.Cal P w K mg base 4 "read_integer" (sp_read_integer K) []) (z_bool : mg "bool" = none) (z_isinstance : mg "isinstance" = none) (z_str : mg "str" = none) :
    C8.Cal P w K mg base 6 "_law_due" (sp__law_due K) [] := by
  refine cal_of D sc__law_due (fun vs H Q E h => ?_) (fun f cdv A outer s H vs Q E hr h => ?_)
  · obtain ⟨_, _, _, rfl, _⟩ := h
    rfl
  refine ⟨_, (pss_cons (ps_if (pt_cmpR op_eq (pv 0) pe_str (nomark _))
      (pss_one (ps_ret (pe_cmpR op_isN (pv 1) pe_non (nomark _))))
      pss_nil)
    (pss_cons (ps_if (pt_cmpR op_eq (pv 0) pe_str (nomark _))
      (pss_cons (ps_if (pt_val (pe_callB call_isi (by rfl) z_isinstance (by decide +kernel) (pa_cons (pv 1) (pa_cons (pe_bltn (v := .ty "bool") (u := .type "bool") rfl z_bool (by decide +kernel) rfl) pa_nil))))
      (pss_one (ps_ret (pe_cmpR op_isTF (pv 1) pe_bl (nomark _))))
      pss_nil)
    (pss_one (ps_ret pe_non)))
      pss_nil)
    (pss_cons (ps_if (pt_cmpR op_in_seq (pv 0) (pe_tup (pa_cons pe_str (pa_cons pe_str (pa_cons pe_str (pa_cons pe_str (pa_cons pe_str (pa_cons pe_str (pa_cons pe_str (pa_cons pe_str (pa_cons pe_str pa_nil)))))))))) (by with_unfolding_all rfl))
      (pss_cons (ps_if (PW.pt (pw_or (pt_not (pt_val (C8.pe_c c__law_is_integer hr (by decide) (by rfl) (pa_cons (pv 1) pa_nil)))) (pw_or1 (pt_not (pt_chain op_le op_le (pe_un un_neg pe_int) (pv 1) pe_int)))))
      (pss_one (ps_ret pe_non))
      pss_nil)
    (pss_one (ps_ret (C8.pe_c c__law_dated hr (by decide) (by rfl) (pa_cons (pv 0) (pa_cons (pv 1) pa_nil))))))
      pss_nil)
    (pss_cons (ps_if (pt_cmpR op_in_seq (pv 0) (pe_tup (pa_cons pe_str (pa_cons pe_str (pa_cons pe_str (pa_cons pe_str (pa_cons pe_str (pa_cons pe_str (pa_cons pe_str (pa_cons pe_str pa_nil))))))))) (by with_unfolding_all rfl))
      (pss_cons (ps_if (pt_not (pt_val (C8.pe_c c__law_is_integer hr (by decide) (by rfl) (pa_cons (pv 1) pa_nil))))
      (pss_one (ps_ret pe_non))
      pss_nil)
    (pss_one (ps_ret (C8.pe_c c__law_numbered hr (by decide) (by rfl) (pa_cons (pv 0) (pa_cons (pv 1) pa_nil))))))
      pss_nil)
    (pss_cons (ps_if (pt_not (pt_val (pe_callB call_isi (by rfl) z_isinstance (by decide +kernel) (pa_cons (pv 1) (pa_cons (pe_bltn (v := .ty "str") (u := .type "str") rfl z_str (by decide +kernel) rfl) pa_nil)))))
      (pss_one (ps_ret pe_non))
      pss_nil)
    (pss_cons (ps_if (pt_cmpR op_eq (pv 0) pe_str (nomark _))
      (pss_one (ps_ret (C8.pe_c c_read_integer hr (by decide) (by rfl) (pa_cons (pv 1) pa_nil))))
      pss_nil)
    (pss_cons (ps_if (pt_cmpR op_eq (pv 0) pe_str (nomark _))
      (pss_one (ps_ret (C8.pe_c c_read_decimal hr (by decide) (by rfl) (pa_cons (pv 1) pa_nil))))
      pss_nil)
    (pss_one (ps_ret (C8.pe_c c_read_date hr (by decide) (by rfl) (pa_cons (pv 1) pa_nil))))))))))), ?_⟩
  obtain ⟨nm, x, z, rfl, hx, hop, q⟩ := h
  have plx := hx.ok.pl
  have qn : ∀ {l : Str} {tz tu : TS} {D : Ends} {σ : L2.St} {H0 : Hp}, σ[0]? = some (some (.str nm)) → decide (V.str nm = V.str l) = false → (∀ H1, Ex H0 H1 → tz D σ H1) → tSeq (tIfS (tTest (tOp rEq (tVar 0) (tC (.str l)))) tu tNext) tz D σ H0 := fun h0 hb k =>
    q_when (et_is (et_test (ev_op (ev_var h0) ev_c (rv_eq rfl))) hb) (fun z => nomatch z) fun _ H1 e => k H1 e
  have qy : ∀ {l : Str} {tz tu : TS} {D : Ends} {σ : L2.St} {H0 : Hp}, σ[0]? = some (some (.str nm)) → decide (V.str nm = V.str l) = true → (∀ H1, Ex H0 H1 → tu { D with nx := tz D } σ H1) → tSeq (tIfS (tTest (tOp rEq (tVar 0) (tC (.str l)))) tu tNext) tz D σ H0 := fun h0 hb k =>
    q_when (et_is (et_test (ev_op (ev_var h0) ev_c (rv_eq rfl))) hb) (fun _ H1 e => k H1 e) fun z => nomatch z
  have t9 : ∀ {b : Bool} {H0 : Hp}, inV (.str nm) nineL = b → EvT (tTest (tOp (rIn K false) (tVar 0) (tTup (tCons (tC (.str "year")) (tCons (tC (.str "month")) (tCons (tC (.str "day")) (tCons (tC (.str "weekday")) (tCons (tC (.str "month start")) (tCons (tC (.str "year start")) (tCons (tC (.str "week start")) (tCons (tC (.str "as date")) (tCons (tC (.str "date to text")) tNil)))))))))))) [some (.str nm), some x] H0 b := fun {b H0} hb => et_is (et_test (ev_inU (xs := nineL) (ev_var rfl) (eu_tup (by repeat (first | exact ea_nil | refine ea_cons ev_c ?_)) (by show 9 ≤ 100000; decide)) rfl (by decide +kernel))) hb
  have t8 : ∀ {b : Bool} {H0 : Hp}, inV (.str nm) eightL = b → EvT (tTest (tOp (rIn K false) (tVar 0) (tTup (tCons (tC (.str "negate")) (tCons (tC (.str "abs")) (tCons (tC (.str "sign")) (tCons (tC (.str "as decimal")) (tCons (tC (.str "to decimal")) (tCons (tC (.str "to int")) (tCons (tC (.str "int to text")) (tCons (tC (.str "decimal to text")) tNil))))))))))) [some (.str nm), some x] H0 b := fun {b H0} hb => et_is (et_test (ev_inU (xs := eightL) (ev_var rfl) (eu_tup (by repeat (first | exact ea_nil | refine ea_cons ev_c ?_)) (by show 8 ≤ 100000; decide)) rfl (by decide +kernel))) hb
  cases hop with
  | null => exact qy rfl (by decide +kernel) fun H1 e1 => s_ret (ev_op (ev_var rfl) ev_c rv_isN) fun H2 e2 => q _ (e1.trans e2)
  | not =>
    refine qn rfl (by decide +kernel) fun H1 e1 => qy rfl (by decide +kernel) fun H2 e2 => ?_
    refine q_when (b := isBl x) (et_B (ev_isBl (ev_var rfl) plx)) (fun hb H3 e3 => s_ret (v := neg3 x) (ev_is (ev_op (ev_var rfl) ev_c rv_isT) ?_) fun H4 e4 => q _ (((e1.trans e2).trans e3).trans e4)) fun hb H3 e3 => s_ret (v := neg3 x) (ev_is ev_c ?_) fun H4 e4 => q _ (((e1.trans e2).trans e3).trans e4)
    · cases hx <;> first | (simp [isBl] at hb; done) | (rename_i b; cases b <;> rfl)
    · cases hx <;> first | (simp [isBl] at hb; done) | rfl
  | dat x hf =>
    have n1 := dt_not hf
    have i9 : inV (.str nm) nineL = true := by cases hf <;> decide +kernel
    refine qn rfl n1.2 fun H1 e1 => qn rfl n1.1 fun H2 e2 => ?_
    refine q_when (t9 i9) (fun _ H3 e3 => ?_) fun hb => nomatch hb
    have x3 := (e1.trans e2).trans e3
    have hq : ∀ v, v = (if isDay x = true then _ else V.non) → ∀ H', Ex H H' → Q v H' := fun v hv H' e' => hv ▸ q H' e'
    by_cases hi : isInt x = true
    · obtain ⟨n, rfl⟩ := isx_of plx hi
      refine q_when (b := !true || !(decide (-719162 ≤ n) && decide (n ≤ 2932896))) (et_or (et_not (et_B (ec_isint (ev_var rfl) (.int n)))) fun _ => et_not (et_test (ev_chain (ev_un ev_c ru_neg) (ev_var rfl) rv_I0 (fun _ => ev_c) (fun _ => rv_I0)))) (fun hb H4 e4 => s_ret ev_c fun H5 e5 => hq _ ?_ _ ((x3.trans e4).trans e5)) fun hb H4 e4 => ?_
      · rw [if_neg]
        intro hd
        have hd' : (decide (-719162 ≤ n) && decide (n ≤ 2932896)) = true := hd
        rw [hd'] at hb
        exact nomatch hb
      · have hd : isDay (.int n) = true := by
          show (decide (-719162 ≤ n) && decide (n ≤ 2932896)) = true
          cases hz : (decide (-719162 ≤ n) && decide (n ≤ 2932896)) with
          | true => rfl
          | false => rw [hz] at hb; exact nomatch hb
        have hd2 : -719162 ≤ n ∧ n ≤ 2932896 := by
          have hd' : (decide (-719162 ≤ n) && decide (n ≤ 2932896)) = true := hd
          rw [Bool.and_eq_true, decide_eq_true_eq, decide_eq_true_eq] at hd'
          exact hd'
        exact s_ret (ec_dated hf hd2 (ev_var rfl) (ev_var rfl)) fun H5 e5 => hq _ (by rw [if_pos hd]; rfl) _ ((x3.trans e4).trans e5)
    · have hi' : isInt x = false := by simpa using hi
      refine q_when (b := !isInt x || true) (et_or (et_not (et_B (ec_isint (ev_var rfl) plx))) fun hz => ?_) (fun hb H4 e4 => s_ret ev_c fun H5 e5 => hq _ ?_ _ ((x3.trans e4).trans e5)) fun hb => by simp at hb
      · rw [hi'] at hz; exact nomatch hz
      · rw [if_neg]
        intro hd
        cases plx <;> first | (simp [isDay] at hd; done) | (simp [isInt] at hi'; done)
  | num x hf =>
    have n1 := nm_not hf
    have i9 : inV (.str nm) nineL = false := by cases hf <;> decide +kernel
    have i8 : inV (.str nm) eightL = true := by cases hf <;> decide +kernel
    refine qn rfl n1.2 fun H1 e1 => qn rfl n1.1 fun H2 e2 => ?_
    refine q_when (t9 i9) (fun hb => nomatch hb) fun _ H3 e3 => ?_
    refine q_when (t8 i8) (fun _ H4 e4 => ?_) fun hb => nomatch hb
    have x4 := ((e1.trans e2).trans e3).trans e4
    refine q_when (b := !isInt x) (et_not (et_B (ec_isint (ev_var rfl) plx))) (fun hb H5 e5 => s_ret ev_c fun H6 e6 => ?_) fun hb H5 e5 => ?_
    · have q2 := q _ ((x4.trans e5).trans e6)
      rw [if_neg (by intro z; rw [z] at hb; exact nomatch hb)] at q2
      exact q2
    · have hi : isInt x = true := by simpa using hb
      obtain ⟨n, rfl⟩ := isx_of plx hi
      have hn : -1000000000000000 ≤ n ∧ n ≤ 1000000000000000 := by cases hx; assumption
      exact s_ret (ec_numd hf hn (ev_var rfl) (ev_var rfl)) fun H6 e6 => q _ ((x4.trans e5).trans e6)
  | txt x hf =>
    have n1 := tx_not hf
    have i9 : inV (.str nm) nineL = false := by cases hf <;> decide +kernel
    have i8 : inV (.str nm) eightL = false := by cases hf <;> decide +kernel
    refine qn rfl n1.2 fun H1 e1 => qn rfl n1.1 fun H2 e2 => ?_
    refine q_when (t9 i9) (fun hb => nomatch hb) fun _ H3 e3 => ?_
    refine q_when (t8 i8) (fun hb => nomatch hb) fun _ H4 e4 => ?_
    have x4 := ((e1.trans e2).trans e3).trans e4
    refine q_when (b := !isStr x) (et_not (et_B (ev_isStr (ev_var rfl) plx))) (fun hb H5 e5 => s_ret ev_c fun H6 e6 => ?_) fun hb H5 e5 => ?_
    · have q2 := q _ ((x4.trans e5).trans e6)
      rw [if_neg (by intro z; rw [z] at hb; exact nomatch hb)] at q2
      exact q2
    · have hs : isStr x = true := by simpa using hb
      have hl : ∃ l : List Nat, x = .str (SX.S l) ∧ l.length ≤ 100 := by
        cases hx <;> first | (exact ⟨_, rfl, by assumption⟩) | (exact nomatch hs)
      obtain ⟨l, rfl, hl⟩ := hl
      have x5 := x4.trans e5
      cases hf with
      | toI => exact qy rfl (by decide +kernel) fun H6 e6 => s_ret (ec_rdI (ev_var rfl) (by omega)) fun H7 e7 => q _ ((x5.trans e6).trans e7)
      | toD => exact qn rfl (by decide +kernel) fun H6 e6 => qy rfl (by decide +kernel) fun H7 e7 => s_ret (ec_rdD (ev_var rfl) (by omega)) fun H8 e8 => q _ (((x5.trans e6).trans e7).trans e8)
      | toT => exact qn rfl (by decide +kernel) fun H6 e6 => qn rfl (by decide +kernel) fun H7 e7 => s_ret (ec_rd3 (ev_var rfl) (by omega)) fun H8 e8 => q _ (((x5.trans e6).trans e7).trans e8)
theorem ok__law_drawn (D : Dn K mg "_law_drawn" s__law_drawn ["numbers"]) (c__law_value : C8.Cal P w K mg base 2 "_law_value" (sp__law_value K) []) (c_date_text : C8.Cal P w K mg base 4 "date_text" (sp_date_text K) []) (c_decimal_text : C8.Cal P w K mg base 1 "decimal_text" (sp_decimal_text K) []) (z_int : mg "int" = none) (z_str : mg "str" = none) :
    C8.Cal P w K mg base 5 "_law_drawn" (sp__law_drawn K) [] := by
  refine cal_of D sc__law_drawn (fun vs H Q E h => ?_) (fun f cdv A outer s H vs Q E hr h => ?_)
  · obtain ⟨_, _, rfl, _⟩ := h
    rfl
  refine ⟨_, (pss_cons (ps_set (i := 1) sc__law_drawn.nd rfl (.inl rfl) (C8.pe_c c__law_value hr (by decide) (by rfl) (pa_cons (pe_ix ix_list (pv 0) pe_int (fun _ _ => rfl)) pa_nil)))
    (pss_cons (ps_set (i := 2) sc__law_drawn.nd rfl (.inl rfl) (pe_op op_sub (pe_op op_mod (pe_callTy call_int1 (by rfl) z_int (by decide +kernel) (pa_cons (pe_ix ix_list (pv 0) pe_int (fun _ _ => rfl)) pa_nil)) pe_int) pe_int))
    (pss_cons (ps_set (i := 3) sc__law_drawn.nd rfl (.inl rfl) (pe_op op_mod (pe_callTy call_int1 (by rfl) z_int (by decide +kernel) (pa_cons (pe_ix ix_list (pv 0) pe_int (fun _ _ => rfl)) pa_nil)) pe_int))
    (pss_cons (ps_if (pt_cmpR op_eq (pv 3) pe_int (nomark _))
      (pss_one (ps_ret (pe_callTy call_str_int (by rfl) z_str (by decide +kernel) (pa_cons (pv 2) pa_nil))))
      pss_nil)
    (pss_cons (ps_if (pt_cmpR op_eq (pv 3) pe_int (nomark _))
      (pss_one (ps_ret (C8.pe_c c_decimal_text hr (by decide) (by rfl) (pa_cons (pv 2) pa_nil))))
      pss_nil)
    (pss_cons (ps_if (PW.pt (pw_and (pt_cmpR op_eq (pv 3) pe_int (nomark _)) (pw_and1 (pt_chain op_le op_le (pe_un un_neg pe_int) (pv 2) pe_int))))
      (pss_one (ps_ret (C8.pe_c c_date_text hr (by decide) (by rfl) (pa_cons (pv 2) pa_nil))))
      pss_nil)
    (pss_cons (ps_if (pt_cmpR op_eq (pv 3) pe_int (nomark _))
      (pss_one (ps_ret (pv 2)))
      pss_nil)
    (pss_one (ps_ret (pv 1)))))))))), ?_⟩
  obtain ⟨p, ns, rfl, hS, q⟩ := h
  have g1 : ∀ {σ : L2.St} {H' : Hp}, σ[0]? = some (some (V.ref p)) → Ex H H' → Ev (tOp (rIxL K) (tVar 0) (tC (.int 1))) σ H' (.int (cellN ns 1)) := fun hσ e => ev_op (ev_var hσ) ev_c (rv_ixL (ex_l e hS) (lawN_at (i := 1) (by decide)))
  have g2 : ∀ {σ : L2.St} {H' : Hp}, σ[0]? = some (some (V.ref p)) → Ex H H' → Ev (tOp (rIxL K) (tVar 0) (tC (.int 2))) σ H' (.int (cellN ns 2)) := fun hσ e => ev_op (ev_var hσ) ev_c (rv_ixL (ex_l e hS) (lawN_at (i := 2) (by decide)))
  have g3 : ∀ {σ : L2.St} {H' : Hp}, σ[0]? = some (some (V.ref p)) → Ex H H' → Ev (tOp (rIxL K) (tVar 0) (tC (.int 3))) σ H' (.int (cellN ns 3)) := fun hσ e => ev_op (ev_var hσ) ev_c (rv_ixL (ex_l e hS) (lawN_at (i := 3) (by decide)))
  generalize cellN ns 1 = n1 at g1
  generalize cellN ns 2 = n2 at g2
  generalize cellN ns 3 = n3 at g3
  refine q_asg (ec_value (g1 rfl (Ex.refl _))) fun H1 e1 => ?_
  refine q_asg (v := .int (n2 % 4000000 - 1000000)) (ev_op (ev_op (ev_int (g2 rfl e1)) ev_c (rv_I (by decide))) ev_c rv_I0) fun H2 e2 => ?_
  refine q_asg (v := .int (n3 % 6)) (ev_op (ev_int (g3 rfl (e1.trans e2))) ev_c (rv_I (by decide))) fun H3 e3 => ?_
  have x3 := (e1.trans e2).trans e3
  have hu := (lawV_ok n1).u9
  generalize lawV n1 = v at *
  have hm : -1000000 ≤ n2 % 4000000 - 1000000 ∧ n2 % 4000000 - 1000000 < 3000000 := by omega
  generalize n2 % 4000000 - 1000000 = m at *
  generalize n3 % 6 = c at *
  have m30 : m.natAbs < 10 ^ 30 := by omega
  refine q_when (b := decide (V.int c = V.int 0)) (by walk_at "et") (fun _ H4 e4 => s_ret (ev_strZ (ev_var rfl) m30) fun H5 e5 => q _ _ (.str _ (by have := itx_len m30; omega) (itx_ok m)) ((x3.trans e4).trans e5)) fun _ H4 e4 => ?_
  refine q_when (b := decide (V.int c = V.int 1)) (by walk_at "et") (fun _ H5 e5 => s_ret (ec_dtext (ev_var rfl) m30) fun H6 e6 => q _ _ (.str _ (by have := dtx_len' m30; omega) (dtx_ok m)) (((x3.trans e4).trans e5).trans e6)) fun _ H5 e5 => ?_
  have x5 := (x3.trans e4).trans e5
  refine q_when (b := decide (V.int c = V.int 2) && (decide (-719162 ≤ m) && decide (m ≤ 2932896))) (et_and (by walk_at "et") fun _ => et_test (ev_chain (ev_un ev_c ru_neg) (ev_var rfl) rv_I0 (fun _ => ev_c) (fun _ => rv_I0))) (fun hb H6 e6 => ?_) fun _ H6 e6 => ?_
  · rw [Bool.and_eq_true, Bool.and_eq_true, decide_eq_true_eq, decide_eq_true_eq, decide_eq_true_eq] at hb
    exact s_ret (ec_dtx (ev_var rfl) hb.2) fun H7 e7 => q _ _ (.str _ (by have := dtx3_len m; omega) (dtx3_ok m)) ((x5.trans e6).trans e7)
  refine q_when (b := decide (V.int c = V.int 3)) (by walk_at "et") (fun _ H7 e7 => s_ret (ev_var rfl) fun H8 e8 => q _ _ (.int m (by omega)) (((x5.trans e6).trans e7).trans e8)) fun _ H7 e7 => ?_
  exact s_ret (ev_var rfl) fun H8 e8 => q _ _ hu (((x5.trans e6).trans e7).trans e8)
theorem q_drawn {σ : L2.St} {H : Hp} {ta : TE} {E : XK} {p : Addr} {ns : List Int} {D : Ends} {tz : TS} {j : Nat} (ha : Ev ta σ H (.ref p)) (hS : SqL K H p ((lawN ns 4).map V.int)) (k : ∀ x H1, U9 x → Ex H H1 → tz D (σ.set j (some x)) H1) : tSeq (tAsg (tCall (sp__law_drawn K) [] E (tCons ta tNil)) (gName j)) tz D σ H :=
  ha H (Ex.refl H) _ fun H1 e1 => ⟨p, ns, rfl, ex_l e1 hS, fun x H2 hx e2 => k x H2 hx (e1.trans e2)⟩
def otherL : List V := [.non, .bl true, .bl false, .int 0, .str (SX.S []), .int 2932896, .int 2932897, .int (-719162), .int (-719163)]
theorem other_u9 {x : V} (h : x ∈ otherL) : U9 x := by
  unfold otherL at h
  simp only [List.mem_cons, List.not_mem_nil, or_false] at h
  rcases h with h | h | h | h | h | h | h | h | h <;> subst h
  · exact .non
  · exact .bl _
  · exact .bl _
  · exact .int _ (by decide)
  · exact .str [] (by decide) (fun c hc => by cases hc)
  · exact .int _ (by decide)
  · exact .int _ (by decide)
  · exact .int _ (by decide)
  · exact .int _ (by decide)
theorem ok_law {f : Addr} {fd : FuncData} (D : C8.Def K mg "law" s_law f fd) (c__law_drawn : C8.Cal P w K mg base 5 "_law_drawn" (sp__law_drawn K) []) (c__law_due : C8.Cal P w K mg base 6 "_law_due" (sp__law_due K) []) (c__law_numbers : C8.Cal P w K mg base 1 "_law_numbers" (sp__law_numbers K) []) (c__law_told : C8.Cal P w K mg base 2 "_law_told" (sp__law_told K) []) (c_unary : C8.Cal P w K mg base 10 "unary" (sp_unary K) []) (z_int : mg "int" = none) (z_isinstance : mg "isinstance" = none) (z_list : mg "list" = none) (z_str : mg "str" = none) {p_UNARY : Addr} (g_UNARY : ∃ u, mg "UNARY" = some u ∧ RelV (.ref p_UNARY) u) (h_UNARY : ∀ H : Hp, SqT K H p_UNARY (unaryS.map V.str)) :
    FnOk P w K mg base C8.CX0 11 f fd ["script"] (sp_law K) := by
  refine C8.fn0 D.fn sc_law (fun vs H Q E h => ?_) (fun cdv A outer s H vs Q E hr h => ?_)
  · obtain ⟨_, _, rfl, _⟩ := h
    rfl
  refine ⟨_, (pss_cons (ps_set (i := 1) sc_law.nd rfl (.inl rfl) (C8.pe_c c__law_numbers hr (by decide) (by rfl) (pa_cons (pv 0) (pa_cons pe_int pa_nil))))
    (pss_cons (ps_set (i := 2) sc_law.nd rfl (.inl rfl) (pe_lst (pa_cons pe_str (pa_cons pe_str (pa_cons pe_str (pa_cons pe_str (pa_cons pe_str (pa_cons pe_str (pa_cons pe_str (pa_cons pe_str (pa_cons pe_str (pa_cons pe_str (pa_cons pe_str (pa_cons pe_str pa_nil))))))))))))))
    (pss_cons (ps_set (i := 2) sc_law.nd rfl (.inl rfl) (pe_op op_cat (pv 2) (pe_lst (pa_cons pe_str (pa_cons pe_str (pa_cons pe_str (pa_cons pe_str (pa_cons pe_str (pa_cons pe_str (pa_cons pe_str (pa_cons pe_str pa_nil)))))))))))
    (pss_cons (ps_set (i := 2) sc_law.nd rfl (.inl rfl) (pe_op op_cat (pv 2) (pe_lst (pa_cons pe_str (pa_cons pe_str (pa_cons pe_str (pa_cons pe_str (pa_cons pe_str (pa_cons pe_str pa_nil)))))))))
    (pss_cons (ps_if (pt_cmpR (op_neD (hu64 hr)) (pe_callTy call_list_of (by rfl) z_list (by decide +kernel) (pa_cons (C8.pe_gc rfl g_UNARY) pa_nil)) (pv 2) (nomark _))
      (pss_one (ps_ret pe_bl))
      pss_nil)
    (pss_cons (ps_set (i := 3) sc_law.nd rfl (.inl rfl) (C8.pe_c c__law_drawn hr (by decide) (by rfl) (pa_cons (pv 1) pa_nil)))
    (pss_cons (ps_for PassesOwn.never rfl (pi_list (pv 2)) (pg_name (i := 4) sc_law.nd rfl (.inl rfl))
      (pss_one (ps_if (PW.pt (pw_and (pt_cmpR op_notIn_seq (pv 4) (pe_tup (pa_cons pe_str (pa_cons pe_str (pa_cons pe_str (pa_cons pe_str pa_nil))))) (by with_unfolding_all rfl)) (pw_and1 (pt_not (pt_val (C8.pe_c c__law_told hr (by decide) (by rfl) (pa_cons (C8.pe_c c_unary hr (by decide) (by rfl) (pa_cons (pv 4) (pa_cons (pv 3) pa_nil))) (pa_cons (C8.pe_c c__law_due hr (by decide) (by rfl) (pa_cons (pv 4) (pa_cons (pv 3) pa_nil))) pa_nil))))))))
      (pss_one (ps_ret pe_bl))
      pss_nil)))
    (pss_cons (ps_set (i := 4) sc_law.nd rfl (.inl rfl) (pe_ix ix_list (pv 2) (pe_op op_mod (pe_callTy call_int1 (by rfl) z_int (by decide +kernel) (pa_cons (pe_ix ix_list (pv 1) pe_int (fun _ _ => rfl)) pa_nil)) pe_int) (fun _ _ => rfl)))
    (pss_cons (ps_for PassesOwn.never rfl (pi_list (pe_lst (pa_cons pe_non (pa_cons pe_bl (pa_cons pe_bl (pa_cons pe_int (pa_cons pe_str (pa_cons pe_int (pa_cons pe_int (pa_cons (pe_un un_neg pe_int) (pa_cons (pe_un un_neg pe_int) pa_nil))))))))))) (pg_name (i := 5) sc_law.nd rfl (.inl rfl))
      (pss_cons (ps_if (PW.pt (pw_and (pt_cmpR op_notIn_seq (pv 4) (pe_tup (pa_cons pe_str (pa_cons pe_str (pa_cons pe_str (pa_cons pe_str pa_nil))))) (by with_unfolding_all rfl)) (pw_and1 (pt_not (pt_val (C8.pe_c c__law_told hr (by decide) (by rfl) (pa_cons (C8.pe_c c_unary hr (by decide) (by rfl) (pa_cons (pv 4) (pa_cons (pv 5) pa_nil))) (pa_cons (C8.pe_c c__law_due hr (by decide) (by rfl) (pa_cons (pv 4) (pa_cons (pv 5) pa_nil))) pa_nil))))))))
      (pss_one (ps_ret pe_bl))
      pss_nil)
    (pss_one (ps_if (PW.pt (pw_and (pt_cmpR op_in_seq (pv 4) (pe_tup (pa_cons pe_str (pa_cons pe_str (pa_cons pe_str (pa_cons pe_str pa_nil))))) (by with_unfolding_all rfl)) (pw_and (pt_not (pt_val (pe_callB call_isi (by rfl) z_isinstance (by decide +kernel) (pa_cons (pv 5) (pa_cons (pe_bltn (v := .ty "str") (u := .type "str") rfl z_str (by decide +kernel) rfl) pa_nil))))) (pw_and1 (pt_cmpR op_notN (C8.pe_c c_unary hr (by decide) (by rfl) (pa_cons (pv 4) (pa_cons (pv 5) pa_nil))) pe_non (nomark _))))))
      (pss_one (ps_ret pe_bl))
      pss_nil))))
    (pss_one (ps_ret pe_bl))))))))))), ?_⟩
  obtain ⟨a, ns, rfl, hS, h63, q⟩ := h
  refine q_asgL (xs := (lawN ns 4).map V.int) (el_call (ea_cons (ev_var rfl) (ea_cons ev_c ea_nil)) fun H1 e Q q E => ⟨a, ns, 4, rfl, ex_l e hS, h63, by decide, q⟩) fun p1 H1 hp1 e1 h1 => ?_
  refine q_asgL (xs := (unaryS.take 12).map V.str) (el_lst (by repeat (first | exact ea_nil | refine ea_cons ev_c ?_)) (by show 12 ≤ 100000; decide)) fun p2 H2 hp2 e2 h2 => ?_
  refine q_asgL (xs := (unaryS.take 12).map V.str ++ ((unaryS.drop 12).take 8).map V.str) (el_catN (ev_var rfl) h2 (el_lst (by repeat (first | exact ea_nil | refine ea_cons ev_c ?_)) (by show 8 ≤ 100000; decide)) (by show 12 + 8 ≤ 100000; decide)) fun p3 H3 hp3 e3 h3 => ?_
  refine q_asgL (xs := unaryS.map V.str) (el_catN (xs := (unaryS.take 12).map V.str ++ ((unaryS.drop 12).take 8).map V.str) (ys := (unaryS.drop 20).map V.str) (ev_var rfl) h3 (el_lst (by repeat (first | exact ea_nil | refine ea_cons ev_c ?_)) (by show 6 ≤ 100000; decide)) (by show 20 + 6 ≤ 100000; decide)) fun p4 H4 hp4 e4 h4 => ?_
  have x4 : Ex H1 H4 := (e2.trans e3).trans e4
  have sh : SeqAt.shaped (.list (unaryS.map PyData.str)) = true := by decide +kernel
  have er : PyData.eqv (.list (unaryS.map PyData.str)) (.list (unaryS.map PyData.str)) = true := PySem.SeqAt.eqv_refl _ (SeqAt.canLay_of_shaped sh)
  refine q_when (b := !PyData.eqv (.list (unaryS.map PyData.str)) (.list (unaryS.map PyData.str))) (et_test (ev_neD (ed_strs (el_listT ev_c h_UNARY)) (ed_val (ev_var rfl) (.lst (sq_of h4) dp_strs)) sh sh)) (fun hb => by rw [er] at hb; cases hb) fun _ H5 e5 => ?_
  have x5 := x4.trans e5
  refine q_drawn (ns := ns) (ev_var rfl) (sq_of (x5 _ _ h1)) fun v H6 hv e6 => ?_
  have x6 := x5.trans e6
  have h6 : H6 p4 = some (.lst (unaryS.map V.str)) := (e5.trans e6) _ _ h4
  have nin : ∀ {σ : L2.St} {H0 : Hp} {nm : Str} {b : Bool}, inV (.str nm) fourL = b → σ[4]? = some (some (.str nm)) → EvT (tTest (tOp (rIn K true) (tVar 4) (tTup (tCons (tC (.str "lower")) (tCons (tC (.str "upper")) (tCons (tC (.str "length")) (tCons (tC (.str "trim")) tNil))))))) σ H0 (!b) := fun {σ H0 nm b} hb hσ => et_is (et_test (ev_niU (xs := fourL) (ev_var hσ) (eu_tup (by repeat (first | exact ea_nil | refine ea_cons ev_c ?_)) (by show 4 ≤ 100000; decide)) rfl (by decide +kernel))) (by rw [hb])
  have yin : ∀ {σ : L2.St} {H0 : Hp} {nm : Str} {b : Bool}, inV (.str nm) fourL = b → σ[4]? = some (some (.str nm)) → EvT (tTest (tOp (rIn K false) (tVar 4) (tTup (tCons (tC (.str "lower")) (tCons (tC (.str "upper")) (tCons (tC (.str "length")) (tCons (tC (.str "trim")) tNil))))))) σ H0 b := fun {σ H0 nm b} hb hσ => et_is (et_test (ev_inU (xs := fourL) (ev_var hσ) (eu_tup (by repeat (first | exact ea_nil | refine ea_cons ev_c ?_)) (by show 4 ≤ 100000; decide)) rfl (by decide +kernel))) hb
  refine q_forLn (ev_var rfl) (sq_of h6) (fun i σ H' => ∃ y4, σ = [some (.ref a), some (.ref p1), some (.ref p4), some v, y4, none] ∧ Ex H6 H') (fun Ha ea => ⟨none, rfl, ea⟩) (fun i σ Ha _ hw => ?_) (fun i x σ Ha hx hw => ?_) (fun σ Ha hw => ?_)
  · obtain ⟨y4, rfl, ea⟩ := hw
    exact sq_of (ea _ _ h6)
  · obtain ⟨y4, rfl, ea⟩ := hw
    obtain ⟨nm, hnm, rfl⟩ := List.mem_map.mp (List.mem_of_getElem? hx)
    rcases each_name hnm with ⟨hin, _⟩ | ⟨hin, hon⟩
    · refine s_when (b := !true && false) (et_and (nin hin rfl) fun hb => nomatch hb) (fun hb => nomatch hb) fun _ Hb eb => ⟨_, rfl, ea.trans eb⟩
    · obtain ⟨z, hz⟩ := hon v
      exact s_when (b := !false && !true) (et_and (nin hin rfl) fun _ => et_not (et_B (ec_told (on_ok hz) (ec_unary (.on hz) hv (ev_var rfl) (ev_var rfl)) (ec_due hz hv (ev_var rfl) (ev_var rfl))))) (fun hb => nomatch hb) fun _ Hb eb => ⟨_, rfl, ea.trans eb⟩
  obtain ⟨y4, rfl, ea⟩ := hw
  have g0 : Ev (tOp (rIxL K) (tVar 1) (tC (.int 0))) [some (.ref a), some (.ref p1), some (.ref p4), some v, y4, none] Ha (.int (cellN ns 0)) := ev_op (ev_var rfl) ev_c (rv_ixL (sq_of ((x6.trans ea) _ _ h1)) (lawN_at (i := 0) (by decide)))
  generalize cellN ns 0 = n0 at g0
  have hi : n0 % 26 = (((n0 % 26).toNat : Nat) : Int) := by omega
  have hlt : (n0 % 26).toNat < unaryS.length := by show _ < 26; omega
  refine q_asg (v := .str unaryS[(n0 % 26).toNat]) (ev_op (ev_var rfl) (ev_is (v := .int (n0 % 26)) (ev_op (ev_int g0) ev_c (rv_I (by decide))) (by rw [← hi])) (rv_ixL (sq_of (ea _ _ h6)) (atI_nat (by rw [List.getElem?_map, List.getElem?_eq_getElem hlt]; rfl)))) fun Hb eb => ?_
  have hnm := List.getElem_mem hlt
  generalize unaryS[(n0 % 26).toNat] = nm at *
  refine q_forNLn (xs := otherL) (el_lst (by repeat (first | exact ea_nil | refine ea_cons (ev_is ev_c (by first | rfl | rw [c00])) ?_ | refine ea_cons (ev_un ev_c ru_neg) ?_)) (by show 9 ≤ 100000; decide)) (fun p i σ H' => ∃ y5, σ = [some (.ref a), some (.ref p1), some (.ref p4), some v, some (.str nm), y5] ∧ H' p = some (.lst otherL)) (fun p Hc hp ec hc => ⟨none, rfl, hc⟩) (fun p i σ Hc _ hw => ?_) (fun p i x σ Hc hx hw => ?_) (fun p σ Hc hw => ?_)
  · obtain ⟨y5, rfl, hc⟩ := hw
    exact sq_of hc
  · obtain ⟨y5, rfl, hc⟩ := hw
    have hu := other_u9 (List.mem_of_getElem? hx)
    rcases each_name hnm with ⟨hin, h4⟩ | ⟨hin, hon⟩
    · refine q_when (b := !true && false) (et_and (nin hin rfl) fun hb => nomatch hb) (fun hb => nomatch hb) fun _ Hd ed => ?_
      by_cases hs : isStr x = true
      · refine s_when (b := true && (!true && false)) (et_and (yin hin rfl) fun _ => et_and (et_is (et_not (et_B (ev_isStr (ev_var rfl) hu.ok.pl))) (by rw [hs])) fun hb => nomatch hb) (fun hb => nomatch hb) fun _ He ee => ⟨_, rfl, ee _ _ (ed _ _ hc)⟩
      · have hs' : isStr x = false := by simpa using hs
        refine s_when (b := true && (!false && !decide (V.non = V.non))) (et_and (yin hin rfl) fun _ => et_and (et_is (et_not (et_B (ev_isStr (ev_var rfl) hu.ok.pl))) (by rw [hs'])) fun _ => et_test (ev_op (ec_unary (.four h4 hs') hu (ev_var rfl) (ev_var rfl)) ev_c rv_notN)) (fun hb => by simp at hb) fun _ He ee => ⟨_, rfl, ee _ _ (ed _ _ hc)⟩
    · obtain ⟨z, hz⟩ := hon x
      refine q_when (b := !false && !true) (et_and (nin hin rfl) fun _ => et_not (et_B (ec_told (on_ok hz) (ec_unary (.on hz) hu (ev_var rfl) (ev_var rfl)) (ec_due hz hu (ev_var rfl) (ev_var rfl))))) (fun hb => nomatch hb) fun _ Hd ed => ?_
      exact s_when (b := false && false) (et_and (yin hin rfl) fun hb => nomatch hb) (fun hb => nomatch hb) fun _ He ee => ⟨_, rfl, ee _ _ (ed _ _ hc)⟩
  · obtain ⟨y5, rfl, hc⟩ := hw
    exact s_ret (v := .bl true) ev_c fun Hd ed => q Hd
end
theorem all_mk {P : Program} {w : World} {K : PySem.W.Frag} {h : Heap} {mg : Str → Option Value} {fa : Addr} (X : K.In h) (G : h.Ns mainGlobals mg) (hfa : mg "law" = some (.ref fa))
    {f0 : Addr} {od0 an0 : Option Addr} {sl0 : Array (Option Value)} {oc0 kV0 dc0 pm0 cd0 ct0 : Value} (a0 : PySem.W.nsIn K mainGlobals "is_integer" = some (some (.ref f0))) (l0 : K.lookup f0 = some ⟨oc0, od0, .func (PySem.W.fnOf "is_integer" "is_integer" (C8.fnArgs s_is_integer) (C8.fnBody s_is_integer) (C8.fnScope s_is_integer) .none kV0 dc0 pm0 an0 cd0 ct0), sl0⟩) (b0 : PySem.W.codeIn K cd0 "is_integer" = true) (k0 : PySem.W.keepIn K (.ref f0) = true)
    {f1 : Addr} {od1 an1 : Option Addr} {sl1 : Array (Option Value)} {oc1 kV1 dc1 pm1 cd1 ct1 : Value} (a1 : PySem.W.nsIn K mainGlobals "is_digits" = some (some (.ref f1))) (l1 : K.lookup f1 = some ⟨oc1, od1, .func (PySem.W.fnOf "is_digits" "is_digits" (C8.fnArgs s_is_digits) (C8.fnBody s_is_digits) (C8.fnScope s_is_digits) .none kV1 dc1 pm1 an1 cd1 ct1), sl1⟩) (b1 : PySem.W.codeIn K cd1 "is_digits" = true) (k1 : PySem.W.keepIn K (.ref f1) = true)
    {f2 : Addr} {od2 an2 : Option Addr} {sl2 : Array (Option Value)} {oc2 kV2 dc2 pm2 cd2 ct2 : Value} (a2 : PySem.W.nsIn K mainGlobals "is_day" = some (some (.ref f2))) (l2 : K.lookup f2 = some ⟨oc2, od2, .func (PySem.W.fnOf "is_day" "is_day" (C8.fnArgs s_is_day) (C8.fnBody s_is_day) (C8.fnScope s_is_day) .none kV2 dc2 pm2 an2 cd2 ct2), sl2⟩) (b2 : PySem.W.codeIn K cd2 "is_day" = true) (k2 : PySem.W.keepIn K (.ref f2) = true)
    {f3 : Addr} {od3 an3 : Option Addr} {sl3 : Array (Option Value)} {oc3 kV3 dc3 pm3 cd3 ct3 : Value} (a3 : PySem.W.nsIn K mainGlobals "_is_leap" = some (some (.ref f3))) (l3 : K.lookup f3 = some ⟨oc3, od3, .func (PySem.W.fnOf "_is_leap" "_is_leap" (C8.fnArgs s__is_leap) (C8.fnBody s__is_leap) (C8.fnScope s__is_leap) .none kV3 dc3 pm3 an3 cd3 ct3), sl3⟩) (b3 : PySem.W.codeIn K cd3 "_is_leap" = true) (k3 : PySem.W.keepIn K (.ref f3) = true)
    {f4 : Addr} {od4 an4 : Option Addr} {sl4 : Array (Option Value)} {oc4 kV4 dc4 pm4 cd4 ct4 : Value} (a4 : PySem.W.nsIn K mainGlobals "month_length" = some (some (.ref f4))) (l4 : K.lookup f4 = some ⟨oc4, od4, .func (PySem.W.fnOf "month_length" "month_length" (C8.fnArgs s_month_length) (C8.fnBody s_month_length) (C8.fnScope s_month_length) .none kV4 dc4 pm4 an4 cd4 ct4), sl4⟩) (b4 : PySem.W.codeIn K cd4 "month_length" = true) (k4 : PySem.W.keepIn K (.ref f4) = true)
    {f5 : Addr} {od5 an5 : Option Addr} {sl5 : Array (Option Value)} {oc5 kV5 dc5 pm5 cd5 ct5 : Value} (a5 : PySem.W.nsIn K mainGlobals "day_of" = some (some (.ref f5))) (l5 : K.lookup f5 = some ⟨oc5, od5, .func (PySem.W.fnOf "day_of" "day_of" (C8.fnArgs s_day_of) (C8.fnBody s_day_of) (C8.fnScope s_day_of) .none kV5 dc5 pm5 an5 cd5 ct5), sl5⟩) (b5 : PySem.W.codeIn K cd5 "day_of" = true) (k5 : PySem.W.keepIn K (.ref f5) = true)
    {f6 : Addr} {od6 an6 : Option Addr} {sl6 : Array (Option Value)} {oc6 kV6 dc6 pm6 cd6 ct6 : Value} (a6 : PySem.W.nsIn K mainGlobals "date_of" = some (some (.ref f6))) (l6 : K.lookup f6 = some ⟨oc6, od6, .func (PySem.W.fnOf "date_of" "date_of" (C8.fnArgs s_date_of) (C8.fnBody s_date_of) (C8.fnScope s_date_of) .none kV6 dc6 pm6 an6 cd6 ct6), sl6⟩) (b6 : PySem.W.codeIn K cd6 "date_of" = true) (k6 : PySem.W.keepIn K (.ref f6) = true)
    {f7 : Addr} {od7 an7 : Option Addr} {sl7 : Array (Option Value)} {oc7 kV7 dc7 pm7 cd7 ct7 : Value} (a7 : PySem.W.nsIn K mainGlobals "date_text" = some (some (.ref f7))) (l7 : K.lookup f7 = some ⟨oc7, od7, .func (PySem.W.fnOf "date_text" "date_text" (C8.fnArgs s_date_text) (C8.fnBody s_date_text) (C8.fnScope s_date_text) .none kV7 dc7 pm7 an7 cd7 ct7), sl7⟩) (b7 : PySem.W.codeIn K cd7 "date_text" = true) (k7 : PySem.W.keepIn K (.ref f7) = true)
    {f8 : Addr} {od8 an8 : Option Addr} {sl8 : Array (Option Value)} {oc8 kV8 dc8 pm8 cd8 ct8 : Value} (a8 : PySem.W.nsIn K mainGlobals "read_date" = some (some (.ref f8))) (l8 : K.lookup f8 = some ⟨oc8, od8, .func (PySem.W.fnOf "read_date" "read_date" (C8.fnArgs s_read_date) (C8.fnBody s_read_date) (C8.fnScope s_read_date) .none kV8 dc8 pm8 an8 cd8 ct8), sl8⟩) (b8 : PySem.W.codeIn K cd8 "read_date" = true) (k8 : PySem.W.keepIn K (.ref f8) = true)
    {f9 : Addr} {od9 an9 : Option Addr} {sl9 : Array (Option Value)} {oc9 kV9 dc9 pm9 cd9 ct9 : Value} (a9 : PySem.W.nsIn K mainGlobals "limited" = some (some (.ref f9))) (l9 : K.lookup f9 = some ⟨oc9, od9, .func (PySem.W.fnOf "limited" "limited" (C8.fnArgs s_limited) (C8.fnBody s_limited) (C8.fnScope s_limited) .none kV9 dc9 pm9 an9 cd9 ct9), sl9⟩) (b9 : PySem.W.codeIn K cd9 "limited" = true) (k9 : PySem.W.keepIn K (.ref f9) = true)
    {f10 : Addr} {od10 an10 : Option Addr} {sl10 : Array (Option Value)} {oc10 kV10 dc10 pm10 cd10 ct10 : Value} (a10 : PySem.W.nsIn K mainGlobals "rounded" = some (some (.ref f10))) (l10 : K.lookup f10 = some ⟨oc10, od10, .func (PySem.W.fnOf "rounded" "rounded" (C8.fnArgs s_rounded) (C8.fnBody s_rounded) (C8.fnScope s_rounded) .none kV10 dc10 pm10 an10 cd10 ct10), sl10⟩) (b10 : PySem.W.codeIn K cd10 "rounded" = true) (k10 : PySem.W.keepIn K (.ref f10) = true)
    {f11 : Addr} {od11 an11 : Option Addr} {sl11 : Array (Option Value)} {oc11 kV11 dc11 pm11 cd11 ct11 : Value} (a11 : PySem.W.nsIn K mainGlobals "decimal_text" = some (some (.ref f11))) (l11 : K.lookup f11 = some ⟨oc11, od11, .func (PySem.W.fnOf "decimal_text" "decimal_text" (C8.fnArgs s_decimal_text) (C8.fnBody s_decimal_text) (C8.fnScope s_decimal_text) .none kV11 dc11 pm11 an11 cd11 ct11), sl11⟩) (b11 : PySem.W.codeIn K cd11 "decimal_text" = true) (k11 : PySem.W.keepIn K (.ref f11) = true)
    {f12 : Addr} {od12 an12 : Option Addr} {sl12 : Array (Option Value)} {oc12 kV12 dc12 pm12 cd12 ct12 : Value} (a12 : PySem.W.nsIn K mainGlobals "read_digits" = some (some (.ref f12))) (l12 : K.lookup f12 = some ⟨oc12, od12, .func (PySem.W.fnOf "read_digits" "read_digits" (C8.fnArgs s_read_digits) (C8.fnBody s_read_digits) (C8.fnScope s_read_digits) .none kV12 dc12 pm12 an12 cd12 ct12), sl12⟩) (b12 : PySem.W.codeIn K cd12 "read_digits" = true) (k12 : PySem.W.keepIn K (.ref f12) = true)
    {f13 : Addr} {od13 an13 : Option Addr} {sl13 : Array (Option Value)} {oc13 kV13 dc13 pm13 cd13 ct13 : Value} (a13 : PySem.W.nsIn K mainGlobals "_signed" = some (some (.ref f13))) (l13 : K.lookup f13 = some ⟨oc13, od13, .func (PySem.W.fnOf "_signed" "_signed" (C8.fnArgs s__signed) (C8.fnBody s__signed) (C8.fnScope s__signed) .none kV13 dc13 pm13 an13 cd13 ct13), sl13⟩) (b13 : PySem.W.codeIn K cd13 "_signed" = true) (k13 : PySem.W.keepIn K (.ref f13) = true)
    {f14 : Addr} {od14 an14 : Option Addr} {sl14 : Array (Option Value)} {oc14 kV14 dc14 pm14 cd14 ct14 : Value} (a14 : PySem.W.nsIn K mainGlobals "read_integer" = some (some (.ref f14))) (l14 : K.lookup f14 = some ⟨oc14, od14, .func (PySem.W.fnOf "read_integer" "read_integer" (C8.fnArgs s_read_integer) (C8.fnBody s_read_integer) (C8.fnScope s_read_integer) .none kV14 dc14 pm14 an14 cd14 ct14), sl14⟩) (b14 : PySem.W.codeIn K cd14 "read_integer" = true) (k14 : PySem.W.keepIn K (.ref f14) = true)
    {f15 : Addr} {od15 an15 : Option Addr} {sl15 : Array (Option Value)} {oc15 kV15 dc15 pm15 cd15 ct15 : Value} (a15 : PySem.W.nsIn K mainGlobals "read_decimal" = some (some (.ref f15))) (l15 : K.lookup f15 = some ⟨oc15, od15, .func (PySem.W.fnOf "read_decimal" "read_decimal" (C8.fnArgs s_read_decimal) (C8.fnBody s_read_decimal) (C8.fnScope s_read_decimal) .none kV15 dc15 pm15 an15 cd15 ct15), sl15⟩) (b15 : PySem.W.codeIn K cd15 "read_decimal" = true) (k15 : PySem.W.keepIn K (.ref f15) = true)
    {f16 : Addr} {od16 an16 : Option Addr} {sl16 : Array (Option Value)} {oc16 kV16 dc16 pm16 cd16 ct16 : Value} (a16 : PySem.W.nsIn K mainGlobals "negated" = some (some (.ref f16))) (l16 : K.lookup f16 = some ⟨oc16, od16, .func (PySem.W.fnOf "negated" "negated" (C8.fnArgs s_negated) (C8.fnBody s_negated) (C8.fnScope s_negated) .none kV16 dc16 pm16 an16 cd16 ct16), sl16⟩) (b16 : PySem.W.codeIn K cd16 "negated" = true) (k16 : PySem.W.keepIn K (.ref f16) = true)
    {f17 : Addr} {od17 an17 : Option Addr} {sl17 : Array (Option Value)} {oc17 kV17 dc17 pm17 cd17 ct17 : Value} (a17 : PySem.W.nsIn K mainGlobals "_negate" = some (some (.ref f17))) (l17 : K.lookup f17 = some ⟨oc17, od17, .func (PySem.W.fnOf "_negate" "_negate" (C8.fnArgs s__negate) (C8.fnBody s__negate) (C8.fnScope s__negate) .none kV17 dc17 pm17 an17 cd17 ct17), sl17⟩) (b17 : PySem.W.codeIn K cd17 "_negate" = true) (k17 : PySem.W.keepIn K (.ref f17) = true)
    {f18 : Addr} {od18 an18 : Option Addr} {sl18 : Array (Option Value)} {oc18 kV18 dc18 pm18 cd18 ct18 : Value} (a18 : PySem.W.nsIn K mainGlobals "_size" = some (some (.ref f18))) (l18 : K.lookup f18 = some ⟨oc18, od18, .func (PySem.W.fnOf "_size" "_size" (C8.fnArgs s__size) (C8.fnBody s__size) (C8.fnScope s__size) .none kV18 dc18 pm18 an18 cd18 ct18), sl18⟩) (b18 : PySem.W.codeIn K cd18 "_size" = true) (k18 : PySem.W.keepIn K (.ref f18) = true)
    {f19 : Addr} {od19 an19 : Option Addr} {sl19 : Array (Option Value)} {oc19 kV19 dc19 pm19 cd19 ct19 : Value} (a19 : PySem.W.nsIn K mainGlobals "_sign" = some (some (.ref f19))) (l19 : K.lookup f19 = some ⟨oc19, od19, .func (PySem.W.fnOf "_sign" "_sign" (C8.fnArgs s__sign) (C8.fnBody s__sign) (C8.fnScope s__sign) .none kV19 dc19 pm19 an19 cd19 ct19), sl19⟩) (b19 : PySem.W.codeIn K cd19 "_sign" = true) (k19 : PySem.W.keepIn K (.ref f19) = true)
    {f20 : Addr} {od20 an20 : Option Addr} {sl20 : Array (Option Value)} {oc20 kV20 dc20 pm20 cd20 ct20 : Value} (a20 : PySem.W.nsIn K mainGlobals "_value" = some (some (.ref f20))) (l20 : K.lookup f20 = some ⟨oc20, od20, .func (PySem.W.fnOf "_value" "_value" (C8.fnArgs s__value) (C8.fnBody s__value) (C8.fnScope s__value) .none kV20 dc20 pm20 an20 cd20 ct20), sl20⟩) (b20 : PySem.W.codeIn K cd20 "_value" = true) (k20 : PySem.W.keepIn K (.ref f20) = true)
    {f21 : Addr} {od21 an21 : Option Addr} {sl21 : Array (Option Value)} {oc21 kV21 dc21 pm21 cd21 ct21 : Value} (a21 : PySem.W.nsIn K mainGlobals "_to_decimal" = some (some (.ref f21))) (l21 : K.lookup f21 = some ⟨oc21, od21, .func (PySem.W.fnOf "_to_decimal" "_to_decimal" (C8.fnArgs s__to_decimal) (C8.fnBody s__to_decimal) (C8.fnScope s__to_decimal) .none kV21 dc21 pm21 an21 cd21 ct21), sl21⟩) (b21 : PySem.W.codeIn K cd21 "_to_decimal" = true) (k21 : PySem.W.keepIn K (.ref f21) = true)
    {f22 : Addr} {od22 an22 : Option Addr} {sl22 : Array (Option Value)} {oc22 kV22 dc22 pm22 cd22 ct22 : Value} (a22 : PySem.W.nsIn K mainGlobals "_to_integer" = some (some (.ref f22))) (l22 : K.lookup f22 = some ⟨oc22, od22, .func (PySem.W.fnOf "_to_integer" "_to_integer" (C8.fnArgs s__to_integer) (C8.fnBody s__to_integer) (C8.fnScope s__to_integer) .none kV22 dc22 pm22 an22 cd22 ct22), sl22⟩) (b22 : PySem.W.codeIn K cd22 "_to_integer" = true) (k22 : PySem.W.keepIn K (.ref f22) = true)
    {f23 : Addr} {od23 an23 : Option Addr} {sl23 : Array (Option Value)} {oc23 kV23 dc23 pm23 cd23 ct23 : Value} (a23 : PySem.W.nsIn K mainGlobals "_integer_text" = some (some (.ref f23))) (l23 : K.lookup f23 = some ⟨oc23, od23, .func (PySem.W.fnOf "_integer_text" "_integer_text" (C8.fnArgs s__integer_text) (C8.fnBody s__integer_text) (C8.fnScope s__integer_text) .none kV23 dc23 pm23 an23 cd23 ct23), sl23⟩) (b23 : PySem.W.codeIn K cd23 "_integer_text" = true) (k23 : PySem.W.keepIn K (.ref f23) = true)
    {f24 : Addr} {od24 an24 : Option Addr} {sl24 : Array (Option Value)} {oc24 kV24 dc24 pm24 cd24 ct24 : Value} (a24 : PySem.W.nsIn K mainGlobals "_decimal_text" = some (some (.ref f24))) (l24 : K.lookup f24 = some ⟨oc24, od24, .func (PySem.W.fnOf "_decimal_text" "_decimal_text" (C8.fnArgs s__decimal_text) (C8.fnBody s__decimal_text) (C8.fnScope s__decimal_text) .none kV24 dc24 pm24 an24 cd24 ct24), sl24⟩) (b24 : PySem.W.codeIn K cd24 "_decimal_text" = true) (k24 : PySem.W.keepIn K (.ref f24) = true)
    {f25 : Addr} {od25 an25 : Option Addr} {sl25 : Array (Option Value)} {oc25 kV25 dc25 pm25 cd25 ct25 : Value} (a25 : PySem.W.nsIn K mainGlobals "_read_integer" = some (some (.ref f25))) (l25 : K.lookup f25 = some ⟨oc25, od25, .func (PySem.W.fnOf "_read_integer" "_read_integer" (C8.fnArgs s__read_integer) (C8.fnBody s__read_integer) (C8.fnScope s__read_integer) .none kV25 dc25 pm25 an25 cd25 ct25), sl25⟩) (b25 : PySem.W.codeIn K cd25 "_read_integer" = true) (k25 : PySem.W.keepIn K (.ref f25) = true)
    {f26 : Addr} {od26 an26 : Option Addr} {sl26 : Array (Option Value)} {oc26 kV26 dc26 pm26 cd26 ct26 : Value} (a26 : PySem.W.nsIn K mainGlobals "_read_decimal" = some (some (.ref f26))) (l26 : K.lookup f26 = some ⟨oc26, od26, .func (PySem.W.fnOf "_read_decimal" "_read_decimal" (C8.fnArgs s__read_decimal) (C8.fnBody s__read_decimal) (C8.fnScope s__read_decimal) .none kV26 dc26 pm26 an26 cd26 ct26), sl26⟩) (b26 : PySem.W.codeIn K cd26 "_read_decimal" = true) (k26 : PySem.W.keepIn K (.ref f26) = true)
    {f27 : Addr} {od27 an27 : Option Addr} {sl27 : Array (Option Value)} {oc27 kV27 dc27 pm27 cd27 ct27 : Value} (a27 : PySem.W.nsIn K mainGlobals "_read_date" = some (some (.ref f27))) (l27 : K.lookup f27 = some ⟨oc27, od27, .func (PySem.W.fnOf "_read_date" "_read_date" (C8.fnArgs s__read_date) (C8.fnBody s__read_date) (C8.fnScope s__read_date) .none kV27 dc27 pm27 an27 cd27 ct27), sl27⟩) (b27 : PySem.W.codeIn K cd27 "_read_date" = true) (k27 : PySem.W.keepIn K (.ref f27) = true)
    {f28 : Addr} {od28 an28 : Option Addr} {sl28 : Array (Option Value)} {oc28 kV28 dc28 pm28 cd28 ct28 : Value} (a28 : PySem.W.nsIn K mainGlobals "_year" = some (some (.ref f28))) (l28 : K.lookup f28 = some ⟨oc28, od28, .func (PySem.W.fnOf "_year" "_year" (C8.fnArgs s__year) (C8.fnBody s__year) (C8.fnScope s__year) .none kV28 dc28 pm28 an28 cd28 ct28), sl28⟩) (b28 : PySem.W.codeIn K cd28 "_year" = true) (k28 : PySem.W.keepIn K (.ref f28) = true)
    {f29 : Addr} {od29 an29 : Option Addr} {sl29 : Array (Option Value)} {oc29 kV29 dc29 pm29 cd29 ct29 : Value} (a29 : PySem.W.nsIn K mainGlobals "_month" = some (some (.ref f29))) (l29 : K.lookup f29 = some ⟨oc29, od29, .func (PySem.W.fnOf "_month" "_month" (C8.fnArgs s__month) (C8.fnBody s__month) (C8.fnScope s__month) .none kV29 dc29 pm29 an29 cd29 ct29), sl29⟩) (b29 : PySem.W.codeIn K cd29 "_month" = true) (k29 : PySem.W.keepIn K (.ref f29) = true)
    {f30 : Addr} {od30 an30 : Option Addr} {sl30 : Array (Option Value)} {oc30 kV30 dc30 pm30 cd30 ct30 : Value} (a30 : PySem.W.nsIn K mainGlobals "_date" = some (some (.ref f30))) (l30 : K.lookup f30 = some ⟨oc30, od30, .func (PySem.W.fnOf "_date" "_date" (C8.fnArgs s__date) (C8.fnBody s__date) (C8.fnScope s__date) .none kV30 dc30 pm30 an30 cd30 ct30), sl30⟩) (b30 : PySem.W.codeIn K cd30 "_date" = true) (k30 : PySem.W.keepIn K (.ref f30) = true)
    {f31 : Addr} {od31 an31 : Option Addr} {sl31 : Array (Option Value)} {oc31 kV31 dc31 pm31 cd31 ct31 : Value} (a31 : PySem.W.nsIn K mainGlobals "_weekday" = some (some (.ref f31))) (l31 : K.lookup f31 = some ⟨oc31, od31, .func (PySem.W.fnOf "_weekday" "_weekday" (C8.fnArgs s__weekday) (C8.fnBody s__weekday) (C8.fnScope s__weekday) .none kV31 dc31 pm31 an31 cd31 ct31), sl31⟩) (b31 : PySem.W.codeIn K cd31 "_weekday" = true) (k31 : PySem.W.keepIn K (.ref f31) = true)
    {f32 : Addr} {od32 an32 : Option Addr} {sl32 : Array (Option Value)} {oc32 kV32 dc32 pm32 cd32 ct32 : Value} (a32 : PySem.W.nsIn K mainGlobals "_month_start" = some (some (.ref f32))) (l32 : K.lookup f32 = some ⟨oc32, od32, .func (PySem.W.fnOf "_month_start" "_month_start" (C8.fnArgs s__month_start) (C8.fnBody s__month_start) (C8.fnScope s__month_start) .none kV32 dc32 pm32 an32 cd32 ct32), sl32⟩) (b32 : PySem.W.codeIn K cd32 "_month_start" = true) (k32 : PySem.W.keepIn K (.ref f32) = true)
    {f33 : Addr} {od33 an33 : Option Addr} {sl33 : Array (Option Value)} {oc33 kV33 dc33 pm33 cd33 ct33 : Value} (a33 : PySem.W.nsIn K mainGlobals "_year_start" = some (some (.ref f33))) (l33 : K.lookup f33 = some ⟨oc33, od33, .func (PySem.W.fnOf "_year_start" "_year_start" (C8.fnArgs s__year_start) (C8.fnBody s__year_start) (C8.fnScope s__year_start) .none kV33 dc33 pm33 an33 cd33 ct33), sl33⟩) (b33 : PySem.W.codeIn K cd33 "_year_start" = true) (k33 : PySem.W.keepIn K (.ref f33) = true)
    {f34 : Addr} {od34 an34 : Option Addr} {sl34 : Array (Option Value)} {oc34 kV34 dc34 pm34 cd34 ct34 : Value} (a34 : PySem.W.nsIn K mainGlobals "_week_start" = some (some (.ref f34))) (l34 : K.lookup f34 = some ⟨oc34, od34, .func (PySem.W.fnOf "_week_start" "_week_start" (C8.fnArgs s__week_start) (C8.fnBody s__week_start) (C8.fnScope s__week_start) .none kV34 dc34 pm34 an34 cd34 ct34), sl34⟩) (b34 : PySem.W.codeIn K cd34 "_week_start" = true) (k34 : PySem.W.keepIn K (.ref f34) = true)
    {f35 : Addr} {od35 an35 : Option Addr} {sl35 : Array (Option Value)} {oc35 kV35 dc35 pm35 cd35 ct35 : Value} (a35 : PySem.W.nsIn K mainGlobals "_date_text" = some (some (.ref f35))) (l35 : K.lookup f35 = some ⟨oc35, od35, .func (PySem.W.fnOf "_date_text" "_date_text" (C8.fnArgs s__date_text) (C8.fnBody s__date_text) (C8.fnScope s__date_text) .none kV35 dc35 pm35 an35 cd35 ct35), sl35⟩) (b35 : PySem.W.codeIn K cd35 "_date_text" = true) (k35 : PySem.W.keepIn K (.ref f35) = true)
    {f36 : Addr} {od36 an36 : Option Addr} {sl36 : Array (Option Value)} {oc36 kV36 dc36 pm36 cd36 ct36 : Value} (a36 : PySem.W.nsIn K mainGlobals "value_of_one" = some (some (.ref f36))) (l36 : K.lookup f36 = some ⟨oc36, od36, .func (PySem.W.fnOf "value_of_one" "value_of_one" (C8.fnArgs s_value_of_one) (C8.fnBody s_value_of_one) (C8.fnScope s_value_of_one) .none kV36 dc36 pm36 an36 cd36 ct36), sl36⟩) (b36 : PySem.W.codeIn K cd36 "value_of_one" = true) (k36 : PySem.W.keepIn K (.ref f36) = true)
    {f37 : Addr} {od37 an37 : Option Addr} {sl37 : Array (Option Value)} {oc37 kV37 dc37 pm37 cd37 ct37 : Value} (a37 : PySem.W.nsIn K mainGlobals "unary" = some (some (.ref f37))) (l37 : K.lookup f37 = some ⟨oc37, od37, .func (PySem.W.fnOf "unary" "unary" (C8.fnArgs s_unary) (C8.fnBody s_unary) (C8.fnScope s_unary) .none kV37 dc37 pm37 an37 cd37 ct37), sl37⟩) (b37 : PySem.W.codeIn K cd37 "unary" = true) (k37 : PySem.W.keepIn K (.ref f37) = true)
    {f38 : Addr} {od38 an38 : Option Addr} {sl38 : Array (Option Value)} {oc38 kV38 dc38 pm38 cd38 ct38 : Value} (a38 : PySem.W.nsIn K mainGlobals "_law_numbers" = some (some (.ref f38))) (l38 : K.lookup f38 = some ⟨oc38, od38, .func (PySem.W.fnOf "_law_numbers" "_law_numbers" (C8.fnArgs s__law_numbers) (C8.fnBody s__law_numbers) (C8.fnScope s__law_numbers) .none kV38 dc38 pm38 an38 cd38 ct38), sl38⟩) (b38 : PySem.W.codeIn K cd38 "_law_numbers" = true) (k38 : PySem.W.keepIn K (.ref f38) = true)
    {f39 : Addr} {od39 an39 : Option Addr} {sl39 : Array (Option Value)} {oc39 kV39 dc39 pm39 cd39 ct39 : Value} (a39 : PySem.W.nsIn K mainGlobals "_law_is_integer" = some (some (.ref f39))) (l39 : K.lookup f39 = some ⟨oc39, od39, .func (PySem.W.fnOf "_law_is_integer" "_law_is_integer" (C8.fnArgs s__law_is_integer) (C8.fnBody s__law_is_integer) (C8.fnScope s__law_is_integer) .none kV39 dc39 pm39 an39 cd39 ct39), sl39⟩) (b39 : PySem.W.codeIn K cd39 "_law_is_integer" = true) (k39 : PySem.W.keepIn K (.ref f39) = true)
    {f40 : Addr} {od40 an40 : Option Addr} {sl40 : Array (Option Value)} {oc40 kV40 dc40 pm40 cd40 ct40 : Value} (a40 : PySem.W.nsIn K mainGlobals "_law_rank" = some (some (.ref f40))) (l40 : K.lookup f40 = some ⟨oc40, od40, .func (PySem.W.fnOf "_law_rank" "_law_rank" (C8.fnArgs s__law_rank) (C8.fnBody s__law_rank) (C8.fnScope s__law_rank) .none kV40 dc40 pm40 an40 cd40 ct40), sl40⟩) (b40 : PySem.W.codeIn K cd40 "_law_rank" = true) (k40 : PySem.W.keepIn K (.ref f40) = true)
    {f41 : Addr} {od41 an41 : Option Addr} {sl41 : Array (Option Value)} {oc41 kV41 dc41 pm41 cd41 ct41 : Value} (a41 : PySem.W.nsIn K mainGlobals "_law_text" = some (some (.ref f41))) (l41 : K.lookup f41 = some ⟨oc41, od41, .func (PySem.W.fnOf "_law_text" "_law_text" (C8.fnArgs s__law_text) (C8.fnBody s__law_text) (C8.fnScope s__law_text) .none kV41 dc41 pm41 an41 cd41 ct41), sl41⟩) (b41 : PySem.W.codeIn K cd41 "_law_text" = true) (k41 : PySem.W.keepIn K (.ref f41) = true)
    {f42 : Addr} {od42 an42 : Option Addr} {sl42 : Array (Option Value)} {oc42 kV42 dc42 pm42 cd42 ct42 : Value} (a42 : PySem.W.nsIn K mainGlobals "_law_value" = some (some (.ref f42))) (l42 : K.lookup f42 = some ⟨oc42, od42, .func (PySem.W.fnOf "_law_value" "_law_value" (C8.fnArgs s__law_value) (C8.fnBody s__law_value) (C8.fnScope s__law_value) .none kV42 dc42 pm42 an42 cd42 ct42), sl42⟩) (b42 : PySem.W.codeIn K cd42 "_law_value" = true) (k42 : PySem.W.keepIn K (.ref f42) = true)
    {f43 : Addr} {od43 an43 : Option Addr} {sl43 : Array (Option Value)} {oc43 kV43 dc43 pm43 cd43 ct43 : Value} (a43 : PySem.W.nsIn K mainGlobals "_law_told" = some (some (.ref f43))) (l43 : K.lookup f43 = some ⟨oc43, od43, .func (PySem.W.fnOf "_law_told" "_law_told" (C8.fnArgs s__law_told) (C8.fnBody s__law_told) (C8.fnScope s__law_told) .none kV43 dc43 pm43 an43 cd43 ct43), sl43⟩) (b43 : PySem.W.codeIn K cd43 "_law_told" = true) (k43 : PySem.W.keepIn K (.ref f43) = true)
    {f44 : Addr} {od44 an44 : Option Addr} {sl44 : Array (Option Value)} {oc44 kV44 dc44 pm44 cd44 ct44 : Value} (a44 : PySem.W.nsIn K mainGlobals "_law_dated" = some (some (.ref f44))) (l44 : K.lookup f44 = some ⟨oc44, od44, .func (PySem.W.fnOf "_law_dated" "_law_dated" (C8.fnArgs s__law_dated) (C8.fnBody s__law_dated) (C8.fnScope s__law_dated) .none kV44 dc44 pm44 an44 cd44 ct44), sl44⟩) (b44 : PySem.W.codeIn K cd44 "_law_dated" = true) (k44 : PySem.W.keepIn K (.ref f44) = true)
    {f45 : Addr} {od45 an45 : Option Addr} {sl45 : Array (Option Value)} {oc45 kV45 dc45 pm45 cd45 ct45 : Value} (a45 : PySem.W.nsIn K mainGlobals "_law_numbered" = some (some (.ref f45))) (l45 : K.lookup f45 = some ⟨oc45, od45, .func (PySem.W.fnOf "_law_numbered" "_law_numbered" (C8.fnArgs s__law_numbered) (C8.fnBody s__law_numbered) (C8.fnScope s__law_numbered) .none kV45 dc45 pm45 an45 cd45 ct45), sl45⟩) (b45 : PySem.W.codeIn K cd45 "_law_numbered" = true) (k45 : PySem.W.keepIn K (.ref f45) = true)
    {f46 : Addr} {od46 an46 : Option Addr} {sl46 : Array (Option Value)} {oc46 kV46 dc46 pm46 cd46 ct46 : Value} (a46 : PySem.W.nsIn K mainGlobals "_law_due" = some (some (.ref f46))) (l46 : K.lookup f46 = some ⟨oc46, od46, .func (PySem.W.fnOf "_law_due" "_law_due" (C8.fnArgs s__law_due) (C8.fnBody s__law_due) (C8.fnScope s__law_due) .none kV46 dc46 pm46 an46 cd46 ct46), sl46⟩) (b46 : PySem.W.codeIn K cd46 "_law_due" = true) (k46 : PySem.W.keepIn K (.ref f46) = true)
    {f47 : Addr} {od47 an47 : Option Addr} {sl47 : Array (Option Value)} {oc47 kV47 dc47 pm47 cd47 ct47 : Value} (a47 : PySem.W.nsIn K mainGlobals "_law_drawn" = some (some (.ref f47))) (l47 : K.lookup f47 = some ⟨oc47, od47, .func (PySem.W.fnOf "_law_drawn" "_law_drawn" (C8.fnArgs s__law_drawn) (C8.fnBody s__law_drawn) (C8.fnScope s__law_drawn) .none kV47 dc47 pm47 an47 cd47 ct47), sl47⟩) (b47 : PySem.W.codeIn K cd47 "_law_drawn" = true) (k47 : PySem.W.keepIn K (.ref f47) = true)
    {f48 : Addr} {od48 an48 : Option Addr} {sl48 : Array (Option Value)} {oc48 kV48 dc48 pm48 cd48 ct48 : Value} (a48 : PySem.W.nsIn K mainGlobals "law" = some (some (.ref f48))) (l48 : K.lookup f48 = some ⟨oc48, od48, .func (PySem.W.fnOf "law" "law" (C8.fnArgs s_law) (C8.fnBody s_law) (C8.fnScope s_law) .none kV48 dc48 pm48 an48 cd48 ct48), sl48⟩) (b48 : PySem.W.codeIn K cd48 "law" = true) (k48 : PySem.W.keepIn K (.ref f48) = true)
    (z_abs : PySem.W.nsIn K mainGlobals "abs" = some none)
    (z_bool : PySem.W.nsIn K mainGlobals "bool" = some none)
    (z_divmod : PySem.W.nsIn K mainGlobals "divmod" = some none)
    (z_int : PySem.W.nsIn K mainGlobals "int" = some none)
    (z_isinstance : PySem.W.nsIn K mainGlobals "isinstance" = some none)
    (z_len : PySem.W.nsIn K mainGlobals "len" = some none)
    (z_list : PySem.W.nsIn K mainGlobals "list" = some none)
    (z_max : PySem.W.nsIn K mainGlobals "max" = some none)
    (z_min : PySem.W.nsIn K mainGlobals "min" = some none)
    (z_range : PySem.W.nsIn K mainGlobals "range" = some none)
    (z_str : PySem.W.nsIn K mainGlobals "str" = some none)
    {t_FIRST_DAY : Tok} (q_FIRST_DAY : PySem.W.nsIn K mainGlobals "FIRST_DAY" = some (some (.int (-719162) t_FIRST_DAY)))
    {t_GREATEST : Tok} (q_GREATEST : PySem.W.nsIn K mainGlobals "GREATEST" = some (some (.int (1000000000000000) t_GREATEST)))
    {t_LAST_DAY : Tok} (q_LAST_DAY : PySem.W.nsIn K mainGlobals "LAST_DAY" = some (some (.int (2932896) t_LAST_DAY)))
    {p_UNARY : Addr} (q_UNARY : PySem.W.nsIn K mainGlobals "UNARY" = some (some (.ref p_UNARY))) (r_UNARY : ∀ H : Hp, SqT K H p_UNARY (unaryS.map V.str))
    {t__DAYS_OF_100_YEARS : Tok} (q__DAYS_OF_100_YEARS : PySem.W.nsIn K mainGlobals "_DAYS_OF_100_YEARS" = some (some (.int (36524) t__DAYS_OF_100_YEARS)))
    {t__DAYS_OF_400_YEARS : Tok} (q__DAYS_OF_400_YEARS : PySem.W.nsIn K mainGlobals "_DAYS_OF_400_YEARS" = some (some (.int (146097) t__DAYS_OF_400_YEARS)))
    {t__DAYS_OF_4_YEARS : Tok} (q__DAYS_OF_4_YEARS : PySem.W.nsIn K mainGlobals "_DAYS_OF_4_YEARS" = some (some (.int (1461) t__DAYS_OF_4_YEARS)))
    {t__DAYS_OF_YEAR : Tok} (q__DAYS_OF_YEAR : PySem.W.nsIn K mainGlobals "_DAYS_OF_YEAR" = some (some (.int (365) t__DAYS_OF_YEAR)))
    {t__LAST_YEAR : Tok} (q__LAST_YEAR : PySem.W.nsIn K mainGlobals "_LAST_YEAR" = some (some (.int (9999) t__LAST_YEAR)))
    {p__MONTHS : Addr} (q__MONTHS : PySem.W.nsIn K mainGlobals "_MONTHS" = some (some (.ref p__MONTHS))) (r__MONTHS : ∀ H : Hp, SqT K H p__MONTHS (monthsL.map V.int))
    {t__MOST_DIGITS : Tok} (q__MOST_DIGITS : PySem.W.nsIn K mainGlobals "_MOST_DIGITS" = some (some (.int (16) t__MOST_DIGITS)))
    {p__OF_DATES : Addr} {es__OF_DATES : Array DictEntry} {n__OF_DATES : Nat} (q__OF_DATES : PySem.W.nsIn K mainGlobals "_OF_DATES" = some (some (.ref p__OF_DATES))) (ka__OF_DATES : K.lookup p__OF_DATES = some ⟨.type "dict", none, .dict es__OF_DATES n__OF_DATES, #[]⟩) (kl__OF_DATES : PySem.W.KeysLit w.params es__OF_DATES.toList) (ko__OF_DATES : (p__OF_DATES == sysModules) = false)
    (e__OF_DATES_0 : PySem.W.nsIn K p__OF_DATES "year" = some (some (.ref f28)))
    (e__OF_DATES_1 : PySem.W.nsIn K p__OF_DATES "month" = some (some (.ref f29)))
    (e__OF_DATES_2 : PySem.W.nsIn K p__OF_DATES "day" = some (some (.ref f30)))
    (e__OF_DATES_3 : PySem.W.nsIn K p__OF_DATES "weekday" = some (some (.ref f31)))
    (e__OF_DATES_4 : PySem.W.nsIn K p__OF_DATES "month start" = some (some (.ref f32)))
    (e__OF_DATES_5 : PySem.W.nsIn K p__OF_DATES "year start" = some (some (.ref f33)))
    (e__OF_DATES_6 : PySem.W.nsIn K p__OF_DATES "week start" = some (some (.ref f34)))
    (e__OF_DATES_7 : PySem.W.nsIn K p__OF_DATES "as date" = some (some (.ref f20)))
    (e__OF_DATES_8 : PySem.W.nsIn K p__OF_DATES "date to text" = some (some (.ref f35)))
    {p__OF_INTEGERS : Addr} {es__OF_INTEGERS : Array DictEntry} {n__OF_INTEGERS : Nat} (q__OF_INTEGERS : PySem.W.nsIn K mainGlobals "_OF_INTEGERS" = some (some (.ref p__OF_INTEGERS))) (ka__OF_INTEGERS : K.lookup p__OF_INTEGERS = some ⟨.type "dict", none, .dict es__OF_INTEGERS n__OF_INTEGERS, #[]⟩) (kl__OF_INTEGERS : PySem.W.KeysLit w.params es__OF_INTEGERS.toList) (ko__OF_INTEGERS : (p__OF_INTEGERS == sysModules) = false)
    (e__OF_INTEGERS_0 : PySem.W.nsIn K p__OF_INTEGERS "negate" = some (some (.ref f17)))
    (e__OF_INTEGERS_1 : PySem.W.nsIn K p__OF_INTEGERS "abs" = some (some (.ref f18)))
    (e__OF_INTEGERS_2 : PySem.W.nsIn K p__OF_INTEGERS "sign" = some (some (.ref f19)))
    (e__OF_INTEGERS_3 : PySem.W.nsIn K p__OF_INTEGERS "as decimal" = some (some (.ref f20)))
    (e__OF_INTEGERS_4 : PySem.W.nsIn K p__OF_INTEGERS "to decimal" = some (some (.ref f21)))
    (e__OF_INTEGERS_5 : PySem.W.nsIn K p__OF_INTEGERS "to int" = some (some (.ref f22)))
    (e__OF_INTEGERS_6 : PySem.W.nsIn K p__OF_INTEGERS "int to text" = some (some (.ref f23)))
    (e__OF_INTEGERS_7 : PySem.W.nsIn K p__OF_INTEGERS "decimal to text" = some (some (.ref f24)))
    (e__OF_INTEGERS_8 : PySem.W.nsIn K p__OF_INTEGERS "text to int" = some none)
    (e__OF_INTEGERS_9 : PySem.W.nsIn K p__OF_INTEGERS "text to decimal" = some none)
    (e__OF_INTEGERS_10 : PySem.W.nsIn K p__OF_INTEGERS "text to date" = some none)
    (e__OF_INTEGERS_11 : PySem.W.nsIn K p__OF_INTEGERS "year" = some none)
    (e__OF_INTEGERS_12 : PySem.W.nsIn K p__OF_INTEGERS "month" = some none)
    (e__OF_INTEGERS_13 : PySem.W.nsIn K p__OF_INTEGERS "day" = some none)
    (e__OF_INTEGERS_14 : PySem.W.nsIn K p__OF_INTEGERS "weekday" = some none)
    (e__OF_INTEGERS_15 : PySem.W.nsIn K p__OF_INTEGERS "month start" = some none)
    (e__OF_INTEGERS_16 : PySem.W.nsIn K p__OF_INTEGERS "year start" = some none)
    (e__OF_INTEGERS_17 : PySem.W.nsIn K p__OF_INTEGERS "week start" = some none)
    (e__OF_INTEGERS_18 : PySem.W.nsIn K p__OF_INTEGERS "as date" = some none)
    (e__OF_INTEGERS_19 : PySem.W.nsIn K p__OF_INTEGERS "date to text" = some none)
    (e__OF_INTEGERS_20 : PySem.W.nsIn K p__OF_INTEGERS "lower" = some none)
    (e__OF_INTEGERS_21 : PySem.W.nsIn K p__OF_INTEGERS "upper" = some none)
    (e__OF_INTEGERS_22 : PySem.W.nsIn K p__OF_INTEGERS "length" = some none)
    (e__OF_INTEGERS_23 : PySem.W.nsIn K p__OF_INTEGERS "trim" = some none)
    {p__OF_TEXTS : Addr} {es__OF_TEXTS : Array DictEntry} {n__OF_TEXTS : Nat} (q__OF_TEXTS : PySem.W.nsIn K mainGlobals "_OF_TEXTS" = some (some (.ref p__OF_TEXTS))) (ka__OF_TEXTS : K.lookup p__OF_TEXTS = some ⟨.type "dict", none, .dict es__OF_TEXTS n__OF_TEXTS, #[]⟩) (kl__OF_TEXTS : PySem.W.KeysLit w.params es__OF_TEXTS.toList) (ko__OF_TEXTS : (p__OF_TEXTS == sysModules) = false)
    (e__OF_TEXTS_0 : PySem.W.nsIn K p__OF_TEXTS "text to int" = some (some (.ref f25)))
    (e__OF_TEXTS_1 : PySem.W.nsIn K p__OF_TEXTS "text to decimal" = some (some (.ref f26)))
    (e__OF_TEXTS_2 : PySem.W.nsIn K p__OF_TEXTS "text to date" = some (some (.ref f27)))
    {u__OF_TEXTS_3 : Addr} (e__OF_TEXTS_3 : PySem.W.nsIn K p__OF_TEXTS "lower" = some (some (.ref u__OF_TEXTS_3)))
    {u__OF_TEXTS_4 : Addr} (e__OF_TEXTS_4 : PySem.W.nsIn K p__OF_TEXTS "upper" = some (some (.ref u__OF_TEXTS_4)))
    {u__OF_TEXTS_5 : Addr} (e__OF_TEXTS_5 : PySem.W.nsIn K p__OF_TEXTS "length" = some (some (.ref u__OF_TEXTS_5)))
    {u__OF_TEXTS_6 : Addr} (e__OF_TEXTS_6 : PySem.W.nsIn K p__OF_TEXTS "trim" = some (some (.ref u__OF_TEXTS_6)))
    (e__OF_TEXTS_7 : PySem.W.nsIn K p__OF_TEXTS "year" = some none)
    (e__OF_TEXTS_8 : PySem.W.nsIn K p__OF_TEXTS "month" = some none)
    (e__OF_TEXTS_9 : PySem.W.nsIn K p__OF_TEXTS "day" = some none)
    (e__OF_TEXTS_10 : PySem.W.nsIn K p__OF_TEXTS "weekday" = some none)
    (e__OF_TEXTS_11 : PySem.W.nsIn K p__OF_TEXTS "month start" = some none)
    (e__OF_TEXTS_12 : PySem.W.nsIn K p__OF_TEXTS "year start" = some none)
    (e__OF_TEXTS_13 : PySem.W.nsIn K p__OF_TEXTS "week start" = some none)
    (e__OF_TEXTS_14 : PySem.W.nsIn K p__OF_TEXTS "as date" = some none)
    (e__OF_TEXTS_15 : PySem.W.nsIn K p__OF_TEXTS "date to text" = some none)
    {t__SCALE : Tok} (q__SCALE : PySem.W.nsIn K mainGlobals "_SCALE" = some (some (.int (10000) t__SCALE)))
    : ∃ fd : FuncData, (∀ (s : Shared) (v : Value), BindsTo s fd ⟨[v], []⟩ [("script", v)]) ∧ ∀ base : Heap, K.In base → base.Ns mainGlobals mg → FnOk P w K mg base C8.CX0 11 fa fd ["script"] (sp_law K) := by
  have D_is_integer : Dn K mg "is_integer" s_is_integer ["value"] := dn_mk l0 b0 k0 (PySem.W.mg_of X G a0) (fun _ _ _ _ _ _ us hl => match us, hl with | [_], _ => rfl)
  have D_is_digits : Dn K mg "is_digits" s_is_digits ["text"] := dn_mk l1 b1 k1 (PySem.W.mg_of X G a1) (fun _ _ _ _ _ _ us hl => match us, hl with | [_], _ => rfl)
  have D_is_day : Dn K mg "is_day" s_is_day ["value"] := dn_mk l2 b2 k2 (PySem.W.mg_of X G a2) (fun _ _ _ _ _ _ us hl => match us, hl with | [_], _ => rfl)
  have D__is_leap : Dn K mg "_is_leap" s__is_leap ["year"] := dn_mk l3 b3 k3 (PySem.W.mg_of X G a3) (fun _ _ _ _ _ _ us hl => match us, hl with | [_], _ => rfl)
  have D_month_length : Dn K mg "month_length" s_month_length ["year", "month"] := dn_mk l4 b4 k4 (PySem.W.mg_of X G a4) (fun _ _ _ _ _ _ us hl => match us, hl with | [_, _], _ => rfl)
  have D_day_of : Dn K mg "day_of" s_day_of ["year", "month", "date"] := dn_mk l5 b5 k5 (PySem.W.mg_of X G a5) (fun _ _ _ _ _ _ us hl => match us, hl with | [_, _, _], _ => rfl)
  have D_date_of : Dn K mg "date_of" s_date_of ["day"] := dn_mk l6 b6 k6 (PySem.W.mg_of X G a6) (fun _ _ _ _ _ _ us hl => match us, hl with | [_], _ => rfl)
  have D_date_text : Dn K mg "date_text" s_date_text ["day"] := dn_mk l7 b7 k7 (PySem.W.mg_of X G a7) (fun _ _ _ _ _ _ us hl => match us, hl with | [_], _ => rfl)
  have D_read_date : Dn K mg "read_date" s_read_date ["text"] := dn_mk l8 b8 k8 (PySem.W.mg_of X G a8) (fun _ _ _ _ _ _ us hl => match us, hl with | [_], _ => rfl)
  have D_limited : Dn K mg "limited" s_limited ["number"] := dn_mk l9 b9 k9 (PySem.W.mg_of X G a9) (fun _ _ _ _ _ _ us hl => match us, hl with | [_], _ => rfl)
  have D_rounded : Dn K mg "rounded" s_rounded ["number", "divisor"] := dn_mk l10 b10 k10 (PySem.W.mg_of X G a10) (fun _ _ _ _ _ _ us hl => match us, hl with | [_, _], _ => rfl)
  have D_decimal_text : Dn K mg "decimal_text" s_decimal_text ["number"] := dn_mk l11 b11 k11 (PySem.W.mg_of X G a11) (fun _ _ _ _ _ _ us hl => match us, hl with | [_], _ => rfl)
  have D_read_digits : Dn K mg "read_digits" s_read_digits ["digits"] := dn_mk l12 b12 k12 (PySem.W.mg_of X G a12) (fun _ _ _ _ _ _ us hl => match us, hl with | [_], _ => rfl)
  have D__signed : Dn K mg "_signed" s__signed ["sign", "digits"] := dn_mk l13 b13 k13 (PySem.W.mg_of X G a13) (fun _ _ _ _ _ _ us hl => match us, hl with | [_, _], _ => rfl)
  have D_read_integer : Dn K mg "read_integer" s_read_integer ["text"] := dn_mk l14 b14 k14 (PySem.W.mg_of X G a14) (fun _ _ _ _ _ _ us hl => match us, hl with | [_], _ => rfl)
  have D_read_decimal : Dn K mg "read_decimal" s_read_decimal ["text"] := dn_mk l15 b15 k15 (PySem.W.mg_of X G a15) (fun _ _ _ _ _ _ us hl => match us, hl with | [_], _ => rfl)
  have D_negated : Dn K mg "negated" s_negated ["value"] := dn_mk l16 b16 k16 (PySem.W.mg_of X G a16) (fun _ _ _ _ _ _ us hl => match us, hl with | [_], _ => rfl)
  have D__negate : Dn K mg "_negate" s__negate ["number"] := dn_mk l17 b17 k17 (PySem.W.mg_of X G a17) (fun _ _ _ _ _ _ us hl => match us, hl with | [_], _ => rfl)
  have D__size : Dn K mg "_size" s__size ["number"] := dn_mk l18 b18 k18 (PySem.W.mg_of X G a18) (fun _ _ _ _ _ _ us hl => match us, hl with | [_], _ => rfl)
  have D__sign : Dn K mg "_sign" s__sign ["number"] := dn_mk l19 b19 k19 (PySem.W.mg_of X G a19) (fun _ _ _ _ _ _ us hl => match us, hl with | [_], _ => rfl)
  have D__value : Dn K mg "_value" s__value ["value"] := dn_mk l20 b20 k20 (PySem.W.mg_of X G a20) (fun _ _ _ _ _ _ us hl => match us, hl with | [_], _ => rfl)
  have D__to_decimal : Dn K mg "_to_decimal" s__to_decimal ["number"] := dn_mk l21 b21 k21 (PySem.W.mg_of X G a21) (fun _ _ _ _ _ _ us hl => match us, hl with | [_], _ => rfl)
  have D__to_integer : Dn K mg "_to_integer" s__to_integer ["number"] := dn_mk l22 b22 k22 (PySem.W.mg_of X G a22) (fun _ _ _ _ _ _ us hl => match us, hl with | [_], _ => rfl)
  have D__integer_text : Dn K mg "_integer_text" s__integer_text ["number"] := dn_mk l23 b23 k23 (PySem.W.mg_of X G a23) (fun _ _ _ _ _ _ us hl => match us, hl with | [_], _ => rfl)
  have D__decimal_text : Dn K mg "_decimal_text" s__decimal_text ["number"] := dn_mk l24 b24 k24 (PySem.W.mg_of X G a24) (fun _ _ _ _ _ _ us hl => match us, hl with | [_], _ => rfl)
  have D__read_integer : Dn K mg "_read_integer" s__read_integer ["text"] := dn_mk l25 b25 k25 (PySem.W.mg_of X G a25) (fun _ _ _ _ _ _ us hl => match us, hl with | [_], _ => rfl)
  have D__read_decimal : Dn K mg "_read_decimal" s__read_decimal ["text"] := dn_mk l26 b26 k26 (PySem.W.mg_of X G a26) (fun _ _ _ _ _ _ us hl => match us, hl with | [_], _ => rfl)
  have D__read_date : Dn K mg "_read_date" s__read_date ["text"] := dn_mk l27 b27 k27 (PySem.W.mg_of X G a27) (fun _ _ _ _ _ _ us hl => match us, hl with | [_], _ => rfl)
  have D__year : Dn K mg "_year" s__year ["day"] := dn_mk l28 b28 k28 (PySem.W.mg_of X G a28) (fun _ _ _ _ _ _ us hl => match us, hl with | [_], _ => rfl)
  have D__month : Dn K mg "_month" s__month ["day"] := dn_mk l29 b29 k29 (PySem.W.mg_of X G a29) (fun _ _ _ _ _ _ us hl => match us, hl with | [_], _ => rfl)
  have D__date : Dn K mg "_date" s__date ["day"] := dn_mk l30 b30 k30 (PySem.W.mg_of X G a30) (fun _ _ _ _ _ _ us hl => match us, hl with | [_], _ => rfl)
  have D__weekday : Dn K mg "_weekday" s__weekday ["day"] := dn_mk l31 b31 k31 (PySem.W.mg_of X G a31) (fun _ _ _ _ _ _ us hl => match us, hl with | [_], _ => rfl)
  have D__month_start : Dn K mg "_month_start" s__month_start ["day"] := dn_mk l32 b32 k32 (PySem.W.mg_of X G a32) (fun _ _ _ _ _ _ us hl => match us, hl with | [_], _ => rfl)
  have D__year_start : Dn K mg "_year_start" s__year_start ["day"] := dn_mk l33 b33 k33 (PySem.W.mg_of X G a33) (fun _ _ _ _ _ _ us hl => match us, hl with | [_], _ => rfl)
  have D__week_start : Dn K mg "_week_start" s__week_start ["day"] := dn_mk l34 b34 k34 (PySem.W.mg_of X G a34) (fun _ _ _ _ _ _ us hl => match us, hl with | [_], _ => rfl)
  have D__date_text : Dn K mg "_date_text" s__date_text ["day"] := dn_mk l35 b35 k35 (PySem.W.mg_of X G a35) (fun _ _ _ _ _ _ us hl => match us, hl with | [_], _ => rfl)
  have D_value_of_one : Dn K mg "value_of_one" s_value_of_one ["name", "value"] := dn_mk l36 b36 k36 (PySem.W.mg_of X G a36) (fun _ _ _ _ _ _ us hl => match us, hl with | [_, _], _ => rfl)
  have D_unary : Dn K mg "unary" s_unary ["name", "value"] := dn_mk l37 b37 k37 (PySem.W.mg_of X G a37) (fun _ _ _ _ _ _ us hl => match us, hl with | [_, _], _ => rfl)
  have D__law_numbers : Dn K mg "_law_numbers" s__law_numbers ["script", "count"] := dn_mk l38 b38 k38 (PySem.W.mg_of X G a38) (fun _ _ _ _ _ _ us hl => match us, hl with | [_, _], _ => rfl)
  have D__law_is_integer : Dn K mg "_law_is_integer" s__law_is_integer ["value"] := dn_mk l39 b39 k39 (PySem.W.mg_of X G a39) (fun _ _ _ _ _ _ us hl => match us, hl with | [_], _ => rfl)
  have D__law_rank : Dn K mg "_law_rank" s__law_rank ["value"] := dn_mk l40 b40 k40 (PySem.W.mg_of X G a40) (fun _ _ _ _ _ _ us hl => match us, hl with | [_], _ => rfl)
  have D__law_text : Dn K mg "_law_text" s__law_text ["number", "size"] := dn_mk l41 b41 k41 (PySem.W.mg_of X G a41) (fun _ _ _ _ _ _ us hl => match us, hl with | [_, _], _ => rfl)
  have D__law_value : Dn K mg "_law_value" s__law_value ["number"] := dn_mk l42 b42 k42 (PySem.W.mg_of X G a42) (fun _ _ _ _ _ _ us hl => match us, hl with | [_], _ => rfl)
  have D__law_told : Dn K mg "_law_told" s__law_told ["told", "due"] := dn_mk l43 b43 k43 (PySem.W.mg_of X G a43) (fun _ _ _ _ _ _ us hl => match us, hl with | [_, _], _ => rfl)
  have D__law_dated : Dn K mg "_law_dated" s__law_dated ["name", "day"] := dn_mk l44 b44 k44 (PySem.W.mg_of X G a44) (fun _ _ _ _ _ _ us hl => match us, hl with | [_, _], _ => rfl)
  have D__law_numbered : Dn K mg "_law_numbered" s__law_numbered ["name", "number"] := dn_mk l45 b45 k45 (PySem.W.mg_of X G a45) (fun _ _ _ _ _ _ us hl => match us, hl with | [_, _], _ => rfl)
  have D__law_due : Dn K mg "_law_due" s__law_due ["name", "value"] := dn_mk l46 b46 k46 (PySem.W.mg_of X G a46) (fun _ _ _ _ _ _ us hl => match us, hl with | [_, _], _ => rfl)
  have D__law_drawn : Dn K mg "_law_drawn" s__law_drawn ["numbers"] := dn_mk l47 b47 k47 (PySem.W.mg_of X G a47) (fun _ _ _ _ _ _ us hl => match us, hl with | [_], _ => rfl)
  have y_abs : mg "abs" = none := PySem.W.mg_none_of X G z_abs
  have y_bool : mg "bool" = none := PySem.W.mg_none_of X G z_bool
  have y_divmod : mg "divmod" = none := PySem.W.mg_none_of X G z_divmod
  have y_int : mg "int" = none := PySem.W.mg_none_of X G z_int
  have y_isinstance : mg "isinstance" = none := PySem.W.mg_none_of X G z_isinstance
  have y_len : mg "len" = none := PySem.W.mg_none_of X G z_len
  have y_list : mg "list" = none := PySem.W.mg_none_of X G z_list
  have y_max : mg "max" = none := PySem.W.mg_none_of X G z_max
  have y_min : mg "min" = none := PySem.W.mg_none_of X G z_min
  have y_range : mg "range" = none := PySem.W.mg_none_of X G z_range
  have y_str : mg "str" = none := PySem.W.mg_none_of X G z_str
  have v_FIRST_DAY : ∃ u, mg "FIRST_DAY" = some u ∧ RelV (.int (-719162)) u := ⟨_, PySem.W.mg_of X G q_FIRST_DAY, ⟨_, rfl⟩⟩
  have v_GREATEST : ∃ u, mg "GREATEST" = some u ∧ RelV (.int (1000000000000000)) u := ⟨_, PySem.W.mg_of X G q_GREATEST, ⟨_, rfl⟩⟩
  have v_LAST_DAY : ∃ u, mg "LAST_DAY" = some u ∧ RelV (.int (2932896)) u := ⟨_, PySem.W.mg_of X G q_LAST_DAY, ⟨_, rfl⟩⟩
  have v_UNARY : ∃ u, mg "UNARY" = some u ∧ RelV (.ref p_UNARY) u := ⟨_, PySem.W.mg_of X G q_UNARY, rfl⟩
  have w_UNARY := r_UNARY
  have v__DAYS_OF_100_YEARS : ∃ u, mg "_DAYS_OF_100_YEARS" = some u ∧ RelV (.int (36524)) u := ⟨_, PySem.W.mg_of X G q__DAYS_OF_100_YEARS, ⟨_, rfl⟩⟩
  have v__DAYS_OF_400_YEARS : ∃ u, mg "_DAYS_OF_400_YEARS" = some u ∧ RelV (.int (146097)) u := ⟨_, PySem.W.mg_of X G q__DAYS_OF_400_YEARS, ⟨_, rfl⟩⟩
  have v__DAYS_OF_4_YEARS : ∃ u, mg "_DAYS_OF_4_YEARS" = some u ∧ RelV (.int (1461)) u := ⟨_, PySem.W.mg_of X G q__DAYS_OF_4_YEARS, ⟨_, rfl⟩⟩
  have v__DAYS_OF_YEAR : ∃ u, mg "_DAYS_OF_YEAR" = some u ∧ RelV (.int (365)) u := ⟨_, PySem.W.mg_of X G q__DAYS_OF_YEAR, ⟨_, rfl⟩⟩
  have v__LAST_YEAR : ∃ u, mg "_LAST_YEAR" = some u ∧ RelV (.int (9999)) u := ⟨_, PySem.W.mg_of X G q__LAST_YEAR, ⟨_, rfl⟩⟩
  have v__MONTHS : ∃ u, mg "_MONTHS" = some u ∧ RelV (.ref p__MONTHS) u := ⟨_, PySem.W.mg_of X G q__MONTHS, rfl⟩
  have w__MONTHS := r__MONTHS
  have v__MOST_DIGITS : ∃ u, mg "_MOST_DIGITS" = some u ∧ RelV (.int (16)) u := ⟨_, PySem.W.mg_of X G q__MOST_DIGITS, ⟨_, rfl⟩⟩
  have v__OF_DATES : ∃ u, mg "_OF_DATES" = some u ∧ RelV (.ref p__OF_DATES) u := ⟨_, PySem.W.mg_of X G q__OF_DATES, rfl⟩
  have w__OF_DATES : KDict K w p__OF_DATES es__OF_DATES n__OF_DATES := ⟨ka__OF_DATES, kl__OF_DATES, ko__OF_DATES⟩
  have v__OF_INTEGERS : ∃ u, mg "_OF_INTEGERS" = some u ∧ RelV (.ref p__OF_INTEGERS) u := ⟨_, PySem.W.mg_of X G q__OF_INTEGERS, rfl⟩
  have w__OF_INTEGERS : KDict K w p__OF_INTEGERS es__OF_INTEGERS n__OF_INTEGERS := ⟨ka__OF_INTEGERS, kl__OF_INTEGERS, ko__OF_INTEGERS⟩
  have v__OF_TEXTS : ∃ u, mg "_OF_TEXTS" = some u ∧ RelV (.ref p__OF_TEXTS) u := ⟨_, PySem.W.mg_of X G q__OF_TEXTS, rfl⟩
  have w__OF_TEXTS : KDict K w p__OF_TEXTS es__OF_TEXTS n__OF_TEXTS := ⟨ka__OF_TEXTS, kl__OF_TEXTS, ko__OF_TEXTS⟩
  have v__SCALE : ∃ u, mg "_SCALE" = some u ∧ RelV (.int (10000)) u := ⟨_, PySem.W.mg_of X G q__SCALE, ⟨_, rfl⟩⟩
  have e := hfa.symm.trans (PySem.W.mg_of X G a48)
  cases e
  have D_law := def_mk (x := "law") (st := s_law) l48 b48 k48 hfa
  refine ⟨PySem.W.fnOf "law" "law" (C8.fnArgs s_law) (C8.fnBody s_law) (C8.fnScope s_law) .none kV48 dc48 pm48 an48 cd48 ct48, fun s v => .of_eq rfl, fun base _ _ => ?_⟩
  have c_is_integer := ok_is_integer (P := P) (w := w) (base := base) D_is_integer y_bool y_int y_isinstance 
  have c_is_digits := ok_is_digits (P := P) (w := w) (base := base) D_is_digits 
  have c_is_day := ok_is_day (P := P) (w := w) (base := base) D_is_day c_is_integer v_FIRST_DAY v_LAST_DAY 
  have c__is_leap := ok__is_leap (P := P) (w := w) (base := base) D__is_leap 
  have c_month_length := ok_month_length (P := P) (w := w) (base := base) D_month_length c__is_leap v__MONTHS w__MONTHS 
  have c_day_of := ok_day_of (P := P) (w := w) (base := base) D_day_of c_month_length y_range v_FIRST_DAY v__DAYS_OF_YEAR v__LAST_YEAR 
  have c_date_of := ok_date_of (P := P) (w := w) (base := base) D_date_of c_month_length y_divmod y_min v_FIRST_DAY v__DAYS_OF_100_YEARS v__DAYS_OF_400_YEARS v__DAYS_OF_4_YEARS v__DAYS_OF_YEAR 
  have c_date_text := ok_date_text (P := P) (w := w) (base := base) D_date_text c_date_of 
  have c_read_date := ok_read_date (P := P) (w := w) (base := base) D_read_date c_day_of c_is_digits y_int y_len 
  have c_limited := ok_limited (P := P) (w := w) (base := base) D_limited v_GREATEST 
  have c_rounded := ok_rounded (P := P) (w := w) (base := base) D_rounded y_abs 
  have c_decimal_text := ok_decimal_text (P := P) (w := w) (base := base) D_decimal_text y_abs y_divmod y_str v__SCALE 
  have c_read_digits := ok_read_digits (P := P) (w := w) (base := base) D_read_digits c_limited y_int y_len v__MOST_DIGITS 
  have c__signed := ok__signed (P := P) (w := w) (base := base) D__signed c_read_digits 
  have c_read_integer := ok_read_integer (P := P) (w := w) (base := base) D_read_integer c__signed c_is_digits 
  have c_read_decimal := ok_read_decimal (P := P) (w := w) (base := base) D_read_decimal c__signed c_is_digits y_len 
  have c_negated := ok_negated (P := P) (w := w) (base := base) D_negated 
  have c__negate := ok__negate (P := P) (w := w) (base := base) D__negate 
  have c__size := ok__size (P := P) (w := w) (base := base) D__size y_abs 
  have c__sign := ok__sign (P := P) (w := w) (base := base) D__sign 
  have c__value := ok__value (P := P) (w := w) (base := base) D__value 
  have c__to_decimal := ok__to_decimal (P := P) (w := w) (base := base) D__to_decimal c_limited 
  have c__to_integer := ok__to_integer (P := P) (w := w) (base := base) D__to_integer c_rounded 
  have c__integer_text := ok__integer_text (P := P) (w := w) (base := base) D__integer_text y_str 
  have c__decimal_text := ok__decimal_text (P := P) (w := w) (base := base) D__decimal_text c_decimal_text 
  have c__read_integer := ok__read_integer (P := P) (w := w) (base := base) D__read_integer c_read_integer 
  have c__read_decimal := ok__read_decimal (P := P) (w := w) (base := base) D__read_decimal c_read_decimal 
  have c__read_date := ok__read_date (P := P) (w := w) (base := base) D__read_date c_read_date 
  have c__year := ok__year (P := P) (w := w) (base := base) D__year c_date_of 
  have c__month := ok__month (P := P) (w := w) (base := base) D__month c_date_of 
  have c__date := ok__date (P := P) (w := w) (base := base) D__date c_date_of 
  have c__weekday := ok__weekday (P := P) (w := w) (base := base) D__weekday v_FIRST_DAY 
  have c__month_start := ok__month_start (P := P) (w := w) (base := base) D__month_start c_date_of c_day_of 
  have c__year_start := ok__year_start (P := P) (w := w) (base := base) D__year_start c_date_of c_day_of 
  have c__week_start := ok__week_start (P := P) (w := w) (base := base) D__week_start c__weekday 
  have c__date_text := ok__date_text (P := P) (w := w) (base := base) D__date_text c_date_text 
  have tab : ∀ nm x z, U9 x → Ask nm x z → On nm x z ∧ (nm = "not" ∨ nm = "is null") ∨ (decide (V.str nm = V.str "not") = false ∧ decide (V.str nm = V.str "is null") = false) ∧ Op1 P w K mg base p__OF_INTEGERS p__OF_TEXTS p__OF_DATES nm x z := by
    intro nm x z hx h
    have pi : isInt x = true → inS x := fun h => by cases hx <;> first | (exact ⟨_, rfl, by assumption⟩) | (exact nomatch h)
    have pt : isStr x = true → txS x := fun h => by cases hx <;> first | (exact ⟨_, rfl, by assumption⟩) | (exact nomatch h)
    have pd : isDay x = true → dyS x := fun h => by cases hx <;> first | (simp [isDay] at h; done) | (unfold isDay at h; rw [Bool.and_eq_true, decide_eq_true_eq, decide_eq_true_eq] at h; exact ⟨_, rfl, h⟩)
    cases h with
    | four h hs =>
      refine .inr ⟨four_not h, ?_⟩
      unfold fourS at h
      simp only [List.mem_cons, List.not_mem_nil, or_false] at h
      rcases h with h | h | h | h <;> subst h
      · exact .onN e__OF_INTEGERS_20 e__OF_TEXTS_3 hs
      · exact .onN e__OF_INTEGERS_21 e__OF_TEXTS_4 hs
      · exact .onN e__OF_INTEGERS_22 e__OF_TEXTS_5 hs
      · exact .onN e__OF_INTEGERS_23 e__OF_TEXTS_6 hs
    | on h =>
    cases h with
    | not x => exact .inl ⟨.not x, .inl rfl⟩
    | null x => exact .inl ⟨.null x, .inr rfl⟩
    | num x h =>
      refine .inr ⟨nm_not h, ?_⟩
      cases h with
      | neg => exact .onI e__OF_INTEGERS_0 (held_of c__negate (PySem.W.mg_of X G a17) (by decide)) pi
      | abs => exact .onI e__OF_INTEGERS_1 (held_of c__size (PySem.W.mg_of X G a18) (by decide)) pi
      | sign => exact .onI e__OF_INTEGERS_2 (held_of c__sign (PySem.W.mg_of X G a19) (by decide)) pi
      | toDec => exact .onI e__OF_INTEGERS_4 (held_of c__to_decimal (PySem.W.mg_of X G a21) (by decide)) pi
      | toInt => exact .onI e__OF_INTEGERS_5 (held_of c__to_integer (PySem.W.mg_of X G a22) (by decide)) pi
      | iText => exact .onI e__OF_INTEGERS_6 (held_of c__integer_text (PySem.W.mg_of X G a23) (by decide)) pi
      | dText => exact .onI e__OF_INTEGERS_7 (held_of c__decimal_text (PySem.W.mg_of X G a24) (by decide)) pi
      | asDec =>
        have e : (if isInt x = true then V.int (iOf x) else V.non) = if isInt x = true then x else V.non := by cases x <;> rfl
        rw [e]
        exact .onI e__OF_INTEGERS_3 (held_of c__value (PySem.W.mg_of X G a20) (by decide)) fun _ => trivial
    | txt x h =>
      refine .inr ⟨tx_not h, ?_⟩
      cases h with
      | toI => exact .onT e__OF_INTEGERS_8 e__OF_TEXTS_0 (held_of c__read_integer (PySem.W.mg_of X G a25) (by decide)) pt
      | toD => exact .onT e__OF_INTEGERS_9 e__OF_TEXTS_1 (held_of c__read_decimal (PySem.W.mg_of X G a26) (by decide)) pt
      | toT => exact .onT e__OF_INTEGERS_10 e__OF_TEXTS_2 (held_of c__read_date (PySem.W.mg_of X G a27) (by decide)) pt
    | dat x h =>
      refine .inr ⟨dt_not h, ?_⟩
      cases h with
      | year => exact .onD e__OF_INTEGERS_11 e__OF_TEXTS_7 e__OF_DATES_0 (held_of c__year (PySem.W.mg_of X G a28) (by decide)) pd
      | month => exact .onD e__OF_INTEGERS_12 e__OF_TEXTS_8 e__OF_DATES_1 (held_of c__month (PySem.W.mg_of X G a29) (by decide)) pd
      | day => exact .onD e__OF_INTEGERS_13 e__OF_TEXTS_9 e__OF_DATES_2 (held_of c__date (PySem.W.mg_of X G a30) (by decide)) pd
      | week => exact .onD e__OF_INTEGERS_14 e__OF_TEXTS_10 e__OF_DATES_3 (held_of c__weekday (PySem.W.mg_of X G a31) (by decide)) pd
      | ms => exact .onD e__OF_INTEGERS_15 e__OF_TEXTS_11 e__OF_DATES_4 (held_of c__month_start (PySem.W.mg_of X G a32) (by decide)) pd
      | ys => exact .onD e__OF_INTEGERS_16 e__OF_TEXTS_12 e__OF_DATES_5 (held_of c__year_start (PySem.W.mg_of X G a33) (by decide)) pd
      | ws => exact .onD e__OF_INTEGERS_17 e__OF_TEXTS_13 e__OF_DATES_6 (held_of c__week_start (PySem.W.mg_of X G a34) (by decide)) pd
      | text => exact .onD e__OF_INTEGERS_19 e__OF_TEXTS_15 e__OF_DATES_8 (held_of c__date_text (PySem.W.mg_of X G a35) (by decide)) pd
      | asDt =>
        have e : (if isDay x = true then V.int (iOf x) else V.non) = if isDay x = true then x else V.non := by cases x <;> rfl
        rw [e]
        exact .onD e__OF_INTEGERS_18 e__OF_TEXTS_14 e__OF_DATES_7 (held_of c__value (PySem.W.mg_of X G a20) (by decide)) fun _ => trivial
  have c_value_of_one := ok_value_of_one (P := P) (w := w) (base := base) D_value_of_one c_is_day c_is_integer c_negated y_isinstance y_str v__OF_DATES w__OF_DATES v__OF_INTEGERS w__OF_INTEGERS v__OF_TEXTS w__OF_TEXTS tab
  have c_unary := ok_unary (P := P) (w := w) (base := base) D_unary c_value_of_one 
  have c__law_numbers := ok__law_numbers (P := P) (w := w) (base := base) D__law_numbers y_int y_len y_range 
  have c__law_is_integer := ok__law_is_integer (P := P) (w := w) (base := base) D__law_is_integer y_bool y_int y_isinstance 
  have c__law_rank := ok__law_rank (P := P) (w := w) (base := base) D__law_rank y_isinstance y_str 
  have c__law_text := ok__law_text (P := P) (w := w) (base := base) D__law_text y_int y_range 
  have c__law_value := ok__law_value (P := P) (w := w) (base := base) D__law_value c__law_text y_int 
  have c__law_told := ok__law_told (P := P) (w := w) (base := base) D__law_told c__law_is_integer c__law_rank y_bool y_isinstance y_str 
  have c__law_dated := ok__law_dated (P := P) (w := w) (base := base) D__law_dated c_date_of c_date_text c_day_of y_int 
  have c__law_numbered := ok__law_numbered (P := P) (w := w) (base := base) D__law_numbered c_decimal_text c_limited c_rounded y_int y_max y_str 
  have c__law_due := ok__law_due (P := P) (w := w) (base := base) D__law_due c__law_dated c__law_is_integer c__law_numbered c_read_date c_read_decimal c_read_integer y_bool y_isinstance y_str 
  have c__law_drawn := ok__law_drawn (P := P) (w := w) (base := base) D__law_drawn c__law_value c_date_text c_decimal_text y_int y_str 
  exact ok_law (P := P) (w := w) (base := base) D_law c__law_drawn c__law_due c__law_numbers c__law_told c_unary y_int y_isinstance y_list y_str v_UNARY w_UNARY 
end My
open PySem PySem.W PyProof.Rows
set_option maxHeartbeats 0 in
theorem PySem.Challenge.cw_stylobate_k09_operations_on_one_value_holds : PySem.Challenge.rw_stylobate_k09_operations_on_one_value.Holds := by
  w_on; o_law; k_head; (case hw => w_witness2)
  k_fill
  refine L2.walk_of (l := PySem.Challenge.rw_stylobate_k09_operations_on_one_value) (n := 63) (k := 11) (x := "script") (CX := fun _ => C8.CX0) (sp := fun w => My.sp_law _) rfl (by decide) rfl ⟨rfl, by decide, by decide⟩ (fun w h Y => PySem.W.kIn_of Y) ?F (fun _ _ a ns hl _ hS => My.sp_law_of hl hS) (fun _ _ _ _ _ h => h)
  case F =>
    intro w mg fa h KX G hmg
    refine' My.all_mk KX G hmg ?a0 ?l0 ?b0 ?k0 ?a1 ?l1 ?b1 ?k1 ?a2 ?l2 ?b2 ?k2 ?a3 ?l3 ?b3 ?k3 ?a4 ?l4 ?b4 ?k4 ?a5 ?l5 ?b5 ?k5 ?a6 ?l6 ?b6 ?k6 ?a7 ?l7 ?b7 ?k7 ?a8 ?l8 ?b8 ?k8 ?a9 ?l9 ?b9 ?k9 ?a10 ?l10 ?b10 ?k10 ?a11 ?l11 ?b11 ?k11 ?a12 ?l12 ?b12 ?k12 ?a13 ?l13 ?b13 ?k13 ?a14 ?l14 ?b14 ?k14 ?a15 ?l15 ?b15 ?k15 ?a16 ?l16 ?b16 ?k16 ?a17 ?l17 ?b17 ?k17 ?a18 ?l18 ?b18 ?k18 ?a19 ?l19 ?b19 ?k19 ?a20 ?l20 ?b20 ?k20 ?a21 ?l21 ?b21 ?k21 ?a22 ?l22 ?b22 ?k22 ?a23 ?l23 ?b23 ?k23 ?a24 ?l24 ?b24 ?k24 ?a25 ?l25 ?b25 ?k25 ?a26 ?l26 ?b26 ?k26 ?a27 ?l27 ?b27 ?k27 ?a28 ?l28 ?b28 ?k28 ?a29 ?l29 ?b29 ?k29 ?a30 ?l30 ?b30 ?k30 ?a31 ?l31 ?b31 ?k31 ?a32 ?l32 ?b32 ?k32 ?a33 ?l33 ?b33 ?k33 ?a34 ?l34 ?b34 ?k34 ?a35 ?l35 ?b35 ?k35 ?a36 ?l36 ?b36 ?k36 ?a37 ?l37 ?b37 ?k37 ?a38 ?l38 ?b38 ?k38 ?a39 ?l39 ?b39 ?k39 ?a40 ?l40 ?b40 ?k40 ?a41 ?l41 ?b41 ?k41 ?a42 ?l42 ?b42 ?k42 ?a43 ?l43 ?b43 ?k43 ?a44 ?l44 ?b44 ?k44 ?a45 ?l45 ?b45 ?k45 ?a46 ?l46 ?b46 ?k46 ?a47 ?l47 ?b47 ?k47 ?a48 ?l48 ?b48 ?k48 ?z_abs ?z_bool ?z_divmod ?z_int ?z_isinstance ?z_len ?z_list ?z_max ?z_min ?z_range ?z_str ?q_FIRST_DAY ?q_GREATEST ?q_LAST_DAY ?q_UNARY ?r_UNARY ?q__DAYS_OF_100_YEARS ?q__DAYS_OF_400_YEARS ?q__DAYS_OF_4_YEARS ?q__DAYS_OF_YEAR ?q__LAST_YEAR ?q__MONTHS ?r__MONTHS ?q__MOST_DIGITS ?q__OF_DATES ?ka__OF_DATES ?kl__OF_DATES ?ko__OF_DATES ?e__OF_DATES_0 ?e__OF_DATES_1 ?e__OF_DATES_2 ?e__OF_DATES_3 ?e__OF_DATES_4 ?e__OF_DATES_5 ?e__OF_DATES_6 ?e__OF_DATES_7 ?e__OF_DATES_8 ?q__OF_INTEGERS ?ka__OF_INTEGERS ?kl__OF_INTEGERS ?ko__OF_INTEGERS ?e__OF_INTEGERS_0 ?e__OF_INTEGERS_1 ?e__OF_INTEGERS_2 ?e__OF_INTEGERS_3 ?e__OF_INTEGERS_4 ?e__OF_INTEGERS_5 ?e__OF_INTEGERS_6 ?e__OF_INTEGERS_7 ?e__OF_INTEGERS_8 ?e__OF_INTEGERS_9 ?e__OF_INTEGERS_10 ?e__OF_INTEGERS_11 ?e__OF_INTEGERS_12 ?e__OF_INTEGERS_13 ?e__OF_INTEGERS_14 ?e__OF_INTEGERS_15 ?e__OF_INTEGERS_16 ?e__OF_INTEGERS_17 ?e__OF_INTEGERS_18 ?e__OF_INTEGERS_19 ?e__OF_INTEGERS_20 ?e__OF_INTEGERS_21 ?e__OF_INTEGERS_22 ?e__OF_INTEGERS_23 ?q__OF_TEXTS ?ka__OF_TEXTS ?kl__OF_TEXTS ?ko__OF_TEXTS ?e__OF_TEXTS_0 ?e__OF_TEXTS_1 ?e__OF_TEXTS_2 ?e__OF_TEXTS_3 ?e__OF_TEXTS_4 ?e__OF_TEXTS_5 ?e__OF_TEXTS_6 ?e__OF_TEXTS_7 ?e__OF_TEXTS_8 ?e__OF_TEXTS_9 ?e__OF_TEXTS_10 ?e__OF_TEXTS_11 ?e__OF_TEXTS_12 ?e__OF_TEXTS_13 ?e__OF_TEXTS_14 ?e__OF_TEXTS_15 ?q__SCALE
    (case a0 => k_is); (case l0 => k_is); (case b0 => k_is); (case k0 => k_is); (case a1 => k_is); (case l1 => k_is); (case b1 => k_is); (case k1 => k_is); (case a2 => k_is); (case l2 => k_is); (case b2 => k_is); (case k2 => k_is); (case a3 => k_is); (case l3 => k_is); (case b3 => k_is); (case k3 => k_is); (case a4 => k_is); (case l4 => k_is); (case b4 => k_is); (case k4 => k_is); (case a5 => k_is); (case l5 => k_is); (case b5 => k_is); (case k5 => k_is); (case a6 => k_is); (case l6 => k_is); (case b6 => k_is); (case k6 => k_is); (case a7 => k_is); (case l7 => k_is); (case b7 => k_is); (case k7 => k_is); (case a8 => k_is); (case l8 => k_is); (case b8 => k_is); (case k8 => k_is); (case a9 => k_is); (case l9 => k_is); (case b9 => k_is); (case k9 => k_is); (case a10 => k_is); (case l10 => k_is); (case b10 => k_is); (case k10 => k_is); (case a11 => k_is); (case l11 => k_is); (case b11 => k_is); (case k11 => k_is); (case a12 => k_is); (case l12 => k_is); (case b12 => k_is); (case k12 => k_is); (case a13 => k_is); (case l13 => k_is); (case b13 => k_is); (case k13 => k_is); (case a14 => k_is); (case l14 => k_is); (case b14 => k_is); (case k14 => k_is); (case a15 => k_is); (case l15 => k_is); (case b15 => k_is); (case k15 => k_is); (case a16 => k_is); (case l16 => k_is); (case b16 => k_is); (case k16 => k_is); (case a17 => k_is); (case l17 => k_is); (case b17 => k_is); (case k17 => k_is); (case a18 => k_is); (case l18 => k_is); (case b18 => k_is); (case k18 => k_is); (case a19 => k_is); (case l19 => k_is); (case b19 => k_is); (case k19 => k_is); (case a20 => k_is); (case l20 => k_is); (case b20 => k_is); (case k20 => k_is); (case a21 => k_is); (case l21 => k_is); (case b21 => k_is); (case k21 => k_is); (case a22 => k_is); (case l22 => k_is); (case b22 => k_is); (case k22 => k_is); (case a23 => k_is); (case l23 => k_is); (case b23 => k_is); (case k23 => k_is); (case a24 => k_is); (case l24 => k_is); (case b24 => k_is); (case k24 => k_is); (case a25 => k_is); (case l25 => k_is); (case b25 => k_is); (case k25 => k_is); (case a26 => k_is); (case l26 => k_is); (case b26 => k_is); (case k26 => k_is); (case a27 => k_is); (case l27 => k_is); (case b27 => k_is); (case k27 => k_is); (case a28 => k_is); (case l28 => k_is); (case b28 => k_is); (case k28 => k_is); (case a29 => k_is); (case l29 => k_is); (case b29 => k_is); (case k29 => k_is); (case a30 => k_is); (case l30 => k_is); (case b30 => k_is); (case k30 => k_is); (case a31 => k_is); (case l31 => k_is); (case b31 => k_is); (case k31 => k_is); (case a32 => k_is); (case l32 => k_is); (case b32 => k_is); (case k32 => k_is); (case a33 => k_is); (case l33 => k_is); (case b33 => k_is); (case k33 => k_is); (case a34 => k_is); (case l34 => k_is); (case b34 => k_is); (case k34 => k_is); (case a35 => k_is); (case l35 => k_is); (case b35 => k_is); (case k35 => k_is); (case a36 => k_is); (case l36 => k_is); (case b36 => k_is); (case k36 => k_is); (case a37 => k_is); (case l37 => k_is); (case b37 => k_is); (case k37 => k_is); (case a38 => k_is); (case l38 => k_is); (case b38 => k_is); (case k38 => k_is); (case a39 => k_is); (case l39 => k_is); (case b39 => k_is); (case k39 => k_is); (case a40 => k_is); (case l40 => k_is); (case b40 => k_is); (case k40 => k_is); (case a41 => k_is); (case l41 => k_is); (case b41 => k_is); (case k41 => k_is); (case a42 => k_is); (case l42 => k_is); (case b42 => k_is); (case k42 => k_is); (case a43 => k_is); (case l43 => k_is); (case b43 => k_is); (case k43 => k_is); (case a44 => k_is); (case l44 => k_is); (case b44 => k_is); (case k44 => k_is); (case a45 => k_is); (case l45 => k_is); (case b45 => k_is); (case k45 => k_is); (case a46 => k_is); (case l46 => k_is); (case b46 => k_is); (case k46 => k_is); (case a47 => k_is); (case l47 => k_is); (case b47 => k_is); (case k47 => k_is); (case a48 => k_is); (case l48 => k_is); (case b48 => k_is); (case k48 => k_is); (case z_abs => k_is); (case z_bool => k_is); (case z_divmod => k_is); (case z_int => k_is); (case z_isinstance => k_is); (case z_len => k_is); (case z_list => k_is); (case z_max => k_is); (case z_min => k_is); (case z_range => k_is); (case z_str => k_is); (case q_FIRST_DAY => k_is); (case q_GREATEST => k_is); (case q_LAST_DAY => k_is); (case q_UNARY => k_is); (case q__DAYS_OF_100_YEARS => k_is); (case q__DAYS_OF_400_YEARS => k_is); (case q__DAYS_OF_4_YEARS => k_is); (case q__DAYS_OF_YEAR => k_is); (case q__LAST_YEAR => k_is); (case q__MONTHS => k_is); (case q__MOST_DIGITS => k_is); (case q__OF_DATES => k_is); (case ka__OF_DATES => k_is); (case e__OF_DATES_0 => k_is); (case e__OF_DATES_1 => k_is); (case e__OF_DATES_2 => k_is); (case e__OF_DATES_3 => k_is); (case e__OF_DATES_4 => k_is); (case e__OF_DATES_5 => k_is); (case e__OF_DATES_6 => k_is); (case e__OF_DATES_7 => k_is); (case e__OF_DATES_8 => k_is); (case q__OF_INTEGERS => k_is); (case ka__OF_INTEGERS => k_is); (case e__OF_INTEGERS_0 => k_is); (case e__OF_INTEGERS_1 => k_is); (case e__OF_INTEGERS_2 => k_is); (case e__OF_INTEGERS_3 => k_is); (case e__OF_INTEGERS_4 => k_is); (case e__OF_INTEGERS_5 => k_is); (case e__OF_INTEGERS_6 => k_is); (case e__OF_INTEGERS_7 => k_is); (case e__OF_INTEGERS_8 => k_is); (case e__OF_INTEGERS_9 => k_is); (case e__OF_INTEGERS_10 => k_is); (case e__OF_INTEGERS_11 => k_is); (case e__OF_INTEGERS_12 => k_is); (case e__OF_INTEGERS_13 => k_is); (case e__OF_INTEGERS_14 => k_is); (case e__OF_INTEGERS_15 => k_is); (case e__OF_INTEGERS_16 => k_is); (case e__OF_INTEGERS_17 => k_is); (case e__OF_INTEGERS_18 => k_is); (case e__OF_INTEGERS_19 => k_is); (case e__OF_INTEGERS_20 => k_is); (case e__OF_INTEGERS_21 => k_is); (case e__OF_INTEGERS_22 => k_is); (case e__OF_INTEGERS_23 => k_is); (case q__OF_TEXTS => k_is); (case ka__OF_TEXTS => k_is); (case e__OF_TEXTS_0 => k_is); (case e__OF_TEXTS_1 => k_is); (case e__OF_TEXTS_2 => k_is); (case e__OF_TEXTS_3 => k_is); (case e__OF_TEXTS_4 => k_is); (case e__OF_TEXTS_5 => k_is); (case e__OF_TEXTS_6 => k_is); (case e__OF_TEXTS_7 => k_is); (case e__OF_TEXTS_8 => k_is); (case e__OF_TEXTS_9 => k_is); (case e__OF_TEXTS_10 => k_is); (case e__OF_TEXTS_11 => k_is); (case e__OF_TEXTS_12 => k_is); (case e__OF_TEXTS_13 => k_is); (case e__OF_TEXTS_14 => k_is); (case e__OF_TEXTS_15 => k_is); (case q__SCALE => k_is)
    (case r_UNARY => exact fun _ => .inr ⟨_, _, _, (by k_is), rfl, rfl, by decide, by repeat (first | exact .nil | refine .cons ⟨_, rfl⟩ ?_)⟩)
    (case r__MONTHS => exact fun _ => .inr ⟨_, _, _, (by k_is), rfl, rfl, by decide, by repeat (first | exact .nil | refine .cons ⟨_, rfl⟩ ?_)⟩)
    (case kl__OF_DATES => k_keys)
    (case ko__OF_DATES => decide)
    (case kl__OF_INTEGERS => k_keys)
    (case ko__OF_INTEGERS => decide)
    (case kl__OF_TEXTS => k_keys)
    (case ko__OF_TEXTS => decide)


