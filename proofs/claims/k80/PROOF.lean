import PyProof.Rows.All
import Wide.All
import OpenK.AllK
import Wide.FinOn
import HandS.ForMost
import HandS.Codes
import HandS.Evl
import HandS.IsInst
import HandS.Wide
import HandS.Zip
import HandS.Property
import HandS.OwnEq
import HandS.Deep
import HandS.WideBits
import HandS.Iter
import HandS.Rev
import HandS.TupLe
import HandS.Dict
import HandS.Text
import HandS.StrMore
import HandS.FStr
import HandS.Style
import HandS.More
import KE.KEqSeq
import PyProof.StrOps2
import PyProof.StrLawsFrom
import KE.RegKIsAll
import PySem.Challenge.RW_stylobate_k80_records_and_fields
set_option Elab.async false
set_option linter.all false
set_option maxRecDepth 100000
set_option maxHeartbeats 4000000
namespace My
open PySem PySem.Spec PyProof.Rows L2 Evl
/-! ### defs of the text, promises, the end -/
def Dn (K : PySem.W.Frag) (mg : Str → Option Value) (x : Str) (st : Stmt) (ps : List Str) : Prop := ∃ f fd, C8.Def K mg x st f fd ∧ Binds K fd ps []
section
variable {P : Program} {w : World} {K : PySem.W.Frag} {mg : Str → Option Value} {base : Heap}
theorem cal_of {x : Str} {st : Stmt} {N ps : List Str} {k : Nat} {sp : Sp} (D : Dn K mg x st ps) (S : FnScope N ps (C8.fnScope st)) (len : ∀ vs H Q E, sp vs H Q E → vs.length = ps.length)
    (hbody : ∀ (f : Addr) (cdv : Value) (A : Around) (outer : List Env) (s : Shared) (H : Hp) (vs : List V) (Q : VK) (E : XK), Room k (A.deeper (envOfC x (C8.fnScope st) s.heap.objs.size f cdv)) → sp vs H Q E →
      ∃ t, PSs (cxOf C8.CX0 P w K mg base N x (C8.fnScope st) f cdv A outer s H E).nox (C8.fnBody st) t ∧ t { nx := fun _ H' => Q .non H', rt := Q } (start N vs) H) : C8.Cal P w K mg base (k + 1) x sp [] := by
  obtain ⟨f, fd, F, b⟩ := D
  exact C8.cal0 F b .nil S len (hbody f)
theorem def_mk {x : Str} {st : Stmt} {f : Addr} {oc : Value} {od an : Option Addr} {osl : Array (Option Value)} {kV doc pm cdv ct : Value}
    (l : K.lookup f = some ⟨oc, od, .func (PySem.W.fnOf x x (C8.fnArgs st) (C8.fnBody st) (C8.fnScope st) .none kV doc pm an cdv ct), osl⟩)
    (c : PySem.W.codeIn K cdv x = true) (k : PySem.W.keepIn K (.ref f) = true) (m : mg x = some (.ref f)) : C8.Def K mg x st f (PySem.W.fnOf x x (C8.fnArgs st) (C8.fnBody st) (C8.fnScope st) .none kV doc pm an cdv ct) :=
  ⟨⟨oc, od, .none, kV, doc, pm, an, cdv, ct, osl, rfl, l, c⟩, m, k⟩
theorem dn_mk {x : Str} {st : Stmt} {f : Addr} {oc : Value} {od an : Option Addr} {osl : Array (Option Value)} {kV doc pm cdv ct : Value} {ps : List Str}
    (l : K.lookup f = some ⟨oc, od, .func (PySem.W.fnOf x x (C8.fnArgs st) (C8.fnBody st) (C8.fnScope st) .none kV doc pm an cdv ct), osl⟩)
    (c : PySem.W.codeIn K cdv x = true) (k : PySem.W.keepIn K (.ref f) = true) (m : mg x = some (.ref f))
    (h : ∀ (kV doc pm : Value) (an : Option Addr) (cdv ct : Value) (us : List Value), us.length = ps.length → bindArgs (PySem.W.fnOf x x (C8.fnArgs st) (C8.fnBody st) (C8.fnScope st) .none kV doc pm an cdv ct) ⟨us, []⟩ = pure (ps.zip us)) : Dn K mg x st ps :=
  ⟨f, _, def_mk l c k m, C8.Fun.binds (def_mk l c k m).fn rfl h⟩
end
/-! ### x is True, x is False, of any value -/
def rIsT : R2 := fun x y H Q => ∃ b : Bool, y = .bl b ∧ Q (.bl (decide (x = .bl b))) H
def rNotT : R2 := fun x y H Q => ∃ b : Bool, y = .bl b ∧ Q (.bl (!decide (x = .bl b))) H
section
variable {X : Cx}
theorem rel_bl {x : V} {v : Value} {b : Bool} (rx : RelV x v) : PySem.plainIs v (.bool b) = true ∧ (v == .bool b) = decide (x = .bl b) ∨ ∃ n, v = .builtin n := by
  cases x with
  | non => cases (show v = Value.none from rx); exact .inl ⟨rfl, rfl⟩
  | bl c => cases (show v = Value.bool c from rx); exact .inl ⟨rfl, by cases b <;> cases c <;> rfl⟩
  | int i => obtain ⟨t, e⟩ := (show ∃ t, v = Value.int i t from rx); cases e; exact .inl ⟨rfl, rfl⟩
  | str i => obtain ⟨t, e⟩ := (show ∃ t, v = Value.str i t from rx); cases e; exact .inl ⟨rfl, rfl⟩
  | byt i => obtain ⟨t, e⟩ := (show ∃ t, v = Value.bytes i t from rx); cases e; exact .inl ⟨rfl, rfl⟩
  | flt i => obtain ⟨t, e⟩ := (show ∃ t, v = Value.float i t from rx); cases e; exact .inl ⟨rfl, rfl⟩
  | ref a => cases (show v = Value.ref a from rx); exact .inl ⟨rfl, rfl⟩
  | ty n => cases (show v = Value.type n from rx); exact .inl ⟨rfl, rfl⟩
theorem rel_bl' {x : V} {v : Value} {b : Bool} (rx : RelV x v) : PySem.plainIs v (.bool b) = true ∧ (v == .bool b) = decide (x = .bl b) := by
  rcases rel_bl (b := b) rx with h | ⟨n, rfl⟩
  · exact h
  · cases x <;> first | exact nomatch (rx : Value.builtin n = _) | (obtain ⟨t, e⟩ := rx; exact nomatch e)
theorem op_isTF : OpR X (compareOp .Is) rIsT := by
  intro pins s σ H x y v u Q I rx ry h
  obtain ⟨b, rfl, q⟩ := h
  cases (show u = Value.bool b from ry)
  obtain ⟨h1, h2⟩ := rel_bl' (b := b) rx
  exact wpAny_is_plain h1 ⟨.bl _, H, I, rfl, by rw [h2]; exact q⟩
theorem op_notTF : OpR X (compareOp .IsNot) rNotT := by
  intro pins s σ H x y v u Q I rx ry h
  obtain ⟨b, rfl, q⟩ := h
  cases (show u = Value.bool b from ry)
  obtain ⟨h1, h2⟩ := rel_bl' (b := b) rx
  exact wpAny_isNot_plain h1 ⟨.bl _, H, I, rfl, by rw [h2]; exact q⟩
end
/-! ### what evaluates to what: further -/
section
variable {K : PySem.W.Frag} {σ : L2.St} {H H' : Hp} {ta tb te tx : TE} {t u : TT} {x y z v : V} {r : R2}
theorem rv_isT {b : Bool} : RV rIsT x (.bl b) H (.bl (decide (x = .bl b))) := fun H1 _ _ q => ⟨b, rfl, q H1 (Ex.refl H1)⟩
theorem rv_notT {b : Bool} : RV rNotT x (.bl b) H (.bl (!decide (x = .bl b))) := fun H1 _ _ q => ⟨b, rfl, q H1 (Ex.refl H1)⟩
theorem rv_isN : RV (fun x y H Q => y = .non ∧ Q (.bl (decide (x = .non))) H) x .non H (.bl (decide (x = .non))) := fun H1 _ _ q => ⟨rfl, q H1 (Ex.refl H1)⟩
theorem rv_notN : RV (fun x y H Q => y = .non ∧ Q (.bl (!decide (x = .non))) H) x .non H (.bl (!decide (x = .non))) := fun H1 _ _ q => ⟨rfl, q H1 (Ex.refl H1)⟩
theorem ev_int {i : Int} (h : Ev ta σ H (.int i)) : Ev (tCB (fun xs H Q => (∃ i, xs = [.int i] ∧ Q (.int i) H) ∨ ∃ k, xs = [.bl k] ∧ Q (.int (if k then 1 else 0)) H) (tCons ta tNil)) σ H (.int i) :=
  fun H1 e Q q => h H1 e _ fun H2 e2 => .inl ⟨i, rfl, q H2 e2⟩
theorem ev_intB {b : Bool} (h : Ev ta σ H (.bl b)) : Ev (tCB (fun xs H Q => (∃ i, xs = [.int i] ∧ Q (.int i) H) ∨ ∃ k, xs = [.bl k] ∧ Q (.int (if k then 1 else 0)) H) (tCons ta tNil)) σ H (.int (if b then 1 else 0)) :=
  fun H1 e Q q => h H1 e _ fun H2 e2 => .inr ⟨b, rfl, q H2 e2⟩
theorem ev_abs {i : Int} (h : Ev ta σ H (.int i)) : Ev (tCB (fun xs H Q => ∃ i, xs = [.int i] ∧ Q (.int (if i < 0 then -i else i)) H) (tCons ta tNil)) σ H (.int (if i < 0 then -i else i)) :=
  fun H1 e Q q => h H1 e _ fun H2 e2 => ⟨i, rfl, q H2 e2⟩
theorem ev_min2 {i j : Int} (ha : Ev ta σ H (.int i)) (hb : Ev tb σ H (.int j)) : Ev (tCB (fun xs H Q => ∃ i j, xs = [.int i, .int j] ∧ Q (.int (if j < i then j else i)) H) (tCons ta (tCons tb tNil))) σ H (.int (if j < i then j else i)) := fun H1 e Q q =>
  ha H1 e _ fun H2 e2 => hb H2 (e.trans e2) _ fun H3 e3 => ⟨i, j, rfl, q H3 (e2.trans e3)⟩
theorem ev_lenS {s : Str} (h : Ev ta σ H (.str s)) (hz : s.length ≤ 100000) : Ev (tCB (fun xs H Q => ∃ z, xs = [.str z] ∧ z.length ≤ sizeLine ∧ Q (.int z.length) H) (tCons ta tNil)) σ H (.int s.length) :=
  fun H1 e Q q => h H1 e _ fun H2 e2 => ⟨s, rfl, sz_of hz, q H2 e2⟩
/-- isinstance(x, T) of a plain value -/
def tyOf : V → String
  | .non => "NoneType"
  | .bl _ => "bool"
  | .int _ => "int"
  | .str _ => "str"
  | .byt _ => "bytes"
  | .flt _ => "float"
  | _ => "?"
def isTy (x : V) (T : String) : Bool := ((kitB (tyOf x) T).getD false)
theorem ev_isi {T : String} {tn : String} {b : Bool} (ha : Ev ta σ H x) (ht : ∀ H1, TyX K H1 x (.type tn)) (hk : kitB tn T = some b) : Ev (tCB (rIsi K) (tCons ta (tCons (tC (.ty T)) tNil))) σ H (.bl b) :=
  fun H1 e Q q => ha H1 e _ fun H2 e2 => ⟨x, .ty T, .type tn, .type T, b, rfl, .ty T, ht H2, kit_ty hk, q H2 e2⟩
theorem tx_int (i : Int) (H1 : Hp) : TyX K H1 (.int i) (.type "int") := .base (.int i)
theorem tx_bl (i : Bool) (H1 : Hp) : TyX K H1 (.bl i) (.type "bool") := .base (.bl i)
theorem tx_str (i : Str) (H1 : Hp) : TyX K H1 (.str i) (.type "str") := .base (.str i)
theorem tx_non (H1 : Hp) : TyX K H1 .non (.type "NoneType") := .base .non
section
variable {D : Ends} {tz : TS}
/-- if c: x = e, an int: told by the value x has behind it -/
theorem q_ifI {b : Bool} {i : Nat} {p q : Int} (h : EvT t σ H b) (h1 : b = true → Ev te σ H (.int p)) (h0 : σ[i]? = some (some (.int q))) (k : ∀ H1, Ex H H1 → tz D (σ.set i (some (.int (if b = true then p else q)))) H1) : tSeq (tIfS t (tAsg te (gName i)) tNext) tz D σ H := by
  refine q_ifAsg h (fun hb => ?_) (fun hb => ?_) k
  · rw [if_pos hb]
    exact h1 hb
  · rw [hb]
    show σ.set i (some (V.int q)) = σ
    apply List.ext_getElem?
    intro j
    rw [List.getElem?_set]
    split
    · rename_i e
      subst e
      rw [h0]
      have := (List.getElem?_eq_some_iff.mp h0).1
      rw [if_pos this]
    · rfl
end
/-- a promise of one value, all else as it was -/
theorem spv {sp : Sp} {vs : List V} (h : ∀ H1, Ex H H1 → ∀ Q : VK, (∀ H2, Ex H1 H2 → Q z H2) → ∀ E : XK, sp vs H1 Q E) : SpV sp vs H z := h
end
local macro_rules | `(tactic| walk_at "side") => `(tactic| first
  | exact .inr ⟨by decide, by decide⟩
  | exact .inl ⟨by decide, by decide⟩
  | exact .inl ⟨by omega, by omega⟩
  | exact .inr ⟨by omega, by omega⟩
  | exact ⟨by decide, by decide⟩
  | exact ⟨by omega, by omega⟩
  | decide
  | (show (_ : Int) < _; omega)
  | omega)
local macro_rules | `(tactic| walk_at "rv") => `(tactic| first
  | exact rv_I0
  | ((refine' rv_I ?k1); (case k1 => walk_at "side"))
  | exact rv_isT
  | exact rv_notT
  | exact rv_isN
  | exact rv_notN
  | exact rv_eq rfl
  | exact rv_ne rfl)
local macro_rules | `(tactic| walk_at "sq") => `(tactic| first | assumption | exact ex_l (by assumption) (by assumption) | exact sq_of (by assumption))
/-- what a part gives, read off its form -/
local macro_rules | `(tactic| walk_at "ev") => `(tactic| first
  | exact ev_var rfl
  | exact ev_c
  | ((with_reducible refine' ev_op ?k1 ?k2 ?k3); (case k1 => walk_at "ev"); (case k2 => walk_at "ev"); (case k3 => walk_at "rv"))
  | ((with_reducible refine' ev_un ?k1 ?k2); (case k1 => walk_at "ev"); (case k2 => exact ru_neg))
  | ((with_reducible refine' ev_int ?k1); (case k1 => walk_at "ev"))
  | ((with_reducible refine' ev_abs ?k1); (case k1 => walk_at "ev"))
  | ((with_reducible refine' ev_andV ?k1 ?k2); (case k1 => walk_at "ev"); (case k2 => intro _; walk_at "ev"))
  | ((with_reducible refine' ev_orV ?k1 ?k2); (case k1 => walk_at "ev"); (case k2 => intro _; walk_at "ev"))
  | ((with_reducible refine' ev_notV ?k1); (case k1 => walk_at "ev"))
  | ((refine' ev_len ?k1 ?k2); (case k1 => walk_at "ev"); (case k2 => walk_at "sq")))
local macro_rules | `(tactic| walk_at "et") => `(tactic| first
  | ((with_reducible refine' et_or ?k1 ?k2); (case k1 => walk_at "et"); (case k2 => intro _; walk_at "et"))
  | ((with_reducible refine' et_and ?k1 ?k2); (case k1 => walk_at "et"); (case k2 => intro _; walk_at "et"))
  | ((with_reducible refine' et_not ?k1); (case k1 => walk_at "et"))
  | (refine' et_test ?k1; (case k1 => walk_at "ev"))
  | (refine' et_B ?k1; (case k1 => walk_at "ev")))

/-! ### tuples made, tuples read, data compared -/
def SpU (sp : Sp) (vs : List V) (H : Hp) (xs : List V) : Prop := ∀ H1, Ex H H1 → ∀ Q : VK, (∀ p H2, H1 p = none → Ex H1 H2 → H2 p = some (.tup xs) → Q (.ref p) H2) → ∀ E : XK, sp vs H1 Q E
section
variable {K : PySem.W.Frag} {σ : L2.St} {H H' : Hp} {ta tb te : TE} {x y z v : V}
theorem eu_call {sp : Sp} {dvs vs xs : List V} {E : XK} {ta : TA} (h : EvA ta σ H vs) (hs : SpU sp (vs ++ dvs) H xs) : EvU (tCall sp dvs E ta) σ H xs := fun H1 e Q q =>
  h H1 e _ fun H2 e2 => hs H2 (e.trans e2) Q (fun p H3 hp e3 h3 => q p H3 (fresh_back e2 hp) (e2.trans e3) h3) E
theorem ev_lenT {p : Addr} {xs : List V} (ha : Ev ta σ H (.ref p)) (h : SqT K H p xs) : Ev (tCB (fun xs H Q => ∃ p ys, xs = [.ref p] ∧ (SqL K H p ys ∨ SqT K H p ys) ∧ Q (.int ys.length) H) (tCons ta tNil)) σ H (.int (xs.length : Int)) := fun H1 e Q q =>
  ha H1 e _ fun H2 e2 => ⟨p, xs, rfl, Or.inr (ex_t (e.trans e2) h), q H2 e2⟩
theorem eu_divmod {i j : Int} (ha : Ev ta σ H (.int i)) (hb : Ev tb σ H (.int j)) (hc : CDiv i j) :
    EvU (tCB (fun xs H Q => ∃ i j, xs = [.int i, .int j] ∧ CDiv i j ∧ ∀ p, H p = none → Q (.ref p) (upd H p (.tup [.int (i / j), .int (i % j)]))) (tCons ta (tCons tb tNil))) σ H [.int (i / j), .int (i % j)] := fun H1 e Q q =>
  ha H1 e _ fun H2 e2 => hb H2 (e.trans e2) _ fun H3 e3 => ⟨i, j, rfl, hc, fun p hp => q p _ (fresh_back (e2.trans e3) hp) ((e2.trans e3).trans (Ex.new hp)) upd_same⟩
theorem dp_ints : ∀ ns : List Int, DpAll K H (ns.map V.int) (ns.map PyData.int)
  | [] => .nil
  | n :: r => .cons (.int n) (dp_ints r)
theorem eqv_ints : ∀ ns ms : List Int, PyData.eqv (.tuple (ns.map PyData.int)) (.tuple (ms.map PyData.int)) = decide (ns = ms)
  | [], [] => rfl
  | [], _ :: _ => rfl
  | _ :: _, [] => rfl
  | n :: r, m :: t => by
    have ih := eqv_ints r t
    show ((n == m) && PyData.eqv (.tuple (r.map PyData.int)) (.tuple (t.map PyData.int))) = _
    rw [ih, Bool.eq_iff_iff, Bool.and_eq_true, decide_eq_true_eq, decide_eq_true_eq, beq_iff_eq, List.cons.injEq]
theorem dp_tup {p : Addr} {ns : List Int} (h : SqT K H p (ns.map V.int)) : Dp K H (.ref p) (.tuple (ns.map PyData.int)) := .tup h (dp_ints ns)
def shI (n : Nat) : Bool := SeqAt.shaped (.tuple ((List.replicate n 0).map PyData.int))
theorem rv_neT {p q : Addr} {ns ms : List Int} (hp : SqT K H p (ns.map V.int)) (hq : SqT K H q (ms.map V.int)) (s1 : SeqAt.shaped (.tuple (ns.map PyData.int)) = true) (s2 : SeqAt.shaped (.tuple (ms.map PyData.int)) = true) : RV (rNeD K) (.ref p) (.ref q) H (.bl (!decide (ns = ms))) := fun H1 e Q k =>
  ⟨_, _, dp_tup (ex_t e hp), dp_tup (ex_t e hq), s1, s2, by rw [eqv_ints]; exact k H1 (Ex.refl H1)⟩
theorem tx_tup {a : Addr} {xs : List V} (h : H a = some (.tup xs)) : ∀ H1, Ex H H1 → TyX K H1 (.ref a) (.type "tuple") := fun H1 e => .base (.tup (e _ _ h))
theorem ev_isi' {T : String} {tn : String} {b : Bool} (ha : Ev ta σ H x) (ht : ∀ H1, Ex H H1 → TyX K H1 x (.type tn)) (hk : kitB tn T = some b) : Ev (tCB (rIsi K) (tCons ta (tCons (tC (.ty T)) tNil))) σ H (.bl b) :=
  fun H1 e Q q => ha H1 e _ fun H2 e2 => ⟨x, .ty T, .type tn, .type T, b, rfl, .ty T, ht H2 (e.trans e2), kit_ty hk, q H2 e2⟩
theorem ev_chain {r r' : R2} {tc : TE} {b c : Bool} (ha : Ev ta σ H x) (hb : Ev tb σ H y) (hr : RV r x y H (.bl b)) (hc : b = true → Ev tc σ H z) (hr' : b = true → RV r' y z H (.bl c)) : Ev (tChain r r' ta tb tc) σ H (.bl (b && c)) := fun H1 e Q q =>
  ha H1 e _ fun H2 e2 => hb H2 (e.trans e2) _ fun H3 e3 => hr H3 ((e.trans e2).trans e3) _ fun H4 e4 => ⟨b, rfl, by
    cases b with
    | true =>
      show tc σ H4 fun w' H5 => r' y w' H5 Q
      exact hc rfl H4 (((e.trans e2).trans e3).trans e4) _ fun H5 e5 => hr' rfl H5 ((((e.trans e2).trans e3).trans e4).trans e5) Q fun H6 e6 => q H6 ((((e2.trans e3).trans e4).trans e5).trans e6)
    | false =>
      show Q (.bl false) H4
      exact q H4 ((e2.trans e3).trans e4)⟩
/-- a, b = (..): a new tuple unpacked into names -/
theorem gt2 {p : Addr} {i j : Nat} (h : SqT K H p [x, y]) {Q : L2.St → Hp → Prop} (k : Q ((σ.set i (some x)).set j (some y)) H) : gTup K 2 (gCons (gName i) (gCons (gName j) gNil)) (.ref p) σ H Q :=
  ⟨p, [x, y], rfl, h, rfl, x, [y], rfl, y, [], rfl, rfl, k⟩
theorem gt3 {p : Addr} {i j l : Nat} (h : SqT K H p [x, y, z]) {Q : L2.St → Hp → Prop} (k : Q (((σ.set i (some x)).set j (some y)).set l (some z)) H) : gTup K 3 (gCons (gName i) (gCons (gName j) (gCons (gName l) gNil))) (.ref p) σ H Q :=
  ⟨p, [x, y, z], rfl, h, rfl, x, [y, z], rfl, y, [z], rfl, z, [], rfl, rfl, k⟩
end
theorem hu64 {A : Around} {k : Nat} (hr : Room k A) : A.units + 64 < cLine := by
  have := hr.un
  omega
section
variable {K : PySem.W.Frag} {σ : L2.St} {H : Hp} {te : TE} {D : Ends} {tz : TS} {g : TG} {xs : List V}
theorem q_asgG (h : EvU te σ H xs) (k : ∀ p H1, H p = none → Ex H H1 → H1 p = some (.tup xs) → g (.ref p) σ H1 (tz D)) : tSeq (tAsg te g) tz D σ H := h H (Ex.refl H) _ fun p H1 hp e h1 => k p H1 hp e h1
theorem q_asgV {v : V} (h : Ev te σ H v) (k : ∀ H1, Ex H H1 → g v σ H1 (tz D)) : tSeq (tAsg te g) tz D σ H := h H (Ex.refl H) _ fun H1 e => k H1 e
end
/-! ### plain values and their types -/
inductive Pl : V → Prop where
  | non : Pl .non
  | bl (b : Bool) : Pl (.bl b)
  | int (i : Int) : Pl (.int i)
  | str (s : Str) : Pl (.str s)
def tyN : V → String
  | .bl _ => "bool"
  | .int _ => "int"
  | .str _ => "str"
  | _ => "NoneType"
def isInt : V → Bool
  | .int _ => true
  | _ => false
theorem tx_pl {K : PySem.W.Frag} {x : V} (h : Pl x) (H1 : Hp) : TyX K H1 x (.type (tyN x)) := by
  cases h with
  | non => exact .base .non
  | bl b => exact .base (.bl b)
  | int i => exact .base (.int i)
  | str s => exact .base (.str s)
theorem ev_isiP {K : PySem.W.Frag} {σ : L2.St} {H : Hp} {ta : TE} {x : V} {T : String} {b : Bool} (ha : Ev ta σ H x) (hx : Pl x) (hk : kitB (tyN x) T = some b) : Ev (tCB (rIsi K) (tCons ta (tCons (tC (.ty T)) tNil))) σ H (.bl b) :=
  ev_isi ha (tx_pl hx) hk
/-- isinstance(x, int) and not isinstance(x, bool) -/
theorem ev_isInt {K : PySem.W.Frag} {σ : L2.St} {H : Hp} {ta tb : TE} {x : V} (ha : Ev ta σ H x) (hb : Ev tb σ H x) (hx : Pl x) :
    Ev (tAndV (tCB (rIsi K) (tCons ta (tCons (tC (.ty "int")) tNil))) (tNotV (tCB (rIsi K) (tCons tb (tCons (tC (.ty "bool")) tNil))))) σ H (.bl (isInt x)) := by
  cases hx with
  | non => exact ev_is (ev_andV (ev_isiP (b := false) ha .non (by decide +kernel)) fun z => nomatch z) (show V.bl (false && true) = _ from rfl)
  | bl b => exact ev_is (ev_andV (ev_isiP (b := true) ha (.bl b) (by show kitB "bool" "int" = some true; decide +kernel)) fun _ => ev_notV (ev_isiP (b := true) hb (.bl b) (by show kitB "bool" "bool" = some true; decide +kernel))) rfl
  | int i => exact ev_is (ev_andV (ev_isiP (b := true) ha (.int i) (by show kitB "int" "int" = some true; decide +kernel)) fun _ => ev_notV (ev_isiP (b := false) hb (.int i) (by show kitB "int" "bool" = some false; decide +kernel))) rfl
  | str s => exact ev_is (ev_andV (ev_isiP (b := false) ha (.str s) (by show kitB "str" "int" = some false; decide +kernel)) fun z => nomatch z) (show V.bl (false && true) = _ from rfl)

/-! ### the order of tuples that need not be alike behind the first difference -/
section
open PySem.SeqAt PySem.MeetsSeq PySem.MeetsSeq2 PySem.MeetsSeq3
open PySem.AutoSeq1 (wpAny_loadPart')
/-- pairs walked from the left: the first that differ decide; z where none do -/
inductive Lx (A : Around) (s : Shared) (z : Bool) : List (Value × Value) → Bool → Prop
  | nil : Lx A s z [] z
  | eq {y x : Value} {ps : List (Value × Value)} {c : Bool} : EqAt A s y x true → Lx A s z ps c → Lx A s z ((y, x) :: ps) c
  | lt {y x : Value} {ps : List (Value × Value)} {c : Bool} : EqAt A s y x false → Ob.RcOp .Lt A s y x c → Lx A s z ((y, x) :: ps) c
theorem lt_meets (l b : Addr) (us vs : Array Value) (n m : Nat) (dl db : Option Addr) (sl sb : Array (Option Value)) :
    Meets (Builtin.«tuple.__lt__» ⟨[.ref l, .ref b], []⟩)
      (fun A R s => s.heap.get? l = some { cls := .type "tuple", dict := dl, data := .seq us n, slots := sl } ∧ s.heap.get? b = some { cls := .type "tuple", dict := db, data := .seq vs m, slots := sb } ∧
        ∃ c, Lx A.in1 s (decide (us.size < vs.size)) (us.toList.zip vs.toList) c ∧ R (.ok (.ret (.bool c))) s) := by
  refine .of_wp fun prog w A R s h => ?_
  obtain ⟨hp, g, d, tk, os⟩ := s
  obtain ⟨hl, hb, c, hx, h⟩ := h
  have f2 := AutoSeq1.sub_tuple_tuple
  wp_walk using wpAny_loadPart' hl, wpAny_loadPart' hb, wpAny_forIn_list _ (fun ps b s' => b.1 = none ∧ s' = ⟨hp, g, d, tk, os⟩ ∧ ∃ c, Lx A.in1 ⟨hp, g, d, tk, os⟩ (decide (us.size < vs.size)) ps c ∧ R (.ok (.ret (.bool c))) ⟨hp, g, d, tk, os⟩) _
  case turn =>
    rintro ⟨y, x⟩ ps b s' ⟨hb', rfl, c, hz, hR⟩
    cases hz with
    | eq he ht =>
      refine wpAny_bind (he prog w _ _ ?_)
      wp_walk
      exact ⟨rfl, rfl, c, ht, hR⟩
    | lt he hr =>
      refine wpAny_bind (he prog w _ _ ?_)
      have hri := hr prog w
      wp_walk using hri
      exact ⟨_, rfl, hR⟩
  case fin =>
    rintro ⟨b1, b2⟩ s' ⟨hb', rfl, c, hz, hR⟩
    simp only at hb'
    subst hb'
    cases hz
    wp_walk
    exact ⟨_, rfl, by simpa [Builtin.Tuple.tupleCompareSizes] using hR⟩
  case h => exact ⟨rfl, rfl, c, hx, h⟩
theorem lt_tuples {A : Around} {s : Shared} {l b : Addr} {us vs : Array Value} {c : Bool} (hl : s.heap.IsTuple l us) (hb : s.heap.IsTuple b vs) (hu : A.units < cLine) (hx : Lx A.in1 s (decide (us.size < vs.size)) (us.toList.zip vs.toList) c) :
    Ob.RcOp .Lt A s (.ref l) (.ref b) c := by
  intro prog w E Q h
  obtain ⟨⟨k1, dl, da, sl⟩, ho, hc, n, hd⟩ := hl
  obtain ⟨⟨k2, db, da2, sb⟩, ho2, hc2, m, hd2⟩ := hb
  simp only at hc hd hc2 hd2
  subst hc hd hc2 hd2
  exact richCompare_meets_room (op := .Lt) ⟨_, ho, rfl⟩ ⟨_, ho2, rfl⟩ F.slot_tuple_lt F.entry_tuple_lt (F.args_tuple_lt_2 _ _) (lt_meets l b us vs n m dl db sl sb) ⟨ho, ho2, c, hx, ⟨(fun z => nomatch z), h⟩⟩ hu
end
mutual
/-- less, of data -/
def ltD : PyData → PyData → Bool
  | .int a, .int b => decide (a < b)
  | .str x, .str y => decide (x.cps.toList < y.cps.toList)
  | .tuple xs, .tuple ys => ltDs xs ys
  | _, _ => false
def ltDs : List PyData → List PyData → Bool
  | [], [] => false
  | [], _ :: _ => true
  | _ :: _, [] => false
  | x :: xs, y :: ys => if PyData.eqv x y then ltDs xs ys else ltD x y
end
mutual
/-- may be compared by less -/
def ordD : PyData → PyData → Bool
  | .int _, .int _ => true
  | .str _, .str _ => true
  | .tuple xs, .tuple ys => ordDs xs ys
  | _, _ => false
def ordDs : List PyData → List PyData → Bool
  | [], _ => true
  | _ :: _, [] => true
  | x :: xs, y :: ys => if PyData.eqv x y then ordDs xs ys else ordD x y
end
theorem reads_len {h : Heap} : ∀ {ds : List PyData} {us : List Value} {as : List Addr}, ReadsAll h us ds as → us.length = ds.length
  | [], _, _, r => by cases r; rfl
  | _ :: ds, _, _, r => by
    cases r with
    | cons r1 r2 => exact congrArg (· + 1) (reads_len r2)
theorem lt_list {n : Nat} (IH : ∀ (d e : PyData) (A : Around) (s : Shared) (u v : Value) (as bs : List Addr), d.depth ≤ n → Reads s.heap u d as → Reads s.heap v e bs → d.canLay0 = true → e.canLay0 = true → ordD d e = true →
    A.units + d.depth < cLine → Ob.RcOp .Lt A s u v (ltD d e)) (A : Around) (s : Shared) : ∀ (xs ys : List PyData) (us vs : List Value) (as bs : List Addr), PyData.depthAll xs ≤ n → ReadsAll s.heap us xs as → ReadsAll s.heap vs ys bs →
    PyData.canLayAll0 xs = true → PyData.canLayAll0 ys = true → ordDs xs ys = true → A.units + PyData.depthAll xs < cLine → Lx A s (decide (xs.length < ys.length)) (us.zip vs) (ltDs xs ys) := by
  intro xs
  induction xs with
  | nil =>
    intro ys us vs as bs hn r1 r2 c1 c2 ho hu
    cases r1
    cases ys with
    | nil => exact .nil
    | cons y ys =>
      rw [show decide (([] : List PyData).length < (y :: ys).length) = true from decide_eq_true (Nat.zero_lt_succ _)]
      show Lx A s true [] true
      exact .nil
  | cons x xs ih =>
    intro ys us vs as bs hn r1 r2 c1 c2 ho hu
    cases ys with
    | nil =>
      cases r2
      rw [show decide ((x :: xs).length < ([] : List PyData).length) = false from decide_eq_false (Nat.not_lt_zero _), List.zip_nil_right]
      exact .nil
    | cons y ys =>
      have a1 : x.canLay0 = true ∧ PyData.canLayAll0 xs = true := by simpa [PyData.canLayAll0] using c1
      have a2 : y.canLay0 = true ∧ PyData.canLayAll0 ys = true := by simpa [PyData.canLayAll0] using c2
      have hd : A.units + max x.depth (PyData.depthAll xs) < cLine := hu
      have hn' : max x.depth (PyData.depthAll xs) ≤ n := hn
      rw [show decide ((x :: xs).length < (y :: ys).length) = decide (xs.length < ys.length) by simp]
      cases r1 with
      | cons p1 q1 =>
        cases r2 with
        | cons p2 q2 =>
          have he := PySem.SeqAt.eqAt_reads x y A s _ _ _ _ p1 p2 a1.1 a2.1 (by omega)
          by_cases c : PyData.eqv x y = true
          · have o : ordDs xs ys = true := by rw [ordDs, if_pos c] at ho; exact ho
            rw [show ltDs (x :: xs) (y :: ys) = ltDs xs ys by rw [ltDs, if_pos c]]
            rw [c] at he
            exact .eq he (ih ys _ _ _ _ (by omega) q1 q2 a1.2 a2.2 o (by omega))
          · have o : ordD x y = true := by rw [ordDs, if_neg c] at ho; exact ho
            rw [show ltDs (x :: xs) (y :: ys) = ltD x y by rw [ltDs, if_neg c]]
            rw [Bool.not_eq_true] at c
            rw [c] at he
            exact .lt he (IH x y A s _ _ _ _ (by omega) p1 p2 a1.1 a2.1 o (by omega))
theorem lt_reads : ∀ (n : Nat) (d e : PyData) (A : Around) (s : Shared) (u v : Value) (as bs : List Addr), d.depth ≤ n → Reads s.heap u d as → Reads s.heap v e bs → d.canLay0 = true → e.canLay0 = true → ordD d e = true →
    A.units + d.depth < cLine → Ob.RcOp .Lt A s u v (ltD d e) := by
  intro n
  induction n with
  | zero =>
    intro d e A s u v as bs hn r1 r2 c1 c2 ho hu
    cases r1 with
    | int a t =>
      cases r2 with
      | int b t' => rw [ltD]; exact Ob.RcOp.lt_int _ _ _ _
      | _ => simp [ordD] at ho
    | str a t =>
      cases r2 with
      | str b t' => rw [ltD]; exact fun prog w E Q h => lt_str h
      | _ => simp [ordD] at ho
    | tuple => simp [PyData.depth] at hn
    | _ => simp [ordD] at ho
  | succ n ih =>
    intro d e A s u v as bs hn r1 r2 c1 c2 ho hu
    cases r1 with
    | int a t =>
      cases r2 with
      | int b t' => rw [ltD]; exact Ob.RcOp.lt_int _ _ _ _
      | _ => simp [ordD] at ho
    | str a t =>
      cases r2 with
      | str b t' => rw [ltD]; exact fun prog w E Q h => lt_str h
      | _ => simp [ordD] at ho
    | tuple h1 h2 h3 h4 =>
      cases r2 with
      | tuple k1 k2 k3 k4 =>
        rename_i xs _ _ _ _ _ ys
        simp only [PyData.depth] at hn hu
        have l1 := reads_len h4
        have l2 := reads_len k4
        rw [ltD]
        refine lt_tuples ⟨_, h1, h2, _, h3⟩ ⟨_, k1, k2, _, k3⟩ (by omega) ?_
        rw [← Array.length_toList, ← Array.length_toList, l1, l2]
        exact lt_list ih A.in1 s _ _ _ _ _ _ (by omega) h4 k4 (by simpa [PyData.canLay0] using c1) (by simpa [PyData.canLay0] using c2) (by simpa [ordD] using ho) (by show A.units + 1 + _ < _; omega)
      | _ => simp [ordD] at ho
    | _ => simp [ordD] at ho
def rLtD (K : PySem.W.Frag) : R2 := fun x y H Q => ∃ d e, Dp K H x d ∧ Dp K H y e ∧ d.canLay0 = true ∧ e.canLay0 = true ∧ ordD d e = true ∧ d.depth ≤ 60 ∧ Q (.bl (ltD d e)) H
theorem op_ltD {X : Cx} (hu : X.A.units + 64 < cLine) : OpR X (compareOp .Lt) (rLtD X.K) := by
  intro pins s σ H x y v u Q I rx ry h
  obtain ⟨d, e, hd, he, c1, c2, o, dp, q⟩ := h
  obtain ⟨as, r1⟩ := Dp.reads I d x v hd rx
  obtain ⟨bs, r2⟩ := Dp.reads I e y u he ry
  exact lt_reads _ d e X.A s v u as bs (Nat.le_refl _) r1 r2 c1 c2 o (by omega) X.prog X.w _ _ ⟨.bl _, H, I, rfl, q⟩

/-! ### parts that give data -/
section
variable {K : PySem.W.Frag}
mutual
theorem ex_dp {H H' : Hp} (e : Ex H H') : ∀ {v : V} {d : PyData}, Dp K H v d → Dp K H' v d
  | _, _, .non => .non
  | _, _, .bl b => .bl b
  | _, _, .int i => .int i
  | _, _, .str x => .str x
  | _, _, .lst h a => .lst (ex_l e h) (ex_dps e a)
  | _, _, .tup h a => .tup (ex_t e h) (ex_dps e a)
theorem ex_dps {H H' : Hp} (e : Ex H H') : ∀ {vs : List V} {ds : List PyData}, DpAll K H vs ds → DpAll K H' vs ds
  | _, _, .nil => .nil
  | _, _, .cons h t => .cons (ex_dp e h) (ex_dps e t)
end
def EvD (K : PySem.W.Frag) (te : TE) (σ : L2.St) (H : Hp) (d : PyData) : Prop := ∀ H1, Ex H H1 → ∀ Q : VK, (∀ v H2, Ex H1 H2 → Dp K H2 v d → Q v H2) → te σ H1 Q
/-- a new list, a new tuple of data -/
def EvLD (K : PySem.W.Frag) (te : TE) (σ : L2.St) (H : Hp) (ds : List PyData) : Prop := ∀ H1, Ex H H1 → ∀ Q : VK, (∀ p H2 ys, H1 p = none → Ex H1 H2 → H2 p = some (.lst ys) → DpAll K H2 ys ds → Q (.ref p) H2) → te σ H1 Q
def EvUD (K : PySem.W.Frag) (te : TE) (σ : L2.St) (H : Hp) (ds : List PyData) : Prop := ∀ H1, Ex H H1 → ∀ Q : VK, (∀ p H2 ys, H1 p = none → Ex H1 H2 → H2 p = some (.tup ys) → DpAll K H2 ys ds → Q (.ref p) H2) → te σ H1 Q
def EvAD (K : PySem.W.Frag) (ta : TA) (σ : L2.St) (H : Hp) (ds : List PyData) : Prop := ∀ H1, Ex H H1 → ∀ Q : List V → Hp → Prop, (∀ vs H2, Ex H1 H2 → DpAll K H2 vs ds → Q vs H2) → ta σ H1 Q
variable {σ : L2.St} {H H' : Hp} {ta tb te : TE} {tr : TA} {x y z v : V} {d e : PyData} {ds es : List PyData}
theorem ed_val (h : Ev te σ H v) (hd : Dp K H v d) : EvD K te σ H d := fun H1 e Q q => h H1 e _ fun H2 e2 => q v H2 e2 (ex_dp (e.trans e2) hd)
theorem ed_tupU (h : EvUD K te σ H ds) : EvD K te σ H (.tuple ds) := fun H1 e Q q => h H1 e _ fun p H2 ys _ e2 h2 hd => q _ H2 e2 (.tup (st_of h2) hd)
theorem ed_lst (h : EvLD K te σ H ds) : EvD K te σ H (.list ds) := fun H1 e Q q => h H1 e _ fun p H2 ys _ e2 h2 hd => q _ H2 e2 (.lst (sq_of h2) hd)
theorem ad_nil : EvAD K tNil σ H [] := fun H1 _ _ q => q [] H1 (Ex.refl H1) .nil
theorem ad_cons (h : EvD K te σ H d) (hr : EvAD K tr σ H ds) : EvAD K (tCons te tr) σ H (d :: ds) := fun H1 e Q q =>
  h H1 e _ fun v H2 e2 hd => hr H2 (e.trans e2) _ fun vs H3 e3 hds => q (v :: vs) H3 (e2.trans e3) (.cons (ex_dp e3 hd) hds)
theorem dps_len : ∀ {vs : List V} {ds : List PyData} {H : Hp}, DpAll K H vs ds → vs.length = ds.length
  | _, _, _, .nil => rfl
  | _, _, _, .cons _ t => congrArg (· + 1) (dps_len t)
theorem ud_tup (h : EvAD K tr σ H ds) (hl : ds.length ≤ 100000) : EvUD K (tTup tr) σ H ds := fun H1 e Q q =>
  h H1 e _ fun vs H2 e2 hd => ⟨sz_of (by rw [dps_len hd]; exact hl), fun p hp => q p _ vs (fresh_back e2 hp) (e2.trans (Ex.new hp)) upd_same (ex_dps (Ex.new hp) hd)⟩
theorem ld_lst (h : EvAD K tr σ H ds) (hl : ds.length ≤ 100000) : EvLD K (tLst tr) σ H ds := fun H1 e Q q =>
  h H1 e _ fun vs H2 e2 hd => ⟨sz_of (by rw [dps_len hd]; exact hl), fun p hp => q p _ vs (fresh_back e2 hp) (e2.trans (Ex.new hp)) upd_same (ex_dps (Ex.new hp) hd)⟩
def SpD (K : PySem.W.Frag) (sp : Sp) (vs : List V) (H : Hp) (d : PyData) : Prop := ∀ H1, Ex H H1 → ∀ Q : VK, (∀ v H2, Ex H1 H2 → Dp K H2 v d → Q v H2) → ∀ E : XK, sp vs H1 Q E
def SpUD (K : PySem.W.Frag) (sp : Sp) (vs : List V) (H : Hp) (ds : List PyData) : Prop := ∀ H1, Ex H H1 → ∀ Q : VK, (∀ p H2 ys, H1 p = none → Ex H1 H2 → H2 p = some (.tup ys) → DpAll K H2 ys ds → Q (.ref p) H2) → ∀ E : XK, sp vs H1 Q E
theorem ud_call {sp : Sp} {dvs vs : List V} {E : XK} {ta : TA} (h : EvA ta σ H vs) (hs : SpUD K sp (vs ++ dvs) H ds) : EvUD K (tCall sp dvs E ta) σ H ds := fun H1 e Q q =>
  h H1 e _ fun H2 e2 => hs H2 (e.trans e2) Q (fun p H3 ys hp e3 h3 hd => q p H3 ys (fresh_back e2 hp) (e2.trans e3) h3 hd) E
/-- == , != , < of data -/
theorem ev_eqD (ha : EvD K ta σ H d) (hb : EvD K tb σ H e) (s1 : SeqAt.shaped d = true) (s2 : SeqAt.shaped e = true) : Ev (tOp (rEqD K) ta tb) σ H (.bl (PyData.eqv d e)) := fun H1 ex Q q =>
  ha H1 ex _ fun x H2 e2 h2 => hb H2 (ex.trans e2) _ fun y H3 e3 h3 => ⟨d, e, ex_dp e3 h2, h3, s1, s2, q H3 (e2.trans e3)⟩
theorem ev_neD (ha : EvD K ta σ H d) (hb : EvD K tb σ H e) (s1 : SeqAt.shaped d = true) (s2 : SeqAt.shaped e = true) : Ev (tOp (rNeD K) ta tb) σ H (.bl (!PyData.eqv d e)) := fun H1 ex Q q =>
  ha H1 ex _ fun x H2 e2 h2 => hb H2 (ex.trans e2) _ fun y H3 e3 h3 => ⟨d, e, ex_dp e3 h2, h3, s1, s2, q H3 (e2.trans e3)⟩
theorem ev_ltD (ha : EvD K ta σ H d) (hb : EvD K tb σ H e) (s1 : SeqAt.shaped d = true) (s2 : SeqAt.shaped e = true) (o : ordD d e = true) (dp : d.depth ≤ 60) : Ev (tOp (rLtD K) ta tb) σ H (.bl (ltD d e)) := fun H1 ex Q q =>
  ha H1 ex _ fun x H2 e2 h2 => hb H2 (ex.trans e2) _ fun y H3 e3 h3 => ⟨d, e, ex_dp e3 h2, h3, SeqAt.canLay_of_shaped s1, SeqAt.canLay_of_shaped s2, o, dp, q H3 (e2.trans e3)⟩
/-- tuple(a new list) -/
theorem ud_tuple {tl : TE} (h : EvLD K tl σ H ds) : EvUD K (tCB (fun xs H Q => ∃ p ys, xs = [.ref p] ∧ ((SqL K H p ys ∧ ∀ l, H l = none → Q (.ref l) (upd H l (.tup ys))) ∨ (SqT K H p ys ∧ Q (.ref p) H))) (tCons tl tNil)) σ H ds := fun H1 e Q q =>
  h H1 e _ fun p H2 ys _ e2 h2 hd => ⟨p, ys, rfl, .inl ⟨sq_of h2, fun l hl => q l _ ys (fresh_back e2 hl) (e2.trans (Ex.new hl)) upd_same (ex_dps (Ex.new hl) hd)⟩⟩
mutual
/-- no list within -/
def noL : PyData → Bool
  | .list _ => false
  | .tuple xs => noLs xs
  | .dict _ => false
  | .none | .bool _ | .int _ | .str _ => true
def noLs : List PyData → Bool
  | [] => true
  | x :: xs => noL x && noLs xs
end
mutual
theorem dp_upd {H : Hp} {D : Addr} {ys zs : List V} (hD : H D = some (.lst ys)) : ∀ {v : V} {d : PyData}, noL d = true → Dp K H v d → Dp K (upd H D (.lst zs)) v d
  | _, _, _, .non => .non
  | _, _, _, .bl b => .bl b
  | _, _, _, .int i => .int i
  | _, _, _, .str x => .str x
  | _, _, n, .lst h a => by simp [noL] at n
  | _, _, n, .tup h a => by
    refine .tup ?_ (dps_upd hD (by simpa [noL] using n) a)
    rcases h with (h | ⟨o, h⟩) | h
    · exact .inl (.inl (by rw [upd_ne (by intro z; rw [z, hD] at h; cases h)]; exact h))
    · exact .inl (.inr ⟨o, by rw [upd_ne (by intro z; rw [z, hD] at h; cases h)]; exact h⟩)
    · exact .inr h
theorem dps_upd {H : Hp} {D : Addr} {ys zs : List V} (hD : H D = some (.lst ys)) : ∀ {vs : List V} {ds : List PyData}, noLs ds = true → DpAll K H vs ds → DpAll K (upd H D (.lst zs)) vs ds
  | _, _, _, .nil => .nil
  | _, _, n, .cons h t => by
    have n' : (noL _ && noLs _) = true := n
    rw [Bool.and_eq_true] at n'
    exact .cons (dp_upd hD n'.1 h) (dps_upd hD n'.2 t)
end
theorem noLs_map {f : Nat → PyData} (h : ∀ i, noL (f i) = true) : ∀ l : List Nat, noLs (l.map f) = true
  | [] => rfl
  | i :: l => by
    show (noL (f i) && noLs (l.map f)) = true
    rw [h i, noLs_map h l]
    rfl
/-- [f(x) for x in xs] -/
theorem dps_snoc : ∀ {vs : List V} {ds : List PyData} {H : Hp} {v : V} {d : PyData}, DpAll K H vs ds → Dp K H v d → DpAll K H (vs ++ [v]) (ds ++ [d])
  | _, _, _, _, _, .nil, h => .cons h .nil
  | _, _, _, _, _, .cons a t, h => .cons a (dps_snoc t h)
theorem ld_lcL {a : Addr} {xs : List V} {tl : TE} {j : Nat} {vs : List Nat} (f : Nat → PyData) (h : Ev tl σ H (.ref a)) (hx : SqL K H a xs) (hz : xs.length ≤ 40000) (hn : ∀ i, noL (f i) = true) (hw : ∀ x, wipe ((wipe σ vs).set j (some x)) vs = wipe σ vs)
    (he : ∀ (i : Nat) (x : V) H1, Ex H H1 → xs[i]? = some x → EvD K te ((wipe σ vs).set j (some x)) H1 (f i)) :
    EvLD K (tLc (iList K tl) (gName j) tYes te vs) σ H ((List.range xs.length).map f) := fun H0 e0 Q q => h H0 e0 _ fun H1 e1 => ⟨a, rfl, ⟨xs, ex_l (e0.trans e1) hx⟩, fun D hD =>
  lc_list (xs := xs) (fun i H' => H1 D = none ∧ Ex H1 H' ∧ ∃ ys, H' D = some (.lst ys) ∧ DpAll K H' ys ((List.range i).map f)) ⟨hD, Ex.new hD, [], upd_same, .nil⟩ (fun i H' _ p => ex_l ((e0.trans e1).trans p.2.1) hx)
    (fun i x H' hi p => by
      obtain ⟨p1, p2, ys, p3, p4⟩ := p
      refine ⟨hw x, ?_⟩
      show te ((wipe σ vs).set j (some x)) H' fun y H4 => ∃ acc, H4 D = some (.lst acc) ∧ acc.length < sizeLine ∧ _
      refine he i x H' ((e0.trans e1).trans p2) hi H' (Ex.refl H') _ fun y H4 e4 hy => ⟨ys, e4 _ _ p3, sz_lt ?_, p1, Ex.mut (p2.trans e4) p1, ys ++ [y], upd_same, ?_⟩
      · have := dps_len p4
        rw [List.length_map, List.length_range] at this
        have := (List.getElem?_eq_some_iff.mp hi).1
        omega
      · rw [List.range_succ, List.map_append]
        exact dps_snoc (dps_upd (e4 _ _ p3) (noLs_map hn _) (ex_dps e4 p4)) (dp_upd (e4 _ _ p3) (hn i) hy))
    (fun H' p => by
      obtain ⟨p1, p2, ys, p3, p4⟩ := p
      exact q D H' ys (fresh_back e1 p1) (e1.trans p2) p3 p4)⟩
end

/-! ### classes of the program -/
def clsAt (K : PySem.W.Frag) (x : Str) : Addr := match PySem.W.nsIn K mainGlobals x with
  | some (some (.ref a)) => a
  | _ => 0
def NoAts (K : PySem.W.Frag) (C : Addr) : List Str → Prop
  | [] => True
  | f :: r => NoAttr K C f ∧ NoAts K C r
/-- a class by its name: plain, and none of these names stands in it -/
structure ClsD (K : PySem.W.Frag) (mg : Str → Option Value) (x : Str) (fs : List Str) : Prop where
  cl : Cls K (clsAt K x)
  at_ : mg x = some (.ref (clsAt K x))
  mks : PySem.W.makesIn K (clsAt K x) = true
  kc : PySem.W.keepIn K (.ref (clsAt K x)) = true
  na : NoAts K (clsAt K x) fs
/-- a method's def -/
def MetD (K : PySem.W.Frag) (x m qual : Str) (st : Stmt) (ps : List Str) : Prop := ∃ f fd, Meth K (clsAt K x) m f ∧ C8.Fun K m qual st f fd ∧ Binds K fd ps []
/-- a property's getter -/
def PrpD (K : PySem.W.Frag) (x m qual : Str) (st : Stmt) (ps : List Str) : Prop := ∃ p f fd, PropOf K (clsAt K x) m p f ∧ C8.Fun K m qual st f fd ∧ Binds K fd ps []
def Prp (P : Program) (w : World) (K : PySem.W.Frag) (mg : Str → Option Value) (base : Heap) (k : Nat) (C : Addr) (m : Str) (sp : Sp) : Prop := ∃ p f fd ps, Cls K C ∧ PropOf K C m p f ∧ FnOk P w K mg base C8.CX0 k f fd ps sp ∧ Binds K fd ps []
section
variable {P : Program} {w : World} {K : PySem.W.Frag} {mg : Str → Option Value} {base : Heap} {x m qual : Str} {st : Stmt} {ps N fs : List Str} {k : Nat} {sp : Sp}
theorem clsD_mk {C : Addr} (h : PySem.W.nsIn K mainGlobals x = some (some (.ref C))) (hm : mg x = some (.ref C)) (pg : PySem.W.plainGet K C Str.empty = true) (hd : PySem.W.hasDictIn K C = true) (po : PySem.W.plainOver K C = true) (sa : PySem.W.findIn K (.ref C) "__setattr__" = some (some (.builtin "object.__setattr__"))) (mk : PySem.W.makesIn K C = true) (kc : PySem.W.keepIn K (.ref C) = true) (na : NoAts K C fs) : ClsD K mg x fs := by
  have e : clsAt K x = C := by unfold clsAt; rw [h]
  exact ⟨by rw [e]; exact ⟨pg, hd, po, sa⟩, by rw [e]; exact hm, by rw [e]; exact mk, by rw [e]; exact kc, by rw [e]; exact na⟩
theorem metD_mk {C f : Addr} {fd : FuncData} (h : PySem.W.nsIn K mainGlobals x = some (some (.ref C))) (a : PySem.W.findIn K (.ref C) m = some (some (.ref f))) (i : PySem.W.isFn K (.ref f) = true) (kp : PySem.W.keepIn K (.ref f) = true) (F : C8.Fun K m qual st f fd) (b : Binds K fd ps []) : MetD K x m qual st ps := by
  have e : clsAt K x = C := by unfold clsAt; rw [h]
  exact ⟨f, fd, by rw [e]; exact ⟨a, i, kp⟩, F, b⟩
theorem prpD_mk {C p f : Addr} {fd : FuncData} {r : List Value} (h : PySem.W.nsIn K mainGlobals x = some (some (.ref C))) (a : PySem.W.findIn K (.ref C) m = some (some (.ref p))) (g : PySem.W.specialIn K (.ref p) "__get__" = some (some (.builtin "property.__get__"))) (tk : PySem.W.takesIn K (.ref p) = some true) (rc : PySem.W.recIn K p "property" = some (.ref f :: r)) (F : C8.Fun K m qual st f fd) (b : Binds K fd ps []) : PrpD K x m qual st ps := by
  have e : clsAt K x = C := by unfold clsAt; rw [h]
  exact ⟨p, f, fd, by rw [e]; exact ⟨a, g, tk, r, rc⟩, F, b⟩
theorem met_of (C : ClsD K mg x fs) (D : MetD K x m qual st ps) (S : FnScope N ps (C8.fnScope st)) (len : ∀ vs H Q E, sp vs H Q E → vs.length = ps.length)
    (hbody : ∀ (f : Addr) (cdv : Value) (A : Around) (outer : List Env) (s : Shared) (H : Hp) (vs : List V) (Q : VK) (E : XK), Room k (A.deeper (envOfC qual (C8.fnScope st) s.heap.objs.size f cdv)) → sp vs H Q E →
      ∃ t, PSs (cxOf C8.CX0 P w K mg base N qual (C8.fnScope st) f cdv A outer s H E).nox (C8.fnBody st) t ∧ t { nx := fun _ H' => Q .non H', rt := Q } (start N vs) H) : C8.Met P w K mg base (k + 1) (clsAt K x) m sp [] := by
  obtain ⟨f, fd, M, F, b⟩ := D
  exact C8.met0 C.cl M F b S len (hbody f)
theorem prp_of (C : ClsD K mg x fs) (D : PrpD K x m qual st ps) (S : FnScope N ps (C8.fnScope st)) (len : ∀ vs H Q E, sp vs H Q E → vs.length = ps.length)
    (hbody : ∀ (f : Addr) (cdv : Value) (A : Around) (outer : List Env) (s : Shared) (H : Hp) (vs : List V) (Q : VK) (E : XK), Room k (A.deeper (envOfC qual (C8.fnScope st) s.heap.objs.size f cdv)) → sp vs H Q E →
      ∃ t, PSs (cxOf C8.CX0 P w K mg base N qual (C8.fnScope st) f cdv A outer s H E).nox (C8.fnBody st) t ∧ t { nx := fun _ H' => Q .non H', rt := Q } (start N vs) H) : Prp P w K mg base (k + 1) (clsAt K x) m sp := by
  obtain ⟨p, f, fd, M, F, b⟩ := D
  exact ⟨p, f, fd, ps, C.cl, M, C8.fn0 F S len (hbody f), b⟩
theorem mak_of (C : ClsD K mg x fs) (D : MetD K x "__init__" qual st ps) (S : FnScope N ps (C8.fnScope st)) (len : ∀ vs H Q E, sp vs H Q E → vs.length = ps.length)
    (hbody : ∀ (f : Addr) (cdv : Value) (A : Around) (outer : List Env) (s : Shared) (H : Hp) (vs : List V) (Q : VK) (E : XK), Room k (A.deeper (envOfC qual (C8.fnScope st) s.heap.objs.size f cdv)) → sp vs H Q E →
      ∃ t, PSs (cxOf C8.CX0 P w K mg base N qual (C8.fnScope st) f cdv A outer s H E).nox (C8.fnBody st) t ∧ t { nx := fun _ H' => Q .non H', rt := Q } (start N vs) H) : C8.Mak P w K mg base (k + 1) x (clsAt K x) sp [] := by
  obtain ⟨f, fd, M, F, b⟩ := D
  exact C8.mak0 ⟨C.mks, M.at_, M.fn, C.kc⟩ C.at_ F b .nil S len (hbody f)
end
section
variable {X : Cx} {k j : Nat} {C : Addr} {m : Str} {sp : Sp} {e : Expr} {pos : Pos} {ta : TE}
theorem pe_pr (c : Prp X.prog X.w X.K X.mg X.base k C m sp) (hr : Room j X.A) (hk : k + 1 ≤ j) (he : PE X e ta) (hab : attributeBase e m X.env (eval e X.env) = eval e X.env) : PE X (.Attribute e m pos) (tProp C sp [] C8.E0 ta) := by
  obtain ⟨p, f, fd, ps, hc, hp, F, b⟩ := c
  exact pe_prop he hc hp F (hr.mono hk) b .nil C8.pass0 hab
end

/-! ### x == y by an own __eq__, whatever it answers; isinstance of an own class -/
def rEqOwn (C : Addr) (sp : Sp) : R2 := fun x y H Q => ∃ a dx fs, x = .ref a ∧ H a = some (.ins C dx fs) ∧ ((∃ b dy gs, y = .ref b ∧ H b = some (.ins C dy gs)) ∨ ∃ i, y = .int i) ∧ sp [x, y] H (fun v H' => (∃ b, v = .bl b) ∧ Q v H') C8.E0
theorem op_eqOwn {X : Cx} {k j : Nat} {C : Addr} {sp : Sp} (c : C8.Met X.prog X.w X.K X.mg X.base k C "__eq__" sp []) (hr : Room j X.A) (hk : k ≤ j) (ni : PySem.W.notFirst X.K C (.type "int") = true) : OpR X (compareOp .Eq) (rEqOwn C sp) := by
  intro pins s σ H x y v u Q I rx ry hq
  obtain ⟨a, dx, fs, rfl, ha, hy, h⟩ := hq
  obtain ⟨f, fd, ps, ds, hc, hm, F, hb, hd⟩ := c.ex
  cases hd
  cases rx
  show wpAny (model X.prog X.w) X.A (richCompare .Eq (.ref a) u) (EP X pins σ Q) X.xe s
  obtain ⟨mA, J, _⟩ := ins_get I.hok ha
  obtain ⟨od, J, _⟩ := J.look
  obtain ⟨m, hF⟩ := I.fr
  have r2 : Vals [V.ref a, y] [Value.ref a, u] := .cons rfl (.cons ry .nil)
  have e0 : Env0 X.prog X.w X.K X.mg X.base X.A X.stack s H := I.env0
  have hl := F.len _ _ _ _ h
  have run : wpAny (model X.prog X.w) X.A (PySem.call (.ref f) [.ref a, u]) (PySem.W.CmpBack (EP X pins σ Q)) X.xe s := by
    refine wpAny_call (codeAny_mono (F.run X.A X.stack s H ⟨[.ref a, u], []⟩ [.ref a, u] [.ref a, y] _ C8.E0 (hr.mono hk) e0 (by
      have := hb s [.ref a, u] I.kIn (by simpa using hl)
      simpa using this) r2 h) fun r s' hq => ?_)
    cases r with
    | error e => exact False.elim hq
    | ok fl =>
      cases fl with
      | ret w =>
        obtain ⟨z, H', I', rz, ⟨b, ez⟩, qz⟩ := I.after hq
        subst ez
        cases rz
        exact ⟨.bl b, H', I', rfl, qz⟩
      | next => exact False.elim hq
      | brk => exact False.elim hq
      | cont => exact False.elim hq
  rcases hy with ⟨b, dy, gs, rfl, hb2⟩ | ⟨i, rfl⟩
  · cases ry
    obtain ⟨mB, J', _⟩ := ins_get I.hok hb2
    obtain ⟨od', J', _⟩ := J'.look
    exact PySem.W.cmp_K (op := .Eq) (tb := .ref C) hr.units0 hF I.ok.mod.kin J J'.type (by simp [PySem.W.notFirst]) hm.at_ hm.fn run
  · obtain ⟨t, rfl⟩ := ry
    exact PySem.W.cmp_K (op := .Eq) (tb := .type "int") hr.units0 hF I.ok.mod.kin J (.of_pure rfl) ni hm.at_ hm.fn run
/-- isinstance(x, C): an own instance, or an int -/
theorem call_isOwn {X : Cx} {C : Addr} (c : C8.InsC X.K C) (ki : PySem.W.kitOne X.K (.type "int") (.ref C) = some false) : CallR X (.builtin "isinstance") (fun xs H Q => ∃ x, xs = [x, .ref C] ∧ ((∃ a dx fs, x = .ref a ∧ H a = some (.ins C dx fs) ∧ Q (.bl true) H) ∨ ∃ i, x = .int i ∧ Q (.bl false) H)) := by
  intro pins s σ H xs us Q I r h
  obtain ⟨x, rfl, h⟩ := h
  obtain ⟨u, w', rfl, ru, rw'⟩ := vals2 r
  cases rw'
  rcases h with ⟨a, dx, fs, rfl, ha, q⟩ | ⟨i, rfl, q⟩
  · exact isinst_ok I ru (TyOf.ins ha c.cl c.ha c.hn c.htk c.hm) c.me fun tk => ⟨.bl true, H, I.tok _, rfl, q⟩
  · exact isinst_ok I ru (TyOf.int i) ki fun tk => ⟨.bl false, H, I.tok _, rfl, q⟩
/-- what == and isinstance ask of an own class, by its name -/
structure OwnI (K : PySem.W.Frag) (x : Str) : Prop where
  ins : C8.InsC K (clsAt K x)
  ki : PySem.W.kitOne K (.type "int") (.ref (clsAt K x)) = some false
  ni : PySem.W.notFirst K (clsAt K x) (.type "int") = true
theorem ownI_mk {K : PySem.W.Frag} {x : Str} {C : Addr} (h : PySem.W.nsIn K mainGlobals x = some (some (.ref C))) (cl : Cls K (clsAt K x)) (ha : PySem.W.findIn K (.ref C) "__class__" = some (some (.builtin "object.__class__"))) (hn : PySem.W.specialIn K (.builtin "object.__class__") "__get__" = some (some (.builtin "getset_descriptor.__get__"))) (ht : PySem.W.takesIn K (.builtin "object.__class__") = some true) (hm : PySem.W.mroIn K C (.type "object") = some true)
    (me : PySem.W.kitOne K (.ref C) (.ref C) = some true) (ki : PySem.W.kitOne K (.type "int") (.ref C) = some false) (ni : PySem.W.notFirst K C (.type "int") = true) : OwnI K x := by
  have e : clsAt K x = C := by unfold clsAt; rw [h]
  rw [← e] at ha hm me ki ni
  exact ⟨⟨cl, ha, hn, ht, hm, me⟩, ki, ni⟩
theorem gcls {K : PySem.W.Frag} {mg : Str → Option Value} {x : Str} {fs : List Str} (c : ClsD K mg x fs) : ∃ u, mg x = some u ∧ RelV (.ref (clsAt K x)) u := ⟨_, c.at_, rfl⟩

/-! ### further loops: reversed(a list), range(n - 1, -1, -1), a new tuple -/
section
variable {K : PySem.W.Frag} {σ : L2.St} {H H' : Hp} {D : Ends} {tz tu : TS} {te tl : TE} {g : TG}
theorem s_break (h : D.bk σ H) : tBreak D σ H := h
theorem q_forRev {a : Addr} {xs : List V} {tr : TA} {j : Nat} (h : EvA tr σ H [.ref a]) (hS : SqL K H a xs) (Pv : Nat → L2.St → Hp → Prop) (h0 : ∀ H1, Ex H H1 → Pv 0 σ H1) (hl : ∀ i σ' H', Pv i σ' H' → SqL K H' a xs)
    (hs : ∀ (i : Nat) x σ' H', i < xs.length → xs[xs.length - 1 - i]? = some x → Pv i σ' H' → tu { D with nx := Pv (i + 1), ct := Pv (i + 1), bk := tz D } (σ'.set j (some x)) H') (hd : ∀ σ' H', Pv xs.length σ' H' → tz D σ' H') : tSeq (tFor (iRev K tr) (gName j) tu) tz D σ H :=
  h H (Ex.refl H) _ fun H1 e => ⟨a, xs, rfl, ex_l e hS, RT.for_Itv (D := { D with nx := tz D }) Pv (h0 H1 e) hl hs hd⟩
theorem s_forDown {tr : TA} {j n : Nat} (h : EvA tr σ H [.int ((n : Int) - 1), .int (-1), .int (-1)]) (hn : n ≤ 100000) (Pv : Nat → L2.St → Hp → Prop) (h0 : ∀ H1, Ex H H1 → Pv 0 σ H1)
    (hs : ∀ (i : Nat) σ' H', i < n → Pv i σ' H' → tu { D with nx := Pv (i + 1), ct := Pv (i + 1), bk := D.nx } (σ'.set j (some (.int (((n - 1 - i : Nat) : Int))))) H') (hd : ∀ σ' H', Pv n σ' H' → D.nx σ' H') : tFor (iRng3 tr) (gName j) tu D σ H := by
  refine h H (Ex.refl H) _ fun H1 e => ⟨(n : Int) - 1, -1, -1, ((n : Int) - 1 - (-1)).toNat, rfl, RgC.neg (by omega) (by omega) (by omega) (by omega), for_rangeC Pv (h0 H1 e) (fun i σ' H' hi p => ?_) fun σ' H' p => hd σ' H' ?_⟩
  · have e0 : (n : Int) - 1 + (i : Nat) * (-1) = ((n - 1 - i : Nat) : Int) := by omega
    show tu { D with nx := Pv (i + 1), ct := Pv (i + 1), bk := D.nx } (σ'.set j (some (.int ((n : Int) - 1 + (i : Nat) * (-1))))) H'
    rw [e0]
    exact hs i σ' H' (by omega) p
  · rw [show ((n : Int) - 1 - (-1)).toNat = n by omega] at p
    exact p
theorem q_forDown {tr : TA} {j n : Nat} (h : EvA tr σ H [.int ((n : Int) - 1), .int (-1), .int (-1)]) (hn : n ≤ 100000) (Pv : Nat → L2.St → Hp → Prop) (h0 : ∀ H1, Ex H H1 → Pv 0 σ H1)
    (hs : ∀ (i : Nat) σ' H', i < n → Pv i σ' H' → tu { D with nx := Pv (i + 1), ct := Pv (i + 1), bk := tz D } (σ'.set j (some (.int (((n - 1 - i : Nat) : Int))))) H') (hd : ∀ σ' H', Pv n σ' H' → tz D σ' H') : tSeq (tFor (iRng3 tr) (gName j) tu) tz D σ H :=
  s_forDown (D := { D with nx := tz D }) h hn Pv h0 hs hd
/-- over a new tuple: the turns' word speaks of what grows out of H1 -/
theorem q_forU {xs : List V} {j : Nat} (h : EvU tl σ H xs) (Pv : Nat → L2.St → Hp → Prop) (h0 : Pv 0 σ H) (hm : ∀ i σ' H1 H2, Pv i σ' H1 → Ex H1 H2 → Pv i σ' H2)
    (hs : ∀ i x σ' H1, xs[i]? = some x → Pv i σ' H1 → ∀ N : L2.St → Hp → Prop, (∀ σ2 H2, Pv (i + 1) σ2 H2 → Ex H1 H2 → N σ2 H2) → tu { D with nx := N, ct := N, bk := tz D } (σ'.set j (some x)) H1) (hd : ∀ σ' H', Pv xs.length σ' H' → tz D σ' H') : tSeq (tFor (iTup K tl) (gName j) tu) tz D σ H :=
  h H (Ex.refl H) _ fun p H1 hp e h1 => ⟨p, rfl, ⟨xs, st_of h1⟩, for_tup (D := { D with nx := tz D }) (fun i σ' H' => Pv i σ' H' ∧ H' p = some (.tup xs)) ⟨hm _ _ _ _ h0 e, h1⟩ (fun i σ' H' _ q => st_of q.2)
    (fun i x σ' H' hx q => hs i x σ' H' hx q.1 _ fun σ2 H2 q2 e2 => ⟨q2, e2 _ _ q.2⟩) fun σ' H' q => hd σ' H' q.1⟩
end

def limV (n : Int) : V := if -1000000000000000 ≤ n ∧ n ≤ 1000000000000000 then .int n else .non
/-! ### the mathematics: digits -/
abbrev dval : List Nat → Nat := NumText.digitsVal
def isD (c : Nat) : Bool := decide (48 ≤ c) && decide (c ≤ 57)
def digs (l : List Nat) : Bool := !l.isEmpty && l.all isD
theorem uni_dig : ∀ c : Fin 128, Unicode.isDigit c.1 = isD c.1 := by decide +kernel
theorem all_dig : ∀ l : List Nat, (l.all Unicode.isDigit && l.all fun c => decide (c < 128)) = l.all isD
  | [] => rfl
  | c :: r => by
    have ih := all_dig r
    rw [List.all_cons, List.all_cons, List.all_cons, ← ih]
    by_cases h : c < 128
    · rw [decide_eq_true h, show Unicode.isDigit c = isD c from uni_dig ⟨c, h⟩]
      cases isD c <;> cases r.all Unicode.isDigit <;> simp
    · have : isD c = false := by
        unfold isD
        rw [decide_eq_false (show ¬ c ≤ 57 by omega), Bool.and_false]
      rw [this, decide_eq_false h]
      simp
theorem digs_txt (l : List Nat) : (Txt.isdigit (SX.S l) && Txt.isascii (SX.S l)) = digs l := by
  unfold Txt.isdigit Txt.isascii digs
  rw [SX.S_len, show (SX.S l).cps.all Unicode.isDigit = l.all Unicode.isDigit from List.all_toArray, show ((SX.S l).cps.all fun c => decide (c < 128)) = l.all fun c => decide (c < 128) from List.all_toArray, Bool.and_assoc, all_dig]
  cases l <;> rfl
theorem mem_dig {l : List Nat} (h : l.all isD = true) : NumText.AllDigits l := fun c hc => by
  have := List.all_eq_true.mp h c hc
  unfold isD at this
  rw [Bool.and_eq_true, decide_eq_true_eq, decide_eq_true_eq] at this
  exact this
theorem fold_app (l : List Nat) : ∀ a : Nat, l.foldl (fun acc c => acc * 10 + (c - 48)) a = a * 10 ^ l.length + dval l := by
  induction l with
  | nil => intro a; simp [dval, NumText.digitsVal]
  | cons c r ih =>
    intro a
    show r.foldl _ (a * 10 + (c - 48)) = _ + r.foldl _ (0 * 10 + (c - 48))
    rw [ih, ih, List.length_cons, Nat.pow_succ, Nat.add_mul, Nat.zero_mul, Nat.zero_add, Nat.mul_assoc, Nat.mul_comm 10, Nat.add_assoc]
theorem dval_app (l r : List Nat) : dval (l ++ r) = dval l * 10 ^ r.length + dval r := by
  show (l ++ r).foldl _ 0 = _
  rw [List.foldl_append, fold_app]
  rfl
theorem dval_cons (c : Nat) (r : List Nat) : dval (c :: r) = (c - 48) * 10 ^ r.length + dval r := by
  have := dval_app [c] r
  rw [show dval [c] = c - 48 from by show 0 * 10 + (c - 48) = _; omega] at this
  exact this
theorem dval_lt : ∀ l : List Nat, l.all isD = true → dval l < 10 ^ l.length
  | [], _ => by decide
  | c :: r, h => by
    rw [List.all_cons, Bool.and_eq_true] at h
    have ih := dval_lt r h.2
    have hc := mem_dig (l := [c]) (by rw [List.all_cons, h.1]; rfl) c (List.mem_singleton.mpr rfl)
    rw [dval_cons, List.length_cons, Nat.pow_succ]
    have : (c - 48) * 10 ^ r.length ≤ 9 * 10 ^ r.length := Nat.mul_le_mul_right _ (by omega)
    omega
def noZ (l : List Nat) : List Nat := l.dropWhile (fun c => c == 48)
theorem dval_noZ : ∀ l : List Nat, dval (noZ l) = dval l
  | [] => rfl
  | c :: r => by
    unfold noZ
    rw [List.dropWhile_cons]
    split
    · rename_i h
      rw [show List.dropWhile (fun c => c == 48) r = noZ r from rfl, dval_noZ r, dval_cons, beq_iff_eq.mp h, Nat.sub_self, Nat.zero_mul, Nat.zero_add]
    · rfl
theorem all_noZ : ∀ {l : List Nat}, l.all isD = true → (noZ l).all isD = true
  | [], _ => rfl
  | c :: r, h => by
    unfold noZ
    rw [List.dropWhile_cons]
    split
    · exact all_noZ (by rw [List.all_cons, Bool.and_eq_true] at h; exact h.2)
    · exact h
theorem noZ_len (l : List Nat) : (noZ l).length ≤ l.length := (List.dropWhile_suffix _).length_le
/-- more than sixteen digits behind the zeros: beyond every limit -/
theorem noZ_big {l : List Nat} (h : l.all isD = true) (hl : 16 < (noZ l).length) : 10 ^ 16 ≤ dval l := by
  have ha := all_noZ h
  rw [← dval_noZ]
  have hd : ∀ c r, noZ l = c :: r → ¬ c = 48 := fun c r e hc => by
    have := List.head?_dropWhile_not (fun c => c == 48) l
    rw [show List.dropWhile (fun c => c == 48) l = c :: r from e] at this
    simp [hc] at this
  generalize noZ l = z at *
  cases z with
  | nil => simp at hl
  | cons c r =>
    have hc := mem_dig (l := [c]) (by rw [List.all_cons, Bool.and_eq_true] at ha; rw [List.all_cons, ha.1]; rfl) c (List.mem_singleton.mpr rfl)
    have hn := hd c r rfl
    rw [dval_cons]
    have h1 : 10 ^ 16 ≤ 10 ^ r.length := Nat.pow_le_pow_right (by decide) (by simp at hl; omega)
    have h2 : 1 * 10 ^ r.length ≤ (c - 48) * 10 ^ r.length := Nat.mul_le_mul_right _ (by omega)
    omega
theorem con48 : (SX.S [48]).cps.contains = fun c => c == 48 := by
  funext c
  show (#[48] : Array Nat).contains c = _
  rw [Bool.eq_iff_iff]
  simp
theorem tl_S (l : List Nat) : TL.tl (SX.S l) = l := TL.tl_mk l
theorem lstrip_S (l : List Nat) : Txt.lstripChars (SX.S l) (SX.S [48]) = SX.S (noZ l) := by
  unfold Txt.lstripChars
  rw [PySem.W.stripBy_eq, con48]
  apply TL.ext_tl
  unfold PySem.W.stripped
  simp only [if_true, Bool.false_eq_true, if_false]
  rw [TL.tl_strSub, TL.len_tl, tl_S, tl_S]
  show List.take _ (List.drop (List.takeWhile (fun c => c == 48) l).length l) = _
  have e : List.drop (List.takeWhile (fun c => c == 48) l).length l = noZ l := by
    have h := List.takeWhile_append_dropWhile (p := fun c => c == 48) (l := l)
    conv => lhs; arg 2; rw [← h]
    rw [List.drop_left]
    rfl
  rw [e]
  apply List.take_of_length_le
  have h := congrArg List.length (List.takeWhile_append_dropWhile (p := fun c => c == 48) (l := l))
  rw [List.length_append] at h
  have : (noZ l).length = (List.dropWhile (fun c => c == 48) l).length := rfl
  omega
/-- without zeros at the end -/
def noE (l : List Nat) : List Nat := (noZ l.reverse).reverse
theorem rstrip_S (l : List Nat) : Txt.rstripChars (SX.S l) (SX.S [48]) = SX.S (noE l) := by
  unfold Txt.rstripChars
  rw [PySem.W.stripBy_eq, con48]
  apply TL.ext_tl
  unfold PySem.W.stripped
  simp only [if_true, Bool.false_eq_true, if_false]
  rw [TL.tl_strSub, SX.S_len, tl_S, tl_S]
  show List.take (l.length - (List.takeWhile (fun c => c == 48) (List.drop 0 l).reverse).length - 0) (List.drop 0 l) = _
  rw [List.drop_zero, Nat.sub_zero]
  have h := List.takeWhile_append_dropWhile (p := fun c => c == 48) (l := l.reverse)
  have h2 : l = noE l ++ (List.takeWhile (fun c => c == 48) l.reverse).reverse := by
    have := congrArg List.reverse h
    rw [List.reverse_append, List.reverse_reverse] at this
    exact this.symm
  have h3 := congrArg List.length h2
  rw [List.length_append, List.length_reverse] at h3
  conv => lhs; arg 2; rw [h2]
  rw [show l.length - (List.takeWhile (fun c => c == 48) l.reverse).length = (noE l).length by omega, List.take_left]
theorem starts_S (l : List Nat) : Txt.startswith (SX.S l) (SX.S [45]) = decide (l.head? = some 45) := by
  cases l with
  | nil => rfl
  | cons c r =>
    unfold Txt.startswith
    rw [SX.S_len, SX.S_len, decide_eq_true (by simp), Bool.true_and]
    rw [Bool.eq_iff_iff, decide_eq_true_eq]
    show Builtin.Str.subAt (SX.S (c :: r)) (SX.S [45]) 0 = true ↔ some c = some 45
    unfold Builtin.Str.subAt
    simp
    show List.take 1 (c :: r) = [45] ↔ c = 45
    simp
/-- the text without a minus sign in front -/
def noM (l : List Nat) : List Nat := if l.head? = some 45 then l.drop 1 else l
def sgI (l : List Nat) (n : Nat) : Int := if l.head? = some 45 then -(n : Int) else (n : Int)
def rdI (l : List Nat) : V := if digs (noM l) = true then limV (sgI l (dval (noM l))) else .non
theorem numL_pad {r : Nat} (h : r < 10000) : List.replicate (4 - (TL.numL r).length) 48 ++ TL.numL r = [48 + r / 1000, 48 + r / 100 % 10, 48 + r / 10 % 10, 48 + r % 10] := by
  by_cases h1 : r < 10
  · rw [TL.numL_lt h1, show r / 1000 = 0 by omega, show r / 100 = 0 by omega, show r / 10 = 0 by omega, show r % 10 = r by omega]
    rfl
  by_cases h2 : r < 100
  · rw [TL.numL_step (by omega), TL.numL_lt (by omega), show r / 1000 = 0 by omega, show r / 100 = 0 by omega, show r / 10 % 10 = r / 10 by omega]
    rfl
  by_cases h3 : r < 1000
  · rw [TL.numL_step (by omega), TL.numL_step (by omega), TL.numL_lt (by omega), show r / 1000 = 0 by omega, show r / 10 / 10 = r / 100 by omega, show r / 100 % 10 = r / 100 by omega]
    rfl
  · rw [TL.numL_step (by omega), TL.numL_step (by omega), TL.numL_step (by omega), TL.numL_lt (by omega), show r / 10 / 10 / 10 = r / 1000 by omega, show r / 10 / 10 = r / 100 by omega]
    rfl
def four (r : Nat) : List Nat := [48 + r / 1000, 48 + r / 100 % 10, 48 + r / 10 % 10, 48 + r % 10]
theorem zfill_S {r : Nat} (h : r < 10000) : Txt.zfill (SX.S (TL.numL r)) 4 = SX.S (four r) := by
  unfold Txt.zfill four
  rw [← numL_pad h, SX.S_len]
  split
  · rename_i hl
    rw [show 4 - (TL.numL r).length = 0 by omega]
    rfl
  · unfold zfilled
    have hd := TL.numL_digits r
    cases e : TL.numL r with
    | nil => exact absurd e (TL.numL_ne r)
    | cons c t =>
      have hc := hd c (by rw [e]; exact List.mem_cons_self)
      have eg : (SX.S (c :: t)).cps[0]? = some c := rfl
      have e43 : ¬ c = 43 := by omega
      have e45 : ¬ c = 45 := by omega
      rw [eg]
      split
      · rename_i h; exact absurd (Option.some.inj h) e43
      · rename_i h; exact absurd (Option.some.inj h) e45
      · rw [Builtin.Str.padded.eq_1]
        apply TL.ext_tl
        rw [tl_S]
        show ((Array.replicate _ 48 ++ (SX.S (c :: t)).cps ++ Array.replicate 0 0) : Array Nat).toList = _
        simp [SX.S]
def dtx (n : Int) : List Nat := (if n < 0 then [45] else []) ++ (TL.numL (n.natAbs / 10000) ++ (if n.natAbs % 10000 = 0 then [] else 46 :: noE (four (n.natAbs % 10000))))

/-! ### texts as lists of codes: further words -/
theorem c48 : PySem.Str.ofString "0" = SX.S [48] := by decide +kernel
theorem c45 : PySem.Str.ofString "-" = SX.S [45] := by decide +kernel
theorem c46 : PySem.Str.ofString "." = SX.S [46] := by decide +kernel
theorem c00 : PySem.Str.ofString "" = SX.S [] := by decide +kernel
theorem mt_ljustF {X : Cx} : MtR X "str.ljust" fun x xs H Q => ∃ (a f : Str) (i : Int), x = .str a ∧ xs = [.int i, .str f] ∧ PadOk i = true ∧ f.length = 1 ∧ Q (.str (Txt.ljustF a i (f.cps.getD 0 0))) H := by
  intro pins s σ H x xs v us Q I rx rv h
  obtain ⟨a, f, i, rfl, rfl, hp, hf, q⟩ := h
  obtain ⟨t, rfl⟩ := (show ∃ t, v = Value.str a t from rx)
  cases rv with
  | cons r1 rv =>
    cases rv with
    | cons r2 rv =>
      cases rv
      obtain ⟨u, rfl⟩ := r1
      obtain ⟨u2, rfl⟩ := r2
      exact ljust_fill hp hf fun t' k => ⟨.str _, H, I.tok k, ⟨t', rfl⟩, q⟩
section
variable {K : PySem.W.Frag} {σ : L2.St} {H : Hp} {D : Ends} {te ta tl th tb : TE}
theorem ev_m0 {r : V → List V → Hp → VK → Prop} {a : Str} {z : V} (h : Ev ta σ H (.str a)) (hr : ∀ H1 Q, (∀ H2, Ex H1 H2 → Q z H2) → r (.str a) [] H1 Q) : Ev (tM0 r ta) σ H z := fun H1 e Q q => h H1 e _ fun H2 e2 => ⟨⟨_, rfl⟩, hr H2 Q fun H3 e3 => q H3 (e2.trans e3)⟩
theorem ev_m1 {r : V → List V → Hp → VK → Prop} {a : Str} {y z : V} (h : Ev ta σ H (.str a)) (hb : Ev tb σ H y) (hr : ∀ H1 Q, (∀ H2, Ex H1 H2 → Q z H2) → r (.str a) [y] H1 Q) : Ev (tM1 r ta tb) σ H z := fun H1 e Q q =>
  h H1 e _ fun H2 e2 => ⟨⟨_, rfl⟩, hb H2 (e.trans e2) _ fun H3 e3 => hr H3 Q fun H4 e4 => q H4 ((e2.trans e3).trans e4)⟩
theorem ev_bmS {r : V → List V → Hp → VK → Prop} {a : Str} {z : V} {tr : TA} {ys : List V} (h : Ev ta σ H (.str a)) (hb : EvA tr σ H ys) (hr : ∀ H1 Q, (∀ H2, Ex H1 H2 → Q z H2) → r (.str a) ys H1 Q) : Ev (tBM K "str" r ta tr) σ H z := fun H1 e Q q =>
  h H1 e _ fun H2 e2 => ⟨rfl, hb H2 (e.trans e2) _ fun H3 e3 => hr H3 Q fun H4 e4 => q H4 ((e2.trans e3).trans e4)⟩
theorem ev_intS {a : Str} {n : Int} (h : Ev ta σ H (.str a)) (hn : intText? a = some n) (hl : a.length ≤ 640) : Ev (tCB (fun xs H Q => ∃ a n, xs = [.str a] ∧ intText? a = some n ∧ a.length ≤ 640 ∧ Q (.int n) H) (tCons ta tNil)) σ H (.int n) := fun H1 e Q q =>
  h H1 e _ fun H2 e2 => ⟨a, n, rfl, hn, hl, q H2 e2⟩
theorem ev_slF {to : TO} {l : List Nat} {i : Nat} (ha : Ev ta σ H (.str (SX.S l))) (hl : Ev tl σ H (.int (i : Int))) (hn : ∀ σ H Q, Q none H → to σ H Q) (hz : l.length ≤ 100000) : Ev (tSl C8.rSlX ta (tPart tl) to) σ H (.str (SX.S (l.drop i))) := fun H1 e Q q =>
  ha H1 e _ fun H2 e2 => hl H2 (e.trans e2) _ fun H3 e3 => ⟨_, rfl, hn _ _ _ ⟨SX.S l, rfl, by rw [SX.S_len]; exact sz_of hz, by rw [SX.slice_from (by omega), Int.toNat_natCast]; exact q H3 (e2.trans e3)⟩⟩
theorem eu_part {a b : Str} (ha : Ev ta σ H (.str a)) (hb : Ev tb σ H (.str b)) (h1 : (b.length == 0) = false) (hz : a.length ≤ 100000) : EvU (tM1 (fun x xs H Q => ∃ a b, x = .str a ∧ xs = [.str b] ∧ (b.length == 0) = false ∧ a.length ≤ sizeLine ∧ ∀ p, H p = none → Q (.ref p) (upd H p (.tup [.str (Txt.partition a b).1, .str (Txt.partition a b).2.1, .str (Txt.partition a b).2.2]))) ta tb) σ H [.str (Txt.partition a b).1, .str (Txt.partition a b).2.1, .str (Txt.partition a b).2.2] := fun H1 e Q q =>
  ha H1 e _ fun H2 e2 => ⟨⟨_, rfl⟩, hb H2 (e.trans e2) _ fun H3 e3 => ⟨a, b, rfl, rfl, h1, sz_of hz, fun p hp => q p _ (fresh_back (e2.trans e3) hp) ((e2.trans e3).trans (Ex.new hp)) upd_same⟩⟩
end
theorem js_str {t : TE} {ts : List TE} {acc y : Str} {σ : L2.St} {H : Hp} {Q : Str → Hp → Prop} (h : Ev t σ H (.str y)) (hz : (acc ++ y).length ≤ 100000) (k : ∀ H1, Ex H H1 → tJs ts (acc ++ y) σ H1 Q) : tJs (t :: ts) acc σ H Q := h H (Ex.refl H) _ fun H1 e1 => ⟨y, rfl, sz_of hz, k H1 e1⟩
theorem pre1 {c : Nat} {l : List Nat} {i : Nat} : TL.pre [c] (l.drop i) = true ↔ l[i]? = some c := by
  by_cases h : i < l.length
  · rw [List.drop_eq_getElem_cons h, List.getElem?_eq_getElem h]
    constructor
    · intro e
      by_cases e2 : l[i] = c
      · rw [e2]
      · rw [TL.pre_of_head [] _ e2] at e
        exact nomatch e
    · intro e
      rw [Option.some.inj e]
      exact TL.pre_self [c] _
  · rw [List.drop_eq_nil_of_le (by omega), List.getElem?_eq_none (by omega), TL.pre_nil (List.cons_ne_nil _ _)]
    simp
theorem find1 (l : List Nat) (c : Nat) : (Txt.find (SX.S l) (SX.S [c]) = -1 ∧ ∀ i : Nat, ¬ l[i]? = some c) ∨ ∃ i : Nat, Txt.find (SX.S l) (SX.S [c]) = (i : Int) ∧ l[i]? = some c ∧ ∀ k : Nat, k < i → ¬ l[k]? = some c := by
  have ha : ∀ i, StrLaws.At (SX.S l) (SX.S [c]) (SX.S l).length i ↔ l[i]? = some c := fun i => by
    rw [TL.at_iff (by rw [tl_S]; exact List.cons_ne_nil _ _), tl_S, tl_S, pre1]
  rcases StrLaws.occ_head (SX.S l) (SX.S [c]) 1 (Nat.le_refl 1) with ⟨h1, h2⟩ | ⟨i, r, h1, h2, h3⟩
  · refine .inl ⟨?_, fun i h => h2 i ((ha i).mpr h)⟩
    unfold Txt.find
    rw [h1]
  · refine .inr ⟨i, ?_, (ha i).mp h2, fun k hk h => h3 k hk ((ha k).mpr h)⟩
    unfold Txt.find
    rw [h1]
def tenL : List Nat := [48, 49, 50, 51, 52, 53, 54, 55, 56, 57]
theorem cTen : PySem.Str.ofString "0123456789" = SX.S tenL := by decide +kernel
theorem ten_at {i : Nat} (h : i < 10) : tenL[i]? = some (48 + i) := by
  have : ∀ i : Fin 10, tenL[i.1]? = some (48 + i.1) := by decide
  exact this ⟨i, h⟩
theorem ten_in {i c : Nat} (h : tenL[i]? = some c) : c = 48 + i ∧ i < 10 := by
  have hi : i < 10 := (List.getElem?_eq_some_iff.mp h).1
  rw [ten_at hi] at h
  exact ⟨(Option.some.inj h).symm, hi⟩
theorem find_ten (c : Nat) : (isD c = false ∧ Txt.find (SX.S tenL) (SX.S [c]) = -1) ∨ (isD c = true ∧ Txt.find (SX.S tenL) (SX.S [c]) = ((c - 48 : Nat) : Int)) := by
  rcases find1 tenL c with ⟨h1, h2⟩ | ⟨i, h1, h2, _⟩
  · refine .inl ⟨?_, h1⟩
    cases h : isD c with
    | false => rfl
    | true =>
      unfold isD at h
      rw [Bool.and_eq_true, decide_eq_true_eq, decide_eq_true_eq] at h
      exact absurd (by rw [ten_at (by omega), show 48 + (c - 48) = c by omega]) (h2 (c - 48))
  · obtain ⟨e, hi⟩ := ten_in h2
    refine .inr ⟨?_, by rw [h1, show c - 48 = i by omega]⟩
    unfold isD
    rw [decide_eq_true (by omega), decide_eq_true (by omega)]
    rfl
section
variable {σ : L2.St} {H : Hp} {ta tb tl : TE} {K : PySem.W.Frag}
theorem ev_ixN {xs : List V} {i : Int} {v : V} (ha : EvL ta σ H xs) (hb : Ev tb σ H (.int i)) (hi : atI xs i = some v) : Ev (tOp (rIxL K) ta tb) σ H v := fun H1 e Q q =>
  ha H1 e _ fun p H2 hp e2 h2 => hb H2 (e.trans e2) _ fun H3 e3 => rv_ixL (sq_of (e3 _ _ h2)) hi H3 (Ex.refl H3) Q fun H4 e4 => q H4 ((e2.trans e3).trans e4)
theorem ev_ten {i : Nat} (h : i < 10) (hb : Ev tb σ H (.int (i : Int))) : Ev (tOp rIxS (tC (.str (PySem.Str.ofString "0123456789"))) tb) σ H (.str (SX.S [48 + i])) :=
  ev_op (x := .str (SX.S tenL)) (ev_is ev_c (by rw [cTen])) hb (rv_ixS (by decide) (atI_nat (ten_at h)))
theorem ev_slT {to : TO} {l : List Nat} {i : Nat} (ha : Ev ta σ H (.str (SX.S l))) (hn : ∀ σ H Q, Q none H → to σ H Q) (hl : Ev tl σ H (.int (i : Int))) (hz : l.length ≤ 100000) : Ev (tSl C8.rSlX ta to (tPart tl)) σ H (.str (SX.S (l.take i))) := fun H1 e Q q =>
  ha H1 e _ fun H2 e2 => hn _ _ _ (hl H2 (e.trans e2) _ fun H3 e3 => ⟨_, rfl, SX.S l, rfl, by rw [SX.S_len]; exact sz_of hz, by rw [SX.slice_to (by omega), Int.toNat_natCast]; exact q H3 (e2.trans e3)⟩)
end
theorem ev_lenX {σ : L2.St} {H : Hp} {ta : TE} {w : List Nat} (ha : Ev ta σ H (.str (SX.S w))) (hz : w.length ≤ 100000) : Ev (tCB (fun xs H Q => ∃ z, xs = [.str z] ∧ z.length ≤ sizeLine ∧ Q (.int z.length) H) (tCons ta tNil)) σ H (.int (w.length : Int)) :=
  ev_is (ev_lenS ha (by rw [SX.S_len]; exact hz)) (by rw [SX.S_len])
section
variable {K : PySem.W.Frag} {σ : L2.St} {H : Hp} {ta tb : TE}
theorem ev_cat {a b : Str} (ha : Ev ta σ H (.str a)) (hb : Ev tb σ H (.str b)) (h : a.length + b.length ≤ 100000) : Ev (tOp (fun x y H Q => ∃ i j, x = .str i ∧ y = .str j ∧ i.length + j.length ≤ sizeLine ∧ Q (.str (i ++ j)) H) ta tb) σ H (.str (a ++ b)) := fun H1 e Q q =>
  ha H1 e _ fun H2 e2 => hb H2 (e.trans e2) _ fun H3 e3 => ⟨a, b, rfl, rfl, sz_of h, q H3 (e2.trans e3)⟩
end
section
variable {σ : L2.St} {H : Hp} {D : Ends} {tz : TS} {te : TE}
theorem q_forX {tu : TS} {j : Nat} {w : List Nat} (h : Ev te σ H (.str (SX.S w))) (Pv : Nat → L2.St → Hp → Prop) (h0 : ∀ H1, Ex H H1 → Pv 0 σ H1)
    (hs : ∀ (i : Nat) (c : Nat) σ' H', w[i]? = some c → Pv i σ' H' → tu { nx := Pv (i + 1), rt := D.rt, bk := tz D, ct := Pv (i + 1) } (σ'.set j (some (.str ⟨#[c]⟩))) H')
    (hd : ∀ σ' H', Pv w.length σ' H' → tz D σ' H') : tSeq (tFor (iStr te) (gName j) tu) tz D σ H := by
  have ec : ∀ i, (SX.S w).cps[i]? = w[i]? := fun i => List.getElem?_toArray
  have es : (SX.S w).cps.size = w.length := List.size_toArray
  refine h H (Ex.refl H) _ fun H1 e1 => ⟨SX.S w, rfl, fun i m σ' H' => Pv i σ' H' ∧ i ≤ w.length ∧ w.length - i ≤ m, ⟨_, h0 H1 e1, Nat.zero_le _, Nat.le_refl _⟩, fun i m σ' H' p => ?_⟩
  obtain ⟨p, hi, hm⟩ := p
  by_cases hlt : i < w.length
  · refine .inr ⟨by show i < (SX.S w).cps.size; omega, fun σ2 H2 => Pv (i + 1) σ2 H2, fun σ2 H2 q => ⟨m - 1, by omega, q, hlt, by omega⟩, ?_⟩
    rintro x H2 ⟨rfl, c, hc, rfl⟩
    rw [ec] at hc
    exact hs i c σ' _ hc p
  · refine .inl ⟨by show (SX.S w).cps.size ≤ i; omega, ?_⟩
    rw [show i = w.length by omega] at p
    exact hd _ _ p
theorem q_callG {sp : Sp} {dvs vs : List V} {E : XK} {tr : TA} {g : TG} (h : EvA tr σ H vs) (k : ∀ H1, Ex H H1 → sp (vs ++ dvs) H1 (fun x H2 => g x σ H2 (tz D)) E) : tSeq (tAsg (tCall sp dvs E tr) g) tz D σ H := h H (Ex.refl H) _ fun H1 e1 => k H1 e1
end
theorem slice_mid {a : List Nat} {i j : Nat} (h : i ≤ j) (hj : j ≤ a.length) : Txt.slice (SX.S a) (some (i : Int)) (some (j : Int)) = SX.S ((a.drop i).take (j - i)) := by
  rw [← C8.cutS_slice]
  unfold cutS
  rw [SX.S_len, HT.sIx_nat, HT.sIx_nat, Nat.min_eq_left hj, Nat.min_eq_left (show i ≤ a.length by omega)]
theorem ev_slM {σ : L2.St} {H : Hp} {ta tl th : TE} {l : List Nat} {i j : Nat} (ha : Ev ta σ H (.str (SX.S l))) (hl : Ev tl σ H (.int (i : Int))) (hh : Ev th σ H (.int (j : Int))) (h : i ≤ j) (hj : j ≤ l.length) (hz : l.length ≤ 100000) : Ev (tSl C8.rSlX ta (tPart tl) (tPart th)) σ H (.str (SX.S ((l.drop i).take (j - i)))) := fun H1 e Q q =>
  ha H1 e _ fun H2 e2 => hl H2 (e.trans e2) _ fun H3 e3 => ⟨_, rfl, hh H3 ((e.trans e2).trans e3) _ fun H4 e4 => ⟨_, rfl, SX.S l, rfl, by rw [SX.S_len]; exact sz_of hz, by rw [slice_mid h hj]; exact q H4 ((e2.trans e3).trans e4)⟩⟩
theorem q_par2 {σ : L2.St} {H : Hp} {ta : TA} {D : Ends} {tz : TS} {i j : Nat} {x y : V} (h : EvA ta σ H [x, y]) (k : ∀ H1, Ex H H1 → tz D ((σ.set i (some x)).set j (some y)) H1) : tSeq (tPar i j ta) tz D σ H := h H (Ex.refl H) _ fun H1 e => ⟨x, y, rfl, k H1 e⟩
theorem q_par3 {σ : L2.St} {H : Hp} {ta : TA} {D : Ends} {tz : TS} {i j l : Nat} {x y z : V} (h : EvA ta σ H [x, y, z]) (k : ∀ H1, Ex H H1 → tz D (((σ.set i (some x)).set j (some y)).set l (some z)) H1) : tSeq (tPar3 i j l ta) tz D σ H := h H (Ex.refl H) _ fun H1 e => ⟨x, y, z, rfl, k H1 e⟩

def topS (i : Nat) : Stmt := PySem.Challenge.pw_stylobate_k80_records_and_fields.main.body.getD i (.Pass ⟨0, 0, 0, 0⟩)
abbrev s_InvalidText____init__ : Stmt := (C8.clsBody (topS 2)).getD 0 (.Pass ⟨0, 0, 0, 0⟩)
abbrev n_InvalidText____init__ : List Str := ["self", "offset", "reason"]
abbrev s_Field____init__ : Stmt := (C8.clsBody (topS 6)).getD 0 (.Pass ⟨0, 0, 0, 0⟩)
abbrev n_Field____init__ : List Str := ["self", "text", "offset", "marked"]
theorem sc_Field____init__ : FnScope n_Field____init__ ["self", "text", "offset", "marked"] (C8.fnScope s_Field____init__) := C8.fnScope_by (by decide +kernel)
abbrev s__marked_field : Stmt := topS 7
abbrev n__marked_field : List Str := ["text", "start", "separator", "pieces", "at", "closed", "end"]
theorem sc__marked_field : FnScope n__marked_field ["text", "start", "separator"] (C8.fnScope s__marked_field) := C8.fnScope_by (by decide +kernel)
abbrev s__plain_field : Stmt := topS 8
abbrev n__plain_field : List Str := ["text", "start", "separator", "at"]
theorem sc__plain_field : FnScope n__plain_field ["text", "start", "separator"] (C8.fnScope s__plain_field) := C8.fnScope_by (by decide +kernel)
abbrev s__next_record : Stmt := topS 9
abbrev n__next_record : List Str := ["text", "start", "separator", "fields", "at", "ended", "field"]
theorem sc__next_record : FnScope n__next_record ["text", "start", "separator"] (C8.fnScope s__next_record) := C8.fnScope_by (by decide +kernel)
abbrev s_split_records : Stmt := topS 10
abbrev n_split_records : List Str := ["text", "separator", "records", "at", "fields"]
theorem sc_split_records : FnScope n_split_records ["text", "separator"] (C8.fnScope s_split_records) := C8.fnScope_by (by decide +kernel)
abbrev s__law_cell : Stmt := topS 12
abbrev n__law_cell : List Str := ["script", "k"]
theorem sc__law_cell : FnScope n__law_cell ["script", "k"] (C8.fnScope s__law_cell) := C8.fnScope_by (by decide +kernel)
abbrev s__law_state : Stmt := topS 13
abbrev n__law_state : List Str := ["cell", "k", "prime", "first", "second", "third", "fourth"]
theorem sc__law_state : FnScope n__law_state ["cell", "k"] (C8.fnScope s__law_state) := C8.fnScope_by (by decide +kernel)
abbrev s__law_digit : Stmt := topS 14
abbrev n__law_digit : List Str := ["state", "many", "digit"]
theorem sc__law_digit : FnScope n__law_digit ["state", "many"] (C8.fnScope s__law_digit) := C8.fnScope_by (by decide +kernel)
abbrev s__law_is_integer : Stmt := topS 15
abbrev n__law_is_integer : List Str := ["told"]
theorem sc__law_is_integer : FnScope n__law_is_integer ["told"] (C8.fnScope s__law_is_integer) := C8.fnScope_by (by decide +kernel)
abbrev s__law_field_text : Stmt := topS 16
abbrev n__law_field_text : List Str := ["state", "signs", "k"]
theorem sc__law_field_text : FnScope n__law_field_text ["state"] (C8.fnScope s__law_field_text) := C8.fnScope_by (by decide +kernel)
abbrev s__law_written : Stmt := topS 17
abbrev n__law_written : List Str := ["text", "separator", "marked", "sign"]
theorem sc__law_written : FnScope n__law_written ["text", "separator", "marked"] (C8.fnScope s__law_written) := C8.fnScope_by (by decide +kernel)
abbrev s__law_must_mark : Stmt := topS 18
abbrev n__law_must_mark : List Str := ["text", "separator"]
theorem sc__law_must_mark : FnScope n__law_must_mark ["text", "separator"] (C8.fnScope s__law_must_mark) := C8.fnScope_by (by decide +kernel)
abbrev s__law_same : Stmt := topS 19
abbrev n__law_same : List Str := ["told", "due", "k", "j", "field"]
theorem sc__law_same : FnScope n__law_same ["told", "due"] (C8.fnScope s__law_same) := C8.fnScope_by (by decide +kernel)
abbrev s_law : Stmt := topS 20
abbrev n_law : List Str := ["script", "state", "separator", "text", "records", "many", "k", "record", "j", "field", "marked"]
theorem sc_law : FnScope n_law ["script"] (C8.fnScope s_law) := C8.fnScope_by (by decide +kernel)
/-! ### a list that is drawn from: its one object may change -/
def wo (p : Addr) (H : Hp) : Hp := fun a => if a = p then none else H a
theorem wo_self (p : Addr) (H : Hp) : wo p H p = none := if_pos rfl
theorem wo_ne {p a : Addr} {H : Hp} (h : a ≠ p) : wo p H a = H a := if_neg h
theorem wo_le (p : Addr) (H : Hp) : Ex (wo p H) H := fun a o h => by
  unfold wo at h
  split at h
  · cases h
  · exact h
theorem wx_of {p : Addr} {H H' : Hp} (e : Ex H H') : Ex (wo p H) H' := (wo_le p H).trans e
theorem wx_trans {p : Addr} {H1 H2 H3 : Hp} (a : Ex (wo p H1) H2) (b : Ex (wo p H2) H3) : Ex (wo p H1) H3 := fun x o h => b x o (by
  have hx : x ≠ p := fun z => by
    rw [z, wo_self] at h
    cases h
  rw [wo_ne hx]
  exact a x o h)
theorem wx_back {p : Addr} {H0 H1 H2 : Hp} (h : H0 p = none) (e : Ex H0 H1) (x : Ex (wo p H1) H2) : Ex H0 H2 := fun a o ha => x a o (by
  have hx : a ≠ p := fun z => by
    rw [z, h] at ha
    cases ha
  rw [wo_ne hx]
  exact e a o ha)
theorem wx_to {p : Addr} {H0 H1 : Hp} (h : H0 p = none) (e : Ex H0 H1) : Ex H0 (wo p H1) := wx_back h e (fun _ _ z => z)
theorem wx_mut {p : Addr} {H1 H2 : Hp} {o : HO} (e : Ex (wo p H1) H2) : Ex (wo p H1) (upd H2 p o) := Ex.mut e (wo_self p H1)
def Dr (p : Addr) (H : Hp) : Prop := ∃ s : Int, 0 ≤ s ∧ H p = some (.lst [.int s])
theorem Dr.ex {p : Addr} {H H' : Hp} (d : Dr p H) (e : Ex H H') : Dr p H' := by
  obtain ⟨s, h0, h⟩ := d
  exact ⟨s, h0, e _ _ h⟩
/-- a value that is drawn: one of those with the word P -/
def EvD1 (te : TE) (σ : L2.St) (p : Addr) (H : Hp) (P : V → Prop) : Prop := ∀ H1, Ex (wo p H) H1 → Dr p H1 → ∀ Q : VK, (∀ v H2, P v → Ex (wo p H1) H2 → Dr p H2 → Q v H2) → te σ H1 Q
def EvDT (tt : TT) (σ : L2.St) (p : Addr) (H : Hp) (P : Bool → Prop) : Prop := ∀ H1, Ex (wo p H) H1 → Dr p H1 → ∀ Q : Bool → Hp → Prop, (∀ b H2, P b → Ex (wo p H1) H2 → Dr p H2 → Q b H2) → tt σ H1 Q
def ZP (P : Int → Prop) : V → Prop := fun v => ∃ i, v = .int i ∧ P i
/-- a value of which a word alone is known, all else as it was -/
def EvN (te : TE) (σ : L2.St) (H : Hp) (P : V → Prop) : Prop := ∀ H1, Ex H H1 → ∀ Q : VK, (∀ v H2, P v → Ex H1 H2 → Q v H2) → te σ H1 Q
/-- a new list to draw from -/
def EvC (te : TE) (σ : L2.St) (H : Hp) : Prop := ∀ H1, Ex H H1 → ∀ Q : VK, (∀ p H2, H1 p = none → Ex H1 H2 → Dr p H2 → Q (.ref p) H2) → te σ H1 Q
def sp__law_cell (K : PySem.W.Frag) : Sp := fun vs H Q _ => ∃ (a : Addr) (ns : List Int) (k : Int), vs = [.ref a, .int k] ∧ SqL K H a (ns.map V.int) ∧ 0 ≤ k ∧ ∀ H', Ex H H' → Q (.int (ns.getD k.toNat 0)) H'
def sp__law_state (K : PySem.W.Frag) : Sp := fun vs H Q _ => ∃ c k : Int, vs = [.int c, .int k] ∧ ∀ p H', H p = none → Ex H H' → Dr p H' → Q (.ref p) H'
def sp__law_digit (K : PySem.W.Frag) : Sp := fun vs H Q _ => ∃ (p : Addr) (m : Int), vs = [.ref p, .int m] ∧ Dr p H ∧ 0 < m ∧ m < 2 ^ 400 ∧ ∀ d H', 0 ≤ d → d < m → Ex (wo p H) H' → Dr p H' → Q (.int d) H'
section
variable {K : PySem.W.Frag} {σ : L2.St} {H H' : Hp} {p : Addr} {ta tb te tx : TE} {t u : TT} {x y z v : V} {r : R2} {P R S : V → Prop} {PI RI SI : Int → Prop} {D : Ends} {tz tu tw : TS} {E : XK}
theorem e1_pure (h : Ev te σ (wo p H) v) (hv : P v) : EvD1 te σ p H P := fun H1 e d Q q => h H1 e Q fun H2 e2 => q v H2 hv (wx_of e2) (d.ex e2)
theorem e1_int {i : Int} (h : Ev te σ (wo p H) (.int i)) (hv : PI i) : EvD1 te σ p H (ZP PI) := e1_pure h ⟨i, rfl, hv⟩
theorem e1_mono (h : EvD1 te σ p H P) (k : ∀ v, P v → R v) : EvD1 te σ p H R := fun H1 e d Q q => h H1 e d Q fun v H2 hv e2 d2 => q v H2 (k v hv) e2 d2
theorem ez_mono (h : EvD1 te σ p H (ZP PI)) (k : ∀ i, PI i → RI i) : EvD1 te σ p H (ZP RI) := e1_mono h fun v ⟨i, e, hi⟩ => ⟨i, e, k i hi⟩
theorem ez_op {C : Int → Int → Prop} {g : Int → Int → Int} (ha : EvD1 ta σ p H (ZP PI)) (hb : EvD1 tb σ p H (ZP RI)) (hc : ∀ i j, PI i → RI j → C i j ∧ SI (g i j)) : EvD1 (tOp (rI C fun i j => .int (g i j)) ta tb) σ p H (ZP SI) := fun H1 e d Q q =>
  ha H1 e d _ fun v H2 ⟨i, ev, hi⟩ e2 d2 => hb H2 (wx_trans e e2) d2 _ fun w H3 ⟨j, ew, hj⟩ e3 d3 => ⟨i, j, ev, ew, (hc i j hi hj).1, q _ H3 ⟨_, rfl, (hc i j hi hj).2⟩ (wx_trans e2 e3) d3⟩
theorem ez_op0 {g : Int → Int → Int} (ha : EvD1 ta σ p H (ZP PI)) (hb : EvD1 tb σ p H (ZP RI)) (hc : ∀ i j, PI i → RI j → SI (g i j)) : EvD1 (tOp (rI0 fun i j => .int (g i j)) ta tb) σ p H (ZP SI) := fun H1 e d Q q =>
  ha H1 e d _ fun v H2 ⟨i, ev, hi⟩ e2 d2 => hb H2 (wx_trans e e2) d2 _ fun w H3 ⟨j, ew, hj⟩ e3 d3 => ⟨i, j, ev, ew, q _ H3 ⟨_, rfl, hc i j hi hj⟩ (wx_trans e2 e3) d3⟩
theorem ez_cmp {g : Int → Int → Bool} (ha : EvD1 ta σ p H (ZP PI)) (hb : EvD1 tb σ p H (ZP RI)) : EvD1 (tOp (rI0 fun i j => .bl (g i j)) ta tb) σ p H (fun v => ∃ b, v = .bl b) := fun H1 e d Q q =>
  ha H1 e d _ fun v H2 ⟨i, ev, hi⟩ e2 d2 => hb H2 (wx_trans e e2) d2 _ fun w H3 ⟨j, ew, hj⟩ e3 d3 => ⟨i, j, ev, ew, q _ H3 ⟨_, rfl⟩ (wx_trans e2 e3) d3⟩
theorem ez_eq (ha : EvD1 ta σ p H (ZP PI)) (hb : EvD1 tb σ p H (ZP RI)) : EvD1 (tOp rEq ta tb) σ p H (fun v => ∃ b, v = .bl b) := fun H1 e d Q q =>
  ha H1 e d _ fun v H2 ⟨i, ev, hi⟩ e2 d2 => hb H2 (wx_trans e e2) d2 _ fun w H3 ⟨j, ew, hj⟩ e3 d3 => by
    subst ev ew
    exact ⟨rfl, q _ H3 ⟨_, rfl⟩ (wx_trans e2 e3) d3⟩
theorem ez_int (h : EvD1 ta σ p H (ZP PI)) : EvD1 (tCB (fun xs H Q => (∃ i, xs = [.int i] ∧ Q (.int i) H) ∨ ∃ k, xs = [.bl k] ∧ Q (.int (if k then 1 else 0)) H) (tCons ta tNil)) σ p H (ZP PI) :=
  fun H1 e d Q q => h H1 e d _ fun v H2 ⟨i, ev, hi⟩ e2 d2 => .inl ⟨i, by rw [ev], q _ H2 ⟨i, rfl, hi⟩ e2 d2⟩
/-- _law_digit(state, m) -/
theorem ez_digit {m : Int} (ha : Ev ta σ (wo p H) (.ref p)) (hb : Ev tb σ (wo p H) (.int m)) (h0 : 0 < m) (h1 : m < 2 ^ 400) : EvD1 (tCall (sp__law_digit K) [] E (tCons ta (tCons tb tNil))) σ p H (ZP fun d => 0 ≤ d ∧ d < m) := fun H1 e d Q q =>
  ha H1 e _ fun H2 e2 => hb H2 (e.trans e2) _ fun H3 e3 => ⟨p, m, rfl, d.ex (e2.trans e3), h0, h1, fun d H4 a b e4 d4 => q _ H4 ⟨d, rfl, a, b⟩ (wx_trans (wx_of (e2.trans e3)) e4) d4⟩
theorem edt_test (h : EvD1 te σ p H (fun v => ∃ b, v = .bl b)) : EvDT (tTest te) σ p H (fun _ => True) := fun H1 e d Q q => h H1 e d _ fun v H2 ⟨b, ev⟩ e2 d2 => ⟨b, ev, q b H2 trivial e2 d2⟩
theorem q1_asg {i : Nat} (h : EvD1 te σ p H P) (d : Dr p H) (k : ∀ v H1, P v → Ex (wo p H) H1 → Dr p H1 → tz D (σ.set i (some v)) H1) : tSeq (tAsg te (gName i)) tz D σ H := h H (wo_le p H) d _ fun v H1 hv e1 d1 => k v H1 hv e1 d1
theorem qz_asg {i : Nat} (h : EvD1 te σ p H (ZP PI)) (d : Dr p H) (k : ∀ (n : Int) H1, PI n → Ex (wo p H) H1 → Dr p H1 → tz D (σ.set i (some (.int n))) H1) : tSeq (tAsg te (gName i)) tz D σ H := q1_asg h d fun v H1 ⟨n, ev, hn⟩ e1 d1 => by
  subst ev
  exact k n H1 hn e1 d1
theorem s1_ret (h : EvD1 te σ p H P) (d : Dr p H) (k : ∀ v H1, P v → Ex (wo p H) H1 → Dr p H1 → D.rt v H1) : tRet te D σ H := h H (wo_le p H) d _ fun v H1 hv e1 d1 => k v H1 hv e1 d1
theorem q1_when (h : EvDT t σ p H (fun _ => True)) (d : Dr p H) (h1 : ∀ H1, Ex (wo p H) H1 → Dr p H1 → tu { D with nx := tz D } σ H1) (h2 : ∀ H1, Ex (wo p H) H1 → Dr p H1 → tz D σ H1) : tSeq (tIfS t tu tNext) tz D σ H := h H (wo_le p H) d _ fun b H1 _ e1 d1 => by
  cases b with
  | true =>
    show tu { D with nx := tz D } σ H1
    exact h1 H1 e1 d1
  | false =>
    show tz D σ H1
    exact h2 H1 e1 d1
/-- _law_cell(script, i), _law_state(cell, k) -/
theorem ec_cell {a : Addr} {ns : List Int} {k : Int} (ha : Ev ta σ H (.ref a)) (hb : Ev tb σ H (.int k)) (hS : SqL K H a (ns.map V.int)) (h0 : 0 ≤ k) : Ev (tCall (sp__law_cell K) [] E (tCons ta (tCons tb tNil))) σ H (.int (ns.getD k.toNat 0)) :=
  ev_call (ea_cons ha (ea_cons hb ea_nil)) fun H1 e Q q E => ⟨a, ns, k, rfl, ex_l e hS, h0, q⟩
theorem ec_state {c k : Int} (ha : Ev ta σ H (.int c)) (hb : Ev tb σ H (.int k)) : EvC (tCall (sp__law_state K) [] E (tCons ta (tCons tb tNil))) σ H := fun H1 e Q q =>
  ha H1 e _ fun H2 e2 => hb H2 (e.trans e2) _ fun H3 e3 => ⟨c, k, rfl, fun p H4 hp e4 d => q p H4 (fresh_back (e2.trans e3) hp) ((e2.trans e3).trans e4) d⟩
theorem q_asgC {i : Nat} (h : EvC te σ H) (k : ∀ p H1, H p = none → Ex H H1 → Dr p H1 → tz D (σ.set i (some (.ref p))) H1) : tSeq (tAsg te (gName i)) tz D σ H := h H (Ex.refl H) _ fun p H1 hp e d => k p H1 hp e d
theorem EvN.mono (e : Ex H H') (h : EvN te σ H P) : EvN te σ H' P := fun H1 a Q q => h H1 (e.trans a) Q q
theorem q_asgN {i : Nat} (h : EvN te σ H P) (k : ∀ v H1, P v → Ex H H1 → tz D (σ.set i (some v)) H1) : tSeq (tAsg te (gName i)) tz D σ H := h H (Ex.refl H) _ fun v H1 hv e => k v H1 hv e
theorem s_appN {l : Addr} {xs : List V} (hl : H l = some (.lst xs)) (ha : Ev ta σ H (.ref l)) (h : EvN te σ H P) (hz : xs.length < 100000) (k : ∀ v H1, P v → Ex H H1 → D.nx σ (upd H1 l (.lst (xs ++ [v])))) :
    tDrop (tBM K "list" rAppend ta (tCons te tNil)) D σ H := ha H (Ex.refl H) _ fun H1 e1 =>
  ⟨Or.inl ⟨rfl, xs, sq_of (e1 l _ hl)⟩, h H1 e1 _ fun v H2 hv e2 => ⟨l, xs, v, rfl, rfl, e2 l _ (e1 l _ hl), sz_lt hz, k v H2 hv (e1.trans e2)⟩⟩
end
section
variable {P : Program} {w : World} {K : PySem.W.Frag} {mg : Str → Option Value} {base : Heap}
theorem ok__law_cell (D : Dn K mg "_law_cell" s__law_cell ["script", "k"]) (z_len : mg "len" = none) :
    C8.Cal P w K mg base 1 "_law_cell" (sp__law_cell K) [] := by
  refine cal_of D sc__law_cell (fun vs H Q E h => ?_) (fun f cdv A outer s H vs Q E hr h => ?_)
  · obtain ⟨_, _, _, rfl, _⟩ := h
    rfl
  refine ⟨_, (pss_cons (ps_if (pt_cmpR op_lt (pv 1) (pe_callB call_len_seq (by rfl) z_len PySem.boot_len (pa_cons (pv 0) pa_nil)) (nomark _))
      (pss_one (ps_ret (pe_ix ix_list (pv 0) (pv 1) (fun _ _ => rfl))))
      pss_nil)
    (pss_one (ps_ret pe_int))), ?_⟩
  obtain ⟨a, ns, k, rfl, hS, h0, q⟩ := h
  refine q_when (b := decide (k < (((ns.map V.int).length : Nat) : Int))) (et_test (ev_op (ev_var rfl) (ev_len (ev_var rfl) hS) rv_I0)) (fun hb H1 e1 => ?_) fun hb H1 e1 => ?_
  · have hk : k.toNat < ns.length := by
      have := of_decide_eq_true hb
      rw [List.length_map] at this
      omega
    refine s_ret (v := .int (ns.getD k.toNat 0)) (ev_op (ev_var rfl) (ev_var rfl) (rv_ixL (ex_l e1 hS) ?_)) fun H2 e2 => q _ (e1.trans e2)
    obtain ⟨j, rfl⟩ := Int.eq_ofNat_of_zero_le h0
    rw [Int.toNat_natCast] at hk ⊢
    exact atI_nat (by rw [List.getElem?_map, List.getElem?_eq_getElem hk, List.getD_eq_getElem?_getD, List.getElem?_eq_getElem hk]; rfl)
  · have hk : ns.length ≤ k.toNat := by
      have := of_decide_eq_false hb
      rw [List.length_map] at this
      omega
    refine s_ret (v := .int (ns.getD k.toNat 0)) (ev_is ev_c ?_) fun H2 e2 => q _ (e1.trans e2)
    rw [List.getD_eq_getElem?_getD, List.getElem?_eq_none hk]
    rfl
theorem ok__law_state (D : Dn K mg "_law_state" s__law_state ["cell", "k"]) (z_int : mg "int" = none) :
    C8.Cal P w K mg base 1 "_law_state" (sp__law_state K) [] := by
  refine cal_of D sc__law_state (fun vs H Q E h => ?_) (fun f cdv A outer s H vs Q E hr h => ?_)
  · obtain ⟨_, _, rfl, _⟩ := h
    rfl
  refine ⟨_, (pss_cons (ps_if (pt_cmpR op_ge (pv 0) pe_int (nomark _))
      (pss_one (ps_ret (pe_lst (pa_cons (pv 0) pa_nil))))
      pss_nil)
    (pss_cons (ps_set (i := 2) sc__law_state.nd rfl (.inl rfl) pe_int)
    (pss_cons (ps_set (i := 3) sc__law_state.nd rfl (.inl rfl) (pe_op op_mod (pe_callTy call_int1 (by rfl) z_int (by decide +kernel) (pa_cons (pe_op op_add (pe_op op_add (pe_op op_mul (pv 0) pe_int) (pe_op op_mul (pe_op op_add (pv 1) pe_int) pe_int)) pe_int) pa_nil)) (pv 2)))
    (pss_cons (ps_set (i := 4) sc__law_state.nd rfl (.inl rfl) (pe_op op_mod (pe_callTy call_int1 (by rfl) z_int (by decide +kernel) (pa_cons (pe_op op_add (pe_op op_add (pe_op op_mulX (pv 3) (pv 3)) (pe_op op_mul pe_int (pv 3))) (pv 1)) pa_nil)) (pv 2)))
    (pss_cons (ps_set (i := 5) sc__law_state.nd rfl (.inl rfl) (pe_op op_mod (pe_callTy call_int1 (by rfl) z_int (by decide +kernel) (pa_cons (pe_op op_add (pe_op op_add (pe_op op_mul (pv 4) pe_int) (pe_op op_mul (pv 3) pe_int)) pe_int) pa_nil)) (pv 2)))
    (pss_cons (ps_set (i := 6) sc__law_state.nd rfl (.inl rfl) (pe_op op_mod (pe_callTy call_int1 (by rfl) z_int (by decide +kernel) (pa_cons (pe_op op_add (pe_op op_mulX (pv 5) (pv 5)) (pv 4)) pa_nil)) (pv 2)))
    (pss_one (ps_ret (pe_lst (pa_cons (pe_op op_add (pe_op op_mul (pe_op op_add (pe_op op_mul (pe_op op_add (pe_op op_mul (pv 6) (pv 2)) (pv 5)) (pv 2)) (pv 4)) (pv 2)) (pv 3)) pa_nil)))))))))), ?_⟩
  obtain ⟨c, k, rfl, q⟩ := h
  refine q_when (b := decide (c ≥ 1000000000000000000)) (et_test (ev_op (ev_var rfl) ev_c rv_I0)) (fun hb H1 e1 => ?_) fun hb H1 e1 => ?_
  · exact s_retL (el_lst (ea_cons (ev_var rfl) ea_nil) (by show 1 ≤ 100000; decide)) fun p H2 hp e2 h2 => q p H2 (fresh_back e1 hp) (e1.trans e2) ⟨c, by have := of_decide_eq_true hb; omega, h2⟩
  refine q_asg (v := .int 2305843009213693951) ev_c fun H2 e2 => ?_
  have mp : ∀ n : Int, 0 ≤ n % 2305843009213693951 ∧ n % 2305843009213693951 < 2305843009213693951 := fun n => by omega
  have mb : ∀ i j : Int, 0 ≤ i ∧ i < 2305843009213693951 → 0 ≤ j ∧ j < 2305843009213693951 → CMulX i j := fun i j hi hj => mulx_ok (a := 61) (b := 61) (by omega) (by omega) (by decide)
  refine q_asg (v := .int ((c * 6364136223 + (k + 1) * 104729 + 77) % 2305843009213693951)) ?_ fun H3 e3 => ?_
  · exact ev_op (ev_int (ev_op (ev_op (ev_op (ev_var rfl) ev_c (rv_I (.inr ⟨by decide, by decide⟩))) (ev_op (ev_op (ev_var rfl) ev_c rv_I0) ev_c (rv_I (.inr ⟨by decide, by decide⟩))) rv_I0) ev_c rv_I0)) (ev_var rfl) (rv_I (by decide))
  have h1 := mp (c * 6364136223 + (k + 1) * 104729 + 77)
  generalize (c * 6364136223 + (k + 1) * 104729 + 77) % 2305843009213693951 = f1 at *
  refine q_asg (v := .int ((f1 * f1 + 1013 * f1 + k) % 2305843009213693951)) ?_ fun H4 e4 => ?_
  · exact ev_op (ev_int (ev_op (ev_op (ev_op (ev_var rfl) (ev_var rfl) (rv_I (mb _ _ h1 h1))) (ev_op ev_c (ev_var rfl) (rv_I (.inl ⟨by decide, by decide⟩))) rv_I0) (ev_var rfl) rv_I0)) (ev_var rfl) (rv_I (by decide))
  have h2 := mp (f1 * f1 + 1013 * f1 + k)
  generalize (f1 * f1 + 1013 * f1 + k) % 2305843009213693951 = f2 at *
  refine q_asg (v := .int ((f2 * 48271 + f1 * 31 + 9) % 2305843009213693951)) ?_ fun H5 e5 => ?_
  · exact ev_op (ev_int (ev_op (ev_op (ev_op (ev_var rfl) ev_c (rv_I (.inr ⟨by decide, by decide⟩))) (ev_op (ev_var rfl) ev_c (rv_I (.inr ⟨by decide, by decide⟩))) rv_I0) ev_c rv_I0)) (ev_var rfl) (rv_I (by decide))
  have h3 := mp (f2 * 48271 + f1 * 31 + 9)
  generalize (f2 * 48271 + f1 * 31 + 9) % 2305843009213693951 = f3 at *
  refine q_asg (v := .int ((f3 * f3 + f2) % 2305843009213693951)) ?_ fun H6 e6 => ?_
  · exact ev_op (ev_int (ev_op (ev_op (ev_var rfl) (ev_var rfl) (rv_I (mb _ _ h3 h3))) (ev_var rfl) rv_I0)) (ev_var rfl) (rv_I (by decide))
  have h4 := mp (f3 * f3 + f2)
  generalize (f3 * f3 + f2) % 2305843009213693951 = f4 at *
  refine s_retL (xs := [.int (((f4 * 2305843009213693951 + f3) * 2305843009213693951 + f2) * 2305843009213693951 + f1)]) (el_lst (ea_cons ?_ ea_nil) (by show 1 ≤ 100000; decide)) fun p H7 hp e7 h7 => ?_
  · exact ev_op (ev_op (ev_op (ev_op (ev_op (ev_op (ev_var rfl) (ev_var rfl) (rv_I (.inr ⟨by decide, by decide⟩))) (ev_var rfl) rv_I0) (ev_var rfl) (rv_I (.inr ⟨by decide, by decide⟩))) (ev_var rfl) rv_I0) (ev_var rfl) (rv_I (.inr ⟨by decide, by decide⟩))) (ev_var rfl) rv_I0
  have x6 := ((((e1.trans e2).trans e3).trans e4).trans e5).trans e6
  exact q p H7 (fresh_back x6 hp) (x6.trans e7) ⟨_, by omega, h7⟩
theorem ok__law_digit (D : Dn K mg "_law_digit" s__law_digit ["state", "many"]) (z_int : mg "int" = none) :
    C8.Cal P w K mg base 1 "_law_digit" (sp__law_digit K) [] := by
  refine cal_of D sc__law_digit (fun vs H Q E h => ?_) (fun f cdv A outer s H vs Q E hr h => ?_)
  · obtain ⟨_, _, rfl, _⟩ := h
    rfl
  refine ⟨_, (pss_cons (ps_set (i := 2) sc__law_digit.nd rfl (.inl rfl) (pe_op op_mod (pe_callTy call_int1 (by rfl) z_int (by decide +kernel) (pa_cons (pe_ix ix_list (pv 0) pe_int (fun _ _ => rfl)) pa_nil)) (pv 1)))
    (pss_cons (ps_asg (pe_op op_fdivW (pe_ix ix_list (pv 0) pe_int (fun _ _ => rfl)) (pv 1)) (pg_sub (pv 0) pe_int set_list))
    (pss_one (ps_ret (pv 2))))), ?_⟩
  obtain ⟨p, m, rfl, ⟨s, s0, hp⟩, m0, m1, q⟩ := h
  refine q_asg (v := .int (s % m)) (ev_op (ev_int (ev_op (ev_var rfl) ev_c (rv_ixL (sq_of hp) rfl))) (ev_var rfl) (rv_I m0)) fun H1 e1 => ?_
  refine q_setL (v := .int (s / m)) (j := 0) (e1 _ _ hp) (ev_op (ev_op (ev_var rfl) ev_c (rv_ixL (sq_of (e1 _ _ hp)) rfl)) (ev_var rfl) (rv_I (wide_div (b := 400) m0 (by omega) (by decide) (by decide)))) (ev_var rfl) ev_c (by show 0 < 1; decide) fun H2 e2 => ?_
  exact s_ret (ev_var rfl) fun H3 e3 => q (s % m) H3 (Int.emod_nonneg _ (by omega)) (Int.emod_lt_of_pos _ m0) ((Ex.mut ((wo_le p H).trans (e1.trans e2)) (wo_self p H)).trans e3) ⟨s / m, Int.ediv_nonneg s0 (by omega), e3 _ _ upd_same⟩
end
section
variable {K : PySem.W.Frag} {σ : L2.St} {H : Hp} {p : Addr} {ta tb te : TE} {P : V → Prop} {D : Ends} {tz : TS}
/-- xs[i] = what is drawn -/
theorem q1_setL {l : Addr} {xs : List V} {j : Nat} (hl : wo p H l = some (.lst xs)) (h : EvD1 te σ p H P) (d : Dr p H) (ho : Ev ta σ (wo p H) (.ref l)) (hi : Ev tb σ (wo p H) (.int (j : Int))) (hj : j < xs.length) (k : ∀ v H1, P v → Ex (wo p H) H1 → Dr p H1 → tz D σ (upd H1 l (.lst (xs.set j v)))) :
    tSeq (tAsg te (gSub ta tb rSetL)) tz D σ H := h H (wo_le p H) d _ fun v H1 hv e1 d1 => ho H1 e1 _ fun H2 e2 => hi H2 (e1.trans e2) _ fun H3 e3 =>
  ⟨l, xs, (j : Int), j, rfl, rfl, ((e1.trans e2).trans e3) l _ hl, ixN_nat hj, k v H3 hv ((e1.trans e2).trans e3) (d1.ex (e2.trans e3))⟩
/-- a digit of a list that is new -/
theorem en_digit {m : Int} {E : XK} (ha : EvC ta σ H) (hb : Ev tb σ H (.int m)) (h0 : 0 < m) (h1 : m < 2 ^ 400) : EvN (tCall (sp__law_digit K) [] E (tCons ta (tCons tb tNil))) σ H (ZP fun d => 0 ≤ d ∧ d < m) := fun H1 e Q q =>
  ha H1 e _ fun p H2 hp e2 d2 => hb H2 (e.trans e2) _ fun H3 e3 => ⟨p, m, rfl, d2.ex e3, h0, h1, fun d H4 a b e4 _ => q _ H4 ⟨d, rfl, a, b⟩ (wx_back hp (e2.trans e3) e4)⟩
end
section
variable {K : PySem.W.Frag} {σ : L2.St} {H : Hp} {p : Addr} {te : TE} {t : TT} {P : V → Prop} {D : Ends} {tu : TS}
theorem s1_asg {i : Nat} (h : EvD1 te σ p H P) (d : Dr p H) (k : ∀ v H1, P v → Ex (wo p H) H1 → Dr p H1 → D.nx (σ.set i (some v)) H1) : tAsg te (gName i) D σ H := h H (wo_le p H) d _ fun v H1 hv e1 d1 => k v H1 hv e1 d1
theorem s1_when (h : EvDT t σ p H (fun _ => True)) (d : Dr p H) (h1 : ∀ H1, Ex (wo p H) H1 → Dr p H1 → tu D σ H1) (h2 : ∀ H1, Ex (wo p H) H1 → Dr p H1 → D.nx σ H1) : tIfS t tu tNext D σ H := h H (wo_le p H) d _ fun b H1 _ e1 d1 => by
  cases b with
  | true =>
    show tu D σ H1
    exact h1 H1 e1 d1
  | false =>
    show D.nx σ H1
    exact h2 H1 e1 d1
end

/-! ### lists compared, cut; list as a type -/
theorem cut_take {xs : List V} {m : Nat} (h : m ≤ xs.length) : cutV xs none (some (m : Int)) = xs.take m := by
  unfold cutV
  rw [HT.sIx_none, HT.sIx_nat, List.drop_zero, Nat.sub_zero, Nat.min_eq_left h]
theorem eqv_intsL : ∀ ns ms : List Int, PyData.eqv (.list (ns.map PyData.int)) (.list (ms.map PyData.int)) = decide (ns = ms)
  | [], [] => rfl
  | [], _ :: _ => rfl
  | _ :: _, [] => rfl
  | n :: r, m :: t => by
    have ih := eqv_intsL r t
    show ((n == m) && PyData.eqv (.list (r.map PyData.int)) (.list (t.map PyData.int))) = _
    rw [ih, Bool.eq_iff_iff, Bool.and_eq_true, decide_eq_true_eq, decide_eq_true_eq, beq_iff_eq, List.cons.injEq]
theorem rv_neL {K : PySem.W.Frag} {H : Hp} {p q : Addr} {ns ms : List Int} (hp : SqL K H p (ns.map V.int)) (hq : SqL K H q (ms.map V.int)) : RV (rNeD K) (.ref p) (.ref q) H (.bl (!decide (ns = ms))) := fun H1 e Q k =>
  ⟨_, _, .lst (ex_l e hp) (dp_ints ns), .lst (ex_l e hq) (dp_ints ms), PySem.W.ke_shaped_ints _, PySem.W.ke_shaped_ints _, by rw [eqv_intsL]; exact k H1 (Ex.refl H1)⟩
theorem tx_lst {K : PySem.W.Frag} {H : Hp} {a : Addr} {xs : List V} (h : H a = some (.lst xs)) : ∀ H1, Ex H H1 → TyX K H1 (.ref a) (.type "list") := fun H1 e => .base (.lst (e _ _ h))
theorem given_all (n : Nat) (v : Nat → V) : given n (fun _ => true) v = (List.range n).map v := by
  unfold given
  rw [List.filter_eq_self.mpr (fun _ _ => rfl)]
theorem foldl_take {α β : Type} {f : β → α → β} {l : List α} {i : Nat} {x : α} {b : β} (h : l[i]? = some x) : (l.take (i + 1)).foldl f b = f ((l.take i).foldl f b) x := by
  rw [List.take_add_one, h, List.foldl_append]
  rfl
theorem ix_listK {X : Cx} {K : PySem.W.Frag} (h : X.K = K) : IxR X (rIxL K) := h ▸ ix_list
theorem call_len_seqK {X : Cx} {K : PySem.W.Frag} (h : X.K = K) : CallR X (.builtin "len") (fun xs H Q => ∃ p ys, xs = [V.ref p] ∧ (SqL K H p ys ∨ SqT K H p ys) ∧ Q (V.int ys.length) H) := h ▸ call_len_seq
theorem ix_tupK {X : Cx} {K : PySem.W.Frag} (h : X.K = K) : IxR X (rIxT K) := h ▸ ix_tup

/-! ### lists of objects, each with a word of its own -/
def Al2 {α : Type} (R : Hp → Addr → α → Prop) (H : Hp) (qs : List Addr) (L : List α) : Prop := qs.length = L.length ∧ ∀ (i : Nat) q l, qs[i]? = some q → L[i]? = some l → R H q l
def Lst2 {α : Type} (R : Hp → Addr → α → Prop) (H : Hp) (p : Addr) (L : List α) : Prop := ∃ qs, H p = some (.lst (qs.map V.ref)) ∧ Al2 R H qs L
section
variable {α : Type} {R S : Hp → Addr → α → Prop} {H H' : Hp} {qs : List Addr} {L : List α}
theorem Al2.nil : Al2 R H [] [] := ⟨rfl, fun i q l h => by simp at h⟩
theorem Al2.mono (h : Al2 R H qs L) (k : ∀ q l, l ∈ L → R H q l → S H' q l) : Al2 S H' qs L := ⟨h.1, fun i q l a b => k q l (List.mem_of_getElem? b) (h.2 i q l a b)⟩
theorem Al2.snoc {q : Addr} {l : α} (h : Al2 R H qs L) (hr : R H q l) : Al2 R H (qs ++ [q]) (L ++ [l]) := by
  refine ⟨by rw [List.length_append, List.length_append, h.1, List.length_cons, List.length_cons]; rfl, fun i q' l' a b => ?_⟩
  by_cases hi : i < qs.length
  · rw [List.getElem?_append_left hi] at a
    rw [List.getElem?_append_left (by rw [← h.1]; exact hi)] at b
    exact h.2 i q' l' a b
  · rw [List.getElem?_append_right (by omega)] at a
    rw [List.getElem?_append_right (by rw [← h.1]; omega)] at b
    have e : i - qs.length = 0 := by
      by_cases z : i - qs.length = 0
      · exact z
      · rw [List.getElem?_eq_none (by show 1 ≤ _; omega)] at a; cases a
    rw [e] at a
    rw [← h.1, e] at b
    cases a
    cases b
    exact hr
theorem Al2.get (h : Al2 R H qs L) {i : Nat} (hi : i < L.length) : ∃ q, qs[i]? = some q ∧ R H q L[i] := by
  have hq : i < qs.length := by rw [h.1]; exact hi
  exact ⟨qs[i], List.getElem?_eq_getElem hq, h.2 i _ _ (List.getElem?_eq_getElem hq) (List.getElem?_eq_getElem hi)⟩
end
/-- an object that is new -/
def EvR (R : Hp → Addr → Prop) (te : TE) (σ : L2.St) (H : Hp) : Prop := ∀ H1, Ex H H1 → ∀ Q : VK, (∀ p H2, H1 p = none → Ex H1 H2 → R H2 p → Q (.ref p) H2) → te σ H1 Q
theorem slice_any {a : List Nat} {i j : Nat} : Txt.slice (SX.S a) (some (i : Int)) (some (j : Int)) = SX.S ((a.take j).drop i) := by
  rw [← C8.cutS_slice]
  unfold cutS
  rw [SX.S_len, HT.sIx_nat, HT.sIx_nat]
  refine congrArg SX.S ?_
  show (a.drop (min i a.length)).take (min j a.length - min i a.length) = (a.take j).drop i
  rw [List.drop_take]
  by_cases hi : i ≤ a.length
  · rw [Nat.min_eq_left hi]
    by_cases hj : j ≤ a.length
    · rw [Nat.min_eq_left hj]
    · rw [Nat.min_eq_right (show a.length ≤ j by omega), List.take_of_length_le (by rw [List.length_drop]; omega), List.take_of_length_le (by rw [List.length_drop]; omega)]
  · rw [Nat.min_eq_right (show a.length ≤ i by omega), List.drop_eq_nil_of_le (Nat.le_refl _), List.drop_eq_nil_of_le (by omega)]
    simp
theorem ev_slA {σ : L2.St} {H : Hp} {ta tl th : TE} {l : List Nat} {i j : Nat} (ha : Ev ta σ H (.str (SX.S l))) (hl : Ev tl σ H (.int (i : Int))) (hh : Ev th σ H (.int (j : Int))) (hz : l.length ≤ 100000) : Ev (tSl C8.rSlX ta (tPart tl) (tPart th)) σ H (.str (SX.S ((l.take j).drop i))) := fun H1 e Q q =>
  ha H1 e _ fun H2 e2 => hl H2 (e.trans e2) _ fun H3 e3 => ⟨_, rfl, hh H3 ((e.trans e2).trans e3) _ fun H4 e4 => ⟨_, rfl, SX.S l, rfl, by rw [SX.S_len]; exact sz_of hz, by rw [slice_any]; exact q H4 ((e2.trans e3).trans e4)⟩⟩
theorem getD_S (t : List Nat) (v : Nat) : (SX.S t).cps.getD v 0 = t.getD v 0 := by
  show t.toArray.getD v 0 = t.getD v 0
  rw [Array.getD_eq_getD_getElem?, List.getD_eq_getElem?_getD, List.getElem?_toArray]
/-- the first c at or behind i -/
theorem find3_at {t a m : List Nat} {c i : Nat} (h : t.drop i = a ++ c :: m) (ha : c ∉ a) : Txt.find3 (SX.S t) (SX.S [c]) (i : Int) = ((i + a.length : Nat) : Int) := by
  have hlen : i + (a.length + (m.length + 1)) = t.length := by
    have := congrArg List.length h
    rw [List.length_drop, List.length_append, List.length_cons] at this
    omega
  have hf : fromIndex (SX.S t).length (i : Int) = i := by
    unfold fromIndex
    rw [if_neg (by omega)]
    omega
  have at_ : ∀ v, i ≤ v → t.getD v 0 = (a ++ c :: m).getD (v - i) 0 := fun v hv => by
    rw [← h, List.getD_eq_getElem?_getD, List.getD_eq_getElem?_getD, List.getElem?_drop, show i + (v - i) = v by omega]
  have hc : t.getD (i + a.length) 0 = c := by
    rw [at_ _ (by omega), show i + a.length - i = a.length by omega, List.getD_eq_getElem?_getD, List.getElem?_append_right (Nat.le_refl _), Nat.sub_self]
    rfl
  rcases StrLaws.find3_spec (SX.S t) c (i : Int) with ⟨_, h2⟩ | ⟨k, h1, h2, h3, h4, h5⟩
  · have := h2 (i + a.length) (by rw [hf]; omega) (by rw [SX.S_len]; omega)
    rw [getD_S, hc] at this
    exact absurd rfl this
  · rw [hf] at h2 h5
    rw [getD_S] at h4
    have e1 : ¬ i + a.length < k := fun z => by
      have := h5 (i + a.length) (by omega) z
      rw [getD_S, hc] at this
      exact this rfl
    have e2 : ¬ k < i + a.length := fun z => by
      rw [at_ k h2, List.getD_eq_getElem?_getD, List.getElem?_append_left (by omega), List.getElem?_eq_getElem (by omega)] at h4
      exact ha (by rw [← h4]; exact List.getElem_mem _)
    rw [show k = i + a.length by omega] at h1
    exact h1
theorem at_drop {t r : List Nat} {i : Nat} {c : Nat} (h : t.drop i = c :: r) : t[i]? = some c ∧ i < t.length ∧ t.drop (i + 1) = r := by
  have hi : i < t.length := by
    have := congrArg List.length h
    rw [List.length_drop, List.length_cons] at this
    omega
  rw [List.drop_eq_getElem_cons hi] at h
  have h2 := List.cons.inj h
  exact ⟨by rw [List.getElem?_eq_getElem hi, h2.1], hi, h2.2⟩
theorem drop_nil {t : List Nat} {i : Nat} (h : t.drop i = []) : t.length ≤ i := by
  have := congrArg List.length h
  rw [List.length_drop] at this
  simp at this
  omega
theorem drop_app {t a b : List Nat} {i : Nat} (h : t.drop i = a ++ b) : t.drop (i + a.length) = b := by
  rw [← List.drop_drop, h, List.drop_left]
theorem take1 {t : List Nat} {i : Nat} : (t.take (i + 1)).drop i = (t.drop i).take 1 := by rw [List.drop_take, show i + 1 - i = 1 by omega]
theorem joinL_len (w : List Nat) : ∀ ps : List (List Nat), (ps.map (·.length)).sum ≤ (TL.joinL w ps).length
  | [] => Nat.le_refl _
  | [p] => by
    show p.length + 0 ≤ p.length
    omega
  | p :: q :: r => by
    have := joinL_len w (q :: r)
    show p.length + ((q :: r).map (·.length)).sum ≤ (p ++ (w ++ TL.joinL w (q :: r))).length
    rw [List.length_append, List.length_append]
    omega
theorem ev_joinL {K : PySem.W.Frag} {σ : L2.St} {H : Hp} {ta tb : TE} {w : List Nat} {pcs : List (List Nat)} {p : Addr} (ha : Ev ta σ H (.str (SX.S w))) (hb : Ev tb σ H (.ref p)) (hp : SqL K H p ((pcs.map SX.S).map V.str)) (h1 : (TL.joinL w pcs).length ≤ 100000) (h2 : pcs.length ≤ 100000) (h3 : w.length ≤ 10) :
    Ev (tM1 (fun x xs H Q => ∃ a p, ∃ ys : List Str, x = .str a ∧ xs = [.ref p] ∧ (SqL K H p (ys.map V.str) ∨ SqT K H p (ys.map V.str)) ∧
      (ys.map (·.length)).sum + ys.length * a.length ≤ 16777216 ∧ Q (.str (Txt.join a ys)) H) ta tb) σ H (.str (SX.S (TL.joinL w pcs))) := fun H1 e Q q =>
  ha H1 e _ fun H2 e2 => ⟨⟨_, rfl⟩, hb H2 (e.trans e2) _ fun H3 e3 => ⟨SX.S w, p, pcs.map SX.S, rfl, rfl, .inl (ex_l ((e.trans e2).trans e3) hp), by
    rw [SX.lens, SX.S_len, List.length_map]
    have := joinL_len w pcs
    have : pcs.length * w.length ≤ 100000 * 10 := Nat.mul_le_mul h2 h3
    omega, by rw [SX.join_S]; exact q H3 (e2.trans e3)⟩⟩
/-- return (a new object, ..) -/
theorem s_retUR {R : Hp → Addr → Prop} {te : TE} {tr : TA} {σ : L2.St} {H : Hp} {D : Ends} {vs : List V} (hm : ∀ H H' p, Ex H H' → R H p → R H' p) (h : EvR R te σ H) (hr : ∀ H1, Ex H H1 → EvA tr σ H1 vs) (hl : vs.length ≤ 1000)
    (k : ∀ q p H1, H q = none → Ex H H1 → R H1 p → H1 q = some (.tup (.ref p :: vs)) → D.rt (.ref q) H1) : tRet (tTup (tCons te tr)) D σ H :=
  h H (Ex.refl H) _ fun p H1 hp e1 hR => hr H1 e1 H1 (Ex.refl H1) _ fun H2 e2 => ⟨by rw [List.length_cons]; exact sz_of (by omega), fun q hq => k q p _ (fresh_back (e1.trans e2) hq) ((e1.trans e2).trans (Ex.new hq)) (hm _ _ _ (e2.trans (Ex.new hq)) hR) upd_same⟩
theorem wo_upd (p : Addr) (H : Hp) (o : HO) : wo p (upd H p o) = wo p H := by
  funext a
  unfold wo
  split
  · rfl
  · rename_i h
    exact upd_ne h
theorem wo_mono {p : Addr} {H H' : Hp} (e : Ex H H') : Ex (wo p H) (wo p H') := fun a o h => by
  have hx : a ≠ p := fun z => by rw [z, wo_self] at h; cases h
  rw [wo_ne hx] at h ⊢
  exact e a o h
theorem Lst2.mono {α : Type} {R : Hp → Addr → α → Prop} {H H' : Hp} {p : Addr} {L : List α} (h : Lst2 R H p L) (e : Ex H H') (k : ∀ q l, R H q l → R H' q l) : Lst2 R H' p L := by
  obtain ⟨qs, h1, h2⟩ := h
  exact ⟨qs, e _ _ h1, h2.mono fun q l _ => k q l⟩
/-- [a new object] -/
theorem er_one {R : Hp → Addr → Prop} {te : TE} {σ : L2.St} {H : Hp} (hm : ∀ H H' p, Ex H H' → R H p → R H' p) (h : EvR R te σ H) : EvR (fun H p => ∃ t, H p = some (.lst [.ref t]) ∧ R H t) (tLst (tCons te tNil)) σ H := fun H1 e Q q =>
  h H1 e _ fun t H2 ht e2 hR => ⟨sz_of (by show 1 ≤ 100000; decide), fun p hp => q p _ (fresh_back e2 hp) (e2.trans (Ex.new hp)) ⟨t, upd_same, hm _ _ _ (Ex.new hp) hR⟩⟩

/-! ### signs -/
def signsL : List Nat := (PySem.Str.ofString " !\"#$&'()*+,-./0123456789:;<=>?@ABCDEFGHIJKLMNOPQRSTUVWXYZ[\\]^_`abcdefghijklmnopqrstuvwxyz{|}~").cps.toList
def fewL : List Nat := (PySem.Str.ofString "ab*?\\ -'\"A").cps.toList
theorem signs_len : signsL.length = 94 := by decide +kernel
theorem few_len : fewL.length = 10 := by decide +kernel
theorem signs_ok : ∀ c ∈ signsL, 32 ≤ c ∧ c ≤ 126 := by decide +kernel
theorem few_ok : ∀ c ∈ fewL, 32 ≤ c ∧ c ≤ 126 := by decide +kernel
def okC (c : Nat) : Prop := 32 ≤ c ∧ c ≤ 126
theorem join_ones : ∀ l : List Nat, Txt.join (SX.S []) (l.map fun c => (⟨#[c]⟩ : Str)) = SX.S l := by
  intro l
  have e : (l.map fun c => (⟨#[c]⟩ : Str)) = (l.map fun c => [c]).map SX.S := by
    rw [List.map_map]
    rfl
  rw [e, SX.join_S]
  congr 1
  induction l with
  | nil => rfl
  | cons c r ih =>
    cases r with
    | nil => rfl
    | cons d r => 
      have e2 : TL.joinL [] (List.map (fun c => [c]) (c :: d :: r)) = c :: TL.joinL [] (List.map (fun c => [c]) (d :: r)) := rfl
      rw [e2, ih (by rw [List.map_map]; rfl)]

/-! ### texts that are drawn: the words for it -/
def EvLD1 (te : TE) (σ : L2.St) (p : Addr) (H : Hp) (P : List V → Prop) : Prop := ∀ H1, Ex (wo p H) H1 → Dr p H1 → ∀ Q : VK, (∀ l H2 xs, P xs → H1 l = none → Ex (wo p H1) H2 → Dr p H2 → H2 l = some (.lst xs) → Q (.ref l) H2) → te σ H1 Q
theorem dr_ne {p l : Addr} {H : Hp} (d : Dr p H) (h : H l = none) : p ≠ l := fun z => by
  obtain ⟨s, _, e⟩ := d
  rw [z, h] at e
  cases e
theorem Dr.upd {p l : Addr} {H : Hp} {o : HO} (d : Dr p H) (h : p ≠ l) : Dr p (upd H l o) := by
  obtain ⟨s, s0, e⟩ := d
  exact ⟨s, s0, by rw [upd_ne h]; exact e⟩
section
variable {K : PySem.W.Frag} {σ : L2.St} {H : Hp} {p : Addr} {ta tb te tn : TE} {R : V → Prop} {PI : Int → Prop} {D : Ends} {tz : TS}
/-- [what is drawn for k in range(a number that is drawn)] -/
theorem e1_lc {j : Nat} {vs : List Nat} {m : Int} (hn : EvD1 tn σ p H (ZP fun n => 0 ≤ n ∧ n ≤ m)) (hm : m ≤ 10000) (hw : ∀ x, wipe ((wipe σ vs).set j (some x)) vs = wipe σ vs)
    (he : ∀ i : Nat, EvD1 te ((wipe σ vs).set j (some (.int (i : Int)))) p H R) : EvLD1 (tLc (iRng1 (tCons tn tNil)) (gName j) tYes te vs) σ p H (fun xs => (xs.length : Int) ≤ m ∧ ∀ x ∈ xs, R x) := fun H0 e d Q q =>
  hn H0 e d _ fun v H1 ⟨n, ev, hn0, hn1⟩ e1 d1 => by
    subst ev
    refine ⟨n, rfl, by omega, by omega, fun Dl hD => ?_⟩
    have hpd : p ≠ Dl := dr_ne d1 hD
    refine lc_range (lo := 0) (n := n.toNat) (fun i H' => Ex (wo p H1) H' ∧ Dr p H' ∧ ∃ acc, H' Dl = some (.lst acc) ∧ acc.length = i ∧ ∀ x ∈ acc, R x) ⟨Ex.mut (wo_le p H1) (by rw [wo_ne (Ne.symm hpd)]; exact hD), d1.upd hpd, [], upd_same, rfl, fun x hx => by cases hx⟩ (fun i H' hi pv => ?_) (fun H' pv => ?_)
    · obtain ⟨p1, p2, acc, p3, p4, p5⟩ := pv
      have e0 : (0 : Int) + (i : Int) = (i : Int) := Int.zero_add _
      show wipe ((wipe σ vs).set j (some (.int ((0 : Int) + (i : Int))))) vs = wipe σ vs ∧ te ((wipe σ vs).set j (some (.int ((0 : Int) + (i : Int))))) H' fun y H4 => ∃ acc, H4 Dl = some (.lst acc) ∧ acc.length < sizeLine ∧ _
      rw [e0]
      refine ⟨hw _, he i H' (wx_trans e (wx_trans e1 p1)) p2 _ fun y H4 hy e4 d4 => ?_⟩
      refine ⟨acc, e4 Dl _ (by rw [wo_ne (Ne.symm hpd)]; exact p3), sz_lt (by omega), Ex.mut (wx_trans p1 e4) (by rw [wo_ne (Ne.symm hpd)]; exact hD), d4.upd hpd, acc ++ [y], upd_same, by rw [List.length_append, p4]; rfl, fun x hx => ?_⟩
      rcases List.mem_append.mp hx with h | h
      · exact p5 x h
      · rw [List.mem_singleton.mp h]
        exact hy
    · obtain ⟨p1, p2, acc, p3, p4, p5⟩ := pv
      have hD0 : H0 Dl = none := by
        cases z : H0 Dl with
        | none => rfl
        | some o =>
          have := e1 Dl o (by rw [wo_ne (Ne.symm hpd)]; exact z)
          rw [hD] at this
          cases this
      exact q Dl H' acc ⟨by omega, p5⟩ hD0 (wx_trans e1 p1) p2 p3
def oneS (L : List Nat) (v : V) : Prop := ∃ c, v = .str ⟨#[c]⟩ ∧ c ∈ L
theorem ones_of {L : List Nat} : ∀ {xs : List V}, (∀ x ∈ xs, oneS L x) → ∃ l : List Nat, xs = l.map (fun c => V.str ⟨#[c]⟩) ∧ ∀ c ∈ l, c ∈ L
  | [], _ => ⟨[], rfl, fun c hc => by cases hc⟩
  | x :: r, h => by
    obtain ⟨l, e, hl⟩ := ones_of (xs := r) fun y hy => h y (List.mem_cons_of_mem _ hy)
    obtain ⟨c, ec, hc⟩ := h x List.mem_cons_self
    refine ⟨c :: l, by rw [ec, e]; rfl, fun y hy => ?_⟩
    rcases List.mem_cons.mp hy with z | z
    · rw [z]; exact hc
    · exact hl y z
def txtP (L : List Nat) (m : Nat) (v : V) : Prop := ∃ l : List Nat, v = .str (SX.S l) ∧ l.length ≤ m ∧ ∀ c ∈ l, c ∈ L
/-- ''.join(a list of single signs) -/
theorem e1_join {L : List Nat} {m : Nat} (hm : m ≤ 10000) (h : EvLD1 te σ p H (fun xs => (xs.length : Int) ≤ (m : Int) ∧ ∀ x ∈ xs, oneS L x)) : EvD1 (tM1 (fun x xs H Q => ∃ a p, ∃ ys : List Str, x = .str a ∧ xs = [.ref p] ∧ (SqL K H p (ys.map V.str) ∨ SqT K H p (ys.map V.str)) ∧
      (ys.map (·.length)).sum + ys.length * a.length ≤ 16777216 ∧ Q (.str (Txt.join a ys)) H) (tC (.str (PySem.Str.ofString ""))) te) σ p H (txtP L m) := fun H1 e d Q q => by
  refine ⟨⟨_, rfl⟩, h H1 e d _ fun l H2 xs hP hl e2 d2 h2 => ?_⟩
  obtain ⟨hlen, hxs⟩ := hP
  obtain ⟨w, rfl, hw⟩ := ones_of hxs
  rw [List.length_map] at hlen
  have hw2 : w.length ≤ m := by omega
  refine ⟨SX.S [], l, w.map fun c => (⟨#[c]⟩ : Str), by rw [c00], rfl, .inl (sq_of ?_), ?_, ?_⟩
  · rw [h2, List.map_map]
    rfl
  · have e9 : (w.map fun c => (⟨#[c]⟩ : Str)).map (·.length) = List.replicate w.length 1 := by
      rw [List.map_map, List.eq_replicate_iff]
      refine ⟨by rw [List.length_map], fun b hb => ?_⟩
      obtain ⟨c, _, rfl⟩ := List.mem_map.mp hb
      rfl
    rw [e9, List.sum_replicate_nat, List.length_map]
    show w.length * 1 + w.length * 0 ≤ _
    omega
  · rw [join_ones]
    exact q _ H2 ⟨w, rfl, hw2, hw⟩ e2 d2
/-- signs[_law_digit(state, m)] -/
theorem e1_sign {L : List Nat} {m : Int} {E : XK} {i : Nat} (hs : σ[i]? = some (some (.str (SX.S L)))) (hL : (L.length : Int) = m) (h0 : 0 < m) (hm : m ≤ 1000) (ha : Ev ta σ (wo p H) (.ref p)) (hb : Ev tb σ (wo p H) (.int m)) : EvD1 (tOp rIxS (tVar i) (tCall (sp__law_digit K) [] E (tCons ta (tCons tb tNil)))) σ p H (oneS L) := fun H1 e d Q q =>
  ⟨.str (SX.S L), hs, ez_digit ha hb h0 (by omega) H1 e d _ fun v H2 ⟨n, ev, n0, n1⟩ e2 d2 => by
    subst ev
    obtain ⟨k, rfl⟩ := Int.eq_ofNat_of_zero_le n0
    have hk : k < L.length := by omega
    exact ⟨SX.S L, (k : Int), L[k], rfl, rfl, by rw [SX.S_len]; exact sz_of (by omega), atI_nat (List.getElem?_eq_getElem hk), q _ H2 ⟨L[k], rfl, List.getElem_mem hk⟩ e2 d2⟩⟩
end

/-! ### a text by a number; s.index of what is there; a comprehension over a text -/
theorem fold_rep (l : List Nat) : ∀ (m : Nat) (acc : List Nat), (List.replicate m l.toArray).foldl (· ++ ·) acc.toArray = (acc ++ (List.replicate m l).flatten).toArray
  | 0, acc => by simp
  | m + 1, acc => by
    rw [List.replicate_succ, List.foldl_cons, List.append_toArray, fold_rep l m (acc ++ l), List.replicate_succ, List.flatten_cons, List.append_assoc]
theorem op_mulS {X : Cx} : OpR X (binaryOp .Mult) (fun x y H Q => ∃ (l : List Nat) (n : Nat), x = .str (SX.S l) ∧ y = .int (n : Int) ∧ 1 ≤ n ∧ n ≤ 100 ∧ l.length ≤ 1000 ∧ Q (.str (SX.S (List.replicate n l).flatten)) H) := by
  intro pins s σ H x y v u Q I rx ry h
  obtain ⟨l, n, rfl, rfl, n1, n2, hl, q⟩ := h
  obtain ⟨t, rfl⟩ := (show ∃ t, v = Value.str (SX.S l) t from rx)
  obtain ⟨t', rfl⟩ := (show ∃ t, u = Value.int (n : Int) t from ry)
  have hm : l.length * n ≤ 1000 * 100 := Nat.mul_le_mul hl n2
  refine PySem.P.mul_str (by rw [decide_eq_false (by omega), decide_eq_false (by omega)]; rfl) (fun _ _ => ?_) (fun _ _ => ?_) ?_
  · rw [SX.S_len]
    have : (l.length : Int) ≤ (2 ^ 63 - 1) / (n : Int) := Int.le_ediv_of_mul_le (by omega) (by
      have e : (l.length : Int) * (n : Int) = ((l.length * n : Nat) : Int) := by rw [Int.natCast_mul]
      rw [e]
      omega)
    omega
  · rw [SX.S_len, Int.toNat_natCast]
    exact decide_eq_false (Nat.not_lt.mpr (Nat.le_trans hm (by decide)))
  · rw [if_neg (by omega)]
    split
    · rename_i h
      rw [Bool.or_eq_true, beq_iff_eq, beq_iff_eq, SX.S_len] at h
      have e : (List.replicate n l).flatten = l := by
        rcases h with h | h
        · have : n = 1 := by omega
          rw [this]
          simp
        · have : l = [] := List.length_eq_zero_iff.mp h
          rw [this]
          simp
      rw [e] at q
      exact ⟨.str _, H, I, ⟨t, rfl⟩, q⟩
    · have e : (⟨(List.replicate ((n : Int)).toNat (SX.S l).cps).foldl (· ++ ·) #[]⟩ : Str) = SX.S (List.replicate n l).flatten := by
        have := fold_rep l n []
        rw [List.nil_append] at this
        rw [Int.toNat_natCast]
        exact congrArg Str.mk this
      rw [e]
      refine ⟨?_, .str _, H, I.tok _, ⟨_, rfl⟩, q⟩
      rw [SX.S_len]
      have : (List.replicate n l).flatten.length = n * l.length := by simp
      rw [this, Nat.mul_comm]
      exact Nat.le_trans hm (by decide)
/-- s.index(t), found -/
theorem mt_indexOk {X : Cx} : MtR X "str.index" (fun x xs H Q => ∃ (a b : Str) (k : Nat), x = .str a ∧ xs = [.str b] ∧ Txt.index0 a b = some k ∧ Q (.int (k : Int)) H) := by
  intro pins s σ H x xs v us Q I rx rs h
  obtain ⟨a, b, k, rfl, rfl, hk, w⟩ := h
  obtain ⟨t, rfl⟩ := (show ∃ t, v = Value.str a t from rx)
  cases rs with
  | cons r1 rs =>
    cases rs
    obtain ⟨u, rfl⟩ := r1
    cases q : Builtin.Str.occurrences a b 0 a.length 1 with
    | nil =>
      unfold Txt.index0 at hk
      rw [q] at hk
      cases hk
    | cons j rest =>
      have e : j = k := by
        unfold Txt.index0 at hk
        rw [q] at hk
        exact Option.some.inj hk
      subst e
      exact PySem.SC.index q ⟨.int (j : Nat), H, I.tok _, ⟨_, rfl⟩, w⟩
section
variable {K : PySem.W.Frag} {σ : L2.St} {H : Hp} {tl te ta tb : TE}
/-- [e for c in a text] -/
theorem el_lcX {w : List Nat} {j : Nat} {vs : List Nat} (f : Nat → V) (h : Ev tl σ H (.str (SX.S w))) (hz : w.length ≤ 40000) (hw : ∀ x, wipe ((wipe σ vs).set j (some x)) vs = wipe σ vs)
    (he : ∀ (i c : Nat) H1, Ex H H1 → w[i]? = some c → Ev te ((wipe σ vs).set j (some (.str ⟨#[c]⟩))) H1 (f c)) : EvL (tLc (iStr tl) (gName j) tYes te vs) σ H (w.map f) := fun H0 e Q q => h H0 e _ fun H1 e1 => ⟨SX.S w, rfl, fun Dl hD => by
  have ec : ∀ i, (SX.S w).cps[i]? = w[i]? := fun i => List.getElem?_toArray
  have es : (SX.S w).cps.size = w.length := List.size_toArray
  refine ⟨fun i m H' => (Ex H1 H' ∧ H' Dl = some (.lst ((w.take i).map f))) ∧ i ≤ w.length ∧ w.length - i ≤ m, ⟨_, ⟨Ex.new hD, upd_same⟩, Nat.zero_le _, Nat.le_refl _⟩, fun i m H' pv => ?_⟩
  obtain ⟨⟨p2, p3⟩, hi, hm⟩ := pv
  by_cases hlt : i < w.length
  · refine .inr ⟨by show i < (SX.S w).cps.size; omega, fun H2 => Ex H1 H2 ∧ H2 Dl = some (.lst ((w.take (i + 1)).map f)), fun H2 q2 => ⟨m - 1, by omega, q2, hlt, by omega⟩, ?_⟩
    rintro x H2 ⟨rfl, c, hc, rfl⟩
    rw [ec] at hc
    show wipe ((wipe σ vs).set j (some (.str ⟨#[c]⟩))) vs = wipe σ vs ∧ te ((wipe σ vs).set j (some (.str ⟨#[c]⟩))) _ fun y H4 => ∃ acc, H4 Dl = some (.lst acc) ∧ acc.length < sizeLine ∧ _
    refine ⟨hw _, he i c H1 (e.trans e1) hc _ p2 _ fun H4 e4 => ⟨_, e4 _ _ p3, sz_lt (by rw [List.length_map, List.length_take]; omega), Ex.mut (p2.trans e4) hD, ?_⟩⟩
    rw [upd_same, List.take_add_one, hc, List.map_append]
    rfl
  · refine .inl ⟨by show (SX.S w).cps.size ≤ i; omega, ?_⟩
    rw [show i = w.length by omega, List.take_length] at p3
    exact q Dl H' (fresh_back e1 hD) (e1.trans p2) p3⟩
/-- a new list + a new list -/
theorem el_catNN {xs ys : List V} (ha : EvL ta σ H xs) (hb : EvL tb σ H ys) (hz : xs.length + ys.length ≤ 100000) : EvL (tOp rCat ta tb) σ H (xs ++ ys) := fun H1 e Q q =>
  ha H1 e _ fun a H2 ha2 e2 h2 => hb H2 (e.trans e2) _ fun b H3 _ e3 hb3 => ⟨a, b, xs, ys, rfl, rfl, e3 _ _ h2, hb3, sz_of hz, fun p hp => q p _ (fresh_back (e2.trans e3) hp) ((e2.trans e3).trans (Ex.new hp)) upd_same⟩
end
theorem el_given {te : TE} {σ : L2.St} {H : Hp} {n : Nat} {f : Nat → Bool} {v : Nat → V} (h : EvL te σ H (given ((n : Int)).toNat f v)) : EvL te σ H (given n f v) := by
  rw [Int.toNat_natCast] at h
  exact h

def sp__law_is_integer (K : PySem.W.Frag) : Sp := fun vs H Q _ => ∃ x : V, vs = [x] ∧ Pl x ∧ ∀ H', Ex H H' → Q (.bl (isInt x)) H'
section
variable {P : Program} {w : World} {K : PySem.W.Frag} {mg : Str → Option Value} {base : Heap}
theorem ok__law_is_integer (D : Dn K mg "_law_is_integer" s__law_is_integer ["told"]) (z_bool : mg "bool" = none) (z_int : mg "int" = none) (z_isinstance : mg "isinstance" = none) :
    C8.Cal P w K mg base 1 "_law_is_integer" (sp__law_is_integer K) [] := by
  refine cal_of D sc__law_is_integer (fun vs H Q E h => ?_) (fun f cdv A outer s H vs Q E hr h => ?_)
  · obtain ⟨_, rfl, _⟩ := h
    rfl
  refine ⟨_, (pss_one (ps_ret (pe_and (pe_callB call_isi (by rfl) z_isinstance (by decide +kernel) (pa_cons (pv 0) (pa_cons (pe_bltn (v := .ty "int") (u := .type "int") rfl z_int (by decide +kernel) rfl) pa_nil))) (pe_one (pe_not (pe_callB call_isi (by rfl) z_isinstance (by decide +kernel) (pa_cons (pv 0) (pa_cons (pe_bltn (v := .ty "bool") (u := .type "bool") rfl z_bool (by decide +kernel) rfl) pa_nil)))))))), ?_⟩
  obtain ⟨x, rfl, hx, q⟩ := h
  exact s_ret (ev_isInt (ev_var rfl) (ev_var rfl) hx) fun H2 e2 => q _ e2
section
variable {σ : L2.St} {H : Hp} {ta : TE} {E : XK}
theorem ec_isx {x : V} (hx : Pl x) (ha : Ev ta σ H x) : Ev (tCall (sp__law_is_integer K) [] E (tCons ta tNil)) σ H (.bl (isInt x)) := ev_call (ea_cons ha ea_nil) fun H1 e Q q E => ⟨x, rfl, hx, q⟩
theorem ec_isint {n : Int} (ha : Ev ta σ H (.int n)) : Ev (tCall (sp__law_is_integer K) [] E (tCons ta tNil)) σ H (.bl true) := ec_isx (.int n) ha
end
end

--@SPLIT
/-! ### separated texts: what is written -/
abbrev Fl := List Nat × Bool
abbrev Fo := List Nat × Nat × Bool
def dblL : List Nat → List Nat
  | [] => []
  | c :: r => if c = 34 then 34 :: 34 :: dblL r else c :: dblL r
def wrL (s : List Nat) (m : Bool) : List Nat := if m = true then 34 :: (dblL s ++ [34]) else s
def recT (sp : Nat) : List Fl → List Nat
  | [] => []
  | [f] => wrL f.1 f.2
  | f :: g :: r => wrL f.1 f.2 ++ sp :: recT sp (g :: r)
def okF (sp : Nat) (f : Fl) : Prop := f.2 = false → ∀ c ∈ f.1, c ≠ sp ∧ c ≠ 34 ∧ c ≠ 10
def okSep (sp : Nat) : Prop := sp = 44 ∨ sp = 59 ∨ sp = 32
def okR (sp : Nat) (r : List Nat) : Prop := ∀ c, r.head? = some c → c = sp ∨ c = 10
def okE (r : List Nat) : Prop := r = [] ∨ r.head? = some 10
def offsF (sp : Nat) : Nat → List Fl → List Fo
  | _, [] => []
  | o, f :: r => (f.1, o, f.2) :: offsF sp (o + (wrL f.1 f.2).length + 1) r
def offsR (sp : Nat) : Nat → List (List Fl) → List (List Fo)
  | _, [] => []
  | o, r :: rs => offsF sp o r :: offsR sp (o + (recT sp r).length + 1) rs
def bodyT (sp : Nat) : List (List Fl) → Option (List Fl) → List Nat
  | [], none => []
  | [], some r => recT sp r
  | r :: rs, tl => recT sp r ++ 10 :: bodyT sp rs tl
theorem dbl_app : ∀ a b : List Nat, dblL (a ++ b) = dblL a ++ dblL b
  | [], _ => rfl
  | c :: r, b => by
    show (if c = 34 then 34 :: 34 :: dblL (r ++ b) else c :: dblL (r ++ b)) = (if c = 34 then 34 :: 34 :: dblL r else c :: dblL r) ++ dblL b
    rw [dbl_app r b]
    split <;> rfl
theorem dbl_plain : ∀ {a : List Nat}, 34 ∉ a → dblL a = a
  | [], _ => rfl
  | c :: r, h => by
    unfold dblL
    rw [if_neg (fun z => h (by rw [z]; exact List.mem_cons_self)), dbl_plain fun z => h (List.mem_cons_of_mem _ z)]
theorem cut34 : ∀ s : List Nat, ∃ a tl, s = a ++ tl ∧ 34 ∉ a ∧ (tl = [] ∨ ∃ t, tl = 34 :: t)
  | [] => ⟨[], [], rfl, List.not_mem_nil, .inl rfl⟩
  | c :: r => by
    by_cases h : c = 34
    · exact ⟨[], c :: r, rfl, List.not_mem_nil, .inr ⟨r, by rw [h]⟩⟩
    · obtain ⟨a, tl, e, ha, ht⟩ := cut34 r
      refine ⟨c :: a, tl, by rw [e]; rfl, fun z => ?_, ht⟩
      rcases List.mem_cons.mp z with z | z
      · exact h z.symm
      · exact ha z
theorem join_snoc2 (b : List Nat) : ∀ (ps : List (List Nat)) (a : List Nat), TL.joinL [34] (ps ++ [a ++ 34 :: b]) = TL.joinL [34] (ps ++ [a, b])
  | [], a => by
    show a ++ 34 :: b = a ++ ([34] ++ b)
    rfl
  | [p], a => by
    show p ++ ([34] ++ (a ++ 34 :: b)) = p ++ ([34] ++ (a ++ ([34] ++ b)))
    rfl
  | p :: q :: r, a => by
    show p ++ ([34] ++ TL.joinL [34] (q :: r ++ [a ++ 34 :: b])) = p ++ ([34] ++ TL.joinL [34] (q :: r ++ [a, b]))
    rw [join_snoc2 b (q :: r) a]
theorem dbl_len : ∀ s : List Nat, s.length ≤ (dblL s).length
  | [] => Nat.le_refl _
  | c :: r => by
    have := dbl_len r
    unfold dblL
    split
    · show r.length + 1 ≤ (dblL r).length + 1 + 1
      omega
    · show r.length + 1 ≤ (dblL r).length + 1
      omega
/-! ### the class Field -/
def fldF (x : Str) (o : Nat) (m : Bool) : List (Str × V) := putF "marked" (.bl m) (putF "offset" (.int (o : Int)) (putF "text" (.str x) []))
theorem fldF_text {x : Str} {o : Nat} {m : Bool} : (fldF x o m).lookup ("text" : Str) = some (.str x) := by
  unfold fldF
  rw [lookup_putF, if_neg (by decide +kernel), lookup_putF, if_neg (by decide +kernel), lookup_putF, if_pos rfl]
theorem fldF_offset {x : Str} {o : Nat} {m : Bool} : (fldF x o m).lookup ("offset" : Str) = some (.int (o : Int)) := by
  unfold fldF
  rw [lookup_putF, if_neg (by decide +kernel), lookup_putF, if_pos rfl]
theorem fldF_marked {x : Str} {o : Nat} {m : Bool} : (fldF x o m).lookup ("marked" : Str) = some (.bl m) := by
  unfold fldF
  rw [lookup_putF, if_pos rfl]
def FieldAt (K : PySem.W.Frag) (H : Hp) (p : Addr) (l : Fo) : Prop := ∃ dx, H p = some (.ins (clsAt K "Field") dx (fldF (SX.S l.1) l.2.1 l.2.2))
theorem FieldAt.ex {K : PySem.W.Frag} {H H' : Hp} {p : Addr} {l : Fo} (h : FieldAt K H p l) (e : Ex H H') : FieldAt K H' p l := by
  obtain ⟨dx, h⟩ := h
  exact ⟨dx, e _ _ h⟩
theorem FieldAt.upd {K : PySem.W.Frag} {H : Hp} {p q : Addr} {l : Fo} {ys zs : List V} (h : FieldAt K H p l) (hq : H q = some (.lst ys)) : FieldAt K (upd H q (.lst zs)) p l := by
  obtain ⟨dx, h⟩ := h
  exact ⟨dx, by rw [upd_ne (fun z => by rw [z, hq] at h; cases h)]; exact h⟩
theorem FieldAt.wo {K : PySem.W.Frag} {H : Hp} {p q : Addr} {l : Fo} {ys : List V} (h : FieldAt K H p l) (hq : H q = some (.lst ys)) : FieldAt K (wo q H) p l := by
  obtain ⟨dx, h⟩ := h
  exact ⟨dx, by rw [wo_ne (fun z => by rw [z, hq] at h; cases h)]; exact h⟩
section
variable {K : PySem.W.Frag} {σ : L2.St} {H : Hp} {ta tb tc te tv : TE} {tr : TA} {D : Ends} {tz : TS} {p C dx : Addr} {fs : List (Str × V)} {f : Str} {v : V}
theorem putF_le (f : Str) (v : V) : ∀ fs : List (Str × V), (putF f v fs).length ≤ fs.length + 1
  | [] => Nat.le_refl _
  | (g, x) :: r => by
    unfold putF
    split
    · show r.length + 1 ≤ r.length + 1 + 1
      omega
    · have := putF_le f v r
      show (putF f v r).length + 1 ≤ r.length + 1 + 1
      omega
theorem ev_fld (ha : Ev ta σ H (.ref p)) (hp : H p = some (.ins C dx fs)) (c : Cls K C) (n : NoAttr K C f) (l : fs.lookup f = some v) : Ev (tFld K ta f) σ H v := fun H1 e Q q => ha H1 e _ fun H2 e2 => ⟨p, C, dx, fs, v, rfl, (e.trans e2) _ _ hp, c, n, l, q H2 e2⟩
theorem s_fld (hv : Ev tv σ H v) (ha : ∀ H1, Ex H H1 → Ev ta σ H1 (.ref p)) (hp : H p = some (.ins C dx fs)) (c : Cls K C) (n : NoAttr K C f) (hl : fs.length < 1000) (k : ∀ H1, Ex H H1 → D.nx σ (upd H1 p (.ins C dx (putF f v fs)))) : sFld K ta tv f D σ H :=
  hv H (Ex.refl H) _ fun H1 e1 => ha H1 e1 H1 (Ex.refl H1) _ fun H2 e2 => ⟨p, C, dx, fs, rfl, (e1.trans e2) _ _ hp, c, n, hl, k H2 (e1.trans e2)⟩
theorem q_fld (hv : Ev tv σ H v) (ha : ∀ H1, Ex H H1 → Ev ta σ H1 (.ref p)) (hp : H p = some (.ins C dx fs)) (c : Cls K C) (n : NoAttr K C f) (hl : fs.length < 1000) (k : ∀ H1, Ex H H1 → tz D σ (upd H1 p (.ins C dx (putF f v fs)))) : tSeq (sFld K ta tv f) tz D σ H := s_fld (D := { D with nx := tz D }) hv ha hp c n hl k
end
def sp_Field____init__ (K : PySem.W.Frag) : Sp := fun vs H Q _ => ∃ (p dx : Addr) (x : Str) (o : Nat) (m : Bool), vs = [.ref p, .str x, .int (o : Int), .bl m] ∧ H p = some (.ins (clsAt K "Field") dx []) ∧ ∀ H', Ex (wo p H) H' → H' p = some (.ins (clsAt K "Field") dx (fldF x o m)) → Q .non H'
def spFld (m : Bool) (K : PySem.W.Frag) : Sp := fun vs H Q _ => ∃ (sp : Nat) (t pre s rest : List Nat), vs = [.str (SX.S t), .int (pre.length : Nat), .str (SX.S [sp])] ∧ t = pre ++ (wrL s m ++ rest) ∧ okF sp (s, m) ∧ okR sp rest ∧ okSep sp ∧ t.length ≤ 50000 ∧
  ∀ q p H', H q = none → Ex H H' → H' q = some (.tup [.ref p, .int ((pre.length + (wrL s m).length : Nat) : Int)]) → FieldAt K H' p (s, pre.length, m) → Q (.ref q) H'
abbrev sp__marked_field (K : PySem.W.Frag) : Sp := spFld true K
abbrev sp__plain_field (K : PySem.W.Frag) : Sp := spFld false K
def sp__next_record (K : PySem.W.Frag) : Sp := fun vs H Q _ => ∃ (sp : Nat) (t pre rest : List Nat) (fs : List Fl), vs = [.str (SX.S t), .int (pre.length : Nat), .str (SX.S [sp])] ∧ t = pre ++ (recT sp fs ++ rest) ∧ fs ≠ [] ∧ (∀ f ∈ fs, okF sp f) ∧ okE rest ∧ okSep sp ∧ t.length ≤ 50000 ∧
  ∀ q p H', H q = none → H p = none → Ex H H' → H' q = some (.tup [.ref p, .int ((pre.length + (recT sp fs).length + 1 : Nat) : Int)]) → Lst2 (FieldAt K) H' p (offsF sp pre.length fs) → Q (.ref q) H'
def okRec (sp : Nat) (r : List Fl) : Prop := r ≠ [] ∧ ∀ f ∈ r, okF sp f
def sp_split_records (K : PySem.W.Frag) : Sp := fun vs H Q _ => ∃ (sp : Nat) (rs : List (List Fl)) (tl : Option (List Fl)), vs = [.str (SX.S (bodyT sp rs tl)), .str (SX.S [sp])] ∧ (∀ r ∈ rs, okRec sp r) ∧ (∀ r, tl = some r → okRec sp r ∧ recT sp r ≠ []) ∧ okSep sp ∧ (bodyT sp rs tl).length ≤ 50000 ∧
  ∀ p H', H p = none → Ex H H' → Lst2 (Lst2 (FieldAt K)) H' p (offsR sp 0 (rs ++ tl.toList)) → Q (.ref p) H'
section
variable {K : PySem.W.Frag} {σ : L2.St} {H : Hp} {tr : TA} {E : XK}
theorem er_field {x : List Nat} {o : Nat} {m : Bool} (ha : EvA tr σ H [.str (SX.S x), .int (o : Int), .bl m]) : EvR (fun H p => FieldAt K H p (x, o, m)) (tMake (clsAt K "Field") (sp_Field____init__ K) [] C8.E0 tr) σ H := fun H0 e0 Q q =>
  ha H0 e0 _ fun H1 e1 => fun x' dx hx hdx ne => by
    have up : Ex H1 (wo x' (upd (upd H1 dx (.own x')) x' (.ins (clsAt K "Field") dx []))) := fun b o hb => by
      have nb : b ≠ x' := fun z => by rw [z, hx] at hb; cases hb
      have nd : b ≠ dx := fun z => by rw [z, hdx] at hb; cases hb
      rw [wo_ne nb, upd_ne nb, upd_ne nd]
      exact hb
    refine ⟨x', dx, SX.S x, o, m, rfl, upd_same, fun H' e' h' => ⟨rfl, ?_⟩⟩
    exact q x' H' (fresh_back e1 hx) (e1.trans (up.trans e')) ⟨dx, h'⟩
end
section
variable {P : Program} {w : World} {K : PySem.W.Frag} {mg : Str → Option Value} {base : Heap}
theorem ok_Field____init__ (D : MetD K "Field" "__init__" "Field.__init__" s_Field____init__ ["self", "text", "offset", "marked"]) (C_Field : ClsD K mg "Field" ["text", "offset", "marked"]) (I_Field : OwnI K "Field") :
    C8.Mak P w K mg base 1 "Field" (clsAt K "Field") (sp_Field____init__ K) [] := by
  refine mak_of C_Field D sc_Field____init__ (fun vs H Q E h => ?_) (fun f cdv A outer s H vs Q E hr h => ?_)
  · obtain ⟨_, _, _, _, _, rfl, _⟩ := h
    rfl
  refine ⟨_, (pss_cons (ps_fld (pv 0) (pv 1) rfl)
    (pss_cons (ps_fld (pv 0) (pv 2) rfl)
    (pss_one (ps_fld (pv 0) (pv 3) rfl)))), ?_⟩
  obtain ⟨p, dx, x, o, m, rfl, hp, q⟩ := h
  have cl := C_Field.cl
  refine q_fld (ev_var rfl) (fun _ _ => ev_var rfl) hp cl C_Field.na.1 (by decide) fun H1 e1 => ?_
  have l1 : (putF "text" (V.str x) []).length < 1000 := Nat.lt_of_le_of_lt (putF_le _ _ _) (by decide)
  have l2 : ∀ m, (putF "offset" m (putF "text" (V.str x) [])).length < 1000 := fun m => Nat.lt_of_le_of_lt (putF_le _ _ _) (Nat.lt_of_le_of_lt (Nat.succ_le_succ (putF_le _ _ _)) (by decide))
  refine q_fld (ev_var rfl) (fun _ _ => ev_var rfl) upd_same cl C_Field.na.2.1 l1 fun H2 e2 => ?_
  refine s_fld (ev_var rfl) (fun _ _ => ev_var rfl) upd_same cl C_Field.na.2.2.1 (l2 _) fun H3 e3 => q _ ?_ upd_same
  have xa : Ex (wo p H) (upd H1 p (.ins (clsAt K "Field") dx (putF "text" (.str x) []))) := wx_mut (wx_of e1)
  have xb : Ex (wo p H) (upd H2 p (.ins (clsAt K "Field") dx (putF "offset" (.int (o : Int)) (putF "text" (.str x) [])))) := wx_mut (xa.trans e2)
  exact wx_mut (xb.trans e3)
theorem mk34 : PySem.Str.ofString "\"" = SX.S [34] := by decide +kernel
theorem mk10 : PySem.Str.ofString "\n" = SX.S [10] := by decide +kernel
theorem dec_S {a b : List Nat} : decide (V.str (SX.S a) = V.str (SX.S b)) = decide (a = b) := by
  by_cases h : a = b
  · rw [h, decide_eq_true rfl, decide_eq_true rfl]
  · rw [decide_eq_false h, decide_eq_false fun z => h (SX.S_inj (V.str.inj z))]
def stopB (sp : Nat) : List Nat → Bool
  | [] => false
  | c :: _ => !decide (c = sp) && !decide (c = 10)
/-- a condition over the sign at a place, or the end -/
theorem et_stop {t : List Nat} {at_ sp i j : Nat} {σ : L2.St} {H : Hp} {b : Bool} (h0 : σ[0]? = some (some (.str (SX.S t)))) (h1 : σ[i]? = some (some (.int (at_ : Int)))) (h2 : σ[j]? = some (some (.str (SX.S [sp])))) (hz : t.length ≤ 50000)
    (hb : b = stopB sp (t.drop at_)) :
    EvT (tAnd (tTest (tOp (rI0 fun i j => .bl (decide (i < j))) (tVar i) (tCB (fun xs H Q => ∃ z, xs = [.str z] ∧ z.length ≤ sizeLine ∧ Q (.int z.length) H) (tCons (tVar 0) tNil)))) (tAnd (tTest (tOp rNe (tOp rIxS (tVar 0) (tVar i)) (tVar j))) (tTest (tOp rNe (tOp rIxS (tVar 0) (tVar i)) (tC (.str (SX.S [10]))))))) σ H b := by
  have hz2 : t.length ≤ 100000 := by omega
  have hl : (SX.S t).length ≤ 100000 := by rw [SX.S_len]; exact hz2
  refine et_is (a := decide ((at_ : Int) < (t.length : Int)) && (!decide ((t.getD at_ 0) = sp) && !decide ((t.getD at_ 0) = 10))) (et_and (et_test (ev_op (ev_var h1) (ev_lenX (ev_var h0) hz2) rv_I0)) fun hlt => ?_) ?_
  · have hi : at_ < t.length := by have := of_decide_eq_true hlt; omega
    have hx : atI (SX.S t).cps.toList (at_ : Int) = some (t.getD at_ 0) := atI_nat (by
      show t[at_]? = _
      rw [List.getD_eq_getElem?_getD, List.getElem?_eq_getElem hi]
      rfl)
    have ix : Ev (tOp rIxS (tVar 0) (tVar i)) σ H (.str (SX.S [t.getD at_ 0])) := ev_op (ev_var h0) (ev_var h1) (rv_ixS hl hx)
    have e1 : ∀ c d : Nat, (!decide (V.str (SX.S [c]) = V.str (SX.S [d]))) = !decide (c = d) := fun c d => by
      rw [dec_S]
      by_cases h : c = d
      · rw [h]; simp
      · rw [decide_eq_false h, decide_eq_false fun z => h (List.cons.inj z).1]
    exact et_and (et_test (ev_is (ev_op ix (ev_var h2) (rv_ne rfl)) (by rw [e1]))) fun _ => et_test (ev_is (ev_op ix ev_c (rv_ne rfl)) (by rw [e1]))
  · rw [hb]
    cases h : t.drop at_ with
    | nil =>
      have := drop_nil h
      rw [decide_eq_false (by omega), Bool.false_and]
      rfl
    | cons c r =>
      obtain ⟨h3, h4, _⟩ := at_drop h
      rw [decide_eq_true (by omega), Bool.true_and, List.getD_eq_getElem?_getD, h3]
      rfl
theorem okR_stop {sp : Nat} {rest : List Nat} (h : okR sp rest) : stopB sp rest = false := by
  cases rest with
  | nil => rfl
  | cons c r =>
    rcases h c rfl with z | z
    · show (!decide (c = sp) && !decide (c = 10)) = false
      rw [decide_eq_true z]
      rfl
    · show (!decide (c = sp) && !decide (c = 10)) = false
      rw [decide_eq_true z, Bool.not_true, Bool.and_false]
theorem okR_one {sp : Nat} {rest : List Nat} (h : okR sp rest) (hs : okSep sp) : rest.take 1 ≠ [34] := fun z => by
  cases rest with
  | nil => cases z
  | cons c r =>
    have hc : c = 34 := (List.cons.inj z).1
    rcases h c rfl with z | z
    · rcases hs with h | h | h <;> omega
    · omega
end

--@SPLIT
section
variable {P : Program} {w : World} {K : PySem.W.Frag} {mg : Str → Option Value} {base : Heap}
theorem ok__marked_field (D : Dn K mg "_marked_field" s__marked_field ["text", "start", "separator"]) (C_Field : ClsD K mg "Field" ["text", "offset", "marked"]) (I_Field : OwnI K "Field") (c_Field____init__ : C8.Mak P w K mg base 1 "Field" (clsAt K "Field") (sp_Field____init__ K) []) (z_len : mg "len" = none) (g__LINE_END : ∃ u, mg "_LINE_END" = some u ∧ RelV (.str (SX.S [10])) u) (g__MARK : ∃ u, mg "_MARK" = some u ∧ RelV (.str (SX.S [34])) u) :
    C8.Cal P w K mg base 3 "_marked_field" (sp__marked_field K) [] := by
  refine cal_of D sc__marked_field (fun vs H Q E h => ?_) (fun f cdv A outer s H vs Q E hr h => ?_)
  · obtain ⟨_, _, _, _, _, rfl, _⟩ := h
    rfl
  refine ⟨_, (pss_cons (ps_set (i := 3) sc__marked_field.nd rfl (.inl rfl) (pe_lst pa_nil))
    (pss_cons (ps_set (i := 4) sc__marked_field.nd rfl (.inl rfl) (pe_op op_add (pv 1) pe_int))
    (pss_cons (ps_set (i := 5) sc__marked_field.nd rfl (.inl rfl) pe_bl)
    (pss_cons (ps_while PassesOwn.never (pt_not (pt_val (pv 5)))
      (pss_cons (ps_set (i := 6) sc__marked_field.nd rfl (.inl rfl) (pe_bm PySem.F.plainAttrs_str PySem.F.slot_str_find PySem.F.type_str_find mt_find3 (pv 0) (pa_cons (C8.pe_gc rfl g__MARK) (pa_cons (pv 4) pa_nil))))
    (pss_cons (ps_if (pt_cmpR op_lt (pv 6) pe_int (nomark _))
      (pss_one ps_never)
      pss_nil)
    (pss_cons (ps_expr (pe_bm PySem.F.plainAttrs_list PySem.F.slot_list_append PySem.F.type_list_append mt_append (pv 3) (pa_cons (pe_slice C8.sl_txt (pv 0) (po_some (pv 4)) (po_some (pv 6))) pa_nil)))
    (pss_cons (ps_set (i := 5) sc__marked_field.nd rfl (.inl rfl) (pe_cmpR op_ne (pe_slice C8.sl_txt (pv 0) (po_some (pe_op op_add (pv 6) pe_int)) (po_some (pe_op op_add (pv 6) pe_int))) (C8.pe_gc rfl g__MARK) (nomark _)))
    (pss_one (ps_set (i := 4) sc__marked_field.nd rfl (.inl rfl) (pe_ifExp (pt_val (pv 5)) (pe_op op_add (pv 6) pe_int) (pe_op op_add (pv 6) pe_int)))))))))
    (pss_cons (ps_if (PW.pt (pw_and (pt_cmpR op_lt (pv 4) (pe_callB call_len_str (by rfl) z_len PySem.boot_len (pa_cons (pv 0) pa_nil)) (nomark _)) (pw_and (pt_cmpR op_ne (pe_ix ix_str (pv 0) (pv 4) (fun _ _ => rfl)) (pv 2) (nomark _)) (pw_and1 (pt_cmpR op_ne (pe_ix ix_str (pv 0) (pv 4) (fun _ _ => rfl)) (C8.pe_gc rfl g__LINE_END) (nomark _))))))
      (pss_one ps_never)
      pss_nil)
    (pss_one (ps_ret (pe_tup (pa_cons (C8.pe_mk c_Field____init__ hr (by decide) (by rfl) (pa_cons (pe_join (C8.pe_gc rfl g__MARK) (pv 3)) (pa_cons (pv 1) (pa_cons pe_bl pa_nil)))) (pa_cons (pv 4) pa_nil)))))))))), ?_⟩
  obtain ⟨sp, t, pre, s, rest, rfl, ht, hF, hR, hs, hz, q⟩ := h
  have hw : wrL s true = 34 :: (dblL s ++ [34]) := rfl
  rw [hw] at ht q
  have hz2 : t.length ≤ 100000 := by omega
  have hd0 : t.drop pre.length = 34 :: (dblL s ++ 34 :: rest) := by rw [ht, List.drop_left]; simp
  obtain ⟨_, hlt, hd1⟩ := at_drop hd0
  refine q_asgL (el_lst ea_nil (by decide)) fun pp H1 hpp e1 h1 => ?_
  refine q_asg (v := .int ((pre.length + 1 : Nat) : Int)) (ev_op (ev_var rfl) ev_c rv_I0) fun H2 e2 => ?_
  refine q_asg (v := .bl false) ev_c fun H3 e3 => ?_
  refine q_while (fun m σ' H' => ∃ (at' : Nat) (cl : Bool) (pcs : List (List Nat)) (ev : Option V), σ' = [some (.str (SX.S t)), some (.int (pre.length : Nat)), some (.str (SX.S [sp])), some (.ref pp), some (.int (at' : Int)), some (.bl cl), ev] ∧ Ex H H' ∧ H' pp = some (.lst ((pcs.map SX.S).map V.str)) ∧ pcs.length ≤ at' ∧ at' ≤ t.length ∧
      ((cl = false ∧ ∃ s', t.drop at' = dblL s' ++ 34 :: rest ∧ TL.joinL [34] (pcs ++ [s']) = s ∧ m = s'.length + 1) ∨ (cl = true ∧ t.drop at' = rest ∧ TL.joinL [34] pcs = s ∧ m = 0))) (s.length + 1) ⟨pre.length + 1, false, [], none, rfl, (e1.trans e2).trans e3, e3 _ _ (e2 _ _ h1), Nat.zero_le _, hlt, .inl ⟨rfl, s, hd1, rfl, rfl⟩⟩ fun m σ' H' pv => ?_
  obtain ⟨at', cl, pcs, ev, rfl, e, hl, hpl, hat, hc⟩ := pv
  refine ⟨!cl, et_not (et_B (ev_var rfl)), fun hb H4 e4 => ?_, fun hb H4 e4 => ?_⟩
  · rcases hc with ⟨rfl, s', hd, hj, rfl⟩ | ⟨rfl, _⟩
    rotate_left
    · exact nomatch hb
    obtain ⟨a, tl, rfl, ha, htl⟩ := cut34 s'
    have hmore : ∃ more, t.drop at' = a ++ 34 :: more ∧ ((tl = [] ∧ more = rest) ∨ ∃ t', tl = 34 :: t' ∧ more = 34 :: (dblL t' ++ 34 :: rest)) := by
      rw [dbl_app, dbl_plain ha] at hd
      rcases htl with rfl | ⟨t', rfl⟩
      · exact ⟨rest, by rw [hd]; simp [dblL], .inl ⟨rfl, rfl⟩⟩
      · refine ⟨_, ?_, .inr ⟨t', rfl, rfl⟩⟩
        rw [hd]
        show a ++ (if (34 : Nat) = 34 then 34 :: 34 :: dblL t' else 34 :: dblL t') ++ 34 :: rest = _
        rw [if_pos rfl]
        simp
    obtain ⟨more, hdm, hcase⟩ := hmore
    have hf := find3_at hdm ha
    have hdr := drop_app hdm
    obtain ⟨_, hlt2, hdr2⟩ := at_drop hdr
    refine ⟨fun σ2 H2 => ∃ m', m' < (a ++ tl).length + 1 ∧ ∃ (at' : Nat) (cl : Bool) (pcs : List (List Nat)) (ev : Option V), σ2 = [some (.str (SX.S t)), some (.int (pre.length : Nat)), some (.str (SX.S [sp])), some (.ref pp), some (.int (at' : Int)), some (.bl cl), ev] ∧ Ex H H2 ∧ H2 pp = some (.lst ((pcs.map SX.S).map V.str)) ∧ pcs.length ≤ at' ∧ at' ≤ t.length ∧
      ((cl = false ∧ ∃ s', t.drop at' = dblL s' ++ 34 :: rest ∧ TL.joinL [34] (pcs ++ [s']) = s ∧ m' = s'.length + 1) ∨ (cl = true ∧ t.drop at' = rest ∧ TL.joinL [34] pcs = s ∧ m' = 0)), fun σ2 H2 h => h, ?_⟩
    refine q_asg (v := .int ((at' + a.length : Nat) : Int)) (ev_bmS (a := SX.S t) (ys := [.str (SX.S [34]), .int (at' : Int)]) (ev_var rfl) (ea_cons ev_c (ea_cons (ev_var rfl) ea_nil)) fun H1 Q k => ⟨SX.S t, SX.S [34], (at' : Int), rfl, rfl, by rw [hf]; exact k H1 (Ex.refl H1)⟩) fun H5 e5 => ?_
    refine q_when (b := decide (((at' + a.length : Nat) : Int) < 0)) (et_test (ev_op (ev_var rfl) ev_c rv_I0)) (fun hb => absurd (of_decide_eq_true hb) (by omega)) fun _ H6 e6 => ?_
    have x6 := (e4.trans e5).trans e6
    refine q_app (v := .str (SX.S a)) (x6 _ _ hl) (ev_var rfl) (ev_is (ev_slM (i := at') (j := at' + a.length) (ev_var rfl) (ev_var rfl) (ev_var rfl) (by omega) (by omega) hz2) ?_) (by rw [List.length_map, List.length_map]; omega) fun H7 e7 => ?_
    · rw [hdm, show at' + a.length - at' = a.length by omega, List.take_left]
    refine q_asg (v := .bl (!decide (V.str (SX.S (more.take 1)) = V.str (SX.S [34])))) (ev_op (ev_is (ev_slA (i := at' + a.length + 1) (j := at' + a.length + 2) (ev_var rfl) (ev_op (ev_var rfl) ev_c rv_I0) (ev_op (ev_var rfl) ev_c rv_I0) hz2) ?_) ev_c (rv_ne rfl)) fun H8 e8 => ?_
    · rw [take1, hdr2]
    have hpp7 : (upd H7 pp (.lst ((pcs.map SX.S).map V.str ++ [.str (SX.S a)]))) pp = some (.lst (((pcs ++ [a]).map SX.S).map V.str)) := by
      rw [upd_same, List.map_append, List.map_append]
      rfl
    have x8 : Ex H H8 := (Ex.mut ((e.trans x6).trans e7) hpp).trans e8
    rw [dec_S]
    rcases hcase with ⟨rfl, rfl⟩ | ⟨t', rfl, rfl⟩
    · rw [decide_eq_false (okR_one hR hs)]
      refine s_asg (v := .int ((at' + a.length + 1 : Nat) : Int)) (ev_if (b := true) (et_B (ev_var rfl)) (fun _ => ev_op (ev_var rfl) ev_c rv_I0) fun h => nomatch h) fun H9 e9 => ⟨0, by omega, at' + a.length + 1, true, pcs ++ [a], _, rfl, x8.trans e9, e9 _ _ (e8 _ _ hpp7), ?_, hlt2, .inr ⟨rfl, hdr2, ?_, rfl⟩⟩
      · rw [List.length_append]
        show pcs.length + 1 ≤ _
        omega
      · rw [← hj, List.append_nil]
    · have e2' : (34 :: (dblL t' ++ 34 :: rest)).take 1 = [34] := rfl
      rw [decide_eq_true e2']
      have hdr3 := at_drop hdr2
      refine s_asg (v := .int ((at' + a.length + 2 : Nat) : Int)) (ev_if (b := false) (et_B (ev_var rfl)) (fun h => nomatch h) fun _ => ev_op (ev_var rfl) ev_c rv_I0) fun H9 e9 => ⟨t'.length + 1, ?_, at' + a.length + 2, false, pcs ++ [a], _, rfl, x8.trans e9, e9 _ _ (e8 _ _ hpp7), ?_, hdr3.2.1, .inl ⟨rfl, t', hdr3.2.2, ?_, rfl⟩⟩
      · rw [List.length_append, List.length_cons]
        omega
      · rw [List.length_append]
        show pcs.length + 1 ≤ _
        omega
      · rw [← hj, join_snoc2, List.append_assoc]
        rfl
  · rcases hc with ⟨rfl, _⟩ | ⟨rfl, hd, hj, rfl⟩
    · exact nomatch hb
    have hal : at' = pre.length + (34 :: (dblL s ++ [34])).length := by
      have h1 := congrArg List.length hd
      have h2 := congrArg List.length hd0
      rw [List.length_drop] at h1 h2
      rw [List.length_cons, List.length_append] at h2 ⊢
      rw [List.length_cons] at h2
      simp only [List.length_cons, List.length_nil] at h2 ⊢
      omega
    refine q_when (et_stop (b := false) (i := 4) (j := 2) (sp := sp) rfl rfl rfl hz (by rw [hd, okR_stop hR])) (fun h => nomatch h) fun _ H5 e5 => ?_
    have x5 := e.trans (e4.trans e5)
    refine (show tRet _ _ _ _ from ?_)
    have hsl : s.length ≤ t.length := by
      have h1 := dbl_len s
      have h2 := congrArg List.length hd0
      rw [List.length_drop, List.length_cons, List.length_append] at h2
      omega
    exact s_retUR (R := fun H p => FieldAt K H p (s, pre.length, true)) (fun H H' p e h => FieldAt.ex h e) (er_field (x := s) (o := pre.length) (m := true) (ea_cons (ev_is (ev_joinL (w := [34]) ev_c (ev_var rfl) (sq_of ((e4.trans e5) _ _ hl)) (by rw [hj]; omega) (by omega) (by decide)) (by rw [hj])) (ea_cons (ev_var rfl) (ea_cons ev_c ea_nil)))) (fun H1 e1 => ea_cons (ev_var rfl) ea_nil) (by show 1 ≤ 1000; decide) fun qa p H6 hqa e6 hf h6 => q qa p H6 (fresh_back x5 hqa) (x5.trans e6) (by rw [h6, hal]) hf
end

--@SPLIT
theorem ix_at {t : List Nat} {i c : Nat} {σ : L2.St} {H : Hp} {j : Nat} (h0 : σ[0]? = some (some (.str (SX.S t)))) (h1 : σ[j]? = some (some (.int (i : Int)))) (h : t[i]? = some c) (hz : t.length ≤ 50000) : Ev (tOp rIxS (tVar 0) (tVar j)) σ H (.str (SX.S [c])) :=
  ev_op (ev_var h0) (ev_var h1) (rv_ixS (by rw [SX.S_len]; omega) (atI_nat h))
theorem rec_cons (sp : Nat) (f : Fl) (r : List Fl) : recT sp (f :: r) = wrL f.1 f.2 ++ (if r = [] then [] else sp :: recT sp r) := by
  cases r with
  | nil => rw [if_pos rfl, List.append_nil]; rfl
  | cons g r => rw [if_neg (fun h => nomatch h)]; rfl
theorem okE_R {sp : Nat} {r : List Nat} (h : okE r) : okR sp r := fun c hc => by
  rcases h with h | h
  · rw [h] at hc; cases hc
  · rw [h] at hc; cases hc; exact .inr rfl
section
variable {P : Program} {w : World} {K : PySem.W.Frag} {mg : Str → Option Value} {base : Heap}
theorem ok__plain_field (D : Dn K mg "_plain_field" s__plain_field ["text", "start", "separator"]) (C_Field : ClsD K mg "Field" ["text", "offset", "marked"]) (I_Field : OwnI K "Field") (c_Field____init__ : C8.Mak P w K mg base 1 "Field" (clsAt K "Field") (sp_Field____init__ K) []) (z_len : mg "len" = none) (g__LINE_END : ∃ u, mg "_LINE_END" = some u ∧ RelV (.str (SX.S [10])) u) (g__MARK : ∃ u, mg "_MARK" = some u ∧ RelV (.str (SX.S [34])) u) :
    C8.Cal P w K mg base 3 "_plain_field" (sp__plain_field K) [] := by
  refine cal_of D sc__plain_field (fun vs H Q E h => ?_) (fun f cdv A outer s H vs Q E hr h => ?_)
  · obtain ⟨_, _, _, _, _, rfl, _⟩ := h
    rfl
  refine ⟨_, (pss_cons (ps_set (i := 3) sc__plain_field.nd rfl (.inl rfl) (pv 1))
    (pss_cons (ps_while PassesOwn.never (PW.pt (pw_and (pt_cmpR op_lt (pv 3) (pe_callB call_len_str (by rfl) z_len PySem.boot_len (pa_cons (pv 0) pa_nil)) (nomark _)) (pw_and (pt_cmpR op_ne (pe_ix ix_str (pv 0) (pv 3) (fun _ _ => rfl)) (pv 2) (nomark _)) (pw_and1 (pt_cmpR op_ne (pe_ix ix_str (pv 0) (pv 3) (fun _ _ => rfl)) (C8.pe_gc rfl g__LINE_END) (nomark _))))))
      (pss_cons (ps_if (pt_cmpR op_eq (pe_ix ix_str (pv 0) (pv 3) (fun _ _ => rfl)) (C8.pe_gc rfl g__MARK) (nomark _))
      (pss_one ps_never)
      pss_nil)
    (pss_one (ps_aug (i := 3) sc__plain_field.nd rfl (.inl rfl) pe_int ip_add))))
    (pss_one (ps_ret (pe_tup (pa_cons (C8.pe_mk c_Field____init__ hr (by decide) (by rfl) (pa_cons (pe_slice C8.sl_txt (pv 0) (po_some (pv 1)) (po_some (pv 3))) (pa_cons (pv 1) (pa_cons pe_bl pa_nil)))) (pa_cons (pv 3) pa_nil))))))), ?_⟩
  obtain ⟨sp, t, pre, s, rest, rfl, ht, hF, hR, hs, hz, q⟩ := h
  have hw : wrL s false = s := rfl
  rw [hw] at ht q
  have hz2 : t.length ≤ 100000 := by omega
  have hd0 : t.drop pre.length = s ++ rest := by rw [ht, List.drop_left]
  have hdi : ∀ i, i ≤ s.length → t.drop (pre.length + i) = s.drop i ++ rest := fun i hi => by
    rw [← List.drop_drop, hd0, List.drop_append_of_le_length hi]
  have hlt : pre.length + s.length ≤ t.length := by rw [ht, List.length_append, List.length_append]; omega
  refine q_asg (v := .int ((pre.length + 0 : Nat) : Int)) (ev_var rfl) fun H1 e1 => ?_
  refine q_while (fun m σ' H' => ∃ i, i ≤ s.length ∧ σ' = [some (.str (SX.S t)), some (.int (pre.length : Nat)), some (.str (SX.S [sp])), some (.int ((pre.length + i : Nat) : Int))] ∧ Ex H H' ∧ m = s.length - i) s.length ⟨0, Nat.zero_le _, rfl, e1, rfl⟩ fun m σ' H' pv => ?_
  obtain ⟨i, hi, rfl, e, rfl⟩ := pv
  have hst : decide (i < s.length) = stopB sp (t.drop (pre.length + i)) := by
    rw [hdi i hi]
    by_cases h : i < s.length
    · rw [decide_eq_true h, List.drop_eq_getElem_cons h, List.cons_append]
      have hc := hF rfl s[i] (List.getElem_mem h)
      show true = (!decide (s[i] = sp) && !decide (s[i] = 10))
      rw [decide_eq_false hc.1, decide_eq_false hc.2.2]
      rfl
    · rw [decide_eq_false h, List.drop_eq_nil_of_le (by omega), List.nil_append, okR_stop hR]
  refine ⟨decide (i < s.length), et_stop (i := 3) (j := 2) (sp := sp) rfl rfl rfl hz hst, fun hb H2 e2 => ?_, fun hb H2 e2 => ?_⟩
  · have hi2 := of_decide_eq_true hb
    refine ⟨fun σ2 H3 => ∃ i', i' ≤ s.length ∧ i < i' ∧ σ2 = [some (.str (SX.S t)), some (.int (pre.length : Nat)), some (.str (SX.S [sp])), some (.int ((pre.length + i' : Nat) : Int))] ∧ Ex H H3, fun σ2 H3 h => ?_, ?_⟩
    · obtain ⟨i', h1, h2, h3, h4⟩ := h
      exact ⟨s.length - i', by omega, i', h1, h3, h4, rfl⟩
    have hd := hdi i hi
    rw [List.drop_eq_getElem_cons hi2, List.cons_append] at hd
    obtain ⟨hc, _, _⟩ := at_drop hd
    have h34 := (hF rfl s[i] (List.getElem_mem hi2)).2.1
    refine q_when (b := false) (et_test (ev_is (ev_op (ix_at rfl rfl hc hz) ev_c (rv_eq rfl)) ?_)) (fun h => nomatch h) fun _ H3 e3 => ?_
    · rw [dec_S, decide_eq_false fun z => h34 (List.cons.inj z).1]
    exact Evl.s_aug rfl ev_c fun H4 e4 => ⟨i + 1, hi2, Nat.lt_succ_self i, by
      have : ((pre.length + i : Nat) : Int) + 1 = ((pre.length + (i + 1) : Nat) : Int) := by omega
      rw [← this]
      rfl, ((e.trans e2).trans e3).trans e4⟩
  · have hi2 : i = s.length := by have := of_decide_eq_false hb; omega
    subst hi2
    have x2 := e.trans e2
    refine s_retUR (R := fun H p => FieldAt K H p (s, pre.length, false)) (fun H H' p e h => FieldAt.ex h e) (er_field (x := s) (o := pre.length) (m := false) (ea_cons (ev_is (ev_slM (i := pre.length) (j := pre.length + s.length) (ev_var rfl) (ev_var rfl) (ev_var rfl) (by omega) hlt hz2) ?_) (ea_cons (ev_var rfl) (ea_cons ev_c ea_nil)))) (fun H1 e1 => ea_cons (ev_var rfl) ea_nil) (by show 1 ≤ 1000; decide) fun qa p H6 hqa e6 hf h6 => q qa p H6 (fresh_back x2 hqa) (x2.trans e6) h6 hf
    rw [hd0, show pre.length + s.length - pre.length = s.length by omega, List.take_left]
theorem q_callG' {σ : L2.St} {H : Hp} {D : Ends} {sp : Sp} {vs : List V} {E : XK} {tr : TA} {g : TG} (h : EvA tr σ H vs) (k : ∀ H1, Ex H H1 → sp (vs ++ []) H1 (fun x H2 => g x σ H2 D.nx) E) : tAsg (tCall sp [] E tr) g D σ H := h H (Ex.refl H) _ fun H1 e1 => k H1 e1
theorem ok__next_record (D : Dn K mg "_next_record" s__next_record ["text", "start", "separator"]) (c__marked_field : C8.Cal P w K mg base 3 "_marked_field" (sp__marked_field K) []) (c__plain_field : C8.Cal P w K mg base 3 "_plain_field" (sp__plain_field K) []) (z_len : mg "len" = none) (g__LINE_END : ∃ u, mg "_LINE_END" = some u ∧ RelV (.str (SX.S [10])) u) (g__MARK : ∃ u, mg "_MARK" = some u ∧ RelV (.str (SX.S [34])) u) :
    C8.Cal P w K mg base 4 "_next_record" (sp__next_record K) [] := by
  refine cal_of D sc__next_record (fun vs H Q E h => ?_) (fun f cdv A outer s H vs Q E hr h => ?_)
  · obtain ⟨_, _, _, _, _, rfl, _⟩ := h
    rfl
  refine ⟨_, (pss_cons (ps_set (i := 3) sc__next_record.nd rfl (.inl rfl) (pe_lst pa_nil))
    (pss_cons (ps_set (i := 4) sc__next_record.nd rfl (.inl rfl) (pv 1))
    (pss_cons (ps_set (i := 5) sc__next_record.nd rfl (.inl rfl) pe_bl)
    (pss_cons (ps_while PassesOwn.never (pt_not (pt_val (pv 5)))
      (Evl.pss_cut (ps_if (pt_cmpR op_eq (pe_slice C8.sl_txt (pv 0) (po_some (pv 4)) (po_some (pe_op op_add (pv 4) pe_int))) (C8.pe_gc rfl g__MARK) (nomark _))
      (pss_one (ps_asg (C8.pe_c c__marked_field hr (by decide) (by rfl) (pa_cons (pv 0) (pa_cons (pv 4) (pa_cons (pv 2) pa_nil)))) (pg_tup rfl (pgs_cons (pg_name (i := 6) sc__next_record.nd rfl (.inl rfl)) (pgs_cons (pg_name (i := 4) sc__next_record.nd rfl (.inl rfl)) pgs_nil)))))
      (pss_one (ps_asg (C8.pe_c c__plain_field hr (by decide) (by rfl) (pa_cons (pv 0) (pa_cons (pv 4) (pa_cons (pv 2) pa_nil)))) (pg_tup rfl (pgs_cons (pg_name (i := 6) sc__next_record.nd rfl (.inl rfl)) (pgs_cons (pg_name (i := 4) sc__next_record.nd rfl (.inl rfl)) pgs_nil))))))
    (pss_cons (ps_expr (pe_bm PySem.F.plainAttrs_list PySem.F.slot_list_append PySem.F.type_list_append mt_append (pv 3) (pa_cons (pv 6) pa_nil)))
    (pss_cons (ps_set (i := 5) sc__next_record.nd rfl (.inl rfl) (pe_or (pe_cmpR op_eq (pv 4) (pe_callB call_len_str (by rfl) z_len PySem.boot_len (pa_cons (pv 0) pa_nil)) (nomark _)) (pe_one (pe_cmpR op_eq (pe_ix ix_str (pv 0) (pv 4) (fun _ _ => rfl)) (C8.pe_gc rfl g__LINE_END) (nomark _)))))
    (pss_one (ps_aug (i := 4) sc__next_record.nd rfl (.inl rfl) pe_int ip_add))))))
    (pss_one (ps_ret (pe_tup (pa_cons (pv 3) (pa_cons (pv 4) pa_nil))))))))), ?_⟩
  obtain ⟨sp, t, pre, rest, fs, rfl, ht, hne, hF, hE, hs, hz, q⟩ := h
  have hz2 : t.length ≤ 100000 := by omega
  have hd0 : t.drop pre.length = recT sp fs ++ rest := by rw [ht, List.drop_left]
  have hfull : pre.length + (recT sp fs).length + 1 = pre.length + (recT sp fs).length + 1 := rfl
  have hlt : pre.length + (recT sp fs).length ≤ t.length := by rw [ht, List.length_append, List.length_append]; omega
  refine q_asgL (el_lst ea_nil (by decide)) fun pf H1 hpf e1 h1 => ?_
  refine q_asg (v := .int (pre.length : Nat)) (ev_var rfl) fun H2 e2 => ?_
  refine q_asg (v := .bl false) ev_c fun H3 e3 => ?_
  refine q_while (fun m σ' H' => ∃ (at' : Nat) (en : Bool) (qs : List Addr) (L' : List Fo) (fs' : List Fl) (fv : Option V), σ' = [some (.str (SX.S t)), some (.int (pre.length : Nat)), some (.str (SX.S [sp])), some (.ref pf), some (.int (at' : Int)), some (.bl en), fv] ∧ Ex H H' ∧ H' pf = some (.lst (qs.map V.ref)) ∧ Al2 (FieldAt K) H' qs L' ∧ qs.length ≤ at' ∧ (∀ f ∈ fs', okF sp f) ∧ L' ++ offsF sp at' fs' = offsF sp pre.length fs ∧
      ((en = false ∧ fs' ≠ [] ∧ t.drop at' = recT sp fs' ++ rest ∧ at' ≤ t.length ∧ at' + (recT sp fs').length = pre.length + (recT sp fs).length ∧ m = fs'.length + 1) ∨ (en = true ∧ fs' = [] ∧ at' = pre.length + (recT sp fs).length + 1 ∧ m = 0))) (fs.length + 1) ⟨pre.length, false, [], [], fs, none, rfl, (e1.trans e2).trans e3, e3 _ _ (e2 _ _ h1), Al2.nil, Nat.zero_le _, hF, rfl, .inl ⟨rfl, hne, hd0, by omega, rfl, rfl⟩⟩ fun m σ' H' pv => ?_
  obtain ⟨at', en, qs, L', fs', fv, rfl, e, hl, hA, hql, hF', hL, hc⟩ := pv
  refine ⟨!en, et_not (et_B (ev_var rfl)), fun hb H4 e4 => ?_, fun hb H4 e4 => ?_⟩
  · rcases hc with ⟨rfl, hne', hd, hat, htot, rfl⟩ | ⟨rfl, _⟩
    rotate_left
    · exact nomatch hb
    obtain ⟨f, r, rfl⟩ := List.exists_cons_of_ne_nil hne'
    have hf := hF' f List.mem_cons_self
    rw [rec_cons, List.append_assoc] at hd
    rw [rec_cons, List.length_append] at htot
    generalize hre : (if r = [] then [] else sp :: recT sp r) ++ rest = rest' at hd
    have hR' : okR sp rest' := by
      rw [← hre]
      by_cases hr : r = []
      · rw [if_pos hr]; exact okE_R hE
      · rw [if_neg hr]; intro c hc; cases hc; exact .inl rfl
    refine ⟨fun σ2 H2 => ∃ m', m' < (f :: r).length + 1 ∧ ∃ (at' : Nat) (en : Bool) (qs : List Addr) (L' : List Fo) (fs' : List Fl) (fv : Option V), σ2 = [some (.str (SX.S t)), some (.int (pre.length : Nat)), some (.str (SX.S [sp])), some (.ref pf), some (.int (at' : Int)), some (.bl en), fv] ∧ Ex H H2 ∧ H2 pf = some (.lst (qs.map V.ref)) ∧ Al2 (FieldAt K) H2 qs L' ∧ qs.length ≤ at' ∧ (∀ f ∈ fs', okF sp f) ∧ L' ++ offsF sp at' fs' = offsF sp pre.length fs ∧
      ((en = false ∧ fs' ≠ [] ∧ t.drop at' = recT sp fs' ++ rest ∧ at' ≤ t.length ∧ at' + (recT sp fs').length = pre.length + (recT sp fs).length ∧ m' = fs'.length + 1) ∨ (en = true ∧ fs' = [] ∧ at' = pre.length + (recT sp fs).length + 1 ∧ m' = 0)), fun σ2 H2 h => h, ?_⟩
    have htk : (t.take at').length = at' := by rw [List.length_take]; omega
    have htt : t = t.take at' ++ (wrL f.1 f.2 ++ rest') := by rw [← hd, List.take_append_drop]
    have hlen : at' + (wrL f.1 f.2).length + rest'.length = t.length := by
      have := congrArg List.length hd
      rw [List.length_drop, List.length_append] at this
      omega
    -- one field, then the rest of the turn
    refine q_cut (M := fun σ2 H2 => ∃ p, σ2 = [some (.str (SX.S t)), some (.int (pre.length : Nat)), some (.str (SX.S [sp])), some (.ref pf), some (.int ((at' + (wrL f.1 f.2).length : Nat) : Int)), some (.bl false), some (.ref p)] ∧ Ex H' H2 ∧ FieldAt K H2 p (f.1, at', f.2)) ?_ fun σ2 H5 pw => ?_
    · refine s_if (b := f.2) (et_test (ev_is (ev_op (ev_slA (i := at') (j := at' + 1) (ev_var rfl) (ev_var rfl) (ev_op (ev_var rfl) ev_c rv_I0) hz2) ev_c (rv_eq rfl)) ?_)) (fun hb H5 e5 => ?_) fun hb H5 e5 => ?_
      · rw [take1, hd, dec_S]
        cases h : f.2 with
        | true => rfl
        | false =>
          have hp := hf h
          refine congrArg V.bl (decide_eq_false fun z => ?_)
          rw [show wrL f.1 false = f.1 from rfl] at z
          cases h1 : f.1 with
          | nil => rw [h1, List.nil_append] at z; exact okR_one hR' hs z
          | cons c r2 =>
            rw [h1] at z
            have hc : c = 34 := (List.cons.inj z).1
            exact (hp c (by rw [h1]; exact List.mem_cons_self)).2.1 hc
      all_goals
        have hf2 : okF sp (f.1, f.2) := hf
        rw [hb] at htt hf2 hlen ⊢
        refine (show tAsg _ _ _ _ _ from ?_)
        refine q_callG' (ea_cons (ev_var rfl) (ea_cons (ev_var rfl) (ea_cons (ev_var rfl) ea_nil))) fun H6 e6 => ⟨sp, t, t.take at', f.1, rest', by rw [htk]; rfl, htt, hf2, hR', hs, hz, fun qa p H7 hqa e7 h7 hfa => ?_⟩
        rw [htk] at h7 hfa
        exact gt2 (st_of h7) ⟨p, rfl, ((e4.trans e5).trans e6).trans e7, hfa⟩
    · obtain ⟨p, rfl, e5, hfa⟩ := pw
      have hd2 : t.drop (at' + (wrL f.1 f.2).length) = rest' := drop_app hd
      refine q_app (v := .ref p) (e5 _ _ hl) (ev_var rfl) (ev_var rfl) (by rw [List.length_map]; omega) fun H6 e6 => ?_
      have hpf6 := e6 _ _ (e5 _ _ hl)
      have x6 : Ex H (upd H6 pf (.lst (qs.map V.ref ++ [.ref p]))) := Ex.mut ((e.trans e5).trans e6) hpf
      have hA6 : Al2 (FieldAt K) (upd H6 pf (.lst (qs.map V.ref ++ [.ref p]))) (qs ++ [p]) (L' ++ [(f.1, at', f.2)]) := (hA.mono fun q l _ h => (h.ex (e5.trans e6)).upd hpf6).snoc ((hfa.ex e6).upd hpf6)
      generalize hG : upd H6 pf (.lst (qs.map V.ref ++ [.ref p])) = G at x6 hA6
      have hpfG : G pf = some (.lst ((qs ++ [p]).map V.ref)) := by rw [← hG, upd_same, List.map_append]; rfl
      generalize hat2 : at' + (wrL f.1 f.2).length = at2 at *
      refine q_asg (v := .bl (decide (r = []))) (ev_is (v := .bl (decide (V.int (at2 : Int) = V.int (t.length : Nat)) || decide (t.getD at2 0 = 10))) (ev_orV (ev_op (ev_var rfl) (ev_lenX (ev_var rfl) hz2) (rv_eq rfl)) fun hne => ?_) ?_) fun H7 e7 => ?_
      · have hlt3 : at2 < t.length := by
          have h1 := of_decide_eq_false hne
          have : ¬ at2 = t.length := fun z => h1 (by rw [z])
          omega
        have hx : t[at2]? = some (t.getD at2 0) := by rw [List.getD_eq_getElem?_getD, List.getElem?_eq_getElem hlt3]; rfl
        refine ev_is (ev_op (ix_at rfl rfl hx hz) ev_c (rv_eq rfl)) ?_
        rw [dec_S]
        by_cases h : t.getD at2 0 = 10
        · rw [h]; simp
        · rw [decide_eq_false h, decide_eq_false fun z => h (List.cons.inj z).1]
      · refine congrArg V.bl ?_
        by_cases hr : r = []
        · rw [if_pos hr, List.nil_append] at hre
          rw [decide_eq_true hr]
          rcases hE with hE | hE
          · have : t.length ≤ at2 := drop_nil (by rw [hd2, ← hre, hE])
            rw [show at2 = t.length by omega, decide_eq_true rfl, Bool.true_or]
          · cases hrest : rest with
            | nil => rw [hrest] at hE; cases hE
            | cons c r2 =>
              rw [hrest] at hE
              cases hE
              rw [hrest] at hre
              rw [← hre] at hd2
              obtain ⟨h1, h2, _⟩ := at_drop hd2
              rw [decide_eq_false (fun z => by have := Int.ofNat.inj (V.int.inj z); omega), List.getD_eq_getElem?_getD, h1]
              rfl
        · rw [if_neg hr, List.cons_append] at hre
          rw [decide_eq_false hr]
          rw [← hre] at hd2
          obtain ⟨h1, h2, _⟩ := at_drop hd2
          rw [decide_eq_false (fun z => by have := Int.ofNat.inj (V.int.inj z); omega), List.getD_eq_getElem?_getD, h1]
          show (false || decide (sp = 10)) = false
          rw [decide_eq_false (by rcases hs with h | h | h <;> omega)]
          rfl
      have hoff : L' ++ [(f.1, at', f.2)] ++ offsF sp (at2 + 1) r = offsF sp pre.length fs := by
        rw [← hL, List.append_assoc, ← hat2]
        rfl
      refine Evl.s_aug rfl ev_c fun H8 e8 => ?_
      have e78 := e7.trans e8
      by_cases hr : r = []
      · subst hr
        rw [if_pos rfl] at htot
        refine ⟨0, by simp, at2 + 1, true, qs ++ [p], _, [], _, by rw [decide_eq_true rfl]; rfl, x6.trans e78, e78 _ _ hpfG, hA6.mono fun q l _ h => h.ex e78, ?_, (fun f h => nomatch h), hoff, .inr ⟨rfl, rfl, ?_, rfl⟩⟩
        · rw [List.length_append]
          show qs.length + 1 ≤ at2 + 1
          omega
        · simp at htot
          omega
      · rw [if_neg hr, List.length_cons] at htot
        rw [if_neg hr, List.cons_append] at hre
        rw [← hre] at hd2
        obtain ⟨_, h2, h3⟩ := at_drop hd2
        refine ⟨r.length + 1, by simp, at2 + 1, false, qs ++ [p], _, r, _, by rw [decide_eq_false hr]; rfl, x6.trans e78, e78 _ _ hpfG, hA6.mono fun q l _ h => h.ex e78, ?_, (fun g h => hF' g (List.mem_cons_of_mem _ h)), hoff, .inl ⟨rfl, hr, h3, h2, by omega, rfl⟩⟩
        rw [List.length_append]
        show qs.length + 1 ≤ at2 + 1
        omega
  · rcases hc with ⟨rfl, _⟩ | ⟨rfl, rfl, hat, rfl⟩
    · exact nomatch hb
    have x4 := e.trans e4
    have hL2 : L' = offsF sp pre.length fs := by rw [← hL]; exact (List.append_nil _).symm
    subst hL2
    refine s_retU (xs := [.ref pf, .int (at' : Int)]) (eu_tup (ea_cons (ev_var rfl) (ea_cons (ev_var rfl) ea_nil)) (by show 2 ≤ 100000; decide)) fun qa H5 hqa e5 h5 => q qa pf H5 (fresh_back x4 hqa) hpf (x4.trans e5) (by rw [h5, hat]) ⟨qs, (e4.trans e5) _ _ hl, hA.mono fun q l _ h => h.ex (e4.trans e5)⟩
end

--@SPLIT
theorem body_next {sp at' : Nat} {t : List Nat} {rs : List (List Fl)} {tl : Option (List Fl)} (hd : t.drop at' = bodyT sp rs tl) (hrs : ∀ r ∈ rs, okRec sp r) (htl : ∀ r, tl = some r → okRec sp r ∧ recT sp r ≠ []) (hne : (rs ++ tl.toList).isEmpty = false) :
    ∃ r rest rs2 tl2, rs ++ tl.toList = r :: (rs2 ++ tl2.toList) ∧ t.drop at' = recT sp r ++ rest ∧ okE rest ∧ okRec sp r ∧ at' < t.length ∧ t.drop (at' + (recT sp r).length + 1) = bodyT sp rs2 tl2 ∧ (∀ r ∈ rs2, okRec sp r) ∧ (∀ r, tl2 = some r → okRec sp r ∧ recT sp r ≠ []) := by
  have lt_of : ∀ {x : List Nat}, t.drop at' = x → x ≠ [] → at' < t.length := fun {x} h hx => by
    by_cases z : at' < t.length
    · exact z
    · rw [List.drop_eq_nil_of_le (by omega)] at h
      exact absurd h.symm hx
  cases rs with
  | nil =>
    cases tl with
    | none => exact nomatch hne
    | some r =>
      obtain ⟨h1, h2⟩ := htl r rfl
      have hd' : t.drop at' = recT sp r ++ [] := by rw [hd, List.append_nil]; rfl
      refine ⟨r, [], [], none, rfl, hd', .inl rfl, h1, lt_of hd h2, ?_, (fun r h => nomatch h), fun r h => nomatch h⟩
      rw [← List.drop_drop, drop_app hd']
      rfl
  | cons r rs =>
    have hd' : t.drop at' = recT sp r ++ (10 :: bodyT sp rs tl) := hd
    refine ⟨r, _, rs, tl, rfl, hd', .inr rfl, hrs r List.mem_cons_self, lt_of hd' (by simp), ?_, (fun r h => hrs r (List.mem_cons_of_mem _ h)), htl⟩
    rw [← List.drop_drop, drop_app hd']
    rfl
section
variable {P : Program} {w : World} {K : PySem.W.Frag} {mg : Str → Option Value} {base : Heap}
theorem ok_split_records (D : Dn K mg "split_records" s_split_records ["text", "separator"]) (c__next_record : C8.Cal P w K mg base 4 "_next_record" (sp__next_record K) []) (z_len : mg "len" = none) :
    C8.Cal P w K mg base 5 "split_records" (sp_split_records K) [] := by
  refine cal_of D sc_split_records (fun vs H Q E h => ?_) (fun f cdv A outer s H vs Q E hr h => ?_)
  · obtain ⟨_, _, _, rfl, _⟩ := h
    rfl
  refine ⟨_, (pss_cons (ps_set (i := 2) sc_split_records.nd rfl (.inl rfl) (pe_lst pa_nil))
    (pss_cons (ps_set (i := 3) sc_split_records.nd rfl (.inl rfl) pe_int)
    (pss_cons (ps_while PassesOwn.never (pt_cmpR op_lt (pv 3) (pe_callB call_len_str (by rfl) z_len PySem.boot_len (pa_cons (pv 0) pa_nil)) (nomark _))
      (pss_cons (ps_asg (C8.pe_c c__next_record hr (by decide) (by rfl) (pa_cons (pv 0) (pa_cons (pv 3) (pa_cons (pv 1) pa_nil)))) (pg_tup rfl (pgs_cons (pg_name (i := 4) sc_split_records.nd rfl (.inl rfl)) (pgs_cons (pg_name (i := 3) sc_split_records.nd rfl (.inl rfl)) pgs_nil))))
    (pss_one (ps_expr (pe_bm PySem.F.plainAttrs_list PySem.F.slot_list_append PySem.F.type_list_append mt_append (pv 2) (pa_cons (pv 4) pa_nil))))))
    (pss_one (ps_ret (pv 2)))))), ?_⟩
  obtain ⟨sp, rs, tl, rfl, hrs, htl, hs, hz, q⟩ := h
  generalize htx : bodyT sp rs tl = t at hz ⊢
  have hz2 : t.length ≤ 100000 := by omega
  refine q_asgL (el_lst ea_nil (by decide)) fun pr H1 hpr e1 h1 => ?_
  refine q_asg (v := .int ((0 : Nat) : Int)) ev_c fun H2 e2 => ?_
  refine q_while (fun m σ' H' => ∃ (at' : Nat) (qs : List Addr) (L' : List (List Fo)) (rs' : List (List Fl)) (tl' : Option (List Fl)) (fv : Option V), σ' = [some (.str (SX.S t)), some (.str (SX.S [sp])), some (.ref pr), some (.int (at' : Int)), fv] ∧ Ex H H' ∧ H' pr = some (.lst (qs.map V.ref)) ∧ Al2 (Lst2 (FieldAt K)) (wo pr H') qs L' ∧ qs.length ≤ at' ∧ (∀ r ∈ rs', okRec sp r) ∧ (∀ r, tl' = some r → okRec sp r ∧ recT sp r ≠ []) ∧ t.drop at' = bodyT sp rs' tl' ∧ L' ++ offsR sp at' (rs' ++ tl'.toList) = offsR sp 0 (rs ++ tl.toList) ∧ m = (rs' ++ tl'.toList).length) (rs ++ tl.toList).length ⟨0, [], [], rs, tl, none, rfl, e1.trans e2, e2 _ _ h1, Al2.nil, Nat.le_refl _, hrs, htl, by rw [← htx]; rfl, rfl, rfl⟩ fun m σ' H' pv => ?_
  obtain ⟨at', qs, L', rs', tl', fv, rfl, e, hl, hA, hql, hrs', htl', hd, hL, rfl⟩ := pv
  have htest : decide ((at' : Int) < (t.length : Int)) = !(rs' ++ tl'.toList).isEmpty := by
    cases h : (rs' ++ tl'.toList).isEmpty with
    | false =>
      obtain ⟨_, _, _, _, _, _, _, _, hlt, _⟩ := body_next hd hrs' htl' h
      rw [decide_eq_true (by omega)]
      rfl
    | true =>
      have h2 := List.isEmpty_iff.mp h
      have h3 := List.append_eq_nil_iff.mp h2
      have h4 : tl' = none := by
        cases tl' with
        | none => rfl
        | some r => exact nomatch h3.2
      rw [h3.1, h4] at hd
      have := drop_nil hd
      rw [decide_eq_false (by omega)]
      rfl
  refine ⟨!(rs' ++ tl'.toList).isEmpty, et_is (et_test (ev_op (ev_var rfl) (ev_lenX (ev_var rfl) hz2) rv_I0)) htest, fun hb H4 e4 => ?_, fun hb H4 e4 => ?_⟩
  · have hne : (rs' ++ tl'.toList).isEmpty = false := by
      cases h : (rs' ++ tl'.toList).isEmpty with
      | false => rfl
      | true => rw [h] at hb; exact nomatch hb
    obtain ⟨r, rest, rs2, tl2, hsplit, hdr, hE, hok, hlt, hd2, hrs2, htl2⟩ := body_next hd hrs' htl' hne
    rw [hsplit] at hL ⊢
    have htk : (t.take at').length = at' := by rw [List.length_take]; omega
    have htt : t = t.take at' ++ (recT sp r ++ rest) := by rw [← hdr, List.take_append_drop]
    refine ⟨fun σ2 H2 => ∃ m', m' < (r :: (rs2 ++ tl2.toList)).length ∧ ∃ (at' : Nat) (qs : List Addr) (L' : List (List Fo)) (rs' : List (List Fl)) (tl' : Option (List Fl)) (fv : Option V), σ2 = [some (.str (SX.S t)), some (.str (SX.S [sp])), some (.ref pr), some (.int (at' : Int)), fv] ∧ Ex H H2 ∧ H2 pr = some (.lst (qs.map V.ref)) ∧ Al2 (Lst2 (FieldAt K)) (wo pr H2) qs L' ∧ qs.length ≤ at' ∧ (∀ r ∈ rs', okRec sp r) ∧ (∀ r, tl' = some r → okRec sp r ∧ recT sp r ≠ []) ∧ t.drop at' = bodyT sp rs' tl' ∧ L' ++ offsR sp at' (rs' ++ tl'.toList) = offsR sp 0 (rs ++ tl.toList) ∧ m' = (rs' ++ tl'.toList).length, fun σ2 H2 h => h, ?_⟩
    refine q_callG (ea_cons (ev_var rfl) (ea_cons (ev_var rfl) (ea_cons (ev_var rfl) ea_nil))) fun H5 e5 => ⟨sp, t, t.take at', rest, r, by rw [htk]; rfl, htt, hok.1, hok.2, hE, hs, hz, fun qa p H6 hqa hp e6 h6 hR => ?_⟩
    rw [htk] at h6 hR
    refine gt2 (st_of h6) ?_
    have x5 := e4.trans e5
    have hpr6 : H6 pr = some (.lst (qs.map V.ref)) := e6 _ _ (x5 _ _ hl)
    have hpp : p ≠ pr := fun z => by
      have := x5 _ _ hl
      rw [← z, hp] at this
      cases this
    have hRw : Lst2 (FieldAt K) (wo pr H6) p (offsF sp at' r) := by
      obtain ⟨fq, hf1, hf2⟩ := hR
      exact ⟨fq, by rw [wo_ne hpp]; exact hf1, hf2.mono fun q l _ h => h.wo hpr6⟩
    have x6 := x5.trans e6
    have hq5 : qs.length < 100000 := by omega
    refine s_app (v := .ref p) hpr6 (ev_var rfl) (ev_var rfl) (by rw [List.length_map]; exact hq5) fun H7 e7 => ⟨(rs2 ++ tl2.toList).length, by rw [List.length_cons]; exact Nat.lt_succ_self _, at' + (recT sp r).length + 1, qs ++ [p], L' ++ [offsF sp at' r], rs2, tl2, _, rfl, Ex.mut ((e.trans x6).trans e7) hpr, by rw [upd_same, List.map_append]; rfl, ?_, ?_, hrs2, htl2, hd2, ?_, rfl⟩
    · rw [wo_upd]
      exact (hA.mono fun q l _ h => h.mono (wo_mono (x6.trans e7)) fun q l h => h.ex (wo_mono (x6.trans e7))).snoc (hRw.mono (wo_mono e7) fun q l h => h.ex (wo_mono e7))
    · rw [List.length_append]
      show qs.length + 1 ≤ _
      omega
    · rw [← hL, List.append_assoc]
      rfl
  · have hne : (rs' ++ tl'.toList).isEmpty = true := by
      cases h : (rs' ++ tl'.toList).isEmpty with
      | true => rfl
      | false => rw [h] at hb; exact nomatch hb
    have h2 := List.isEmpty_iff.mp hne
    rw [h2] at hL
    have hL2 : L' = offsR sp 0 (rs ++ tl.toList) := by rw [← hL]; exact (List.append_nil _).symm
    subst hL2
    exact s_ret (ev_var rfl) fun H5 e5 => q pr H5 hpr (e.trans (e4.trans e5)) ⟨qs, (e4.trans e5) _ _ hl, hA.mono fun q l _ h => h.mono ((wo_le _ _).trans (e4.trans e5)) fun q l h => h.ex ((wo_le _ _).trans (e4.trans e5))⟩
end

--@SPLIT
/-! ### the law of records: what it writes -/
def S80 : List Nat := (PySem.Str.ofString "ab1,; '\"\n-x").cps.toList
theorem S80_len : S80.length = 11 := by decide +kernel
theorem S80_S : PySem.Str.ofString "ab1,; '\"\n-x" = SX.S S80 := by decide +kernel
def TupAt (H : Hp) (t : Addr) (l : Fo) : Prop := H t = some (.tup [.str (SX.S l.1), .int (l.2.1 : Int), .bl l.2.2])
/-- an object with a word -/
def EvW (R : Hp → Addr → Prop) (te : TE) (σ : L2.St) (H : Hp) : Prop := ∀ H1, Ex H H1 → ∀ Q : VK, (∀ p H2, Ex H1 H2 → R H2 p → Q (.ref p) H2) → te σ H1 Q
def mustB (sp : Nat) (s : List Nat) : Bool := decide (sp ∈ s) || (decide (34 ∈ s) || decide (10 ∈ s))
theorem must_ok {sp : Nat} {s : List Nat} {m : Bool} (h : m = false → mustB sp s = false) : okF sp (s, m) := fun hm c hc => by
  have h2 := h hm
  unfold mustB at h2
  rw [Bool.or_eq_false_iff, Bool.or_eq_false_iff] at h2
  exact ⟨fun z => of_decide_eq_false h2.1 (z ▸ hc), fun z => of_decide_eq_false h2.2.1 (z ▸ hc), fun z => of_decide_eq_false h2.2.2 (z ▸ hc)⟩
theorem dbl_flat : ∀ s : List Nat, (s.map fun c => if c = 34 then [34, 34] else [c]).flatten = dblL s
  | [] => rfl
  | c :: r => by
    show (if c = 34 then [34, 34] else [c]) ++ (r.map fun c => if c = 34 then [34, 34] else [c]).flatten = if c = 34 then 34 :: 34 :: dblL r else c :: dblL r
    rw [dbl_flat r]
    split <;> rfl
theorem join_flat : ∀ ls : List (List Nat), TL.joinL [] ls = ls.flatten
  | [] => rfl
  | [p] => by
    show p = p ++ []
    rw [List.append_nil]
  | p :: q :: r => by
    have e : TL.joinL [] (p :: q :: r) = p ++ ([] ++ TL.joinL [] (q :: r)) := rfl
    rw [e, join_flat (q :: r)]
    rfl
theorem dbl_len2 : ∀ s : List Nat, (dblL s).length ≤ 2 * s.length
  | [] => Nat.le_refl _
  | c :: r => by
    have := dbl_len2 r
    unfold dblL
    split
    · show (dblL r).length + 1 + 1 ≤ 2 * (r.length + 1)
      omega
    · show (dblL r).length + 1 ≤ 2 * (r.length + 1)
      omega
theorem wr_len {s : List Nat} {m : Bool} (h : s.length ≤ 5) : (wrL s m).length ≤ 12 := by
  have := dbl_len2 s
  cases m with
  | true =>
    show (34 :: (dblL s ++ [34])).length ≤ 12
    rw [List.length_cons, List.length_append]
    show (dblL s).length + 1 + 1 ≤ 12
    omega
  | false =>
    show s.length ≤ 12
    omega
theorem rec_snoc (sp : Nat) (f : Fl) : ∀ fs : List Fl, recT sp (fs ++ [f]) = recT sp fs ++ ((if fs = [] then [] else [sp]) ++ wrL f.1 f.2)
  | [] => rfl
  | [g] => by
    show wrL g.1 g.2 ++ sp :: recT sp [f] = _
    rw [if_neg (fun h => nomatch h)]
    rfl
  | g :: h :: r => by
    have ih := rec_snoc sp f (h :: r)
    rw [if_neg (fun h => nomatch h)] at ih ⊢
    show wrL g.1 g.2 ++ sp :: recT sp (h :: r ++ [f]) = wrL g.1 g.2 ++ sp :: recT sp (h :: r) ++ ([sp] ++ wrL f.1 f.2)
    rw [ih, List.append_assoc]
    rfl
theorem offs_snoc (sp : Nat) (f : Fl) : ∀ (fs : List Fl) (o : Nat), offsF sp o (fs ++ [f]) = offsF sp o fs ++ [(f.1, o + (recT sp fs ++ (if fs = [] then [] else [sp])).length, f.2)]
  | [], o => rfl
  | g :: r, o => by
    show (g.1, o, g.2) :: offsF sp (o + (wrL g.1 g.2).length + 1) (r ++ [f]) = (g.1, o, g.2) :: (offsF sp (o + (wrL g.1 g.2).length + 1) r ++ _)
    rw [offs_snoc sp f r, if_neg (show ¬ g :: r = [] from fun h => nomatch h)]
    refine congrArg (fun z => (g.1, o, g.2) :: (offsF sp (o + (wrL g.1 g.2).length + 1) r ++ [z])) ?_
    refine congrArg (fun z => (f.1, z, f.2)) ?_
    rw [rec_cons]
    by_cases hr : r = []
    · subst hr
      simp [recT]
      omega
    · simp [hr]
      omega
theorem body_snoc (sp : Nat) (r : List Fl) : ∀ rs : List (List Fl), bodyT sp (rs ++ [r]) none = bodyT sp rs none ++ (recT sp r ++ [10])
  | [] => rfl
  | q :: rs => by
    show recT sp q ++ 10 :: bodyT sp (rs ++ [r]) none = recT sp q ++ 10 :: bodyT sp rs none ++ (recT sp r ++ [10])
    rw [body_snoc sp r rs, List.append_assoc]
    rfl
theorem body_some (sp : Nat) (r : List Fl) : ∀ rs : List (List Fl), bodyT sp rs (some r) = bodyT sp rs none ++ recT sp r
  | [] => rfl
  | q :: rs => by
    show recT sp q ++ 10 :: bodyT sp rs (some r) = recT sp q ++ 10 :: bodyT sp rs none ++ recT sp r
    rw [body_some sp r rs, List.append_assoc]
    rfl
theorem offR_snoc (sp : Nat) (r : List Fl) : ∀ (rs : List (List Fl)) (o : Nat), offsR sp o (rs ++ [r]) = offsR sp o rs ++ [offsF sp (o + (bodyT sp rs none).length) r]
  | [], o => rfl
  | q :: rs, o => by
    show offsF sp o q :: offsR sp (o + (recT sp q).length + 1) (rs ++ [r]) = offsF sp o q :: (offsR sp (o + (recT sp q).length + 1) rs ++ _)
    rw [offR_snoc sp r rs]
    refine congrArg (fun z => offsF sp o q :: (offsR sp (o + (recT sp q).length + 1) rs ++ [offsF sp z r])) ?_
    show _ = o + (recT sp q ++ 10 :: bodyT sp rs none).length
    rw [List.length_append, List.length_cons]
    omega
theorem rec_nil {sp : Nat} {r : List Fl} (hr : r ≠ []) (h : recT sp r = []) : r = [([], false)] := by
  obtain ⟨⟨s, m⟩, r2, rfl⟩ := List.exists_cons_of_ne_nil hr
  rw [rec_cons] at h
  have h2 := List.append_eq_nil_iff.mp h
  have h3 : r2 = [] := by
    by_cases z : r2 = []
    · exact z
    · rw [if_neg z] at h2; cases h2.2
  subst h3
  cases m with
  | true => exact nomatch h2.1
  | false => rw [show s = [] from h2.1]
theorem last_cons {l : List Nat} {c : Nat} (a : List Nat) : (∃ l' d, l ++ [c] = l' ++ [d] ∧ d ≠ 10) → ∃ l' d, a ++ (l ++ [c]) = l' ++ [d] ∧ d ≠ 10 := fun ⟨l', d, e, h⟩ => ⟨a ++ l', d, by rw [e, List.append_assoc], h⟩
theorem wr_last {sp : Nat} {s : List Nat} {m : Bool} (h : okF sp (s, m)) (hne : wrL s m ≠ []) : ∃ l c, wrL s m = l ++ [c] ∧ c ≠ 10 := by
  cases m with
  | true => exact ⟨34 :: dblL s, 34, rfl, by decide⟩
  | false =>
    have hne2 : s ≠ [] := hne
    exact ⟨s.dropLast, s.getLast hne2, (List.dropLast_concat_getLast hne2).symm, (h rfl _ (List.getLast_mem hne2)).2.2⟩
theorem rec_last {sp : Nat} (hs : okSep sp) : ∀ {r : List Fl}, (∀ f ∈ r, okF sp f) → recT sp r ≠ [] → ∃ l c, recT sp r = l ++ [c] ∧ c ≠ 10
  | [], _, h => absurd rfl h
  | f :: r, hF, h => by
    rw [rec_cons] at h ⊢
    have hf := hF f List.mem_cons_self
    by_cases hr : r = []
    · rw [if_pos hr, List.append_nil] at h ⊢
      exact wr_last (sp := sp) hf h
    · rw [if_neg hr]
      by_cases h2 : recT sp r = []
      · rw [h2]
        exact ⟨wrL f.1 f.2, sp, rfl, by rcases hs with h | h | h <;> omega⟩
      · obtain ⟨l, c, e, hc⟩ := rec_last hs (fun g hg => hF g (List.mem_cons_of_mem _ hg)) h2
        rw [e]
        exact ⟨wrL f.1 f.2 ++ sp :: l, c, by simp, hc⟩
def sp__law_field_text (K : PySem.W.Frag) : Sp := fun vs H Q _ => ∃ p : Addr, vs = [.ref p] ∧ Dr p H ∧ ∀ v H', txtP S80 5 v → Ex (wo p H) H' → Dr p H' → Q v H'
def sp__law_written (K : PySem.W.Frag) : Sp := fun vs H Q _ => ∃ (s : List Nat) (z : V) (m : Bool), vs = [.str (SX.S s), z, .bl m] ∧ s.length ≤ 100 ∧ ∀ H', Ex H H' → Q (.str (SX.S (wrL s m))) H'
def sp__law_must_mark (K : PySem.W.Frag) : Sp := fun vs H Q _ => ∃ (s : List Nat) (sp : Nat), vs = [.str (SX.S s), .str (SX.S [sp])] ∧ ∀ H', Ex H H' → Q (.bl (mustB sp s)) H'
def okFo (l : Fo) : Prop := ∀ c ∈ l.1, c ≤ 126
theorem S80_ok : ∀ c ∈ S80, c ≤ 126 := by decide +kernel
theorem strOk_T {l : List Nat} (h : ∀ c ∈ l, c ≤ 126) : PyData.strOk (SX.S l) = true := by
  unfold PyData.strOk
  rw [Array.all_eq_true']
  intro c hc
  have := h c (by simpa using hc)
  exact decide_eq_true (by omega)
def foD (l : Fo) : PyData := .tuple [.str (SX.S l.1), .int (l.2.1 : Int), .bool l.2.2]
theorem lay_fo {l : Fo} (h : okFo l) : (foD l).canLay0 = true := by
  show (PyData.strOk (SX.S l.1) && (true && (true && true))) = true
  rw [strOk_T h]
  rfl
theorem sh_fo {l : Fo} (h : okFo l) : SeqAt.shaped (foD l) = true := by
  show ((foD l).canLay0 && decide (max 0 (max 0 (max 0 0)) + 1 ≤ 64)) = true
  rw [lay_fo h]
  rfl
def sp__law_same (K : PySem.W.Frag) : Sp := fun vs H Q _ => ∃ (p q : Addr) (L M : List (List Fo)), vs = [.ref p, .ref q] ∧ Lst2 (Lst2 (FieldAt K)) H p L ∧ Lst2 (Lst2 TupAt) H q M ∧ L.length ≤ 1000 ∧ (∀ x ∈ L, x.length ≤ 1000 ∧ ∀ l ∈ x, okFo l) ∧ ((L = M ∧ ∀ H', Ex H H' → Q (.bl true) H') ∨ (L.length ≠ M.length ∧ ∀ H', Ex H H' → Q (.bl false) H'))
section
variable {σ : L2.St} {H : Hp} {ta tb : TE}
theorem ev_inSign {c : Nat} {z : List Nat} (ha : Ev ta σ H (.str (SX.S [c]))) (hb : Ev tb σ H (.str (SX.S z))) : Ev (tOp (fun x y H Q => ∃ (c : Nat) (z : Str), x = .str ⟨#[c]⟩ ∧ y = .str z ∧ Q (.bl (decide (c ∈ z.cps.toList))) H) ta tb) σ H (.bl (decide (c ∈ z))) := fun H1 e Q q =>
  ha H1 e _ fun H2 e2 => hb H2 (e.trans e2) _ fun H3 e3 => ⟨c, SX.S z, rfl, rfl, q H3 (e2.trans e3)⟩
end
section
variable {P : Program} {w : World} {K : PySem.W.Frag} {mg : Str → Option Value} {base : Heap}
theorem ok__law_field_text (D : Dn K mg "_law_field_text" s__law_field_text ["state"]) (c__law_digit : C8.Cal P w K mg base 1 "_law_digit" (sp__law_digit K) []) (z_range : mg "range" = none) :
    C8.Cal P w K mg base 2 "_law_field_text" (sp__law_field_text K) [] := by
  refine cal_of D sc__law_field_text (fun vs H Q E h => ?_) (fun f cdv A outer s H vs Q E hr h => ?_)
  · obtain ⟨_, rfl, _⟩ := h
    rfl
  refine ⟨_, (pss_cons (ps_set (i := 1) sc__law_field_text.nd rfl (.inr rfl) pe_str)
    (pss_one (ps_ret (pe_join pe_str (pe_lc (own := [("k", 2)]) (g := gName 2) (tt := tYes) rfl sc__law_field_text.nd (pi_range1 rfl z_range (pa_cons (C8.pe_c c__law_digit hr (by decide) (by rfl) (pa_cons (pv 0) (pa_cons pe_int pa_nil))) pa_nil)) (blkOk_by (N := n__law_field_text) (sc := C8.fnScope s__law_field_text) (by decide +kernel)) (fun _ _ _ _ _ => pg_name (i := 2) sc__law_field_text.nd rfl (Or.inl rfl)) (fun _ _ _ _ _ => pts_nil) (fun _ _ _ _ _ => (pe_ix ix_str (pv 1) (C8.pe_c c__law_digit hr (by decide) (by rfl) (pa_cons (pv 0) (pa_cons pe_int pa_nil))) (fun _ _ => rfl)))))))), ?_⟩
  obtain ⟨p, rfl, d, q⟩ := h
  refine q_asg (v := .str (SX.S S80)) (ev_is ev_c (by rw [S80_S])) fun H1 e1 => ?_
  exact s1_ret (P := txtP S80 5) (e1_join (by decide) (e1_lc (m := 5) (ez_mono (ez_digit (ev_var rfl) ev_c (by decide) (by decide)) fun i hi => by omega) (by decide) (fun _ => rfl) fun i => e1_sign rfl (by rw [S80_len]; rfl) (by decide) (by decide) (ev_var rfl) ev_c)) (d.ex e1) fun v H2 hv e2 d2 => q _ H2 hv (wx_trans (wx_of e1) e2) d2
theorem ok__law_written (D : Dn K mg "_law_written" s__law_written ["text", "separator", "marked"]) :
    C8.Cal P w K mg base 1 "_law_written" (sp__law_written K) [] := by
  refine cal_of D sc__law_written (fun vs H Q E h => ?_) (fun f cdv A outer s H vs Q E hr h => ?_)
  · obtain ⟨_, _, _, rfl, _⟩ := h
    rfl
  refine ⟨_, (pss_cons (ps_if (pt_not (pt_val (pv 2)))
      (pss_one (ps_ret (pv 0)))
      pss_nil)
    (pss_one (ps_ret (pe_op op_add_str (pe_op op_add_str pe_str (pe_join pe_str (pe_lc (own := [("sign", 3)]) (g := gName 3) (tt := tYes) rfl sc__law_written.nd (pi_str (pv 0)) (blkOk_by (N := n__law_written) (sc := C8.fnScope s__law_written) (by decide +kernel)) (fun _ _ _ _ _ => pg_name (i := 3) sc__law_written.nd rfl (Or.inl rfl)) (fun _ _ _ _ _ => pts_nil) (fun _ _ _ _ _ => (pe_ifExp (pt_cmpR op_eq (pv 3) pe_str (nomark _)) pe_str (pv 3)))))) pe_str)))), ?_⟩
  obtain ⟨s, z, m, rfl, hl, q⟩ := h
  cases m with
  | false => exact q_when (b := !false) (et_not (et_B (ev_var rfl))) (fun _ H1 e1 => s_ret (ev_var rfl) fun H2 e2 => q H2 (e1.trans e2)) fun h => nomatch h
  | true =>
    refine q_when (b := !true) (et_not (et_B (ev_var rfl))) (fun h => nomatch h) fun _ H1 e1 => ?_
    have hd := dbl_len2 s
    have ej : EvL (tLc (iStr (tVar 0)) (gName 3) tYes (tIf (tTest (tOp rEq (tVar 3) (tC (.str (PySem.Str.ofString "\""))))) (tC (.str (PySem.Str.ofString "\"\""))) (tVar 3)) [3]) [some (.str (SX.S s)), some z, some (.bl true), none] H1 (s.map fun c => V.str (SX.S (if c = 34 then [34, 34] else [c]))) := el_lcX _ (ev_var rfl) (by omega) (fun _ => rfl) fun i c H2 e2 hc => by
      refine ev_if (b := decide (c = 34)) (et_test (ev_is (ev_op (x := .str (SX.S [c])) (y := .str (SX.S [34])) (ev_var rfl) (ev_is ev_c (by rw [mk34])) (rv_eq rfl)) ?_)) (fun hb => ?_) fun hb => ?_
      · rw [dec_S]
        by_cases h : c = 34
        · rw [h]; simp
        · rw [decide_eq_false h, decide_eq_false fun z => h (List.cons.inj z).1]
      · rw [if_pos (of_decide_eq_true hb)]
        exact ev_is ev_c (by decide +kernel)
      · rw [if_neg (of_decide_eq_false hb)]
        exact ev_var rfl
    have hjn : TL.joinL [] (s.map fun c => if c = 34 then [34, 34] else [c]) = dblL s := by rw [join_flat, dbl_flat]
    refine s_ret (v := .str (SX.S [34] ++ SX.S (dblL s) ++ SX.S [34])) (ev_cat (ev_cat (ev_is ev_c (by rw [mk34])) (fun H2 e2 Q k => ?_) ?_) (ev_is ev_c (by rw [mk34])) ?_) fun H2 e2 => ?_
    · refine ⟨⟨_, rfl⟩, ej H2 e2 _ fun l H3 hl3 e3 h3 => ⟨SX.S [], l, (s.map fun c => if c = 34 then [34, 34] else [c]).map SX.S, by rw [c00], rfl, .inl (sq_of ?_), ?_, ?_⟩⟩
      · rw [h3, List.map_map, List.map_map]
        rfl
      · rw [SX.lens, SX.S_len]
        have := joinL_len [] (s.map fun c => if c = 34 then [34, 34] else [c])
        rw [hjn] at this
        show _ + _ * 0 ≤ _
        omega
      · rw [show (SX.S ([] : List Nat)) = SX.S [] from rfl, SX.join_S, hjn]
        exact k H3 e3
    · rw [SX.S_len, SX.S_len]
      show 1 + _ ≤ _
      omega
    · rw [SX.S_cat, SX.S_len, SX.S_len, List.length_append]
      show 1 + _ + 1 ≤ _
      omega
    · rw [SX.S_cat, SX.S_cat]
      exact q H2 (e1.trans e2)
theorem ok__law_must_mark (D : Dn K mg "_law_must_mark" s__law_must_mark ["text", "separator"]) :
    C8.Cal P w K mg base 1 "_law_must_mark" (sp__law_must_mark K) [] := by
  refine cal_of D sc__law_must_mark (fun vs H Q E h => ?_) (fun f cdv A outer s H vs Q E hr h => ?_)
  · obtain ⟨_, _, rfl, _⟩ := h
    rfl
  refine ⟨_, (pss_one (ps_ret (pe_or (pe_cmpR op_in_sign (pv 1) (pv 0) (by with_unfolding_all rfl)) (pe_or (pe_cmpR op_in_sign pe_str (pv 0) (by with_unfolding_all rfl)) (pe_one (pe_cmpR op_in_sign pe_str (pv 0) (by with_unfolding_all rfl))))))), ?_⟩
  obtain ⟨s, sp, rfl, q⟩ := h
  exact s_ret (v := .bl (mustB sp s)) (ev_orV (ev_inSign (ev_var rfl) (ev_var rfl)) fun _ => ev_orV (ev_inSign (c := 34) (ev_is ev_c (by rw [mk34])) (ev_var rfl)) fun _ => ev_inSign (c := 10) (ev_is ev_c (by rw [mk10])) (ev_var rfl)) fun H1 e1 => q H1 e1
theorem ok__law_same (D : Dn K mg "_law_same" s__law_same ["told", "due"]) (C_Field : ClsD K mg "Field" ["text", "offset", "marked"]) (I_Field : OwnI K "Field") (c__law_is_integer : C8.Cal P w K mg base 1 "_law_is_integer" (sp__law_is_integer K) []) (z_bool : mg "bool" = none) (z_isinstance : mg "isinstance" = none) (z_len : mg "len" = none) (z_list : mg "list" = none) (z_range : mg "range" = none) :
    C8.Cal P w K mg base 2 "_law_same" (sp__law_same K) [] := by
  refine cal_of D sc__law_same (fun vs H Q E h => ?_) (fun f cdv A outer s H vs Q E hr h => ?_)
  · obtain ⟨_, _, _, _, rfl, _⟩ := h
    rfl
  refine ⟨_, (pss_cons (ps_if (PW.pt (pw_or (pt_not (pt_val (pe_callB call_isi (by rfl) z_isinstance (by decide +kernel) (pa_cons (pv 0) (pa_cons (pe_bltn (v := .ty "list") (u := .type "list") rfl z_list (by decide +kernel) rfl) pa_nil))))) (pw_or1 (pt_cmpR op_ne (pe_callB call_len_seq (by rfl) z_len PySem.boot_len (pa_cons (pv 0) pa_nil)) (pe_callB call_len_seq (by rfl) z_len PySem.boot_len (pa_cons (pv 1) pa_nil)) (nomark _)))))
      (pss_one (ps_ret pe_bl))
      pss_nil)
    (pss_cons (ps_for PassesOwn.never rfl (pi_range1 rfl z_range (pa_cons (pe_callB call_len_seq (by rfl) z_len PySem.boot_len (pa_cons (pv 1) pa_nil)) pa_nil)) (pg_name (i := 2) sc__law_same.nd rfl (.inl rfl))
      (pss_cons (ps_if (PW.pt (pw_or (pt_not (pt_val (pe_callB call_isi (by rfl) z_isinstance (by decide +kernel) (pa_cons (pe_ix ix_list (pv 0) (pv 2) (fun _ _ => rfl)) (pa_cons (pe_bltn (v := .ty "list") (u := .type "list") rfl z_list (by decide +kernel) rfl) pa_nil))))) (pw_or1 (pt_cmpR op_ne (pe_callB call_len_seq (by rfl) z_len PySem.boot_len (pa_cons (pe_ix ix_list (pv 0) (pv 2) (fun _ _ => rfl)) pa_nil)) (pe_callB call_len_seq (by rfl) z_len PySem.boot_len (pa_cons (pe_ix ix_list (pv 1) (pv 2) (fun _ _ => rfl)) pa_nil)) (nomark _)))))
      (pss_one (ps_ret pe_bl))
      pss_nil)
    (pss_one (ps_for PassesOwn.never rfl (pi_range1 rfl z_range (pa_cons (pe_callB call_len_seq (by rfl) z_len PySem.boot_len (pa_cons (pe_ix ix_list (pv 1) (pv 2) (fun _ _ => rfl)) pa_nil)) pa_nil)) (pg_name (i := 3) sc__law_same.nd rfl (.inl rfl))
      (pss_cons (ps_set (i := 4) sc__law_same.nd rfl (.inl rfl) (pe_ix ix_list (pe_ix ix_list (pv 0) (pv 2) (fun _ _ => rfl)) (pv 3) (fun _ _ => rfl)))
    (pss_cons (ps_if (PW.pt (pw_or (pt_not (pt_val (pe_callB (call_isOwn I_Field.ins I_Field.ki) (by rfl) z_isinstance (by decide +kernel) (pa_cons (pv 4) (pa_cons (C8.pe_gc rfl (gcls C_Field)) pa_nil))))) (pw_or (pt_not (pt_val (C8.pe_c c__law_is_integer hr (by decide) (by rfl) (pa_cons (pe_fld (pv 4) (by rfl)) pa_nil)))) (pw_or1 (pt_not (pt_val (pe_callB call_isi (by rfl) z_isinstance (by decide +kernel) (pa_cons (pe_fld (pv 4) (by rfl)) (pa_cons (pe_bltn (v := .ty "bool") (u := .type "bool") rfl z_bool (by decide +kernel) rfl) pa_nil)))))))))
      (pss_one (ps_ret pe_bl))
      pss_nil)
    (pss_one (ps_if (pt_cmpR (op_neD (hu64 hr)) (pe_tup (pa_cons (pe_fld (pv 4) (by rfl)) (pa_cons (pe_fld (pv 4) (by rfl)) (pa_cons (pe_fld (pv 4) (by rfl)) pa_nil)))) (pe_ix ix_list (pe_ix ix_list (pv 1) (pv 2) (fun _ _ => rfl)) (pv 3) (fun _ _ => rfl)) (nomark _))
      (pss_one (ps_ret pe_bl))
      pss_nil))))))))
    (pss_one (ps_ret pe_bl)))), ?_⟩
  obtain ⟨p, q', L, M, rfl, ⟨ps, hp, hA⟩, ⟨qs, hq, hB⟩, hl1, hl2, hc⟩ := h
  have lenE : (ps.map V.ref).length = L.length := by rw [List.length_map, hA.1]
  have lenM : (qs.map V.ref).length = M.length := by rw [List.length_map, hB.1]
  have cl := C_Field.cl
  rcases hc with ⟨rfl, q⟩ | ⟨hne, q⟩
  · refine q_when (b := !true || !decide (V.int ((L.length : Nat) : Int) = V.int ((L.length : Nat) : Int))) (et_or (et_not (et_B (ev_isi' (T := "list") (ev_var rfl) (tx_lst hp) (by decide +kernel)))) fun _ => et_test (ev_op (ev_is (ev_len (ev_var rfl) (sq_of hp)) (by rw [lenE])) (ev_is (ev_len (ev_var rfl) (sq_of hq)) (by rw [lenM])) (rv_ne rfl))) (fun hb => by simp at hb) fun _ H1 e1 => ?_
    refine q_forR1 (n := (L.length : Int)) (ea_cons (ev_is (ev_len (ev_var rfl) (sq_of (e1 _ _ hq))) (by rw [lenM])) ea_nil) ⟨by omega, by omega⟩ (fun i σ' H' => ∃ kv jv fv, σ' = [some (.ref p), some (.ref q'), kv, jv, fv] ∧ Ex H H') (fun H2 e2 => ⟨none, none, none, rfl, e1.trans e2⟩) (fun i σ' H' hi pv => ?_) fun σ' H' pv => ?_
    · obtain ⟨kv, jv, fv, rfl, e⟩ := pv
      have hi2 : i < L.length := by omega
      obtain ⟨pi, hpi, ⟨fs, hpl, hFA⟩⟩ := hA.get hi2
      obtain ⟨qi, hqi, ⟨ts, hql, hTA⟩⟩ := hB.get hi2
      have told : ∀ {σ : L2.St} {H0 : Hp}, σ[0]? = some (some (.ref p)) → σ[2]? = some (some (.int (i : Int))) → Ex H H0 → Ev (tOp (rIxL K) (tVar 0) (tVar 2)) σ H0 (.ref pi) := fun h0 h2 e0 => ev_op (ev_var h0) (ev_var h2) (rv_ixL (sq_of (e0 _ _ hp)) (atI_nat (by rw [List.getElem?_map, hpi]; rfl)))
      have due : ∀ {σ : L2.St} {H0 : Hp}, σ[1]? = some (some (.ref q')) → σ[2]? = some (some (.int (i : Int))) → Ex H H0 → Ev (tOp (rIxL K) (tVar 1) (tVar 2)) σ H0 (.ref qi) := fun h0 h2 e0 => ev_op (ev_var h0) (ev_var h2) (rv_ixL (sq_of (e0 _ _ hq)) (atI_nat (by rw [List.getElem?_map, hqi]; rfl)))
      have len1 : (fs.map V.ref).length = L[i].length := by rw [List.length_map, hFA.1]
      have len2 : (ts.map V.ref).length = L[i].length := by rw [List.length_map, hTA.1]
      have hz : L[i].length ≤ 1000 := (hl2 _ (List.getElem_mem hi2)).1
      refine q_when (b := !true || !decide (V.int ((L[i].length : Nat) : Int) = V.int ((L[i].length : Nat) : Int))) (et_or (et_not (et_B (ev_isi' (T := "list") (told rfl rfl e) (tx_lst (e _ _ hpl)) (by decide +kernel)))) fun _ => et_test (ev_op (ev_is (ev_len (told rfl rfl e) (sq_of (e _ _ hpl))) (by rw [len1])) (ev_is (ev_len (due rfl rfl e) (sq_of (e _ _ hql))) (by rw [len2])) (rv_ne rfl))) (fun hb => by simp at hb) fun _ H2 e2 => ?_
      have x2 := e.trans e2
      refine s_forR1 (n := (L[i].length : Int)) (ea_cons (ev_is (ev_len (due rfl rfl x2) (sq_of (x2 _ _ hql))) (by rw [len2])) ea_nil) ⟨by omega, by omega⟩ (fun j σ' H' => ∃ jv fv, σ' = [some (.ref p), some (.ref q'), some (.int (i : Int)), jv, fv] ∧ Ex H H') (fun H3 e3 => ⟨_, _, rfl, x2.trans e3⟩) (fun j σ' H3 hj pw => ?_) fun σ' H3 pw => ?_
      · obtain ⟨jv, fv, rfl, e3⟩ := pw
        have hj2 : j < L[i].length := by omega
        obtain ⟨fj, hfj, ⟨dx, hfo⟩⟩ := hFA.get hj2
        obtain ⟨tj, htj, hto⟩ := hTA.get hj2
        have hok := (hl2 _ (List.getElem_mem hi2)).2 _ (List.getElem_mem hj2)
        generalize L[i][j] = l at hfo hto hok
        refine q_asg (v := .ref fj) (ev_op (told rfl rfl e3) (ev_var rfl) (rv_ixL (sq_of (e3 _ _ hpl)) (atI_nat (by rw [List.getElem?_map, hfj]; rfl)))) fun H4 e4 => ?_
        have x4 := e3.trans e4
        refine q_when (b := !true || (!true || !true)) (et_or (et_not (et_B fun H1 e1 Q k => ⟨_, rfl, _, rfl, .inl ⟨fj, dx, _, rfl, (x4.trans e1) _ _ hfo, k H1 (Ex.refl H1)⟩⟩)) fun _ => et_or (et_not (et_B (ec_isint (ev_fld (ev_var rfl) (x4 _ _ hfo) cl C_Field.na.2.1 fldF_offset)))) fun _ => et_not (et_B (ev_isi (T := "bool") (ev_fld (ev_var rfl) (x4 _ _ hfo) cl C_Field.na.2.2.1 fldF_marked) (tx_bl _) (by decide +kernel)))) (fun hb => by simp at hb) fun _ H5 e5 => ?_
        have x5 := x4.trans e5
        have sh : SeqAt.shaped (.tuple [.str (SX.S l.1), .int (l.2.1 : Int), .bool l.2.2]) = true := sh_fo hok
        have er := PySem.SeqAt.eqv_refl _ (SeqAt.canLay_of_shaped sh)
        refine s_when (b := !PyData.eqv (.tuple [.str (SX.S l.1), .int (l.2.1 : Int), .bool l.2.2]) (.tuple [.str (SX.S l.1), .int (l.2.1 : Int), .bool l.2.2])) (et_test (ev_neD (ed_tupU (ud_tup (ad_cons (ed_val (ev_fld (ev_var rfl) (x5 _ _ hfo) cl C_Field.na.1 fldF_text) (.str _)) (ad_cons (ed_val (ev_fld (ev_var rfl) (x5 _ _ hfo) cl C_Field.na.2.1 fldF_offset) (.int _)) (ad_cons (ed_val (ev_fld (ev_var rfl) (x5 _ _ hfo) cl C_Field.na.2.2.1 fldF_marked) (.bl _)) ad_nil))) (by show 3 ≤ 100000; decide))) (ed_val (ev_op (due rfl rfl x5) (ev_var rfl) (rv_ixL (sq_of (x5 _ _ hql)) (atI_nat (by rw [List.getElem?_map, htj]; rfl)))) (.tup (st_of (x5 _ _ hto)) (.cons (.str _) (.cons (.int _) (.cons (.bl _) .nil))))) sh sh)) (fun hb => by rw [er] at hb; cases hb) fun _ H6 e6 => ⟨_, _, rfl, x5.trans e6⟩
      · obtain ⟨jv, fv, rfl, e3⟩ := pw
        exact ⟨_, _, _, rfl, e3⟩
    · obtain ⟨kv, jv, fv, rfl, e⟩ := pv
      exact s_ret ev_c fun H5 e5 => q H5 (e.trans e5)
  · refine q_when (b := !true || !decide (V.int ((L.length : Nat) : Int) = V.int ((M.length : Nat) : Int))) (et_or (et_not (et_B (ev_isi' (T := "list") (ev_var rfl) (tx_lst hp) (by decide +kernel)))) fun _ => et_test (ev_op (ev_is (ev_len (ev_var rfl) (sq_of hp)) (by rw [lenE])) (ev_is (ev_len (ev_var rfl) (sq_of hq)) (by rw [lenM])) (rv_ne rfl))) (fun _ H1 e1 => s_ret ev_c fun H2 e2 => q H2 (e1.trans e2)) fun hb => ?_
    rw [decide_eq_false (fun z => hne (by have := V.int.inj z; omega))] at hb
    exact nomatch hb
end

--@SPLIT
/-! ### the law of records -/
def okT (r : List Fl) : Prop := r.length ≤ 5 ∧ ∀ f ∈ r, ∀ c ∈ f.1, c ≤ 126
theorem offF_len (sp : Nat) : ∀ (fs : List Fl) (o : Nat), (offsF sp o fs).length = fs.length
  | [], _ => rfl
  | f :: r, o => congrArg (· + 1) (offF_len sp r _)
theorem offF_in (sp : Nat) : ∀ (fs : List Fl) (o : Nat) {l : Fo}, l ∈ offsF sp o fs → ∃ f ∈ fs, l.1 = f.1
  | [], _, l, h => nomatch h
  | f :: r, o, l, h => by
    rcases List.mem_cons.mp h with z | z
    · exact ⟨f, List.mem_cons_self, by rw [z]⟩
    · obtain ⟨g, hg, e⟩ := offF_in sp r _ z
      exact ⟨g, List.mem_cons_of_mem _ hg, e⟩
theorem offR_len (sp : Nat) : ∀ (rs : List (List Fl)) (o : Nat), (offsR sp o rs).length = rs.length
  | [], _ => rfl
  | f :: r, o => congrArg (· + 1) (offR_len sp r _)
theorem offR_in (sp : Nat) : ∀ (rs : List (List Fl)) (o : Nat) {x : List Fo}, x ∈ offsR sp o rs → ∃ r ∈ rs, ∃ o', x = offsF sp o' r
  | [], _, l, h => nomatch h
  | f :: r, o, l, h => by
    rcases List.mem_cons.mp h with z | z
    · exact ⟨f, List.mem_cons_self, o, z⟩
    · obtain ⟨g, hg, e⟩ := offR_in sp r _ z
      exact ⟨g, List.mem_cons_of_mem _ hg, e⟩
theorem TupAt.ex {H H' : Hp} {t : Addr} {l : Fo} (h : TupAt H t l) (e : Ex H H') : TupAt H' t l := e _ _ h
theorem TupAt.wo {H : Hp} {t p : Addr} {l : Fo} {xs : List V} (h : TupAt H t l) (hp : H p = some (.lst xs)) : TupAt (My.wo p H) t l := by
  show My.wo p H t = _
  rw [wo_ne (fun z => by rw [← z, h] at hp; cases hp)]
  exact h
theorem Dr.at {p : Addr} {H : Hp} (d : Dr p H) : ∃ xs, H p = some (.lst xs) := by
  obtain ⟨s, _, h⟩ := d
  exact ⟨_, h⟩
section
variable {K : PySem.W.Frag} {σ : L2.St} {H : Hp} {p : Addr} {ta tb te tx ts ty : TE} {t u : TT} {D : Ends} {tz tu : TS} {PA PB : Bool → Prop} {PI : Int → Prop} {R : V → Prop} {E E2 : XK}
theorem edt_pure {b : Bool} (h : EvT t σ (wo p H) b) (hb : PB b) : EvDT t σ p H PB := fun H1 e d Q q => h H1 e Q fun H2 e2 => q b H2 hb (wx_of e2) (d.ex e2)
theorem edt_orG (h1 : EvDT t σ p H PA) (h2 : PA false → EvDT u σ p H PB) (h0 : PA true → PB true) : EvDT (tOr t u) σ p H PB := fun H1 e d Q q =>
  h1 H1 e d _ fun b H2 hb e2 d2 => by
    cases b with
    | true => exact q true H2 (h0 hb) e2 d2
    | false => exact h2 hb H2 (wx_trans e e2) d2 Q fun b H3 hb e3 d3 => q b H3 hb (wx_trans e2 e3) d3
theorem e1_orV {a : Bool} (h1 : Ev ta σ (wo p H) (.bl a)) (h2 : EvD1 tb σ p H (fun v => ∃ b, v = .bl b)) : EvD1 (tOrV ta tb) σ p H (fun v => ∃ b, v = .bl b ∧ (b = false → a = false)) := fun H1 e d Q q =>
  h1 H1 e _ fun H2 e2 => ⟨a, rfl, by
    cases a with
    | true =>
      show Q (.bl true) H2
      exact q _ H2 ⟨true, rfl, fun h => nomatch h⟩ (wx_of e2) (d.ex e2)
    | false =>
      show tb σ H2 Q
      exact h2 H2 (e.trans e2) (d.ex e2) Q fun v H3 ⟨b, ev⟩ e3 d3 => q v H3 ⟨b, ev, fun _ => rfl⟩ (wx_trans (wx_of e2) e3) d3⟩
theorem q_forD {j : Nat} (h : EvD1 te σ p H (ZP PI)) (d : Dr p H) (k : ∀ (n : Int) H1, PI n → Ex (wo p H) H1 → Dr p H1 → tSeq (tFor (iRng1 (tCons (tC (.int n)) tNil)) (gName j) tu) tz D σ H1) : tSeq (tFor (iRng1 (tCons te tNil)) (gName j) tu) tz D σ H := h H (wo_le p H) d _ fun v H1 ⟨n, ev, hn⟩ e1 d1 => by
  subst ev
  exact k n H1 hn e1 d1
theorem e1_ft (ha : Ev ta σ (wo p H) (.ref p)) : EvD1 (tCall (sp__law_field_text K) [] E (tCons ta tNil)) σ p H (txtP S80 5) := fun H1 e d Q q =>
  ha H1 e _ fun H2 e2 => ⟨p, rfl, d.ex e2, fun v H3 hv e3 d3 => q v H3 hv (wx_trans (wx_of e2) e3) d3⟩
theorem s1_ifA {i : Nat} {v0 : V} (ht : EvDT t σ p H PB) (d : Dr p H) (h : PB true → ∀ H1, Ex (wo p H) H1 → ∀ D1 : Ends, (∀ v H2, R v → Ex (wo p H) H2 → D1.nx (σ.set i (some v)) H2) → tu D1 σ H1) (h0 : σ.set i (some v0) = σ) (hv : PB false → R v0) (k : ∀ v H1, R v → Ex (wo p H) H1 → D.nx (σ.set i (some v)) H1) :
    tIfS t tu tNext D σ H := ht H (wo_le p H) d _ fun b H1 hb e1 d1 => by
  cases b with
  | true =>
    show tu D σ H1
    exact h hb H1 e1 D k
  | false =>
    show D.nx σ H1
    have := k v0 H1 (hv hb) e1
    rw [h0] at this
    exact this
/-- (a, b, c)[what is drawn] -/
theorem e1_ixT {xs : List V} (ha : EvU ta σ (wo p H) xs) (hi : EvD1 tb σ p H (ZP fun i => 0 ≤ i ∧ i < (xs.length : Int))) (hR : ∀ x ∈ xs, R x) : EvD1 (tOp (rIxT K) ta tb) σ p H R := fun H1 e d Q q =>
  ha H1 e _ fun a H2 ha2 e2 h2 => hi H2 (e.trans e2) (d.ex e2) _ fun v H3 ⟨n, ev, n0, n1⟩ e3 d3 => by
    subst ev
    obtain ⟨k, rfl⟩ := Int.eq_ofNat_of_zero_le n0
    have hk : k < xs.length := by omega
    have nap : a ≠ p := fun z => by
      obtain ⟨s, _, hs⟩ := d
      rw [← z, ha2] at hs
      cases hs
    have h3 : H3 a = some (.tup xs) := e3 _ _ (by rw [wo_ne nap]; exact h2)
    exact rv_ixT (st_of h3) (atI_nat (List.getElem?_eq_getElem hk)) H3 (Ex.refl H3) Q fun H4 e4 => q _ H4 (hR _ (List.getElem_mem hk)) (wx_trans (wx_of e2) (e3.trans e4)) (d3.ex e4)
theorem ev_same80 {sp : Nat} {rs : List (List Fl)} {tl : Option (List Fl)} {M : List (List Fo)} {b : Bool} (hx : Ev tx σ H (.str (SX.S (bodyT sp rs tl)))) (hs : Ev ts σ H (.str (SX.S [sp]))) (hy : EvW (fun H p => Lst2 (Lst2 TupAt) H p M) ty σ H)
    (h1 : ∀ r ∈ rs, okRec sp r ∧ okT r) (h2 : ∀ r, tl = some r → okRec sp r ∧ okT r ∧ recT sp r ≠ []) (hsep : okSep sp) (hz : (bodyT sp rs tl).length ≤ 50000) (hl : (rs ++ tl.toList).length ≤ 1000) (hc : (offsR sp 0 (rs ++ tl.toList) = M ∧ b = true) ∨ ((offsR sp 0 (rs ++ tl.toList)).length ≠ M.length ∧ b = false)) :
    Ev (tCall (sp__law_same K) [] E (tCons (tCall (sp_split_records K) [] E2 (tCons tx (tCons ts tNil))) (tCons ty tNil))) σ H (.bl b) := fun H1 e Q q =>
  hx H1 e _ fun H2 e2 => hs H2 (e.trans e2) _ fun H3 e3 => ⟨sp, rs, tl, rfl, fun r hr => (h1 r hr).1, fun r hr => ⟨(h2 r hr).1, (h2 r hr).2.2⟩, hsep, hz, fun pp H4 hp e4 hL => hy H4 (((e.trans e2).trans e3).trans e4) _ fun pq H5 e5 hM => by
    have xx := ((e2.trans e3).trans e4).trans e5
    refine ⟨pp, pq, _, M, rfl, hL.mono e5 fun q l h => h.mono e5 fun q l h => h.ex e5, hM, by rw [offR_len]; exact hl, fun x hx => ?_, ?_⟩
    · obtain ⟨r, hr, o, rfl⟩ := offR_in sp _ _ hx
      have ok : okT r := by
        rcases List.mem_append.mp hr with h | h
        · exact (h1 r h).2
        · cases tl with
          | none => cases h
          | some r2 => rw [List.mem_singleton.mp h]; exact (h2 r2 rfl).2.1
      refine ⟨by rw [offF_len]; have := ok.1; omega, fun l hl c hc => ?_⟩
      obtain ⟨f, hf, e⟩ := offF_in sp _ _ hl
      rw [e] at hc
      exact ok.2 f hf c hc
    · rcases hc with ⟨h, rfl⟩ | ⟨h, rfl⟩
      · exact .inl ⟨h, fun H' e' => q H' (xx.trans e')⟩
      · exact .inr ⟨h, fun H' e' => q H' (xx.trans e')⟩⟩
theorem EvW.var {R : Hp → Addr → Prop} {i : Nat} (h : σ[i]? = some (some (.ref p))) (hR : ∀ H1, Ex H H1 → R H1 p) : EvW R (tVar i) σ H := fun H1 e Q q => ⟨_, h, q p H1 (Ex.refl H1) (hR H1 e)⟩
end
theorem dps_fo {K : PySem.W.Frag} {H : Hp} : ∀ {ts : List Addr} {L : List Fo}, Al2 TupAt H ts L → DpAll K H (ts.map V.ref) (L.map foD)
  | [], [], _ => .nil
  | [], _ :: _, h => nomatch h.1
  | _ :: _, [], h => nomatch h.1
  | t :: ts, l :: L, h => .cons (.tup (st_of (h.2 0 t l rfl rfl)) (.cons (.str _) (.cons (.int _) (.cons (.bl _) .nil)))) (dps_fo ⟨Nat.succ.inj h.1, fun i q l a b => h.2 (i + 1) q l a b⟩)
theorem lays_fo : ∀ {L : List Fo}, (∀ l ∈ L, okFo l) → PyData.canLayAll0 (L.map foD) = true ∧ PyData.depthAll (L.map foD) ≤ 1
  | [], _ => ⟨rfl, Nat.zero_le _⟩
  | l :: r, h => by
    obtain ⟨h1, h2⟩ := lays_fo fun x hx => h x (List.mem_cons_of_mem _ hx)
    refine ⟨?_, ?_⟩
    · show ((foD l).canLay0 && PyData.canLayAll0 (r.map foD)) = true
      rw [lay_fo (h l List.mem_cons_self), h1]
      rfl
    · show max (max 0 (max 0 (max 0 0)) + 1) (PyData.depthAll (r.map foD)) ≤ 1
      omega
theorem sh_fos {L : List Fo} (h : ∀ l ∈ L, okFo l) : SeqAt.shaped (.list (L.map foD)) = true := by
  obtain ⟨h1, h2⟩ := lays_fo h
  show (PyData.canLayAll0 (L.map foD) && decide (PyData.depthAll (L.map foD) + 1 ≤ 64)) = true
  rw [h1, decide_eq_true (by omega)]
  rfl
def Inv80 (H0 : Hp) (pR : Addr) (sp i : Nat) (many : Int) (H' : Hp) (text : List Nat) : Prop := ∃ (rs : List (List Fl)) (tl : Option (List Fl)) (qs : List Addr), Ex H0 H' ∧ H' pR = some (.lst (qs.map V.ref)) ∧ Al2 (Lst2 TupAt) (wo pR H') qs (offsR sp 0 (rs ++ tl.toList)) ∧ text = bodyT sp rs tl ∧ (∀ r ∈ rs, okRec sp r ∧ okT r) ∧ (∀ r, tl = some r → okRec sp r ∧ okT r ∧ recT sp r ≠ []) ∧ ((i : Int) < many → tl = none) ∧ (rs ++ tl.toList).length = i ∧ text.length ≤ 70 * i
def sp_law (K : PySem.W.Frag) : Sp := fun vs H Q _ => ∃ (a : Addr) (ns : List Int), vs = [.ref a] ∧ SqL K H a (ns.map V.int) ∧ ns.length ≤ 63 ∧ ∀ H', Q (.bl true) H'
theorem sp_law_of {K : PySem.W.Frag} {H : Hp} {a : Addr} {ns : List Int} (hl : ns.length ≤ 63) (hS : SqL K H a (ns.map V.int)) : sp_law K [.ref a] H (fun v _ => v = .bl true) fun _ _ _ => False :=
  ⟨a, ns, rfl, hS, hl, fun _ => rfl⟩
section
variable {P : Program} {w : World} {K : PySem.W.Frag} {mg : Str → Option Value} {base : Heap}
theorem ok_law {f : Addr} {fd : FuncData} (D : C8.Def K mg "law" s_law f fd) (c__law_cell : C8.Cal P w K mg base 1 "_law_cell" (sp__law_cell K) []) (c__law_digit : C8.Cal P w K mg base 1 "_law_digit" (sp__law_digit K) []) (c__law_field_text : C8.Cal P w K mg base 2 "_law_field_text" (sp__law_field_text K) []) (c__law_must_mark : C8.Cal P w K mg base 1 "_law_must_mark" (sp__law_must_mark K) []) (c__law_same : C8.Cal P w K mg base 2 "_law_same" (sp__law_same K) []) (c__law_state : C8.Cal P w K mg base 1 "_law_state" (sp__law_state K) []) (c__law_written : C8.Cal P w K mg base 1 "_law_written" (sp__law_written K) []) (c_split_records : C8.Cal P w K mg base 5 "split_records" (sp_split_records K) []) (z_len : mg "len" = none) (z_min : mg "min" = none) (z_range : mg "range" = none) :
    FnOk P w K mg base C8.CX0 6 f fd ["script"] (sp_law K) := by
  refine C8.fn0 D.fn sc_law (fun vs H Q E h => ?_) (fun cdv A outer s H vs Q E hr h => ?_)
  · obtain ⟨_, _, rfl, _⟩ := h
    rfl
  refine ⟨_, (pss_cons (ps_set (i := 1) sc_law.nd rfl (.inl rfl) (C8.pe_c c__law_state hr (by decide) (by rfl) (pa_cons (C8.pe_c c__law_cell hr (by decide) (by rfl) (pa_cons (pv 0) (pa_cons pe_int pa_nil))) (pa_cons pe_int pa_nil))))
    (pss_cons (ps_set (i := 2) sc_law.nd rfl (.inl rfl) (pe_ix ix_tup (pe_tup (pa_cons pe_str (pa_cons pe_str (pa_cons pe_str pa_nil)))) (C8.pe_c c__law_digit hr (by decide) (by rfl) (pa_cons (pv 1) (pa_cons pe_int pa_nil))) (fun _ _ => rfl)))
    (pss_cons (ps_set (i := 3) sc_law.nd rfl (.inl rfl) pe_str)
    (pss_cons (ps_set (i := 4) sc_law.nd rfl (.inl rfl) (pe_lst pa_nil))
    (pss_cons (ps_set (i := 5) sc_law.nd rfl (.inl rfl) (pe_callB (call_min2 rfl) (by rfl) z_min (by decide +kernel) (pa_cons pe_int (pa_cons (pe_callB call_len_seq (by rfl) z_len PySem.boot_len (pa_cons (pv 0) pa_nil)) pa_nil))))
    (pss_cons (ps_for PassesOwn.never rfl (pi_range1 rfl z_range (pa_cons (pv 5) pa_nil)) (pg_name (i := 6) sc_law.nd rfl (.inl rfl))
      (pss_cons (ps_set (i := 1) sc_law.nd rfl (.inl rfl) (C8.pe_c c__law_state hr (by decide) (by rfl) (pa_cons (C8.pe_c c__law_cell hr (by decide) (by rfl) (pa_cons (pv 0) (pa_cons (pv 6) pa_nil))) (pa_cons (pe_op op_add pe_int (pv 6)) pa_nil))))
    (pss_cons (ps_set (i := 7) sc_law.nd rfl (.inl rfl) (pe_lst pa_nil))
    (pss_cons (ps_for PassesOwn.never rfl (pi_range1 rfl z_range (pa_cons (pe_op op_add pe_int (C8.pe_c c__law_digit hr (by decide) (by rfl) (pa_cons (pv 1) (pa_cons pe_int pa_nil)))) pa_nil)) (pg_name (i := 8) sc_law.nd rfl (.inl rfl))
      (pss_cons (ps_if (pt_cmpR op_gt (pv 8) pe_int (nomark _))
      (pss_one (ps_set (i := 3) sc_law.nd rfl (.inl rfl) (pe_op op_add_str (pv 3) (pv 2))))
      pss_nil)
    (pss_cons (ps_set (i := 9) sc_law.nd rfl (.inl rfl) (C8.pe_c c__law_field_text hr (by decide) (by rfl) (pa_cons (pv 1) pa_nil)))
    (pss_cons (ps_set (i := 10) sc_law.nd rfl (.inl rfl) (pe_or (C8.pe_c c__law_must_mark hr (by decide) (by rfl) (pa_cons (pv 9) (pa_cons (pv 2) pa_nil))) (pe_one (pe_cmpR op_eq (C8.pe_c c__law_digit hr (by decide) (by rfl) (pa_cons (pv 1) (pa_cons pe_int pa_nil))) pe_int (nomark _)))))
    (pss_cons (ps_expr (pe_bm PySem.F.plainAttrs_list PySem.F.slot_list_append PySem.F.type_list_append mt_append (pv 7) (pa_cons (pe_tup (pa_cons (pv 9) (pa_cons (pe_callB call_len_str (by rfl) z_len PySem.boot_len (pa_cons (pv 3) pa_nil)) (pa_cons (pv 10) pa_nil)))) pa_nil)))
    (pss_one (ps_set (i := 3) sc_law.nd rfl (.inl rfl) (pe_op op_add_str (pv 3) (C8.pe_c c__law_written hr (by decide) (by rfl) (pa_cons (pv 9) (pa_cons (pv 2) (pa_cons (pv 10) pa_nil))))))))))))
    (pss_cons (ps_expr (pe_bm PySem.F.plainAttrs_list PySem.F.slot_list_append PySem.F.type_list_append mt_append (pv 4) (pa_cons (pv 7) pa_nil)))
    (pss_one (ps_if (PW.pt (pw_or (pt_cmpR op_lt (pv 6) (pe_op op_sub (pv 5) pe_int) (nomark _)) (pw_or (pt_cmpR op_eq (C8.pe_c c__law_digit hr (by decide) (by rfl) (pa_cons (pv 1) (pa_cons pe_int pa_nil))) pe_int (nomark _)) (pw_or1 (pt_cmpR (op_eqD (hu64 hr)) (pv 7) (pe_lst (pa_cons (pe_tup (pa_cons pe_str (pa_cons (pe_ix ix_tup (pe_ix ix_list (pv 7) pe_int (fun _ _ => rfl)) pe_int (fun _ _ => rfl)) (pa_cons pe_bl pa_nil)))) pa_nil)) (nomark _))))))
      (pss_one (ps_set (i := 3) sc_law.nd rfl (.inl rfl) (pe_op op_add_str (pv 3) pe_str)))
      pss_nil)))))))
    (pss_cons (ps_if (pt_not (pt_val (C8.pe_c c__law_same hr (by decide) (by rfl) (pa_cons (C8.pe_c c_split_records hr (by decide) (by rfl) (pa_cons (pv 3) (pa_cons (pv 2) pa_nil))) (pa_cons (pv 4) pa_nil)))))
      (pss_one (ps_ret pe_bl))
      pss_nil)
    (pss_cons (ps_if (pt_not (pt_val (C8.pe_c c__law_same hr (by decide) (by rfl) (pa_cons (C8.pe_c c_split_records hr (by decide) (by rfl) (pa_cons (pe_op op_add_str (pv 3) pe_str) (pa_cons (pv 2) pa_nil))) (pa_cons (pe_op op_cat (pv 4) (pe_lst (pa_cons (pe_lst (pa_cons (pe_tup (pa_cons pe_str (pa_cons (pe_callB call_len_str (by rfl) z_len PySem.boot_len (pa_cons (pv 3) pa_nil)) (pa_cons pe_bl pa_nil)))) pa_nil)) pa_nil))) pa_nil)))))
      (pss_one (ps_ret (pe_and (pe_cmpR op_ne (pe_slice C8.sl_txt (pv 3) (po_some (pe_op op_sub (pe_callB call_len_str (by rfl) z_len PySem.boot_len (pa_cons (pv 3) pa_nil)) pe_int)) po_none) pe_str (nomark _)) (pe_one (pe_cmpR op_gt (pe_callB call_len_str (by rfl) z_len PySem.boot_len (pa_cons (pv 3) pa_nil)) pe_int (nomark _))))))
      pss_nil)
    (pss_one (ps_ret (C8.pe_c c__law_same hr (by decide) (by rfl) (pa_cons (C8.pe_c c_split_records hr (by decide) (by rfl) (pa_cons pe_str (pa_cons (pv 2) pa_nil))) (pa_cons (pe_lst pa_nil) pa_nil))))))))))))), ?_⟩
  obtain ⟨a, ns, rfl, hS, h63, q⟩ := h
  refine q_asgC (ec_state (ec_cell (ev_var rfl) ev_c hS (by decide)) ev_c) fun p1 H1 hp1 e1 d1 => ?_
  refine q1_asg (P := fun v => ∃ sp, v = .str (SX.S [sp]) ∧ okSep sp) (e1_ixT (xs := [.str (SX.S [44]), .str (SX.S [59]), .str (SX.S [32])]) (eu_tup (ea_cons (ev_is ev_c (by decide +kernel)) (ea_cons (ev_is ev_c (by decide +kernel)) (ea_cons (ev_is ev_c (by decide +kernel)) ea_nil))) (by show 3 ≤ 100000; decide)) (ez_mono (ez_digit (ev_var rfl) ev_c (by decide) (by decide)) fun i hi => ⟨hi.1, hi.2⟩) fun x hx => ?_) d1 fun v H2 hv e2 d2 => ?_
  · rcases List.mem_cons.mp hx with h | hx
    · exact ⟨44, h, .inl rfl⟩
    rcases List.mem_cons.mp hx with h | hx
    · exact ⟨59, h, .inr (.inl rfl)⟩
    · exact ⟨32, List.mem_singleton.mp hx, .inr (.inr rfl)⟩
  obtain ⟨sp, rfl, hsep⟩ := hv
  have x2 : Ex H H2 := wx_back hp1 e1 e2
  refine q_asg (v := .str (SX.S [])) (ev_is ev_c (by rw [c00])) fun H3 e3 => ?_
  refine q_asgL (el_lst ea_nil (by decide)) fun pR H4 hpR e4 h4 => ?_
  have x4 := (x2.trans e3).trans e4
  have hpRH : H pR = none := fresh_back (x2.trans e3) hpR
  refine q_asg (v := .int (if (((ns.map V.int).length : Nat) : Int) < 8 then (((ns.map V.int).length : Nat) : Int) else 8)) (ev_min2 ev_c (ev_len (ev_var rfl) (ex_l x4 hS))) fun H5 e5 => ?_
  generalize hmany : (if (((ns.map V.int).length : Nat) : Int) < 8 then (((ns.map V.int).length : Nat) : Int) else 8) = many
  have hm8 : 0 ≤ many ∧ many ≤ 8 := by rw [← hmany]; split <;> omega
  refine q_forR1 (n := many) (ea_cons (ev_var rfl) ea_nil) ⟨by omega, by omega⟩ (fun i σ' H' => ∃ (sv kv rv jv fv mv : Option V) (text : List Nat), σ' = [some (.ref a), sv, some (.str (SX.S [sp])), some (.str (SX.S text)), some (.ref pR), some (.int many), kv, rv, jv, fv, mv] ∧ Inv80 H pR sp i many H' text)
    (fun H6 e6 => ⟨_, none, none, none, none, none, [], rfl, [], none, [], (x4.trans e5).trans e6, e6 _ _ (e5 _ _ h4), Al2.nil, rfl, (fun r h => nomatch h), (fun r h => nomatch h), fun _ => rfl, rfl, Nat.zero_le _⟩) (fun i σ' Ho hi pv => ?_) fun σ' H' pv => ?_
  · obtain ⟨sv, kv, rv, jv, fv, mv, text, rfl, rs, tl, qs, xo, hqs, hAl, htx, hrs, htl, hnone, hlen, htl2⟩ := pv
    have htl0 := hnone hi
    subst htl0
    have hrl : rs.length = i := by rw [← hlen]; simp
    rw [show rs ++ (none : Option (List Fl)).toList = rs by simp] at hAl
    have hi8 : i < 8 := by omega
    refine q_asgC (ec_state (ec_cell (k := (i : Int)) (ev_var rfl) (ev_var rfl) (ex_l xo hS) (by omega)) (ev_op ev_c (ev_var rfl) rv_I0)) fun ps Ha hps ea da => ?_
    refine q_asgL (el_lst ea_nil (by decide)) fun pr Hb hpr eb hb => ?_
    have hprps : pr ≠ ps := fun z => by
      obtain ⟨xs, hx⟩ := da.at
      rw [← z, hpr] at hx
      cases hx
    have xab := ea.trans eb
    have hpro : Ho pr = none := fresh_back ea hpr
    refine q_forD (PI := fun n => 1 ≤ n ∧ n ≤ 5) (ez_op0 (e1_int (PI := fun j => j = 1) ev_c rfl) (ez_digit (ev_var rfl) ev_c (by decide) (by decide)) fun i j hi hj => ⟨by omega, by omega⟩) (da.ex eb) fun n Hc hn ec dc => ?_
    have xc : Ex Ho Hc := wx_back hps xab ec
    have hcr : Hc pr = some (.lst []) := ec _ _ (by rw [wo_ne hprps]; exact hb)
    refine q_forR1 (n := n) (ea_cons ev_c ea_nil) ⟨by omega, by omega⟩ (fun j σ' H' => ∃ (jv fv mv : Option V) (fs : List Fl) (ts : List Addr), σ' = [some (.ref a), some (.ref ps), some (.str (SX.S [sp])), some (.str (SX.S (text ++ recT sp fs))), some (.ref pR), some (.int many), some (.int (i : Int)), some (.ref pr), jv, fv, mv] ∧ Ex Ho H' ∧ Dr ps H' ∧ H' pr = some (.lst (ts.map V.ref)) ∧ Al2 TupAt H' ts (offsF sp text.length fs) ∧ fs.length = j ∧ (∀ f ∈ fs, okF sp f ∧ ∀ c ∈ f.1, c ≤ 126) ∧ (recT sp fs).length ≤ 13 * j)
      (fun Hd ed => ⟨jv, fv, mv, [], [], by rw [show text ++ recT sp [] = text from List.append_nil _]; rfl, xc.trans ed, dc.ex ed, ed _ _ hcr, Al2.nil, rfl, (fun f h => nomatch h), Nat.zero_le _⟩) (fun j σ' H' hj pw => ?_) fun σ' H' pw => ?_
    · obtain ⟨jv, fv, mv, fs, ts, rfl, xo', dr, hts, hTA, hfl, hfs, hrl2⟩ := pw
      have hj5 : j < 5 := by omega
      have htxl : text.length ≤ 560 := by omega
      refine q_ifAsg (v := .str (SX.S (text ++ recT sp fs ++ (if fs = [] then [] else [sp])))) (b := decide ((j : Int) > 0)) (et_test (ev_op (ev_var rfl) ev_c rv_I0)) (fun hb => ?_) (fun hb => ?_) fun Hd ed => ?_
      · have h0 : ¬ fs = [] := fun z => by rw [z] at hfl; have := of_decide_eq_true hb; simp at hfl; omega
        rw [if_neg h0]
        refine ev_is (ev_cat (ev_var rfl) (ev_var rfl) ?_) (by rw [SX.S_cat])
        rw [SX.S_len, SX.S_len, List.length_append]
        show _ + 1 ≤ _
        omega
      · have h0 : fs = [] := by
          have := of_decide_eq_false hb
          exact List.length_eq_zero_iff.mp (by omega)
        rw [if_pos h0, List.append_nil]
        rfl
      generalize hT : text ++ recT sp fs ++ (if fs = [] then [] else [sp]) = T
      have hTl : T.length ≤ 700 := by
        rw [← hT, List.length_append, List.length_append]
        have : (if fs = [] then [] else [sp] : List Nat).length ≤ 1 := by split <;> simp
        omega
      refine q1_asg (e1_ft (ev_var rfl)) (dr.ex ed) fun v He hv ee de => ?_
      obtain ⟨l, rfl, hl5, hlc⟩ := hv
      refine q1_asg (e1_orV (a := mustB sp l) (ev_call (ea_cons (ev_var rfl) (ea_cons (ev_var rfl) ea_nil)) fun H1 e Q q E => ⟨l, sp, rfl, q⟩) (ez_eq (ez_digit (ev_var rfl) ev_c (by decide) (by decide)) (e1_int (PI := fun j => j = 0) ev_c rfl))) de fun v Hf hv ef df => ?_
      obtain ⟨m, rfl, hm⟩ := hv
      have hokF : okF sp (l, m) := must_ok hm
      -- what stood stands
      have xf : Ex (wo ps H') Hf := wx_trans (wx_of ed) (wx_trans ee ef)
      have xof : Ex Ho Hf := wx_back hps xo' xf
      have hpsl := dr.at
      obtain ⟨xs0, hxs0⟩ := hpsl
      have hTAf : Al2 TupAt Hf ts (offsF sp text.length fs) := hTA.mono fun q l _ h => (h.wo hxs0).ex xf
      have htsf : Hf pr = some (.lst (ts.map V.ref)) := xf _ _ (by rw [wo_ne hprps]; exact hts)
      refine q_appU (xs := ts.map V.ref) (ys := [.str (SX.S l), .int (T.length : Nat), .bl m]) htsf (ev_var rfl) (eu_tup (ea_cons (ev_var rfl) (ea_cons (ev_lenX (ev_var rfl) (by omega)) (ea_cons (ev_var rfl) ea_nil))) (by show 3 ≤ 100000; decide)) (by rw [List.length_map, hTA.1, offF_len]; omega) fun tn Hg htn eg hg => ?_
      have hgr := eg _ _ htsf
      have hl126 : ∀ c ∈ l, c ≤ 126 := fun c hc => S80_ok c (hlc c hc)
      refine s_asg (v := .str (SX.S (text ++ recT sp (fs ++ [(l, m)])))) (ev_is (ev_cat (b := SX.S (wrL l m)) (ev_var rfl) (ev_call (ea_cons (ev_var rfl) (ea_cons (ev_var rfl) (ea_cons (ev_var rfl) ea_nil))) fun H1 e Q q E => ⟨l, _, m, rfl, by omega, q⟩) ?_) ?_) fun Hh eh => ?_
      · rw [SX.S_len, SX.S_len]
        have := wr_len (m := m) hl5
        omega
      · rw [SX.S_cat, rec_snoc, ← hT]
        simp
      have dg := (df.ex eg).upd (l := pr) (o := .lst (ts.map V.ref ++ [.ref tn])) (Ne.symm hprps)
      have xg : Ex Ho (upd Hg pr (.lst (ts.map V.ref ++ [.ref tn]))) := Ex.mut (xof.trans eg) hpro
      have tne : ∀ {q : Addr} {l : Fo}, TupAt Hg q l → TupAt (upd Hg pr (.lst (ts.map V.ref ++ [.ref tn]))) q l := fun {q l} h => by
        show upd Hg pr _ q = _
        rw [upd_ne (fun z => by rw [z] at h; rw [show Hg pr = _ from h] at hgr; cases hgr)]
        exact h
      refine ⟨_, _, _, fs ++ [(l, m)], ts ++ [tn], rfl, xg.trans eh, dg.ex eh, eh _ _ (by rw [upd_same, List.map_append]; rfl), ?_, by rw [List.length_append, hfl]; rfl, fun f hf => ?_, ?_⟩
      · rw [offs_snoc]
        refine ((hTAf.mono fun q l _ h => tne (h.ex eg)).snoc (q := tn) (tne ?_)).mono fun q l _ h => h.ex eh
        show Hg tn = _
        rw [hg, ← hT]
        simp
      · rcases List.mem_append.mp hf with h | h
        · exact hfs f h
        · rw [List.mem_singleton.mp h]
          exact ⟨hokF, hl126⟩
      · rw [rec_snoc, List.length_append, List.length_append]
        have h1 := wr_len (m := m) hl5
        have h2 : (if fs = [] then [] else [sp] : List Nat).length ≤ 1 := by split <;> simp
        show _ + (_ + (wrL l m).length) ≤ _
        omega
    · obtain ⟨jv, fv, mv, fs, ts, rfl, xo', dr, hts, hTA, hfl, hfs, hrl2⟩ := pw
      have hfne : fs ≠ [] := fun z => by rw [z] at hfl; simp at hfl; omega
      have hf5 : fs.length ≤ 5 := by omega
      have hokR : okRec sp fs := ⟨hfne, fun f hf => (hfs f hf).1⟩
      have hokT : okT fs := ⟨hf5, fun f hf => (hfs f hf).2⟩
      have hqs' := xo' _ _ hqs
      have hpRps : pR ≠ ps := fun z => by rw [z, hps] at hqs; cases hqs
      have hpRpr : pr ≠ pR := fun z => by rw [← z, hpro] at hqs; cases hqs
      refine q_app (v := .ref pr) hqs' (ev_var rfl) (ev_var rfl) (by rw [List.length_map, hAl.1, offR_len]; omega) fun Hd ed => ?_
      have hRd := ed _ _ hqs'
      have hprd := ed _ _ hts
      have dd : Dr ps (upd Hd pR (.lst (qs.map V.ref ++ [.ref pr]))) := (dr.ex ed).upd (Ne.symm hpRps)
      have hGd : ∀ b, b ≠ pR → (upd Hd pR (.lst (qs.map V.ref ++ [.ref pr]))) b = Hd b := fun b h => upd_ne h
      have xd : Ex H (upd Hd pR (.lst (qs.map V.ref ++ [.ref pr]))) := Ex.mut ((xo.trans xo').trans ed) hpRH
      have hRd2 : (upd Hd pR (.lst (qs.map V.ref ++ [.ref pr]))) pR = some (.lst ((qs ++ [pr]).map V.ref)) := by rw [upd_same, List.map_append]; rfl
      have hprd2 : (upd Hd pR (.lst (qs.map V.ref ++ [.ref pr]))) pr = some (.lst (ts.map V.ref)) := by rw [upd_ne hpRpr]; exact hprd
      have hTd : Al2 TupAt (upd Hd pR (.lst (qs.map V.ref ++ [.ref pr]))) ts (offsF sp text.length fs) := hTA.mono fun q l _ h => ((h.ex ed).wo hRd).ex (by
        intro b o hb
        have hbn : b ≠ pR := fun z => by rw [z, wo_self] at hb; cases hb
        rw [wo_ne hbn] at hb
        rw [upd_ne hbn]
        exact hb)
      generalize upd Hd pR (.lst (qs.map V.ref ++ [.ref pr])) = G at dd hGd xd hRd2 hprd2 hTd
      have hokL : ∀ l ∈ offsF sp text.length fs, okFo l := fun l hl => by
        obtain ⟨f, hf, e⟩ := offF_in sp _ _ hl
        intro c hc
        rw [e] at hc
        exact (hfs f hf).2 c hc
      obtain ⟨f0, fr, hf0⟩ := List.exists_cons_of_ne_nil hfne
      have hoff0 : (offsF sp text.length fs)[0]? = some (f0.1, text.length, f0.2) := by rw [hf0]; rfl
      obtain ⟨xs0, hxs0⟩ := dd.at
      have hTw : Al2 TupAt (wo ps G) ts (offsF sp text.length fs) := hTd.mono fun q l _ h => h.wo hxs0
      have hpw : wo ps G pr = some (.lst (ts.map V.ref)) := by rw [wo_ne hprps]; exact hprd2
      have hdp : Dp K (wo ps G) (.ref pr) (.list ((offsF sp text.length fs).map foD)) := .lst (sq_of hpw) (dps_fo hTw)
      obtain ⟨t0, ht0, hT0⟩ := hTw.get (i := 0) (by rw [offF_len]; omega)
      have hT0' : TupAt (wo ps G) t0 (f0.1, text.length, f0.2) := hTw.2 0 t0 _ ht0 hoff0
      have shE := sh_fos (L := [(([] : List Nat), text.length, false)]) (by
        intro l hl
        rw [List.mem_singleton.mp hl]
        exact fun c hc => nomatch hc)
      refine s1_ifA (i := 3) (p := ps) (R := fun v => (v = .str (SX.S (text ++ recT sp fs ++ [10]))) ∨ (v = .str (SX.S (text ++ recT sp fs)) ∧ ¬ (i : Int) < many - 1 ∧ recT sp fs ≠ [])) (PB := fun b => b = false → ¬ (i : Int) < many - 1 ∧ recT sp fs ≠ []) (v0 := .str (SX.S (text ++ recT sp fs)))
        (edt_orG (PA := fun b => b = false → ¬ (i : Int) < many - 1) (edt_pure (b := decide ((i : Int) < many - 1)) (et_test (ev_op (ev_var rfl) (ev_op (ev_var rfl) ev_c rv_I0) rv_I0)) fun h => of_decide_eq_false h) (fun h1 => edt_orG (PA := fun _ => True) (edt_test (ez_eq (ez_digit (ev_var rfl) ev_c (by decide) (by decide)) (e1_int (PI := fun j => j = 0) ev_c rfl))) (fun _ => edt_pure (b := PyData.eqv (.list ((offsF sp text.length fs).map foD)) (.list [foD ([], text.length, false)])) (et_test (ev_eqD (ed_val (ev_var rfl) hdp) (ed_lst (ld_lst (ad_cons (ed_tupU (ud_tup (ad_cons (ed_val (ev_is ev_c (by rw [c00])) (.str _)) (ad_cons (ed_val (ev_op (ev_op (ev_var rfl) ev_c (rv_ixL (sq_of hpw) (atI_nat (j := 0) (by rw [List.getElem?_map, ht0]; rfl)))) ev_c (rv_ixT (st_of hT0') (atI_nat (j := 1) rfl))) (.int _)) (ad_cons (ed_val ev_c (.bl _)) ad_nil))) (by show 3 ≤ 100000; decide))) ad_nil) (by show 1 ≤ 100000; decide))) (sh_fos hokL) shE)) fun hb => ⟨h1 rfl, fun hnil => ?_⟩) fun _ h => nomatch h) fun _ h => nomatch h) dd (fun _ H1 x1 D1 k1 => ?_) rfl (fun h => .inr ⟨rfl, h rfl⟩) fun v He hv ee => ?_
      · have hfs2 := rec_nil hfne hnil
        rw [hfs2] at hb
        have hb2 : PyData.eqv (.list [foD (([] : List Nat), text.length, false)]) (.list [foD ([], text.length, false)]) = false := hb
        exact nomatch (PySem.SeqAt.eqv_refl _ (SeqAt.canLay_of_shaped shE)).symm.trans hb2
      · refine s_asg (D := D1) (v := .str (SX.S (text ++ recT sp fs ++ [10]))) (ev_is (ev_cat (b := SX.S [10]) (ev_var rfl) (ev_is ev_c (by rw [mk10])) ?_) (by rw [SX.S_cat])) fun H2 e2 => k1 _ H2 (.inl rfl) (x1.trans e2)
        rw [SX.S_len, SX.S_len, List.length_append]
        show _ + 1 ≤ _
        omega
      · have xe : Ex H He := wx_back (fresh_back xo hps) xd ee
        have hRe : He pR = some (.lst ((qs ++ [pr]).map V.ref)) := ee _ _ (by rw [wo_ne hpRps]; exact hRd2)
        have xw : Ex (wo pR Ho) (wo pR He) := fun b o hb => by
          have hbn : b ≠ pR := fun z => by rw [z, wo_self] at hb; cases hb
          rw [wo_ne hbn] at hb ⊢
          have hbs : b ≠ ps := fun z => by rw [z, hps] at hb; cases hb
          exact ee b o (by rw [wo_ne hbs, hGd b hbn]; exact ed _ _ (xo' _ _ hb))
        have hAle : Al2 (Lst2 TupAt) (wo pR He) (qs ++ [pr]) (offsR sp 0 (rs ++ [fs])) := by
          rw [offR_snoc, Nat.zero_add, ← htx]
          refine (hAl.mono fun q l _ h => h.mono xw fun q l h => h.ex xw).snoc ⟨ts, ?_, hTw.mono fun q l _ h => (h.ex ee).wo hRe⟩
          rw [wo_ne hpRpr]
          exact ee _ _ (by rw [wo_ne hprps]; exact hprd2)
        have hlen2 : (rs ++ [fs]).length = i + 1 := by rw [List.length_append, hrl]; rfl
        rcases hv with rfl | ⟨rfl, hlast, hne⟩
        · refine ⟨_, _, _, _, _, _, text ++ recT sp fs ++ [10], rfl, rs ++ [fs], none, qs ++ [pr], xe, hRe, by rw [show rs ++ [fs] ++ (none : Option (List Fl)).toList = rs ++ [fs] by simp]; exact hAle, by rw [body_snoc, ← htx, List.append_assoc], fun r hr => ?_, (fun r h => nomatch h), fun _ => rfl, by rw [← hlen2]; simp, ?_⟩
          · rcases List.mem_append.mp hr with h | h
            · exact hrs r h
            · rw [List.mem_singleton.mp h]; exact ⟨hokR, hokT⟩
          · rw [List.length_append, List.length_append]
            show _ + 1 ≤ _
            omega
        · refine ⟨_, _, _, _, _, _, text ++ recT sp fs, rfl, rs, some fs, qs ++ [pr], xe, hRe, hAle, by rw [body_some, ← htx], hrs, fun r hr => by cases hr; exact ⟨hokR, hokT, hne⟩, fun h => absurd h (by omega), hlen2, ?_⟩
          rw [List.length_append]
          omega
  · obtain ⟨sv, kv, rv, jv, fv, mv, text, rfl, rs, tl, qs, xo, hqs, hAl, htx, hrs, htl, hnone, hlen, htl2⟩ := pv
    have hl8 : (rs ++ tl.toList).length ≤ 8 := by omega
    have htxz : text.length ≤ 560 := by omega
    have hmono : ∀ {H1 : Hp}, Ex H' H1 → Lst2 (Lst2 TupAt) H1 pR (offsR sp 0 (rs ++ tl.toList)) := fun e => ⟨qs, e _ _ hqs, hAl.mono fun q l _ h => h.mono ((wo_le _ _).trans e) fun q l h => h.ex ((wo_le _ _).trans e)⟩
    refine q_when (b := !true) (et_not (et_B (ev_same80 (b := true) (ev_is (ev_var rfl) (by rw [htx])) (ev_var rfl) (EvW.var rfl fun H1 e => hmono e) hrs htl hsep (by rw [← htx]; omega) (by omega) (.inl ⟨rfl, rfl⟩)))) (fun h => nomatch h) fun _ H6 e6 => ?_
    have hM : ∀ {σ : L2.St} {H0 : Hp} {tx ty : TE}, σ[4]? = some (some (.ref pR)) → Ex H' H0 → Ev ty σ H0 (.int (text.length : Nat)) → EvW (fun H p => Lst2 (Lst2 TupAt) H p (offsR sp 0 (rs ++ tl.toList) ++ [[([], text.length, false)]])) (tOp rCat (tVar 4) (tLst (tCons (tLst (tCons (tTup (tCons (tC (.str (PySem.Str.ofString ""))) (tCons ty (tCons (tC (.bl false)) tNil)))) tNil)) tNil))) σ H0 := fun h4 e0 hy H1 e1 Q q =>
      ⟨_, h4, er_one (R := fun H p => ∃ t, H p = some (.lst [.ref t]) ∧ TupAt H t ([], text.length, false)) (fun H H' p e h => by obtain ⟨t, h1, h2⟩ := h; exact ⟨t, e _ _ h1, h2.ex e⟩) (er_one (R := fun H t => TupAt H t ([], text.length, false)) (fun H H' p e h => h.ex e) (fun H2 e2 Q q => eu_tup (ea_cons (x := .str (SX.S [])) (ev_is ev_c (by rw [c00])) (ea_cons hy (ea_cons ev_c ea_nil))) (by show 3 ≤ 100000; decide) H2 e2 Q q)) H1 e1 _ fun pb H2 hpb e2 ⟨pl, hpl1, pt, hpt1, hpt2⟩ =>
        ⟨pR, pb, qs.map V.ref, [.ref pl], rfl, rfl, (e0.trans (e1.trans e2)) _ _ hqs, hpl1, sz_of (by rw [List.length_map, hAl.1, offR_len]; show _ + 1 ≤ _; omega), fun p hp => q p _ (e2.trans (Ex.new hp)) (by
          have hE := (e0.trans (e1.trans e2)).trans (Ex.new (o := .lst (qs.map V.ref ++ [.ref pl])) hp)
          refine ⟨qs ++ [pl], by rw [upd_same, List.map_append]; rfl, (hAl.mono fun q l _ h => h.mono ((wo_le _ _).trans hE) fun q l h => h.ex ((wo_le _ _).trans hE)).snoc ⟨[pt], Ex.new hp _ _ hpt1, (Al2.nil (R := TupAt)).snoc (hpt2.ex (Ex.new hp))⟩⟩)⟩⟩
    cases tl with
    | none =>
      have hb2 : text ++ [10] = bodyT sp (rs ++ [[([], false)]]) none := by rw [body_snoc, ← htx]; rfl
      refine q_when (b := !true) (et_not (et_B (ev_same80 (b := true) (rs := rs ++ [[([], false)]]) (tl := none) (ev_is (ev_cat (b := SX.S [10]) (ev_var rfl) (ev_is ev_c (by rw [mk10])) ?_) (by rw [SX.S_cat, hb2])) (ev_var rfl) (hM (tx := tVar 0) rfl e6 (ev_lenX (ev_var rfl) (by omega))) (fun r hr => ?_) (fun r h => nomatch h) hsep (by rw [← hb2, List.length_append]; show _ + 1 ≤ _; omega) ?_ (.inl ⟨?_, rfl⟩)))) (fun h => nomatch h) fun _ H7 e7 => ?_
      · rw [SX.S_len, SX.S_len]
        show _ + 1 ≤ _
        omega
      · rcases List.mem_append.mp hr with h | h
        · exact hrs r h
        · rw [List.mem_singleton.mp h]
          exact ⟨⟨(fun h => nomatch h), fun f hf => by rw [List.mem_singleton.mp hf]; exact fun _ c hc => nomatch hc⟩, by show 1 ≤ 5; decide, fun f hf c hc => by rw [List.mem_singleton.mp hf] at hc; exact nomatch hc⟩
      · simp at hl8 ⊢
        omega
      · rw [show rs ++ [[([], false)]] ++ (none : Option (List Fl)).toList = rs ++ [[([], false)]] by simp, offR_snoc, Nat.zero_add, ← htx, show rs ++ (none : Option (List Fl)).toList = rs by simp]
        rfl
      · exact s_ret (ev_same80 (b := true) (sp := sp) (rs := []) (tl := none) (M := []) (ev_is ev_c (by rw [c00]; rfl)) (ev_var rfl) (fun H1 e Q q => ⟨sz_of (by show 0 ≤ 100000; decide), fun p hp => q p _ (Ex.new hp) ⟨[], upd_same, Al2.nil⟩⟩) (fun r h => nomatch h) (fun r h => nomatch h) hsep (by show 0 ≤ 50000; decide) (by show 0 ≤ 1000; decide) (.inl ⟨rfl, rfl⟩)) fun H8 e8 => q H8
    | some r =>
      obtain ⟨hok, hokT, hne⟩ := htl r rfl
      have hb2 : text ++ [10] = bodyT sp (rs ++ [r]) none := by rw [body_snoc, htx, body_some, List.append_assoc]
      refine q_when (b := !false) (et_not (et_B (ev_same80 (b := false) (rs := rs ++ [r]) (tl := none) (ev_is (ev_cat (b := SX.S [10]) (ev_var rfl) (ev_is ev_c (by rw [mk10])) ?_) (by rw [SX.S_cat, hb2])) (ev_var rfl) (hM (tx := tVar 0) rfl e6 (ev_lenX (ev_var rfl) (by omega))) (fun r' hr => ?_) (fun r h => nomatch h) hsep (by rw [← hb2, List.length_append]; show _ + 1 ≤ _; omega) ?_ (.inr ⟨?_, rfl⟩)))) (fun _ H7 e7 => ?_) fun h => nomatch h
      · rw [SX.S_len, SX.S_len]
        show _ + 1 ≤ _
        omega
      · rcases List.mem_append.mp hr with h | h
        · exact hrs r' h
        · rw [List.mem_singleton.mp h]
          exact ⟨hok, hokT⟩
      · simp at hl8 ⊢
        omega
      · simp [offR_len]
      · obtain ⟨l, c, hlast, hc⟩ := rec_last hsep hok.2 hne
        have htc : text = bodyT sp rs none ++ l ++ [c] := by rw [htx, body_some, hlast, List.append_assoc]
        have htlen : text.length = (bodyT sp rs none ++ l).length + 1 := by rw [htc, List.length_append]; rfl
        refine s_ret (v := .bl (!decide (V.str (SX.S [c]) = V.str (SX.S [10])) && decide (((text.length : Nat) : Int) > 0))) (ev_andV (ev_op (ev_is (ev_slF (i := text.length - 1) (ev_var rfl) (ev_is (ev_op (ev_lenX (ev_var rfl) (by omega)) ev_c rv_I0) (by rw [show ((text.length : Nat) : Int) - 1 = ((text.length - 1 : Nat) : Int) by omega])) (fun _ _ _ h => h) (by omega)) ?_) (ev_is ev_c (by rw [mk10])) (rv_ne rfl)) fun _ => ev_op (ev_lenX (ev_var rfl) (by omega)) ev_c rv_I0) fun H8 e8 => ?_
        · rw [show text.length - 1 = (bodyT sp rs none ++ l).length by omega]
          conv => lhs; rw [htc]
          rw [List.drop_left]
        · rw [dec_S, decide_eq_false (fun z => hc (List.cons.inj z).1), decide_eq_true (by omega)]
          exact q H8
end

theorem all_mk {P : Program} {w : World} {K : PySem.W.Frag} {h : Heap} {mg : Str → Option Value} {fa : Addr} (X : K.In h) (G : h.Ns mainGlobals mg) (hfa : mg "law" = some (.ref fa))
    {C_Field : Addr} (qC_Field : PySem.W.nsIn K mainGlobals "Field" = some (some (.ref C_Field))) (pgC_Field : PySem.W.plainGet K C_Field Str.empty = true) (hdC_Field : PySem.W.hasDictIn K C_Field = true) (poC_Field : PySem.W.plainOver K C_Field = true) (saC_Field : PySem.W.findIn K (.ref C_Field) "__setattr__" = some (some (.builtin "object.__setattr__"))) (mkC_Field : PySem.W.makesIn K C_Field = true) (kcC_Field : PySem.W.keepIn K (.ref C_Field) = true)
    (haC_Field : PySem.W.findIn K (.ref C_Field) "__class__" = some (some (.builtin "object.__class__"))) (hnC_Field : PySem.W.specialIn K (.builtin "object.__class__") "__get__" = some (some (.builtin "getset_descriptor.__get__"))) (htC_Field : PySem.W.takesIn K (.builtin "object.__class__") = some true) (hmC_Field : PySem.W.mroIn K C_Field (.type "object") = some true) (meC_Field : PySem.W.kitOne K (.ref C_Field) (.ref C_Field) = some true) (kiC_Field : PySem.W.kitOne K (.type "int") (.ref C_Field) = some false) (niC_Field : PySem.W.notFirst K C_Field (.type "int") = true)
    (naC_Field_0 : PySem.W.findIn K (.ref C_Field) "text" = some none)
    (naC_Field_1 : PySem.W.findIn K (.ref C_Field) "offset" = some none)
    (naC_Field_2 : PySem.W.findIn K (.ref C_Field) "marked" = some none)
    {f0 : Addr} {od0 an0 : Option Addr} {sl0 : Array (Option Value)} {oc0 kV0 dc0 pm0 cd0 ct0 : Value}
    (a0 : PySem.W.findIn K (.ref C_Field) "__init__" = some (some (.ref f0))) (iF0 : PySem.W.isFn K (.ref f0) = true)
    (l0 : K.lookup f0 = some ⟨oc0, od0, .func (PySem.W.fnOf "__init__" "Field.__init__" (C8.fnArgs s_Field____init__) (C8.fnBody s_Field____init__) (C8.fnScope s_Field____init__) .none kV0 dc0 pm0 an0 cd0 ct0), sl0⟩) (b0 : PySem.W.codeIn K cd0 "Field.__init__" = true) (k0 : PySem.W.keepIn K (.ref f0) = true)
    {f1 : Addr} {od1 an1 : Option Addr} {sl1 : Array (Option Value)} {oc1 kV1 dc1 pm1 cd1 ct1 : Value} (a1 : PySem.W.nsIn K mainGlobals "_marked_field" = some (some (.ref f1))) (l1 : K.lookup f1 = some ⟨oc1, od1, .func (PySem.W.fnOf "_marked_field" "_marked_field" (C8.fnArgs s__marked_field) (C8.fnBody s__marked_field) (C8.fnScope s__marked_field) .none kV1 dc1 pm1 an1 cd1 ct1), sl1⟩) (b1 : PySem.W.codeIn K cd1 "_marked_field" = true) (k1 : PySem.W.keepIn K (.ref f1) = true)
    {f2 : Addr} {od2 an2 : Option Addr} {sl2 : Array (Option Value)} {oc2 kV2 dc2 pm2 cd2 ct2 : Value} (a2 : PySem.W.nsIn K mainGlobals "_plain_field" = some (some (.ref f2))) (l2 : K.lookup f2 = some ⟨oc2, od2, .func (PySem.W.fnOf "_plain_field" "_plain_field" (C8.fnArgs s__plain_field) (C8.fnBody s__plain_field) (C8.fnScope s__plain_field) .none kV2 dc2 pm2 an2 cd2 ct2), sl2⟩) (b2 : PySem.W.codeIn K cd2 "_plain_field" = true) (k2 : PySem.W.keepIn K (.ref f2) = true)
    {f3 : Addr} {od3 an3 : Option Addr} {sl3 : Array (Option Value)} {oc3 kV3 dc3 pm3 cd3 ct3 : Value} (a3 : PySem.W.nsIn K mainGlobals "_next_record" = some (some (.ref f3))) (l3 : K.lookup f3 = some ⟨oc3, od3, .func (PySem.W.fnOf "_next_record" "_next_record" (C8.fnArgs s__next_record) (C8.fnBody s__next_record) (C8.fnScope s__next_record) .none kV3 dc3 pm3 an3 cd3 ct3), sl3⟩) (b3 : PySem.W.codeIn K cd3 "_next_record" = true) (k3 : PySem.W.keepIn K (.ref f3) = true)
    {f4 : Addr} {od4 an4 : Option Addr} {sl4 : Array (Option Value)} {oc4 kV4 dc4 pm4 cd4 ct4 : Value} (a4 : PySem.W.nsIn K mainGlobals "split_records" = some (some (.ref f4))) (l4 : K.lookup f4 = some ⟨oc4, od4, .func (PySem.W.fnOf "split_records" "split_records" (C8.fnArgs s_split_records) (C8.fnBody s_split_records) (C8.fnScope s_split_records) .none kV4 dc4 pm4 an4 cd4 ct4), sl4⟩) (b4 : PySem.W.codeIn K cd4 "split_records" = true) (k4 : PySem.W.keepIn K (.ref f4) = true)
    {f5 : Addr} {od5 an5 : Option Addr} {sl5 : Array (Option Value)} {oc5 kV5 dc5 pm5 cd5 ct5 : Value} (a5 : PySem.W.nsIn K mainGlobals "_law_cell" = some (some (.ref f5))) (l5 : K.lookup f5 = some ⟨oc5, od5, .func (PySem.W.fnOf "_law_cell" "_law_cell" (C8.fnArgs s__law_cell) (C8.fnBody s__law_cell) (C8.fnScope s__law_cell) .none kV5 dc5 pm5 an5 cd5 ct5), sl5⟩) (b5 : PySem.W.codeIn K cd5 "_law_cell" = true) (k5 : PySem.W.keepIn K (.ref f5) = true)
    {f6 : Addr} {od6 an6 : Option Addr} {sl6 : Array (Option Value)} {oc6 kV6 dc6 pm6 cd6 ct6 : Value} (a6 : PySem.W.nsIn K mainGlobals "_law_state" = some (some (.ref f6))) (l6 : K.lookup f6 = some ⟨oc6, od6, .func (PySem.W.fnOf "_law_state" "_law_state" (C8.fnArgs s__law_state) (C8.fnBody s__law_state) (C8.fnScope s__law_state) .none kV6 dc6 pm6 an6 cd6 ct6), sl6⟩) (b6 : PySem.W.codeIn K cd6 "_law_state" = true) (k6 : PySem.W.keepIn K (.ref f6) = true)
    {f7 : Addr} {od7 an7 : Option Addr} {sl7 : Array (Option Value)} {oc7 kV7 dc7 pm7 cd7 ct7 : Value} (a7 : PySem.W.nsIn K mainGlobals "_law_digit" = some (some (.ref f7))) (l7 : K.lookup f7 = some ⟨oc7, od7, .func (PySem.W.fnOf "_law_digit" "_law_digit" (C8.fnArgs s__law_digit) (C8.fnBody s__law_digit) (C8.fnScope s__law_digit) .none kV7 dc7 pm7 an7 cd7 ct7), sl7⟩) (b7 : PySem.W.codeIn K cd7 "_law_digit" = true) (k7 : PySem.W.keepIn K (.ref f7) = true)
    {f8 : Addr} {od8 an8 : Option Addr} {sl8 : Array (Option Value)} {oc8 kV8 dc8 pm8 cd8 ct8 : Value} (a8 : PySem.W.nsIn K mainGlobals "_law_is_integer" = some (some (.ref f8))) (l8 : K.lookup f8 = some ⟨oc8, od8, .func (PySem.W.fnOf "_law_is_integer" "_law_is_integer" (C8.fnArgs s__law_is_integer) (C8.fnBody s__law_is_integer) (C8.fnScope s__law_is_integer) .none kV8 dc8 pm8 an8 cd8 ct8), sl8⟩) (b8 : PySem.W.codeIn K cd8 "_law_is_integer" = true) (k8 : PySem.W.keepIn K (.ref f8) = true)
    {f9 : Addr} {od9 an9 : Option Addr} {sl9 : Array (Option Value)} {oc9 kV9 dc9 pm9 cd9 ct9 : Value} (a9 : PySem.W.nsIn K mainGlobals "_law_field_text" = some (some (.ref f9))) (l9 : K.lookup f9 = some ⟨oc9, od9, .func (PySem.W.fnOf "_law_field_text" "_law_field_text" (C8.fnArgs s__law_field_text) (C8.fnBody s__law_field_text) (C8.fnScope s__law_field_text) .none kV9 dc9 pm9 an9 cd9 ct9), sl9⟩) (b9 : PySem.W.codeIn K cd9 "_law_field_text" = true) (k9 : PySem.W.keepIn K (.ref f9) = true)
    {f10 : Addr} {od10 an10 : Option Addr} {sl10 : Array (Option Value)} {oc10 kV10 dc10 pm10 cd10 ct10 : Value} (a10 : PySem.W.nsIn K mainGlobals "_law_written" = some (some (.ref f10))) (l10 : K.lookup f10 = some ⟨oc10, od10, .func (PySem.W.fnOf "_law_written" "_law_written" (C8.fnArgs s__law_written) (C8.fnBody s__law_written) (C8.fnScope s__law_written) .none kV10 dc10 pm10 an10 cd10 ct10), sl10⟩) (b10 : PySem.W.codeIn K cd10 "_law_written" = true) (k10 : PySem.W.keepIn K (.ref f10) = true)
    {f11 : Addr} {od11 an11 : Option Addr} {sl11 : Array (Option Value)} {oc11 kV11 dc11 pm11 cd11 ct11 : Value} (a11 : PySem.W.nsIn K mainGlobals "_law_must_mark" = some (some (.ref f11))) (l11 : K.lookup f11 = some ⟨oc11, od11, .func (PySem.W.fnOf "_law_must_mark" "_law_must_mark" (C8.fnArgs s__law_must_mark) (C8.fnBody s__law_must_mark) (C8.fnScope s__law_must_mark) .none kV11 dc11 pm11 an11 cd11 ct11), sl11⟩) (b11 : PySem.W.codeIn K cd11 "_law_must_mark" = true) (k11 : PySem.W.keepIn K (.ref f11) = true)
    {f12 : Addr} {od12 an12 : Option Addr} {sl12 : Array (Option Value)} {oc12 kV12 dc12 pm12 cd12 ct12 : Value} (a12 : PySem.W.nsIn K mainGlobals "_law_same" = some (some (.ref f12))) (l12 : K.lookup f12 = some ⟨oc12, od12, .func (PySem.W.fnOf "_law_same" "_law_same" (C8.fnArgs s__law_same) (C8.fnBody s__law_same) (C8.fnScope s__law_same) .none kV12 dc12 pm12 an12 cd12 ct12), sl12⟩) (b12 : PySem.W.codeIn K cd12 "_law_same" = true) (k12 : PySem.W.keepIn K (.ref f12) = true)
    {f13 : Addr} {od13 an13 : Option Addr} {sl13 : Array (Option Value)} {oc13 kV13 dc13 pm13 cd13 ct13 : Value} (a13 : PySem.W.nsIn K mainGlobals "law" = some (some (.ref f13))) (l13 : K.lookup f13 = some ⟨oc13, od13, .func (PySem.W.fnOf "law" "law" (C8.fnArgs s_law) (C8.fnBody s_law) (C8.fnScope s_law) .none kV13 dc13 pm13 an13 cd13 ct13), sl13⟩) (b13 : PySem.W.codeIn K cd13 "law" = true) (k13 : PySem.W.keepIn K (.ref f13) = true)
    (z_bool : PySem.W.nsIn K mainGlobals "bool" = some none)
    (z_int : PySem.W.nsIn K mainGlobals "int" = some none)
    (z_isinstance : PySem.W.nsIn K mainGlobals "isinstance" = some none)
    (z_len : PySem.W.nsIn K mainGlobals "len" = some none)
    (z_list : PySem.W.nsIn K mainGlobals "list" = some none)
    (z_min : PySem.W.nsIn K mainGlobals "min" = some none)
    (z_range : PySem.W.nsIn K mainGlobals "range" = some none)
    {t__LINE_END : Tok} {x__LINE_END : Str} (q__LINE_END : PySem.W.nsIn K mainGlobals "_LINE_END" = some (some (.str x__LINE_END t__LINE_END))) (e__LINE_END : x__LINE_END = SX.S [10])
    {t__MARK : Tok} {x__MARK : Str} (q__MARK : PySem.W.nsIn K mainGlobals "_MARK" = some (some (.str x__MARK t__MARK))) (e__MARK : x__MARK = SX.S [34])
    : ∃ fd : FuncData, (∀ (s : Shared) (v : Value), BindsTo s fd ⟨[v], []⟩ [("script", v)]) ∧ ∀ base : Heap, K.In base → base.Ns mainGlobals mg → FnOk P w K mg base C8.CX0 6 fa fd ["script"] (sp_law K) := by
  have F_Field____init__ : C8.Fun K "__init__" "Field.__init__" s_Field____init__ f0 _ := ⟨_, _, _, _, _, _, _, _, _, _, rfl, l0, b0⟩
  have B_Field____init__ : Binds K _ ["self", "text", "offset", "marked"] [] := C8.Fun.binds F_Field____init__ rfl (fun _ _ _ _ _ _ us hl => match us, hl with | [_, _, _, _], _ => rfl)
  have D_Field____init__ : MetD K "Field" "__init__" "Field.__init__" s_Field____init__ ["self", "text", "offset", "marked"] := metD_mk qC_Field a0 iF0 k0 F_Field____init__ B_Field____init__
  have D__marked_field : Dn K mg "_marked_field" s__marked_field ["text", "start", "separator"] := dn_mk l1 b1 k1 (PySem.W.mg_of X G a1) (fun _ _ _ _ _ _ us hl => match us, hl with | [_, _, _], _ => rfl)
  have D__plain_field : Dn K mg "_plain_field" s__plain_field ["text", "start", "separator"] := dn_mk l2 b2 k2 (PySem.W.mg_of X G a2) (fun _ _ _ _ _ _ us hl => match us, hl with | [_, _, _], _ => rfl)
  have D__next_record : Dn K mg "_next_record" s__next_record ["text", "start", "separator"] := dn_mk l3 b3 k3 (PySem.W.mg_of X G a3) (fun _ _ _ _ _ _ us hl => match us, hl with | [_, _, _], _ => rfl)
  have D_split_records : Dn K mg "split_records" s_split_records ["text", "separator"] := dn_mk l4 b4 k4 (PySem.W.mg_of X G a4) (fun _ _ _ _ _ _ us hl => match us, hl with | [_, _], _ => rfl)
  have D__law_cell : Dn K mg "_law_cell" s__law_cell ["script", "k"] := dn_mk l5 b5 k5 (PySem.W.mg_of X G a5) (fun _ _ _ _ _ _ us hl => match us, hl with | [_, _], _ => rfl)
  have D__law_state : Dn K mg "_law_state" s__law_state ["cell", "k"] := dn_mk l6 b6 k6 (PySem.W.mg_of X G a6) (fun _ _ _ _ _ _ us hl => match us, hl with | [_, _], _ => rfl)
  have D__law_digit : Dn K mg "_law_digit" s__law_digit ["state", "many"] := dn_mk l7 b7 k7 (PySem.W.mg_of X G a7) (fun _ _ _ _ _ _ us hl => match us, hl with | [_, _], _ => rfl)
  have D__law_is_integer : Dn K mg "_law_is_integer" s__law_is_integer ["told"] := dn_mk l8 b8 k8 (PySem.W.mg_of X G a8) (fun _ _ _ _ _ _ us hl => match us, hl with | [_], _ => rfl)
  have D__law_field_text : Dn K mg "_law_field_text" s__law_field_text ["state"] := dn_mk l9 b9 k9 (PySem.W.mg_of X G a9) (fun _ _ _ _ _ _ us hl => match us, hl with | [_], _ => rfl)
  have D__law_written : Dn K mg "_law_written" s__law_written ["text", "separator", "marked"] := dn_mk l10 b10 k10 (PySem.W.mg_of X G a10) (fun _ _ _ _ _ _ us hl => match us, hl with | [_, _, _], _ => rfl)
  have D__law_must_mark : Dn K mg "_law_must_mark" s__law_must_mark ["text", "separator"] := dn_mk l11 b11 k11 (PySem.W.mg_of X G a11) (fun _ _ _ _ _ _ us hl => match us, hl with | [_, _], _ => rfl)
  have D__law_same : Dn K mg "_law_same" s__law_same ["told", "due"] := dn_mk l12 b12 k12 (PySem.W.mg_of X G a12) (fun _ _ _ _ _ _ us hl => match us, hl with | [_, _], _ => rfl)
  have C_Field : ClsD K mg "Field" ["text", "offset", "marked"] := clsD_mk qC_Field (PySem.W.mg_of X G qC_Field) pgC_Field hdC_Field poC_Field saC_Field mkC_Field kcC_Field ⟨naC_Field_0, ⟨naC_Field_1, ⟨naC_Field_2, trivial⟩⟩⟩
  have I_Field : OwnI K "Field" := ownI_mk qC_Field C_Field.cl haC_Field hnC_Field htC_Field hmC_Field meC_Field kiC_Field niC_Field
  have y_bool : mg "bool" = none := PySem.W.mg_none_of X G z_bool
  have y_int : mg "int" = none := PySem.W.mg_none_of X G z_int
  have y_isinstance : mg "isinstance" = none := PySem.W.mg_none_of X G z_isinstance
  have y_len : mg "len" = none := PySem.W.mg_none_of X G z_len
  have y_list : mg "list" = none := PySem.W.mg_none_of X G z_list
  have y_min : mg "min" = none := PySem.W.mg_none_of X G z_min
  have y_range : mg "range" = none := PySem.W.mg_none_of X G z_range
  have v__LINE_END : ∃ u, mg "_LINE_END" = some u ∧ RelV (.str (SX.S [10])) u := ⟨_, PySem.W.mg_of X G q__LINE_END, ⟨_, by rw [e__LINE_END]⟩⟩
  have v__MARK : ∃ u, mg "_MARK" = some u ∧ RelV (.str (SX.S [34])) u := ⟨_, PySem.W.mg_of X G q__MARK, ⟨_, by rw [e__MARK]⟩⟩
  have e := hfa.symm.trans (PySem.W.mg_of X G a13)
  cases e
  have D_law := def_mk (x := "law") (st := s_law) l13 b13 k13 hfa
  refine ⟨PySem.W.fnOf "law" "law" (C8.fnArgs s_law) (C8.fnBody s_law) (C8.fnScope s_law) .none kV13 dc13 pm13 an13 cd13 ct13, fun s v => .of_eq rfl, fun base _ _ => ?_⟩
  have c_Field____init__ := ok_Field____init__ (P := P) (w := w) (base := base) D_Field____init__ C_Field I_Field 
  have c__marked_field := ok__marked_field (P := P) (w := w) (base := base) D__marked_field C_Field I_Field c_Field____init__ y_len v__LINE_END v__MARK 
  have c__plain_field := ok__plain_field (P := P) (w := w) (base := base) D__plain_field C_Field I_Field c_Field____init__ y_len v__LINE_END v__MARK 
  have c__next_record := ok__next_record (P := P) (w := w) (base := base) D__next_record c__marked_field c__plain_field y_len v__LINE_END v__MARK 
  have c_split_records := ok_split_records (P := P) (w := w) (base := base) D_split_records c__next_record y_len 
  have c__law_cell := ok__law_cell (P := P) (w := w) (base := base) D__law_cell y_len 
  have c__law_state := ok__law_state (P := P) (w := w) (base := base) D__law_state y_int 
  have c__law_digit := ok__law_digit (P := P) (w := w) (base := base) D__law_digit y_int 
  have c__law_is_integer := ok__law_is_integer (P := P) (w := w) (base := base) D__law_is_integer y_bool y_int y_isinstance 
  have c__law_field_text := ok__law_field_text (P := P) (w := w) (base := base) D__law_field_text c__law_digit y_range 
  have c__law_written := ok__law_written (P := P) (w := w) (base := base) D__law_written 
  have c__law_must_mark := ok__law_must_mark (P := P) (w := w) (base := base) D__law_must_mark 
  have c__law_same := ok__law_same (P := P) (w := w) (base := base) D__law_same C_Field I_Field c__law_is_integer y_bool y_isinstance y_len y_list y_range 
  exact ok_law (P := P) (w := w) (base := base) D_law c__law_cell c__law_digit c__law_field_text c__law_must_mark c__law_same c__law_state c__law_written c_split_records y_len y_min y_range 
end My
open PySem PySem.W PyProof.Rows
set_option maxHeartbeats 0 in
theorem PySem.Challenge.cw_stylobate_k80_records_and_fields_holds : PySem.Challenge.rw_stylobate_k80_records_and_fields.Holds := by
  w_on; o_law; k_head; (case hw => w_witness2)
  k_fill
  refine L2.walk_of (l := PySem.Challenge.rw_stylobate_k80_records_and_fields) (n := 63) (k := 6) (x := "script") (CX := fun _ => C8.CX0) (sp := fun w => My.sp_law _) rfl (by decide) rfl ⟨rfl, by decide, by decide⟩ (fun w h Y => PySem.W.kIn_of Y) ?F (fun _ _ a ns hl _ hS => My.sp_law_of hl hS) (fun _ _ _ _ _ h => h)
  case F =>
    intro w mg fa h KX G hmg
    refine' My.all_mk KX G hmg ?qC_Field ?pgC_Field ?hdC_Field ?poC_Field ?saC_Field ?mkC_Field ?kcC_Field ?haC_Field ?hnC_Field ?htC_Field ?hmC_Field ?meC_Field ?kiC_Field ?niC_Field ?naC_Field_0 ?naC_Field_1 ?naC_Field_2 ?a0 ?iF0 ?l0 ?b0 ?k0 ?a1 ?l1 ?b1 ?k1 ?a2 ?l2 ?b2 ?k2 ?a3 ?l3 ?b3 ?k3 ?a4 ?l4 ?b4 ?k4 ?a5 ?l5 ?b5 ?k5 ?a6 ?l6 ?b6 ?k6 ?a7 ?l7 ?b7 ?k7 ?a8 ?l8 ?b8 ?k8 ?a9 ?l9 ?b9 ?k9 ?a10 ?l10 ?b10 ?k10 ?a11 ?l11 ?b11 ?k11 ?a12 ?l12 ?b12 ?k12 ?a13 ?l13 ?b13 ?k13 ?z_bool ?z_int ?z_isinstance ?z_len ?z_list ?z_min ?z_range ?q__LINE_END ?e__LINE_END ?q__MARK ?e__MARK
    (case qC_Field => k_is); (case pgC_Field => k_is); (case hdC_Field => k_is); (case poC_Field => k_is); (case saC_Field => k_is); (case mkC_Field => k_is); (case kcC_Field => k_is); (case haC_Field => k_is); (case hnC_Field => k_is); (case htC_Field => k_is); (case hmC_Field => k_is); (case meC_Field => kit_is); (case kiC_Field => kit_is); (case niC_Field => k_is); (case naC_Field_0 => k_is); (case naC_Field_1 => k_is); (case naC_Field_2 => k_is); (case a0 => k_is); (case iF0 => k_is); (case l0 => k_is); (case b0 => k_is); (case k0 => k_is); (case a1 => k_is); (case l1 => k_is); (case b1 => k_is); (case k1 => k_is); (case a2 => k_is); (case l2 => k_is); (case b2 => k_is); (case k2 => k_is); (case a3 => k_is); (case l3 => k_is); (case b3 => k_is); (case k3 => k_is); (case a4 => k_is); (case l4 => k_is); (case b4 => k_is); (case k4 => k_is); (case a5 => k_is); (case l5 => k_is); (case b5 => k_is); (case k5 => k_is); (case a6 => k_is); (case l6 => k_is); (case b6 => k_is); (case k6 => k_is); (case a7 => k_is); (case l7 => k_is); (case b7 => k_is); (case k7 => k_is); (case a8 => k_is); (case l8 => k_is); (case b8 => k_is); (case k8 => k_is); (case a9 => k_is); (case l9 => k_is); (case b9 => k_is); (case k9 => k_is); (case a10 => k_is); (case l10 => k_is); (case b10 => k_is); (case k10 => k_is); (case a11 => k_is); (case l11 => k_is); (case b11 => k_is); (case k11 => k_is); (case a12 => k_is); (case l12 => k_is); (case b12 => k_is); (case k12 => k_is); (case a13 => k_is); (case l13 => k_is); (case b13 => k_is); (case k13 => k_is); (case z_bool => k_is); (case z_int => k_is); (case z_isinstance => k_is); (case z_len => k_is); (case z_list => k_is); (case z_min => k_is); (case z_range => k_is); (case q__LINE_END => k_is); (case q__MARK => k_is)
    (case e__LINE_END => decide +kernel)
    (case e__MARK => decide +kernel)

