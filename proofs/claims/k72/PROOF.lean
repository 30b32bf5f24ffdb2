import PyProof.Rows.All
import Wide.All
import OpenK.AllK
import Wide.FinOn
import HandS.ForMost
import HandS.Codes
import HandS.Evl
import HandS.IsInst
import HandS.Wide
import HandS.Flow
import HandS.TupAny
import HandS.Zip
import HandS.Property
import HandS.OwnEq
import HandS.Deep
import HandS.WideBits
import HandS.Iter
import HandS.Rev
import HandS.SortKw
import HandS.TupLe
import HandS.Dict
import HandS.Text
import HandS.StrMore
import HandS.FStr
import HandS.Style
import HandS.More
import HandS.CallLocal
import KE.KEqSeq
import KE.IntBitsLaws
import KE.DataMinMax
import PyProof.StrOps2
import KE.RegKIsAll
import PySem.Challenge.RW_stylobate_k72_keys_and_costs
set_option Elab.async false
set_option linter.all false
set_option maxRecDepth 100000
set_option maxHeartbeats 4000000
namespace My
open PySem PySem.Spec PyProof.Rows L2 Evl
/-! ### defs of the text, promises, the end -/
def Dn (K : PySem.W.Frag) (mg : Str → Option Value) (x : Str) (st : Stmt) (ps : List Str) : Prop := ∃ f fd, C8.Def K mg x st f fd ∧ Binds K fd ps []
section
variable {P : Program} {w : World} {K : PySem.W.Frag} {mg : Str → Option Value} {base : Heap}
theorem cal_of {x : Str} {st : Stmt} {N ps : List Str} {k : Nat} {sp : Sp} (D : Dn K mg x st ps) (S : FnScope N ps (C8.fnScope st)) (len : ∀ vs H Q E, sp vs H Q E → vs.length = ps.length)
    (hbody : ∀ (f : Addr) (cdv : Value) (A : Around) (outer : List Env) (s : Shared) (H : Hp) (vs : List V) (Q : VK) (E : XK), Room k (A.deeper (envOfC x (C8.fnScope st) s.heap.objs.size f cdv)) → sp vs H Q E →
      ∃ t, PSs (cxOf C8.CX0 P w K mg base N x (C8.fnScope st) f cdv A outer s H E).nox (C8.fnBody st) t ∧ t { nx := fun _ H' => Q .non H', rt := Q } (start N vs) H) : C8.Cal P w K mg base (k + 1) x sp [] := by
  obtain ⟨f, fd, F, b⟩ := D
  exact C8.cal0 F b .nil S len (hbody f)
theorem def_mk {x : Str} {st : Stmt} {f : Addr} {oc : Value} {od an : Option Addr} {osl : Array (Option Value)} {kV doc pm cdv ct : Value}
    (l : K.lookup f = some ⟨oc, od, .func (PySem.W.fnOf x x (C8.fnArgs st) (C8.fnBody st) (C8.fnScope st) .none kV doc pm an cdv ct), osl⟩)
    (c : PySem.W.codeIn K cdv x = true) (k : PySem.W.keepIn K (.ref f) = true) (m : mg x = some (.ref f)) : C8.Def K mg x st f (PySem.W.fnOf x x (C8.fnArgs st) (C8.fnBody st) (C8.fnScope st) .none kV doc pm an cdv ct) :=
  ⟨⟨oc, od, .none, kV, doc, pm, an, cdv, ct, osl, rfl, l, c⟩, m, k⟩
theorem dn_mk {x : Str} {st : Stmt} {f : Addr} {oc : Value} {od an : Option Addr} {osl : Array (Option Value)} {kV doc pm cdv ct : Value} {ps : List Str}
    (l : K.lookup f = some ⟨oc, od, .func (PySem.W.fnOf x x (C8.fnArgs st) (C8.fnBody st) (C8.fnScope st) .none kV doc pm an cdv ct), osl⟩)
    (c : PySem.W.codeIn K cdv x = true) (k : PySem.W.keepIn K (.ref f) = true) (m : mg x = some (.ref f))
    (h : ∀ (kV doc pm : Value) (an : Option Addr) (cdv ct : Value) (us : List Value), us.length = ps.length → bindArgs (PySem.W.fnOf x x (C8.fnArgs st) (C8.fnBody st) (C8.fnScope st) .none kV doc pm an cdv ct) ⟨us, []⟩ = pure (ps.zip us)) : Dn K mg x st ps :=
  ⟨f, _, def_mk l c k m, C8.Fun.binds (def_mk l c k m).fn rfl h⟩
end
/-! ### x is True, x is False, of any value -/
def rIsT : R2 := fun x y H Q => ∃ b : Bool, y = .bl b ∧ Q (.bl (decide (x = .bl b))) H
def rNotT : R2 := fun x y H Q => ∃ b : Bool, y = .bl b ∧ Q (.bl (!decide (x = .bl b))) H
section
variable {X : Cx}
theorem rel_bl {x : V} {v : Value} {b : Bool} (rx : RelV x v) : PySem.plainIs v (.bool b) = true ∧ (v == .bool b) = decide (x = .bl b) ∨ ∃ n, v = .builtin n := by
  cases x with
  | non => cases (show v = Value.none from rx); exact .inl ⟨rfl, rfl⟩
  | bl c => cases (show v = Value.bool c from rx); exact .inl ⟨rfl, by cases b <;> cases c <;> rfl⟩
  | int i => obtain ⟨t, e⟩ := (show ∃ t, v = Value.int i t from rx); cases e; exact .inl ⟨rfl, rfl⟩
  | str i => obtain ⟨t, e⟩ := (show ∃ t, v = Value.str i t from rx); cases e; exact .inl ⟨rfl, rfl⟩
  | byt i => obtain ⟨t, e⟩ := (show ∃ t, v = Value.bytes i t from rx); cases e; exact .inl ⟨rfl, rfl⟩
  | flt i => obtain ⟨t, e⟩ := (show ∃ t, v = Value.float i t from rx); cases e; exact .inl ⟨rfl, rfl⟩
  | ref a => cases (show v = Value.ref a from rx); exact .inl ⟨rfl, rfl⟩
  | ty n => cases (show v = Value.type n from rx); exact .inl ⟨rfl, rfl⟩
theorem rel_bl' {x : V} {v : Value} {b : Bool} (rx : RelV x v) : PySem.plainIs v (.bool b) = true ∧ (v == .bool b) = decide (x = .bl b) := by
  rcases rel_bl (b := b) rx with h | ⟨n, rfl⟩
  · exact h
  · cases x <;> first | exact nomatch (rx : Value.builtin n = _) | (obtain ⟨t, e⟩ := rx; exact nomatch e)
theorem op_isTF : OpR X (compareOp .Is) rIsT := by
  intro pins s σ H x y v u Q I rx ry h
  obtain ⟨b, rfl, q⟩ := h
  cases (show u = Value.bool b from ry)
  obtain ⟨h1, h2⟩ := rel_bl' (b := b) rx
  exact wpAny_is_plain h1 ⟨.bl _, H, I, rfl, by rw [h2]; exact q⟩
theorem op_notTF : OpR X (compareOp .IsNot) rNotT := by
  intro pins s σ H x y v u Q I rx ry h
  obtain ⟨b, rfl, q⟩ := h
  cases (show u = Value.bool b from ry)
  obtain ⟨h1, h2⟩ := rel_bl' (b := b) rx
  exact wpAny_isNot_plain h1 ⟨.bl _, H, I, rfl, by rw [h2]; exact q⟩
end
/-! ### what evaluates to what: further -/
section
variable {K : PySem.W.Frag} {σ : L2.St} {H H' : Hp} {ta tb te tx : TE} {t u : TT} {x y z v : V} {r : R2}
theorem rv_isT {b : Bool} : RV rIsT x (.bl b) H (.bl (decide (x = .bl b))) := fun H1 _ _ q => ⟨b, rfl, q H1 (Ex.refl H1)⟩
theorem rv_notT {b : Bool} : RV rNotT x (.bl b) H (.bl (!decide (x = .bl b))) := fun H1 _ _ q => ⟨b, rfl, q H1 (Ex.refl H1)⟩
theorem rv_isN : RV (fun x y H Q => y = .non ∧ Q (.bl (decide (x = .non))) H) x .non H (.bl (decide (x = .non))) := fun H1 _ _ q => ⟨rfl, q H1 (Ex.refl H1)⟩
theorem rv_notN : RV (fun x y H Q => y = .non ∧ Q (.bl (!decide (x = .non))) H) x .non H (.bl (!decide (x = .non))) := fun H1 _ _ q => ⟨rfl, q H1 (Ex.refl H1)⟩
theorem ev_int {i : Int} (h : Ev ta σ H (.int i)) : Ev (tCB (fun xs H Q => (∃ i, xs = [.int i] ∧ Q (.int i) H) ∨ ∃ k, xs = [.bl k] ∧ Q (.int (if k then 1 else 0)) H) (tCons ta tNil)) σ H (.int i) :=
  fun H1 e Q q => h H1 e _ fun H2 e2 => .inl ⟨i, rfl, q H2 e2⟩
theorem ev_intB {b : Bool} (h : Ev ta σ H (.bl b)) : Ev (tCB (fun xs H Q => (∃ i, xs = [.int i] ∧ Q (.int i) H) ∨ ∃ k, xs = [.bl k] ∧ Q (.int (if k then 1 else 0)) H) (tCons ta tNil)) σ H (.int (if b then 1 else 0)) :=
  fun H1 e Q q => h H1 e _ fun H2 e2 => .inr ⟨b, rfl, q H2 e2⟩
theorem ev_abs {i : Int} (h : Ev ta σ H (.int i)) : Ev (tCB (fun xs H Q => ∃ i, xs = [.int i] ∧ Q (.int (if i < 0 then -i else i)) H) (tCons ta tNil)) σ H (.int (if i < 0 then -i else i)) :=
  fun H1 e Q q => h H1 e _ fun H2 e2 => ⟨i, rfl, q H2 e2⟩
theorem ev_min2 {i j : Int} (ha : Ev ta σ H (.int i)) (hb : Ev tb σ H (.int j)) : Ev (tCB (fun xs H Q => ∃ i j, xs = [.int i, .int j] ∧ Q (.int (if j < i then j else i)) H) (tCons ta (tCons tb tNil))) σ H (.int (if j < i then j else i)) := fun H1 e Q q =>
  ha H1 e _ fun H2 e2 => hb H2 (e.trans e2) _ fun H3 e3 => ⟨i, j, rfl, q H3 (e2.trans e3)⟩
theorem ev_lenS {s : Str} (h : Ev ta σ H (.str s)) (hz : s.length ≤ 100000) : Ev (tCB (fun xs H Q => ∃ z, xs = [.str z] ∧ z.length ≤ sizeLine ∧ Q (.int z.length) H) (tCons ta tNil)) σ H (.int s.length) :=
  fun H1 e Q q => h H1 e _ fun H2 e2 => ⟨s, rfl, sz_of hz, q H2 e2⟩
/-- isinstance(x, T) of a plain value -/
def tyOf : V → String
  | .non => "NoneType"
  | .bl _ => "bool"
  | .int _ => "int"
  | .str _ => "str"
  | .byt _ => "bytes"
  | .flt _ => "float"
  | _ => "?"
def isTy (x : V) (T : String) : Bool := ((kitB (tyOf x) T).getD false)
theorem ev_isi {T : String} {tn : String} {b : Bool} (ha : Ev ta σ H x) (ht : ∀ H1, TyX K H1 x (.type tn)) (hk : kitB tn T = some b) : Ev (tCB (rIsi K) (tCons ta (tCons (tC (.ty T)) tNil))) σ H (.bl b) :=
  fun H1 e Q q => ha H1 e _ fun H2 e2 => ⟨x, .ty T, .type tn, .type T, b, rfl, .ty T, ht H2, kit_ty hk, q H2 e2⟩
theorem tx_int (i : Int) (H1 : Hp) : TyX K H1 (.int i) (.type "int") := .base (.int i)
theorem tx_bl (i : Bool) (H1 : Hp) : TyX K H1 (.bl i) (.type "bool") := .base (.bl i)
theorem tx_str (i : Str) (H1 : Hp) : TyX K H1 (.str i) (.type "str") := .base (.str i)
theorem tx_non (H1 : Hp) : TyX K H1 .non (.type "NoneType") := .base .non
section
variable {D : Ends} {tz : TS}
/-- if c: x = e, an int: told by the value x has behind it -/
theorem q_ifI {b : Bool} {i : Nat} {p q : Int} (h : EvT t σ H b) (h1 : b = true → Ev te σ H (.int p)) (h0 : σ[i]? = some (some (.int q))) (k : ∀ H1, Ex H H1 → tz D (σ.set i (some (.int (if b = true then p else q)))) H1) : tSeq (tIfS t (tAsg te (gName i)) tNext) tz D σ H := by
  refine q_ifAsg h (fun hb => ?_) (fun hb => ?_) k
  · rw [if_pos hb]
    exact h1 hb
  · rw [hb]
    show σ.set i (some (V.int q)) = σ
    apply List.ext_getElem?
    intro j
    rw [List.getElem?_set]
    split
    · rename_i e
      subst e
      rw [h0]
      have := (List.getElem?_eq_some_iff.mp h0).1
      rw [if_pos this]
    · rfl
end
/-- a promise of one value, all else as it was -/
theorem spv {sp : Sp} {vs : List V} (h : ∀ H1, Ex H H1 → ∀ Q : VK, (∀ H2, Ex H1 H2 → Q z H2) → ∀ E : XK, sp vs H1 Q E) : SpV sp vs H z := h
end
local macro_rules | `(tactic| walk_at "side") => `(tactic| first
  | exact .inr ⟨by decide, by decide⟩
  | exact .inl ⟨by decide, by decide⟩
  | exact .inl ⟨by omega, by omega⟩
  | exact .inr ⟨by omega, by omega⟩
  | exact ⟨by decide, by decide⟩
  | exact ⟨by omega, by omega⟩
  | decide
  | (show (_ : Int) < _; omega)
  | omega)
local macro_rules | `(tactic| walk_at "rv") => `(tactic| first
  | exact rv_I0
  | ((refine' rv_I ?k1); (case k1 => walk_at "side"))
  | exact rv_isT
  | exact rv_notT
  | exact rv_isN
  | exact rv_notN
  | exact rv_eq rfl
  | exact rv_ne rfl)
local macro_rules | `(tactic| walk_at "sq") => `(tactic| first | assumption | exact ex_l (by assumption) (by assumption) | exact sq_of (by assumption))
/-- what a part gives, read off its form -/
local macro_rules | `(tactic| walk_at "ev") => `(tactic| first
  | exact ev_var rfl
  | exact ev_c
  | ((with_reducible refine' ev_op ?k1 ?k2 ?k3); (case k1 => walk_at "ev"); (case k2 => walk_at "ev"); (case k3 => walk_at "rv"))
  | ((with_reducible refine' ev_un ?k1 ?k2); (case k1 => walk_at "ev"); (case k2 => exact ru_neg))
  | ((with_reducible refine' ev_int ?k1); (case k1 => walk_at "ev"))
  | ((with_reducible refine' ev_abs ?k1); (case k1 => walk_at "ev"))
  | ((with_reducible refine' ev_andV ?k1 ?k2); (case k1 => walk_at "ev"); (case k2 => intro _; walk_at "ev"))
  | ((with_reducible refine' ev_orV ?k1 ?k2); (case k1 => walk_at "ev"); (case k2 => intro _; walk_at "ev"))
  | ((with_reducible refine' ev_notV ?k1); (case k1 => walk_at "ev"))
  | ((refine' ev_len ?k1 ?k2); (case k1 => walk_at "ev"); (case k2 => walk_at "sq")))
local macro_rules | `(tactic| walk_at "et") => `(tactic| first
  | ((with_reducible refine' et_or ?k1 ?k2); (case k1 => walk_at "et"); (case k2 => intro _; walk_at "et"))
  | ((with_reducible refine' et_and ?k1 ?k2); (case k1 => walk_at "et"); (case k2 => intro _; walk_at "et"))
  | ((with_reducible refine' et_not ?k1); (case k1 => walk_at "et"))
  | (refine' et_test ?k1; (case k1 => walk_at "ev"))
  | (refine' et_B ?k1; (case k1 => walk_at "ev")))

/-! ### tuples made, tuples read, data compared -/
def SpU (sp : Sp) (vs : List V) (H : Hp) (xs : List V) : Prop := ∀ H1, Ex H H1 → ∀ Q : VK, (∀ p H2, H1 p = none → Ex H1 H2 → H2 p = some (.tup xs) → Q (.ref p) H2) → ∀ E : XK, sp vs H1 Q E
section
variable {K : PySem.W.Frag} {σ : L2.St} {H H' : Hp} {ta tb te : TE} {x y z v : V}
theorem eu_call {sp : Sp} {dvs vs xs : List V} {E : XK} {ta : TA} (h : EvA ta σ H vs) (hs : SpU sp (vs ++ dvs) H xs) : EvU (tCall sp dvs E ta) σ H xs := fun H1 e Q q =>
  h H1 e _ fun H2 e2 => hs H2 (e.trans e2) Q (fun p H3 hp e3 h3 => q p H3 (fresh_back e2 hp) (e2.trans e3) h3) E
theorem ev_lenT {p : Addr} {xs : List V} (ha : Ev ta σ H (.ref p)) (h : SqT K H p xs) : Ev (tCB (fun xs H Q => ∃ p ys, xs = [.ref p] ∧ (SqL K H p ys ∨ SqT K H p ys) ∧ Q (.int ys.length) H) (tCons ta tNil)) σ H (.int (xs.length : Int)) := fun H1 e Q q =>
  ha H1 e _ fun H2 e2 => ⟨p, xs, rfl, Or.inr (ex_t (e.trans e2) h), q H2 e2⟩
theorem eu_divmod {i j : Int} (ha : Ev ta σ H (.int i)) (hb : Ev tb σ H (.int j)) (hc : CDiv i j) :
    EvU (tCB (fun xs H Q => ∃ i j, xs = [.int i, .int j] ∧ CDiv i j ∧ ∀ p, H p = none → Q (.ref p) (upd H p (.tup [.int (i / j), .int (i % j)]))) (tCons ta (tCons tb tNil))) σ H [.int (i / j), .int (i % j)] := fun H1 e Q q =>
  ha H1 e _ fun H2 e2 => hb H2 (e.trans e2) _ fun H3 e3 => ⟨i, j, rfl, hc, fun p hp => q p _ (fresh_back (e2.trans e3) hp) ((e2.trans e3).trans (Ex.new hp)) upd_same⟩
theorem dp_ints : ∀ ns : List Int, DpAll K H (ns.map V.int) (ns.map PyData.int)
  | [] => .nil
  | n :: r => .cons (.int n) (dp_ints r)
theorem eqv_ints : ∀ ns ms : List Int, PyData.eqv (.tuple (ns.map PyData.int)) (.tuple (ms.map PyData.int)) = decide (ns = ms)
  | [], [] => rfl
  | [], _ :: _ => rfl
  | _ :: _, [] => rfl
  | n :: r, m :: t => by
    have ih := eqv_ints r t
    show ((n == m) && PyData.eqv (.tuple (r.map PyData.int)) (.tuple (t.map PyData.int))) = _
    rw [ih, Bool.eq_iff_iff, Bool.and_eq_true, decide_eq_true_eq, decide_eq_true_eq, beq_iff_eq, List.cons.injEq]
theorem dp_tup {p : Addr} {ns : List Int} (h : SqT K H p (ns.map V.int)) : Dp K H (.ref p) (.tuple (ns.map PyData.int)) := .tup h (dp_ints ns)
def shI (n : Nat) : Bool := SeqAt.shaped (.tuple ((List.replicate n 0).map PyData.int))
theorem rv_neT {p q : Addr} {ns ms : List Int} (hp : SqT K H p (ns.map V.int)) (hq : SqT K H q (ms.map V.int)) (s1 : SeqAt.shaped (.tuple (ns.map PyData.int)) = true) (s2 : SeqAt.shaped (.tuple (ms.map PyData.int)) = true) : RV (rNeD K) (.ref p) (.ref q) H (.bl (!decide (ns = ms))) := fun H1 e Q k =>
  ⟨_, _, dp_tup (ex_t e hp), dp_tup (ex_t e hq), s1, s2, by rw [eqv_ints]; exact k H1 (Ex.refl H1)⟩
theorem tx_tup {a : Addr} {xs : List V} (h : H a = some (.tup xs)) : ∀ H1, Ex H H1 → TyX K H1 (.ref a) (.type "tuple") := fun H1 e => .base (.tup (e _ _ h))
theorem ev_isi' {T : String} {tn : String} {b : Bool} (ha : Ev ta σ H x) (ht : ∀ H1, Ex H H1 → TyX K H1 x (.type tn)) (hk : kitB tn T = some b) : Ev (tCB (rIsi K) (tCons ta (tCons (tC (.ty T)) tNil))) σ H (.bl b) :=
  fun H1 e Q q => ha H1 e _ fun H2 e2 => ⟨x, .ty T, .type tn, .type T, b, rfl, .ty T, ht H2 (e.trans e2), kit_ty hk, q H2 e2⟩
theorem ev_chain {r r' : R2} {tc : TE} {b c : Bool} (ha : Ev ta σ H x) (hb : Ev tb σ H y) (hr : RV r x y H (.bl b)) (hc : b = true → Ev tc σ H z) (hr' : b = true → RV r' y z H (.bl c)) : Ev (tChain r r' ta tb tc) σ H (.bl (b && c)) := fun H1 e Q q =>
  ha H1 e _ fun H2 e2 => hb H2 (e.trans e2) _ fun H3 e3 => hr H3 ((e.trans e2).trans e3) _ fun H4 e4 => ⟨b, rfl, by
    cases b with
    | true =>
      show tc σ H4 fun w' H5 => r' y w' H5 Q
      exact hc rfl H4 (((e.trans e2).trans e3).trans e4) _ fun H5 e5 => hr' rfl H5 ((((e.trans e2).trans e3).trans e4).trans e5) Q fun H6 e6 => q H6 ((((e2.trans e3).trans e4).trans e5).trans e6)
    | false =>
      show Q (.bl false) H4
      exact q H4 ((e2.trans e3).trans e4)⟩
/-- a, b = (..): a new tuple unpacked into names -/
theorem gt2 {p : Addr} {i j : Nat} (h : SqT K H p [x, y]) {Q : L2.St → Hp → Prop} (k : Q ((σ.set i (some x)).set j (some y)) H) : gTup K 2 (gCons (gName i) (gCons (gName j) gNil)) (.ref p) σ H Q :=
  ⟨p, [x, y], rfl, h, rfl, x, [y], rfl, y, [], rfl, rfl, k⟩
theorem gt3 {p : Addr} {i j l : Nat} (h : SqT K H p [x, y, z]) {Q : L2.St → Hp → Prop} (k : Q (((σ.set i (some x)).set j (some y)).set l (some z)) H) : gTup K 3 (gCons (gName i) (gCons (gName j) (gCons (gName l) gNil))) (.ref p) σ H Q :=
  ⟨p, [x, y, z], rfl, h, rfl, x, [y, z], rfl, y, [z], rfl, z, [], rfl, rfl, k⟩
end
theorem hu64 {A : Around} {k : Nat} (hr : Room k A) : A.units + 64 < cLine := by
  have := hr.un
  omega
section
variable {K : PySem.W.Frag} {σ : L2.St} {H : Hp} {te : TE} {D : Ends} {tz : TS} {g : TG} {xs : List V}
theorem q_asgG (h : EvU te σ H xs) (k : ∀ p H1, H p = none → Ex H H1 → H1 p = some (.tup xs) → g (.ref p) σ H1 (tz D)) : tSeq (tAsg te g) tz D σ H := h H (Ex.refl H) _ fun p H1 hp e h1 => k p H1 hp e h1
theorem q_asgV {v : V} (h : Ev te σ H v) (k : ∀ H1, Ex H H1 → g v σ H1 (tz D)) : tSeq (tAsg te g) tz D σ H := h H (Ex.refl H) _ fun H1 e => k H1 e
end
/-! ### plain values and their types -/
inductive Pl : V → Prop where
  | non : Pl .non
  | bl (b : Bool) : Pl (.bl b)
  | int (i : Int) : Pl (.int i)
  | str (s : Str) : Pl (.str s)
def tyN : V → String
  | .bl _ => "bool"
  | .int _ => "int"
  | .str _ => "str"
  | _ => "NoneType"
def isInt : V → Bool
  | .int _ => true
  | _ => false
theorem tx_pl {K : PySem.W.Frag} {x : V} (h : Pl x) (H1 : Hp) : TyX K H1 x (.type (tyN x)) := by
  cases h with
  | non => exact .base .non
  | bl b => exact .base (.bl b)
  | int i => exact .base (.int i)
  | str s => exact .base (.str s)
theorem ev_isiP {K : PySem.W.Frag} {σ : L2.St} {H : Hp} {ta : TE} {x : V} {T : String} {b : Bool} (ha : Ev ta σ H x) (hx : Pl x) (hk : kitB (tyN x) T = some b) : Ev (tCB (rIsi K) (tCons ta (tCons (tC (.ty T)) tNil))) σ H (.bl b) :=
  ev_isi ha (tx_pl hx) hk
/-- isinstance(x, int) and not isinstance(x, bool) -/
theorem ev_isInt {K : PySem.W.Frag} {σ : L2.St} {H : Hp} {ta tb : TE} {x : V} (ha : Ev ta σ H x) (hb : Ev tb σ H x) (hx : Pl x) :
    Ev (tAndV (tCB (rIsi K) (tCons ta (tCons (tC (.ty "int")) tNil))) (tNotV (tCB (rIsi K) (tCons tb (tCons (tC (.ty "bool")) tNil))))) σ H (.bl (isInt x)) := by
  cases hx with
  | non => exact ev_is (ev_andV (ev_isiP (b := false) ha .non (by decide +kernel)) fun z => nomatch z) (show V.bl (false && true) = _ from rfl)
  | bl b => exact ev_is (ev_andV (ev_isiP (b := true) ha (.bl b) (by show kitB "bool" "int" = some true; decide +kernel)) fun _ => ev_notV (ev_isiP (b := true) hb (.bl b) (by show kitB "bool" "bool" = some true; decide +kernel))) rfl
  | int i => exact ev_is (ev_andV (ev_isiP (b := true) ha (.int i) (by show kitB "int" "int" = some true; decide +kernel)) fun _ => ev_notV (ev_isiP (b := false) hb (.int i) (by show kitB "int" "bool" = some false; decide +kernel))) rfl
  | str s => exact ev_is (ev_andV (ev_isiP (b := false) ha (.str s) (by show kitB "str" "int" = some false; decide +kernel)) fun z => nomatch z) (show V.bl (false && true) = _ from rfl)

/-! ### the order of tuples that need not be alike behind the first difference -/
section
open PySem.SeqAt PySem.MeetsSeq PySem.MeetsSeq2 PySem.MeetsSeq3
open PySem.AutoSeq1 (wpAny_loadPart')
/-- pairs walked from the left: the first that differ decide; z where none do -/
inductive Lx (A : Around) (s : Shared) (z : Bool) : List (Value × Value) → Bool → Prop
  | nil : Lx A s z [] z
  | eq {y x : Value} {ps : List (Value × Value)} {c : Bool} : EqAt A s y x true → Lx A s z ps c → Lx A s z ((y, x) :: ps) c
  | lt {y x : Value} {ps : List (Value × Value)} {c : Bool} : EqAt A s y x false → Ob.RcOp .Lt A s y x c → Lx A s z ((y, x) :: ps) c
theorem lt_meets (l b : Addr) (us vs : Array Value) (n m : Nat) (dl db : Option Addr) (sl sb : Array (Option Value)) :
    Meets (Builtin.«tuple.__lt__» ⟨[.ref l, .ref b], []⟩)
      (fun A R s => s.heap.get? l = some { cls := .type "tuple", dict := dl, data := .seq us n, slots := sl } ∧ s.heap.get? b = some { cls := .type "tuple", dict := db, data := .seq vs m, slots := sb } ∧
        ∃ c, Lx A.in1 s (decide (us.size < vs.size)) (us.toList.zip vs.toList) c ∧ R (.ok (.ret (.bool c))) s) := by
  refine .of_wp fun prog w A R s h => ?_
  obtain ⟨hp, g, d, tk, os⟩ := s
  obtain ⟨hl, hb, c, hx, h⟩ := h
  have f2 := AutoSeq1.sub_tuple_tuple
  wp_walk using wpAny_loadPart' hl, wpAny_loadPart' hb, wpAny_forIn_list _ (fun ps b s' => b.1 = none ∧ s' = ⟨hp, g, d, tk, os⟩ ∧ ∃ c, Lx A.in1 ⟨hp, g, d, tk, os⟩ (decide (us.size < vs.size)) ps c ∧ R (.ok (.ret (.bool c))) ⟨hp, g, d, tk, os⟩) _
  case turn =>
    rintro ⟨y, x⟩ ps b s' ⟨hb', rfl, c, hz, hR⟩
    cases hz with
    | eq he ht =>
      refine wpAny_bind (he prog w _ _ ?_)
      wp_walk
      exact ⟨rfl, rfl, c, ht, hR⟩
    | lt he hr =>
      refine wpAny_bind (he prog w _ _ ?_)
      have hri := hr prog w
      wp_walk using hri
      exact ⟨_, rfl, hR⟩
  case fin =>
    rintro ⟨b1, b2⟩ s' ⟨hb', rfl, c, hz, hR⟩
    simp only at hb'
    subst hb'
    cases hz
    wp_walk
    exact ⟨_, rfl, by simpa [Builtin.Tuple.tupleCompareSizes] using hR⟩
  case h => exact ⟨rfl, rfl, c, hx, h⟩
theorem lt_tuples {A : Around} {s : Shared} {l b : Addr} {us vs : Array Value} {c : Bool} (hl : s.heap.IsTuple l us) (hb : s.heap.IsTuple b vs) (hu : A.units < cLine) (hx : Lx A.in1 s (decide (us.size < vs.size)) (us.toList.zip vs.toList) c) :
    Ob.RcOp .Lt A s (.ref l) (.ref b) c := by
  intro prog w E Q h
  obtain ⟨⟨k1, dl, da, sl⟩, ho, hc, n, hd⟩ := hl
  obtain ⟨⟨k2, db, da2, sb⟩, ho2, hc2, m, hd2⟩ := hb
  simp only at hc hd hc2 hd2
  subst hc hd hc2 hd2
  exact richCompare_meets_room (op := .Lt) ⟨_, ho, rfl⟩ ⟨_, ho2, rfl⟩ F.slot_tuple_lt F.entry_tuple_lt (F.args_tuple_lt_2 _ _) (lt_meets l b us vs n m dl db sl sb) ⟨ho, ho2, c, hx, ⟨(fun z => nomatch z), h⟩⟩ hu
end
mutual
/-- less, of data -/
def ltD : PyData → PyData → Bool
  | .int a, .int b => decide (a < b)
  | .str x, .str y => decide (x.cps.toList < y.cps.toList)
  | .tuple xs, .tuple ys => ltDs xs ys
  | _, _ => false
def ltDs : List PyData → List PyData → Bool
  | [], [] => false
  | [], _ :: _ => true
  | _ :: _, [] => false
  | x :: xs, y :: ys => if PyData.eqv x y then ltDs xs ys else ltD x y
end
mutual
/-- may be compared by less -/
def ordD : PyData → PyData → Bool
  | .int _, .int _ => true
  | .str _, .str _ => true
  | .tuple xs, .tuple ys => ordDs xs ys
  | _, _ => false
def ordDs : List PyData → List PyData → Bool
  | [], _ => true
  | _ :: _, [] => true
  | x :: xs, y :: ys => if PyData.eqv x y then ordDs xs ys else ordD x y
end
theorem reads_len {h : Heap} : ∀ {ds : List PyData} {us : List Value} {as : List Addr}, ReadsAll h us ds as → us.length = ds.length
  | [], _, _, r => by cases r; rfl
  | _ :: ds, _, _, r => by
    cases r with
    | cons r1 r2 => exact congrArg (· + 1) (reads_len r2)
theorem lt_list {n : Nat} (IH : ∀ (d e : PyData) (A : Around) (s : Shared) (u v : Value) (as bs : List Addr), d.depth ≤ n → Reads s.heap u d as → Reads s.heap v e bs → d.canLay0 = true → e.canLay0 = true → ordD d e = true →
    A.units + d.depth < cLine → Ob.RcOp .Lt A s u v (ltD d e)) (A : Around) (s : Shared) : ∀ (xs ys : List PyData) (us vs : List Value) (as bs : List Addr), PyData.depthAll xs ≤ n → ReadsAll s.heap us xs as → ReadsAll s.heap vs ys bs →
    PyData.canLayAll0 xs = true → PyData.canLayAll0 ys = true → ordDs xs ys = true → A.units + PyData.depthAll xs < cLine → Lx A s (decide (xs.length < ys.length)) (us.zip vs) (ltDs xs ys) := by
  intro xs
  induction xs with
  | nil =>
    intro ys us vs as bs hn r1 r2 c1 c2 ho hu
    cases r1
    cases ys with
    | nil => exact .nil
    | cons y ys =>
      rw [show decide (([] : List PyData).length < (y :: ys).length) = true from decide_eq_true (Nat.zero_lt_succ _)]
      show Lx A s true [] true
      exact .nil
  | cons x xs ih =>
    intro ys us vs as bs hn r1 r2 c1 c2 ho hu
    cases ys with
    | nil =>
      cases r2
      rw [show decide ((x :: xs).length < ([] : List PyData).length) = false from decide_eq_false (Nat.not_lt_zero _), List.zip_nil_right]
      exact .nil
    | cons y ys =>
      have a1 : x.canLay0 = true ∧ PyData.canLayAll0 xs = true := by simpa [PyData.canLayAll0] using c1
      have a2 : y.canLay0 = true ∧ PyData.canLayAll0 ys = true := by simpa [PyData.canLayAll0] using c2
      have hd : A.units + max x.depth (PyData.depthAll xs) < cLine := hu
      have hn' : max x.depth (PyData.depthAll xs) ≤ n := hn
      rw [show decide ((x :: xs).length < (y :: ys).length) = decide (xs.length < ys.length) by simp]
      cases r1 with
      | cons p1 q1 =>
        cases r2 with
        | cons p2 q2 =>
          have he := PySem.SeqAt.eqAt_reads x y A s _ _ _ _ p1 p2 a1.1 a2.1 (by omega)
          by_cases c : PyData.eqv x y = true
          · have o : ordDs xs ys = true := by rw [ordDs, if_pos c] at ho; exact ho
            rw [show ltDs (x :: xs) (y :: ys) = ltDs xs ys by rw [ltDs, if_pos c]]
            rw [c] at he
            exact .eq he (ih ys _ _ _ _ (by omega) q1 q2 a1.2 a2.2 o (by omega))
          · have o : ordD x y = true := by rw [ordDs, if_neg c] at ho; exact ho
            rw [show ltDs (x :: xs) (y :: ys) = ltD x y by rw [ltDs, if_neg c]]
            rw [Bool.not_eq_true] at c
            rw [c] at he
            exact .lt he (IH x y A s _ _ _ _ (by omega) p1 p2 a1.1 a2.1 o (by omega))
theorem lt_reads : ∀ (n : Nat) (d e : PyData) (A : Around) (s : Shared) (u v : Value) (as bs : List Addr), d.depth ≤ n → Reads s.heap u d as → Reads s.heap v e bs → d.canLay0 = true → e.canLay0 = true → ordD d e = true →
    A.units + d.depth < cLine → Ob.RcOp .Lt A s u v (ltD d e) := by
  intro n
  induction n with
  | zero =>
    intro d e A s u v as bs hn r1 r2 c1 c2 ho hu
    cases r1 with
    | int a t =>
      cases r2 with
      | int b t' => rw [ltD]; exact Ob.RcOp.lt_int _ _ _ _
      | _ => simp [ordD] at ho
    | str a t =>
      cases r2 with
      | str b t' => rw [ltD]; exact fun prog w E Q h => lt_str h
      | _ => simp [ordD] at ho
    | tuple => simp [PyData.depth] at hn
    | _ => simp [ordD] at ho
  | succ n ih =>
    intro d e A s u v as bs hn r1 r2 c1 c2 ho hu
    cases r1 with
    | int a t =>
      cases r2 with
      | int b t' => rw [ltD]; exact Ob.RcOp.lt_int _ _ _ _
      | _ => simp [ordD] at ho
    | str a t =>
      cases r2 with
      | str b t' => rw [ltD]; exact fun prog w E Q h => lt_str h
      | _ => simp [ordD] at ho
    | tuple h1 h2 h3 h4 =>
      cases r2 with
      | tuple k1 k2 k3 k4 =>
        rename_i xs _ _ _ _ _ ys
        simp only [PyData.depth] at hn hu
        have l1 := reads_len h4
        have l2 := reads_len k4
        rw [ltD]
        refine lt_tuples ⟨_, h1, h2, _, h3⟩ ⟨_, k1, k2, _, k3⟩ (by omega) ?_
        rw [← Array.length_toList, ← Array.length_toList, l1, l2]
        exact lt_list ih A.in1 s _ _ _ _ _ _ (by omega) h4 k4 (by simpa [PyData.canLay0] using c1) (by simpa [PyData.canLay0] using c2) (by simpa [ordD] using ho) (by show A.units + 1 + _ < _; omega)
      | _ => simp [ordD] at ho
    | _ => simp [ordD] at ho
def rLtD (K : PySem.W.Frag) : R2 := fun x y H Q => ∃ d e, Dp K H x d ∧ Dp K H y e ∧ d.canLay0 = true ∧ e.canLay0 = true ∧ ordD d e = true ∧ d.depth ≤ 60 ∧ Q (.bl (ltD d e)) H
theorem op_ltD {X : Cx} (hu : X.A.units + 64 < cLine) : OpR X (compareOp .Lt) (rLtD X.K) := by
  intro pins s σ H x y v u Q I rx ry h
  obtain ⟨d, e, hd, he, c1, c2, o, dp, q⟩ := h
  obtain ⟨as, r1⟩ := Dp.reads I d x v hd rx
  obtain ⟨bs, r2⟩ := Dp.reads I e y u he ry
  exact lt_reads _ d e X.A s v u as bs (Nat.le_refl _) r1 r2 c1 c2 o (by omega) X.prog X.w _ _ ⟨.bl _, H, I, rfl, q⟩

/-! ### parts that give data -/
section
variable {K : PySem.W.Frag}
mutual
theorem ex_dp {H H' : Hp} (e : Ex H H') : ∀ {v : V} {d : PyData}, Dp K H v d → Dp K H' v d
  | _, _, .non => .non
  | _, _, .bl b => .bl b
  | _, _, .int i => .int i
  | _, _, .str x => .str x
  | _, _, .lst h a => .lst (ex_l e h) (ex_dps e a)
  | _, _, .tup h a => .tup (ex_t e h) (ex_dps e a)
theorem ex_dps {H H' : Hp} (e : Ex H H') : ∀ {vs : List V} {ds : List PyData}, DpAll K H vs ds → DpAll K H' vs ds
  | _, _, .nil => .nil
  | _, _, .cons h t => .cons (ex_dp e h) (ex_dps e t)
end
def EvD (K : PySem.W.Frag) (te : TE) (σ : L2.St) (H : Hp) (d : PyData) : Prop := ∀ H1, Ex H H1 → ∀ Q : VK, (∀ v H2, Ex H1 H2 → Dp K H2 v d → Q v H2) → te σ H1 Q
/-- a new list, a new tuple of data -/
def EvLD (K : PySem.W.Frag) (te : TE) (σ : L2.St) (H : Hp) (ds : List PyData) : Prop := ∀ H1, Ex H H1 → ∀ Q : VK, (∀ p H2 ys, H1 p = none → Ex H1 H2 → H2 p = some (.lst ys) → DpAll K H2 ys ds → Q (.ref p) H2) → te σ H1 Q
def EvUD (K : PySem.W.Frag) (te : TE) (σ : L2.St) (H : Hp) (ds : List PyData) : Prop := ∀ H1, Ex H H1 → ∀ Q : VK, (∀ p H2 ys, H1 p = none → Ex H1 H2 → H2 p = some (.tup ys) → DpAll K H2 ys ds → Q (.ref p) H2) → te σ H1 Q
def EvAD (K : PySem.W.Frag) (ta : TA) (σ : L2.St) (H : Hp) (ds : List PyData) : Prop := ∀ H1, Ex H H1 → ∀ Q : List V → Hp → Prop, (∀ vs H2, Ex H1 H2 → DpAll K H2 vs ds → Q vs H2) → ta σ H1 Q
variable {σ : L2.St} {H H' : Hp} {ta tb te : TE} {tr : TA} {x y z v : V} {d e : PyData} {ds es : List PyData}
theorem ed_val (h : Ev te σ H v) (hd : Dp K H v d) : EvD K te σ H d := fun H1 e Q q => h H1 e _ fun H2 e2 => q v H2 e2 (ex_dp (e.trans e2) hd)
theorem ed_tupU (h : EvUD K te σ H ds) : EvD K te σ H (.tuple ds) := fun H1 e Q q => h H1 e _ fun p H2 ys _ e2 h2 hd => q _ H2 e2 (.tup (st_of h2) hd)
theorem ed_lst (h : EvLD K te σ H ds) : EvD K te σ H (.list ds) := fun H1 e Q q => h H1 e _ fun p H2 ys _ e2 h2 hd => q _ H2 e2 (.lst (sq_of h2) hd)
theorem ad_nil : EvAD K tNil σ H [] := fun H1 _ _ q => q [] H1 (Ex.refl H1) .nil
theorem ad_cons (h : EvD K te σ H d) (hr : EvAD K tr σ H ds) : EvAD K (tCons te tr) σ H (d :: ds) := fun H1 e Q q =>
  h H1 e _ fun v H2 e2 hd => hr H2 (e.trans e2) _ fun vs H3 e3 hds => q (v :: vs) H3 (e2.trans e3) (.cons (ex_dp e3 hd) hds)
theorem dps_len : ∀ {vs : List V} {ds : List PyData} {H : Hp}, DpAll K H vs ds → vs.length = ds.length
  | _, _, _, .nil => rfl
  | _, _, _, .cons _ t => congrArg (· + 1) (dps_len t)
theorem ud_tup (h : EvAD K tr σ H ds) (hl : ds.length ≤ 100000) : EvUD K (tTup tr) σ H ds := fun H1 e Q q =>
  h H1 e _ fun vs H2 e2 hd => ⟨sz_of (by rw [dps_len hd]; exact hl), fun p hp => q p _ vs (fresh_back e2 hp) (e2.trans (Ex.new hp)) upd_same (ex_dps (Ex.new hp) hd)⟩
theorem ld_lst (h : EvAD K tr σ H ds) (hl : ds.length ≤ 100000) : EvLD K (tLst tr) σ H ds := fun H1 e Q q =>
  h H1 e _ fun vs H2 e2 hd => ⟨sz_of (by rw [dps_len hd]; exact hl), fun p hp => q p _ vs (fresh_back e2 hp) (e2.trans (Ex.new hp)) upd_same (ex_dps (Ex.new hp) hd)⟩
def SpD (K : PySem.W.Frag) (sp : Sp) (vs : List V) (H : Hp) (d : PyData) : Prop := ∀ H1, Ex H H1 → ∀ Q : VK, (∀ v H2, Ex H1 H2 → Dp K H2 v d → Q v H2) → ∀ E : XK, sp vs H1 Q E
def SpUD (K : PySem.W.Frag) (sp : Sp) (vs : List V) (H : Hp) (ds : List PyData) : Prop := ∀ H1, Ex H H1 → ∀ Q : VK, (∀ p H2 ys, H1 p = none → Ex H1 H2 → H2 p = some (.tup ys) → DpAll K H2 ys ds → Q (.ref p) H2) → ∀ E : XK, sp vs H1 Q E
theorem ud_call {sp : Sp} {dvs vs : List V} {E : XK} {ta : TA} (h : EvA ta σ H vs) (hs : SpUD K sp (vs ++ dvs) H ds) : EvUD K (tCall sp dvs E ta) σ H ds := fun H1 e Q q =>
  h H1 e _ fun H2 e2 => hs H2 (e.trans e2) Q (fun p H3 ys hp e3 h3 hd => q p H3 ys (fresh_back e2 hp) (e2.trans e3) h3 hd) E
/-- == , != , < of data -/
theorem ev_eqD (ha : EvD K ta σ H d) (hb : EvD K tb σ H e) (s1 : SeqAt.shaped d = true) (s2 : SeqAt.shaped e = true) : Ev (tOp (rEqD K) ta tb) σ H (.bl (PyData.eqv d e)) := fun H1 ex Q q =>
  ha H1 ex _ fun x H2 e2 h2 => hb H2 (ex.trans e2) _ fun y H3 e3 h3 => ⟨d, e, ex_dp e3 h2, h3, s1, s2, q H3 (e2.trans e3)⟩
theorem ev_neD (ha : EvD K ta σ H d) (hb : EvD K tb σ H e) (s1 : SeqAt.shaped d = true) (s2 : SeqAt.shaped e = true) : Ev (tOp (rNeD K) ta tb) σ H (.bl (!PyData.eqv d e)) := fun H1 ex Q q =>
  ha H1 ex _ fun x H2 e2 h2 => hb H2 (ex.trans e2) _ fun y H3 e3 h3 => ⟨d, e, ex_dp e3 h2, h3, s1, s2, q H3 (e2.trans e3)⟩
theorem ev_ltD (ha : EvD K ta σ H d) (hb : EvD K tb σ H e) (s1 : SeqAt.shaped d = true) (s2 : SeqAt.shaped e = true) (o : ordD d e = true) (dp : d.depth ≤ 60) : Ev (tOp (rLtD K) ta tb) σ H (.bl (ltD d e)) := fun H1 ex Q q =>
  ha H1 ex _ fun x H2 e2 h2 => hb H2 (ex.trans e2) _ fun y H3 e3 h3 => ⟨d, e, ex_dp e3 h2, h3, SeqAt.canLay_of_shaped s1, SeqAt.canLay_of_shaped s2, o, dp, q H3 (e2.trans e3)⟩
/-- tuple(a new list) -/
theorem ud_tuple {tl : TE} (h : EvLD K tl σ H ds) : EvUD K (tCB (fun xs H Q => ∃ p ys, xs = [.ref p] ∧ ((SqL K H p ys ∧ ∀ l, H l = none → Q (.ref l) (upd H l (.tup ys))) ∨ (SqT K H p ys ∧ Q (.ref p) H))) (tCons tl tNil)) σ H ds := fun H1 e Q q =>
  h H1 e _ fun p H2 ys _ e2 h2 hd => ⟨p, ys, rfl, .inl ⟨sq_of h2, fun l hl => q l _ ys (fresh_back e2 hl) (e2.trans (Ex.new hl)) upd_same (ex_dps (Ex.new hl) hd)⟩⟩
mutual
/-- no list within -/
def noL : PyData → Bool
  | .list _ => false
  | .tuple xs => noLs xs
  | .dict _ => false
  | .none | .bool _ | .int _ | .str _ => true
def noLs : List PyData → Bool
  | [] => true
  | x :: xs => noL x && noLs xs
end
mutual
theorem dp_upd {H : Hp} {D : Addr} {ys zs : List V} (hD : H D = some (.lst ys)) : ∀ {v : V} {d : PyData}, noL d = true → Dp K H v d → Dp K (upd H D (.lst zs)) v d
  | _, _, _, .non => .non
  | _, _, _, .bl b => .bl b
  | _, _, _, .int i => .int i
  | _, _, _, .str x => .str x
  | _, _, n, .lst h a => by simp [noL] at n
  | _, _, n, .tup h a => by
    refine .tup ?_ (dps_upd hD (by simpa [noL] using n) a)
    rcases h with (h | ⟨o, h⟩) | h
    · exact .inl (.inl (by rw [upd_ne (by intro z; rw [z, hD] at h; cases h)]; exact h))
    · exact .inl (.inr ⟨o, by rw [upd_ne (by intro z; rw [z, hD] at h; cases h)]; exact h⟩)
    · exact .inr h
theorem dps_upd {H : Hp} {D : Addr} {ys zs : List V} (hD : H D = some (.lst ys)) : ∀ {vs : List V} {ds : List PyData}, noLs ds = true → DpAll K H vs ds → DpAll K (upd H D (.lst zs)) vs ds
  | _, _, _, .nil => .nil
  | _, _, n, .cons h t => by
    have n' : (noL _ && noLs _) = true := n
    rw [Bool.and_eq_true] at n'
    exact .cons (dp_upd hD n'.1 h) (dps_upd hD n'.2 t)
end
theorem noLs_map {f : Nat → PyData} (h : ∀ i, noL (f i) = true) : ∀ l : List Nat, noLs (l.map f) = true
  | [] => rfl
  | i :: l => by
    show (noL (f i) && noLs (l.map f)) = true
    rw [h i, noLs_map h l]
    rfl
/-- [f(x) for x in xs] -/
theorem dps_snoc : ∀ {vs : List V} {ds : List PyData} {H : Hp} {v : V} {d : PyData}, DpAll K H vs ds → Dp K H v d → DpAll K H (vs ++ [v]) (ds ++ [d])
  | _, _, _, _, _, .nil, h => .cons h .nil
  | _, _, _, _, _, .cons a t, h => .cons a (dps_snoc t h)
theorem ld_lcL {a : Addr} {xs : List V} {tl : TE} {j : Nat} {vs : List Nat} (f : Nat → PyData) (h : Ev tl σ H (.ref a)) (hx : SqL K H a xs) (hz : xs.length ≤ 40000) (hn : ∀ i, noL (f i) = true) (hw : ∀ x, wipe ((wipe σ vs).set j (some x)) vs = wipe σ vs)
    (he : ∀ (i : Nat) (x : V) H1, Ex H H1 → xs[i]? = some x → EvD K te ((wipe σ vs).set j (some x)) H1 (f i)) :
    EvLD K (tLc (iList K tl) (gName j) tYes te vs) σ H ((List.range xs.length).map f) := fun H0 e0 Q q => h H0 e0 _ fun H1 e1 => ⟨a, rfl, ⟨xs, ex_l (e0.trans e1) hx⟩, fun D hD =>
  lc_list (xs := xs) (fun i H' => H1 D = none ∧ Ex H1 H' ∧ ∃ ys, H' D = some (.lst ys) ∧ DpAll K H' ys ((List.range i).map f)) ⟨hD, Ex.new hD, [], upd_same, .nil⟩ (fun i H' _ p => ex_l ((e0.trans e1).trans p.2.1) hx)
    (fun i x H' hi p => by
      obtain ⟨p1, p2, ys, p3, p4⟩ := p
      refine ⟨hw x, ?_⟩
      show te ((wipe σ vs).set j (some x)) H' fun y H4 => ∃ acc, H4 D = some (.lst acc) ∧ acc.length < sizeLine ∧ _
      refine he i x H' ((e0.trans e1).trans p2) hi H' (Ex.refl H') _ fun y H4 e4 hy => ⟨ys, e4 _ _ p3, sz_lt ?_, p1, Ex.mut (p2.trans e4) p1, ys ++ [y], upd_same, ?_⟩
      · have := dps_len p4
        rw [List.length_map, List.length_range] at this
        have := (List.getElem?_eq_some_iff.mp hi).1
        omega
      · rw [List.range_succ, List.map_append]
        exact dps_snoc (dps_upd (e4 _ _ p3) (noLs_map hn _) (ex_dps e4 p4)) (dp_upd (e4 _ _ p3) (hn i) hy))
    (fun H' p => by
      obtain ⟨p1, p2, ys, p3, p4⟩ := p
      exact q D H' ys (fresh_back e1 p1) (e1.trans p2) p3 p4)⟩
end

/-! ### how long a text of data can be -/
theorem app_len (x y : Str) : (x ++ y).length = x.length + y.length := PySem.strLen_append x y
theorem textFrom_le : ∀ (ts : List Str) (k : Nat) (acc : Str), (textFrom k acc ts).length ≤ acc.length + (ts.map fun t => t.length + 2).sum
  | [], k, acc => Nat.le_refl _
  | t :: r, k, acc => by
    rw [textFrom]
    refine Nat.le_trans (textFrom_le r _ _) ?_
    rw [List.map_cons, List.sum_cons]
    split
    · rw [app_len, app_len, show (", " : Str).length = 2 from rfl]; omega
    · rw [app_len, app_len, show (Str.ofString "").length = 0 from rfl]; omega
theorem listText_le (ts : List Str) : (listText ts).length ≤ 2 + (ts.map fun t => t.length + 2).sum := by
  unfold listText
  rw [app_len]
  have := textFrom_le ts 0 "["
  rw [show ("[" : Str).length = 1 from rfl] at this
  rw [show ("]" : Str).length = 1 from rfl]
  omega
theorem join_le : ∀ ts : List Str, (Str.join ", " ts).length ≤ (ts.map fun t => t.length + 2).sum
  | [] => Nat.zero_le _
  | [x] => by show x.length ≤ _; rw [List.map_cons, List.sum_cons]; omega
  | x :: y :: r => by
    have ih := join_le (y :: r)
    have e : Str.join ", " (x :: y :: r) = x ++ ", " ++ Str.join ", " (y :: r) := rfl
    rw [e, app_len, app_len, List.map_cons, List.sum_cons, show (", " : Str).length = 2 from rfl]
    omega
theorem tupleText_le (ts : List Str) : (tupleText ts).length ≤ 4 + (ts.map fun t => t.length + 2).sum := by
  unfold tupleText
  rw [app_len, app_len]
  have := join_le ts
  rw [show ("(" : Str).length = 1 from rfl]
  split
  · rw [show ((",)" : String) : Str).length = 2 from rfl]; omega
  · rw [show ((")" : String) : Str).length = 1 from rfl]; omega
mutual
/-- a bound of its text -/
def shB : PyData → Nat
  | .str x => 10 * x.length + 2
  | .list xs => 4 + shBs xs
  | .tuple xs => 4 + shBs xs
  | .none | .bool _ | .int _ | .dict _ => 2000
def shBs : List PyData → Nat
  | [] => 0
  | x :: xs => shB x + 2 + shBs xs
/-- may be shown -/
def shOk : PyData → Bool
  | .str x => PyData.strOk x
  | .int i => decide (i.natAbs.log2 < 1920)
  | .list xs => shOks xs
  | .tuple xs => shOks xs
  | .none | .bool _ => true
  | .dict _ => false
def shOks : List PyData → Bool
  | [] => true
  | x :: xs => shOk x && shOks xs
end
mutual
theorem shown_le : ∀ d : PyData, shOk d = true → d.shown.length ≤ shB d ∧ d.showable = true ∧ d.hasDict = false
  | .none, _ => ⟨by show 4 ≤ 2000; decide, rfl, rfl⟩
  | .bool b, _ => ⟨by cases b <;> (show _ ≤ 2000; decide), rfl, rfl⟩
  | .int i, h => by
    have hl : i.natAbs.log2 < 1920 := of_decide_eq_true h
    refine ⟨?_, decide_eq_true hl, rfl⟩
    have e := int_text_length_le (k := 1920) (by decide) hl
    show (Str.ofString (toString i)).length ≤ 2000
    rw [PySem.ofString_length]
    omega
  | .str x, h => by
    refine ⟨?_, rfl, rfl⟩
    show (reprText x).length ≤ 10 * x.length + 2
    refine StrLaws.reprText_len x fun c hc => ?_
    have h' : x.cps.all (· < 0x110000) = true := h
    rw [Array.all_eq_true'] at h'
    have := of_decide_eq_true (h' c (by simpa using hc))
    exact Nat.lt_of_lt_of_le this (by decide)
  | .list xs, h => by
    obtain ⟨h1, h2, h3⟩ := shown_les xs h
    refine ⟨?_, h2, h3⟩
    have := listText_le (PyData.shownAll xs)
    show (listText (PyData.shownAll xs)).length ≤ 4 + shBs xs
    omega
  | .tuple xs, h => by
    obtain ⟨h1, h2, h3⟩ := shown_les xs h
    refine ⟨?_, h2, h3⟩
    have := tupleText_le (PyData.shownAll xs)
    show (tupleText (PyData.shownAll xs)).length ≤ 4 + shBs xs
    omega
theorem shown_les : ∀ ds : List PyData, shOks ds = true → ((PyData.shownAll ds).map fun t => t.length + 2).sum ≤ shBs ds ∧ PyData.showableAll ds = true ∧ PyData.hasDictAll ds = false
  | [], _ => ⟨Nat.le_refl _, rfl, rfl⟩
  | d :: ds, h => by
    have h' : (shOk d && shOks ds) = true := h
    rw [Bool.and_eq_true] at h'
    obtain ⟨a1, a2, a3⟩ := shown_le d h'.1
    obtain ⟨b1, b2, b3⟩ := shown_les ds h'.2
    refine ⟨?_, ?_, ?_⟩
    · rw [PyData.shownAll, List.map_cons, List.sum_cons]
      show _ ≤ shB d + 2 + shBs ds
      omega
    · show (d.showable && PyData.showableAll ds) = true
      rw [a2, b2]
      rfl
    · show (d.hasDict || PyData.hasDictAll ds) = false
      rw [a3, b3]
      rfl
end
theorem ref_tup {K : PySem.W.Frag} {ds : List PyData} : ∀ v H1, Dp K H1 v (.tuple ds) → ∃ a, v = .ref a := fun v H1 h => by
  cases h
  exact ⟨_, rfl⟩
theorem ref_lst {K : PySem.W.Frag} {ds : List PyData} : ∀ v H1, Dp K H1 v (.list ds) → ∃ a, v = .ref a := fun v H1 h => by
  cases h
  exact ⟨_, rfl⟩

/-! ### the law's own def, run where the caller stands: nothing is being shown there -/
section
variable {P : Program} {w : World} {K : PySem.W.Frag} {mg mb : Str → Option Value}
theorem run_here {x : Str} {st : Stmt} {N ps : List Str} {k : Nat} {f : Addr} {fd : FuncData} {A : Around} {outer : List Env} {s : Shared} {H : Hp} {args : Args} {us : List Value} {vs : List V} {Q : VK} {base : Heap}
    (D : C8.Def K mg x st f fd) (S : FnScope N ps (C8.fnScope st)) (room : Room (k + 1) A) (env : Env0 P w K mg base A outer s H) (bi : BindsTo s fd args (ps.zip us)) (rv : Vals vs us) (len : vs.length = ps.length)
    (body : ∀ cdv : Value, Room k (A.deeper (envOfC x (C8.fnScope st) s.heap.objs.size f cdv)) →
      ∃ t, PSs (cxOf C8.CX0 P w K mg base N x (C8.fnScope st) f cdv A outer s H C8.E0).nox (C8.fnBody st) t ∧ t { nx := fun _ H' => Q .non H', rt := Q } (start N vs) H) :
    codeAny (model P w) A (.call (.ref f) args) (CR C8.CX0 outer P w H s Q C8.E0) s := by
  obtain ⟨oc, od, dV, kV, doc, pm, an, cdv, ct, osl, rfl, look, code⟩ := D.fn.ex
  have sub : ∀ b o, base.get? b = some o → s.heap.get? b = some o := fun b o e => (env.bs b o e).1
  have inK := env.mod.kin.keeps sub
  have noLim := env.mod.nolimit.keeps sub
  apply codeAny_call_function room.depth (inK _ _ look) rfl S.co S.gen rfl (PySem.W.codeRec_of inK code)
  apply bi
  apply wpAny_newFunctionEnv_cells S.kind
  · rintro ⟨n, v⟩ hy
    have hp := S.par n (List.of_mem_zip hy).1
    exact hp.imp id fun c => ⟨c, PySem.W.cellsFrom_some _ _ _ (.inl c)⟩
  intro e he s1 made
  subst he
  obtain ⟨t, ht, hq⟩ := body cdv (room.deeper _)
  have inv := inv_start (CX := C8.CX0) (E := C8.E0) (N := N) S room.hd env len rv made
  refine ⟨noLim.keeps made.toInCall.keep, codeAny_func ?_⟩
  refine wpAny_mono (ht.nox.run [] s1 _ H _ inv hq) ?_ fun _ _ z => z
  intro fl s' z
  match fl, z with
  | .ret u, ⟨v, σ', H', J, r, q⟩ => exact ⟨v, H', J.os, J.bare, J.base, J.hok, r, q⟩
  | .next, ⟨σ', H', J, q⟩ => exact ⟨V.non, H', J.os, J.bare, J.base, J.hok, rfl, q⟩
  | .brk, ⟨_, _, _, q⟩ => exact q.elim
  | .cont, ⟨_, _, _, q⟩ => exact q.elim
/-- what the call of the law leaves -/
def Done (s₁ : Shared) (r : Result) (s' : Shared) : Prop := r = .ok (.ret (.bool true)) ∧ OldK s₁.heap s'.heap ∧ s'.os = s₁.os ∧ AllBare s'.gens
theorem here_core {fa a : Addr} {s₁ : Shared} {vs : List Value} (H : Hp) (KX : K.In s₁.heap) (hns : s₁.heap.Ns mainGlobals mg) (hb : s₁.heap.Ns builtinsNs mb) (hbb : ∀ x : Str, x ≠ "__name__" → mb x = bootBuiltins x) (hlim : s₁.heap.NoLimit) (hnd : s₁.heap.NoDigits) (hg : s₁.gens = #[])
    (ha : s₁.heap.get? a = some { cls := .type "list", data := .seq vs.toArray }) (hok : HOk P w H s₁.heap) (only : ∀ b u, H b = some u → b = a ∧ K.lookup a = none ∧ ∃ o ys, u = .frz o (.lst ys))
    (body : ∀ base : Heap, K.In base → base.Ns mainGlobals mg → base.NoDigits → Env0 P w K mg base callerA [] s₁ H → codeAny (model P w) callerA (.call (.ref fa) ⟨[.ref a], []⟩) (CR C8.CX0 [] P w H s₁ (fun v _ => v = .bl true) C8.E0) s₁) :
    codeAny (model P w) callerA (.call (.ref fa) ⟨[.ref a], []⟩) (Done s₁) s₁ := by
  have free : ∀ {b : Addr} {o : Obj}, s₁.heap.get? b = some o → (b = a → False) → (hidT s₁.heap H).get? b = some o := fun {b o} e n => hidT_get e (by
    cases q : H b with
    | none => rfl
    | some u => exact (n (only b u q).1).elim)
  have dictFree : ∀ {b : Addr} {o : Obj} {es : Array DictEntry} {ep : Nat}, s₁.heap.get? b = some o → o.data = .dict es ep → (hidT s₁.heap H).get? b = some o := fun {b o es ep} e d => free e fun z => by
    rw [z, ha] at e
    cases e
    exact nomatch d
  have ns : ∀ {b : Addr} {m : Str → Option Value}, s₁.heap.Ns b m → (hidT s₁.heap H).Ns b m := by
    rintro b m ⟨o, es, ep, e, d, r⟩
    exact ⟨o, es, ep, dictFree e d, d, r⟩
  have inK : K.In (hidT s₁.heap H) := fun b o e => hidT_get (KX b o e) (by
    cases q : H b with
    | none => rfl
    | some u =>
      obtain ⟨z1, z2, _⟩ := only b u q
      rw [z1, z2] at e
      cases e)
  obtain ⟨mc, l1, l2⟩ := hlim
  have env : Env0 P w K mg (hidT s₁.heap H) callerA [] s₁ H :=
    { frames := rfl, mod := ⟨inK, ns hns, ⟨mb, ns hb, hbb⟩, ⟨mc, ns l1, l2⟩⟩, bs := fun b o e => of_hidT e, bsz := Nat.le_of_eq (hidT_size _ _), funs := trivial, frf := fun b z => (List.not_mem_nil z).elim, hok := hok, bare := .of_eq hg }
  obtain ⟨md, l3, l4⟩ := hnd
  refine codeAny_mono (body _ inK (ns hns) ⟨md, ns l3, l4⟩ env) ?_
  intro r s' z
  match r, z with
  | .error e, z => exact (show False from z).elim
  | .ok .next, z => exact (show False from z).elim
  | .ok .brk, z => exact (show False from z).elim
  | .ok .cont, z => exact (show False from z).elim
  | .ok (.ret u), ⟨v, H', os, bare, un, hok', rel, q⟩ =>
    have q' : v = .bl true := q
    subst q'
    have eu : u = Value.bool true := rel
    subst eu
    refine ⟨rfl, OldK.of_keep fun b o e => ?_, os, bare⟩
    cases hq : H b with
    | none => exact un.keep b o e hq (fun z => (List.not_mem_nil z).elim) List.not_mem_nil
    | some u =>
      obtain ⟨_, _, o2, ys, rfl⟩ := only b u hq
      obtain ⟨w1, _⟩ := hok b _ hq
      obtain ⟨w2, _⟩ := hok' b _ (un.frzs b o2 _ hq)
      rw [e] at w1
      cases w1
      exact w2
theorem here_call {fa a : Addr} {s₁ : Shared} {vs : List Value} {ns : List Int} (KX : K.In s₁.heap) (hns : s₁.heap.Ns mainGlobals mg) (hb : s₁.heap.Ns builtinsNs mb) (hbb : ∀ x : Str, x ≠ "__name__" → mb x = bootBuiltins x) (hlim : s₁.heap.NoLimit) (hnd : s₁.heap.NoDigits) (hg : s₁.gens = #[])
    (ha : s₁.heap.get? a = some { cls := .type "list", data := .seq vs.toArray }) (hi : IntsAre vs ns) (hl : ns.length ≤ sizeLine)
    (body : ∀ (H : Hp) (base : Heap), K.In base → base.Ns mainGlobals mg → base.NoDigits → SqL K H a (ns.map V.int) → Env0 P w K mg base callerA [] s₁ H → codeAny (model P w) callerA (.call (.ref fa) ⟨[.ref a], []⟩) (CR C8.CX0 [] P w H s₁ (fun v _ => v = .bl true) C8.E0) s₁) :
    codeAny (model P w) callerA (.call (.ref fa) ⟨[.ref a], []⟩) (Done s₁) s₁ := by
  have rv := vals_ints hi
  cases hk : K.lookup a with
  | some o =>
    have e := (KX a o hk).symm.trans ha
    cases e
    refine here_core (fun _ => none) KX hns hb hbb hlim hnd hg ha (fun b u z => nomatch (z : (none : Option HO) = some u)) (fun b u z => nomatch (z : (none : Option HO) = some u)) fun base i1 i2 nd i3 => body _ base i1 i2 nd (.inr ⟨_, vs.toArray, _, hk, rfl, rfl, rfl, ?_, by simpa using rv⟩) i3
    rw [List.size_toArray, hi.length]
    exact hl
  | none =>
    refine here_core (upd (fun _ => none) a (.frz { cls := .type "list", data := .seq vs.toArray } (.lst (ns.map V.int)))) KX hns hb hbb hlim hnd hg ha (fun b u z => ?_) (fun b u z => ?_) fun base i1 i2 nd i3 => body _ base i1 i2 nd (.inl (.inr ⟨_, upd_same⟩)) i3
    · by_cases e : b = a
      · subst e
        rw [upd_same] at z
        cases z
        exact ⟨ha, by rw [List.length_map]; exact hl, vs, _, rv, ha⟩
      · rw [upd_ne e] at z
        cases z
    · by_cases e : b = a
      · subst e
        rw [upd_same] at z
        cases z
        exact ⟨rfl, hk, _, _, rfl⟩
      · rw [upd_ne e] at z
        cases z
end
/-- the end of a law whose def shows things -/
theorem walk_here {l : PySem.W.OpenLaw} {n k : Nat} {q : Program} {loose : List Str} {XP : (Str → Option Value) → Heap → Prop} {YP : World → Heap → Prop} {d : DefRec} {K : Params → PySem.W.Frag} {st : Stmt} {N : List Str}
    (hn : l.most = some n) (hn2 : n ≤ sizeLine) (hdf : d.params.defaults = []) (hr : Room (k + 1) callerA) (hY : ∀ (w : World) (h : Heap), YP w h → (K w.params).In h) (S : FnScope N ["script"] (C8.fnScope st))
    (F : ∀ (w : World) (mg : Str → Option Value) (fa : Addr) (h : Heap), (K w.params).In h → h.Ns mainGlobals mg → mg d.name = some (.ref fa) →
      ∃ fd : FuncData, C8.Def (K w.params) mg "law" st fa fd ∧ (∀ (s : Shared) (u : Value), BindsTo s fd ⟨[u], []⟩ [("script", u)]) ∧
        ∀ (base : Heap) (s : Shared) (H : Hp) (a : Addr) (ns : List Int) (cdv : Value), (K w.params).In base → base.Ns mainGlobals mg → base.NoDigits → ns.length ≤ n → SqL (K w.params) H a (ns.map V.int) →
          Room k (callerA.deeper (envOfC "law" (C8.fnScope st) s.heap.objs.size fa cdv)) →
          ∃ t, PSs (cxOf C8.CX0 l.prog w (K w.params) mg base N "law" (C8.fnScope st) fa cdv callerA [] s H C8.E0).nox (C8.fnBody st) t ∧ t { nx := fun _ _ => V.non = .bl true, rt := fun v _ => v = .bl true } (start N [.ref a]) H) :
    PySem.W.WalkO q loose XP YP l.row.toRowW d [] (fun f vs => PySem.call f vs) := by
  apply Att.attach_call hn hdf
  intro w s₀ s₁ mg mb fa o pm cd doc a vs ns G Y ho hd hcd hmg hobj hints hlen hg
  obtain ⟨fd, D, bi, body⟩ := F w mg fa _ (hY w _ Y) G.T.g hmg
  apply here_call (hY w _ Y) G.T.g G.T.b G.T.builtins G.T.nolimit G.T.nodigits hg hobj hints (Nat.le_trans hlen hn2)
  intro H base i1 i2 nd hS env
  exact run_here (us := [.ref a]) (vs := [.ref a]) D S hr env (bi s₁ (.ref a)) (.cons rfl .nil) rfl fun cdv room => body base s₁ H a ns cdv i1 i2 nd hlen hS room
/-! ### repr of data with numbers of up to 12000 bits, and of None -/
mutual
def bgB : PyData → Nat
  | .str x => 10 * x.length + 2
  | .list xs => 4 + bgBs xs
  | .tuple xs => 4 + bgBs xs
  | .none | .bool _ | .int _ | .dict _ => 13000
def bgBs : List PyData → Nat
  | [] => 0
  | x :: xs => bgB x + 2 + bgBs xs
def bgOk : PyData → Bool
  | .str x => PyData.strOk x
  | .int i => decide (i.natAbs.log2 < 12000)
  | .list xs => bgOks xs
  | .tuple xs => bgOks xs
  | .none | .bool _ => true
  | .dict _ => false
def bgOks : List PyData → Bool
  | [] => true
  | x :: xs => bgOk x && bgOks xs
end
mutual
theorem bg_le : ∀ d : PyData, bgOk d = true → d.shown.length ≤ bgB d
  | .none, _ => by show 4 ≤ 13000; decide
  | .bool b, _ => by cases b <;> (show _ ≤ 13000; decide)
  | .int i, h => by
    have hl : i.natAbs.log2 < 12000 := of_decide_eq_true h
    have e := int_text_length_le (k := 12000) (by decide) hl
    show (Str.ofString (toString i)).length ≤ 13000
    rw [PySem.ofString_length]
    omega
  | .str x, h => by
    show (reprText x).length ≤ 10 * x.length + 2
    refine StrLaws.reprText_len x fun c hc => ?_
    have h' : x.cps.all (· < 0x110000) = true := h
    rw [Array.all_eq_true'] at h'
    have := of_decide_eq_true (h' c (by simpa using hc))
    exact Nat.lt_of_lt_of_le this (by decide)
  | .list xs, h => by
    have h1 := bg_les xs h
    have := listText_le (PyData.shownAll xs)
    show (listText (PyData.shownAll xs)).length ≤ 4 + bgBs xs
    omega
  | .tuple xs, h => by
    have h1 := bg_les xs h
    have := tupleText_le (PyData.shownAll xs)
    show (tupleText (PyData.shownAll xs)).length ≤ 4 + bgBs xs
    omega
theorem bg_les : ∀ ds : List PyData, bgOks ds = true → ((PyData.shownAll ds).map fun t => t.length + 2).sum ≤ bgBs ds
  | [], _ => Nat.le_refl _
  | d :: ds, h => by
    have h' : (bgOk d && bgOks ds) = true := h
    rw [Bool.and_eq_true] at h'
    have a1 := bg_le d h'.1
    have b1 := bg_les ds h'.2
    rw [PyData.shownAll, List.map_cons, List.sum_cons]
    show _ ≤ bgB d + 2 + bgBs ds
    omega
end
section
variable {prog : Program} {w : World} {h₀ : Heap}
theorem big_lt {i : Int} (h : i.natAbs.log2 < 12000) : i.natAbs < 10 ^ 4300 :=
  Nat.lt_of_lt_of_le (PyProof.Rows.lt_of_log2 (Nat.lt_trans h (by decide : 12000 < 12900))) PyProof.Rows.pow_lo
open PySem.Builtin PySem.Builtin.Int in
theorem call_int_big {A : Around} {E : Value → Shared → Prop} {s : Shared} {a : Int} {t : Tok} {Q : Value → Shared → Prop} (hn : s.heap.NoDigits) (ha : a.natAbs.log2 < 12000) (h1 : Q (.str (toString a) s.toks) { s with toks := s.toks + 1 }) :
    wpAny (model prog w) A (PySem.call (.builtin "int.__repr__") [.int a t]) Q E s := by
  refine wpAny_call_entry F.slot_int_repr (typeIs_int s a t) F.entry_int_repr ?_ (F.args_int_repr_1 _)
  unfold Builtin.«int.__repr__»
  show wpAny _ _ (do let r ← Builtin.overDigitLimit? a; _) _ _ s
  refine wpAny_bind (PyProof.Rows.overDigitLimit_any hn (fun hlt => ?_) (fun hge => absurd hge (Nat.not_le.mpr (big_lt ha))))
  exact wpAny_bind (wpAny_mkStr (wpAny_pure ⟨_, rfl, h1⟩) (int_text_fits10 hlt))
theorem pyReprObj_big {A : Around} {E : Value → Shared → Prop} {s : Shared} {a : Int} {t : Tok} {Q : Value → Shared → Prop} (hn : s.heap.NoDigits) (ha : a.natAbs.log2 < 12000) (h1 : Q (.str (toString a) s.toks) { s with toks := s.toks + 1 }) :
    wpAny (model prog w) A (pyReprObj (.int a t)) Q E s := by
  have hv : [Value.int a t].any Value.onHeap = false := rfl
  unfold pyReprObj
  simp only [cRoomFor, hv, Bool.false_eq_true, if_false, pure_bind]
  refine wpAny_bind (wpAny_specialOf (name := Str.ofString "__repr__") (typeIs_int s a t) F.slot_int_repr.lookup ?_)
  refine wpAny_bind (m := callSpecialIfBound? (.int a t) (Str.ofString "__repr__")) (wpAny_callSpecialIfBound?_slot (name := Str.ofString "__repr__") (typeIs_int s a t) F.slot_int_repr (call_int_big hn ha ?_))
  exact wpAny_pure h1
theorem reprK_big {i : Int} {t : Tok} {bs : List Addr} {d : Nat} (hn : h₀.NoDigits) (hi : i.natAbs.log2 < 12000) : ReprK prog w bs h₀ d (.int i t) (toString i) := fun n hb A g E s Q hg hcl hu hk hQ => by
  have hn' : n ≤ sizeLine := by omega
  rw [pyReprUnder_leaf (v := .int i t) hn' (fun _ e => nomatch e)]
  unfold pyRepr
  exact wpAny_bind (pyReprObj_big (hn.keeps hk) hi (wpAny_pure (hQ s.heap _ fun _ _ e => e)))
theorem reprs_big {n : Nat} (IH : ∀ {v : Value} {d : PyData} {as : List Addr}, d.depth ≤ n → Reads h₀ v d as → bgOk d = true → d.shown.length ≤ sizeLine → ∃ bs, ReadAtMost h₀ d.depth bs ∧ ReprK prog w bs h₀ d.depth v d.shown) :
    ∀ {ds : List PyData} {vs : List Value} {as : List Addr}, PyData.depthAll ds ≤ n → ReadsAll h₀ vs ds as → bgOks ds = true → (∀ t ∈ PyData.shownAll ds, t.length ≤ sizeLine) → ∃ bs, ReadAtMost h₀ (PyData.depthAll ds) bs ∧ ReprAllK prog w bs h₀ (PyData.depthAll ds) vs (PyData.shownAll ds)
  | [], _, _, _, r, _, _ => by
    cases r
    exact ⟨[], (fun _ h => nomatch h), by simp only [PyData.shownAll]; exact .nil⟩
  | d :: ds, _, _, hd, r, hs, hz => by
    cases r with
    | cons r rs =>
    simp only [PyData.depthAll] at hd
    have hs' : (bgOk d && bgOks ds) = true := hs
    rw [Bool.and_eq_true] at hs'
    obtain ⟨b1, hb1, k1⟩ := IH (by omega) r hs'.1 (hz _ (by simp only [PyData.shownAll]; exact List.mem_cons_self ..))
    obtain ⟨b2, hb2, k2⟩ := reprs_big IH (by omega) rs hs'.2 (fun t ht => hz t (by simp only [PyData.shownAll]; exact List.mem_cons_of_mem _ ht))
    refine ⟨b1 ++ b2, ?_, ?_⟩
    · intro b hm
      simp only [PyData.depthAll]
      rcases List.mem_append.mp hm with hm | hm
      · obtain ⟨d', as', r', hd'⟩ := hb1 b hm
        exact ⟨d', as', r', Nat.le_trans hd' (Nat.le_max_left _ _)⟩
      · obtain ⟨d', as', r', hd'⟩ := hb2 b hm
        exact ⟨d', as', r', Nat.le_trans hd' (Nat.le_max_right _ _)⟩
    · simp only [PyData.depthAll, PyData.shownAll]
      exact .cons ((k1.more fun b hb => List.mem_append_left _ hb).level_le (Nat.le_max_left _ _)) (k2.more_le (fun b hb => List.mem_append_right _ hb) (Nat.le_max_right _ _))
theorem repr_big (hn : h₀.NoDigits) : ∀ (n : Nat) {v : Value} {d : PyData} {as : List Addr}, d.depth ≤ n → Reads h₀ v d as → bgOk d = true → d.shown.length ≤ sizeLine → ∃ bs, ReadAtMost h₀ d.depth bs ∧ ReprK prog w bs h₀ d.depth v d.shown
  | 0, v, d, as, hd, r, hs, hz => by
    cases r with
    | none => exact ⟨[], (fun _ h => nomatch h), by simp only [PyData.shown]; exact .of_is ReprIs.none _ _ _⟩
    | bool b => exact ⟨[], (fun _ h => nomatch h), by simp only [PyData.shown]; exact .of_is (ReprIs.bool b) _ _ _⟩
    | int i t => exact ⟨[], (fun _ h => nomatch h), by simp only [PyData.shown]; exact reprK_big hn (of_decide_eq_true hs)⟩
    | str x t => exact ⟨[], (fun _ h => nomatch h), by simp only [PyData.shown]; exact .of_is (ReprIs.str x t (by simpa only [PyData.shown] using hz)) _ _ _⟩
    | list h1 h2 h3 h4 => simp only [PyData.depth] at hd; omega
    | tuple h1 h2 h3 h4 => simp only [PyData.depth] at hd; omega
    | dict h1 h2 h3 h4 h5 => exact nomatch hs
  | n + 1, v, d, as, hd, r, hs, hz => by
    cases r with
    | none => exact ⟨[], (fun _ h => nomatch h), by simp only [PyData.shown]; exact .of_is ReprIs.none _ _ _⟩
    | bool b => exact ⟨[], (fun _ h => nomatch h), by simp only [PyData.shown]; exact .of_is (ReprIs.bool b) _ _ _⟩
    | int i t => exact ⟨[], (fun _ h => nomatch h), by simp only [PyData.shown]; exact reprK_big hn (of_decide_eq_true hs)⟩
    | str x t => exact ⟨[], (fun _ h => nomatch h), by simp only [PyData.shown]; exact .of_is (ReprIs.str x t (by simpa only [PyData.shown] using hz)) _ _ _⟩
    | dict h1 h2 h3 h4 h5 => exact nomatch hs
    | tuple h1 h2 h3 h4 =>
      rename_i a o vs n2 xs
      have hz' : (tupleText (PyData.shownAll xs)).length ≤ sizeLine := by simpa only [PyData.shown] using hz
      obtain ⟨bs, hb, hk⟩ := reprs_big (repr_big hn n) (by simp only [PyData.depth] at hd; omega) h4 hs (fun t ht => Nat.le_trans (tupleText_mem_le ht) hz')
      have hna := not_mem_of_deeper (.tuple h1 h2 h3 h4) (by simp only [PyData.depth]; omega) hb
      refine ⟨_, ReadAtMost.cons (.tuple h1 h2 h3 h4) (by simp only [PyData.depth]; omega) hb, ?_⟩
      simp only [PyData.depth, PyData.shown]
      exact ReprK.tuple h1 h2 h3 hna hk
    | list h1 h2 h3 h4 =>
      rename_i a o vs n2 xs as2
      have hz' : (listText (PyData.shownAll xs)).length ≤ sizeLine := by simpa only [PyData.shown] using hz
      obtain ⟨bs, hb, hk⟩ := reprs_big (repr_big hn n) (by simp only [PyData.depth] at hd; omega) h4 hs (fun t ht => Nat.le_trans (listText_mem_le ht) hz')
      have hna := not_mem_of_deeper (.list h1 h2 h3 h4) (by simp only [PyData.depth]; omega) hb
      refine ⟨_, ReadAtMost.cons (.list h1 h2 h3 h4) (by simp only [PyData.depth]; omega) hb, ?_⟩
      simp only [PyData.depth, PyData.shown]
      obtain ⟨l⟩ := vs
      cases l with
      | nil =>
        have h4' : ReadsAll h₀ [] xs _ := h4
        cases h4'
        simp only [PyData.shownAll, listText_nil]
        exact ReprK.listEmpty h1 h2 h3
      | cons x l => exact ReprK.list h1 h2 h3 hna (by simpa using hk.length_eq) (fun i y e => hk.item i y (by simpa using e))
theorem call_repr_big {A : Around} {E : Value → Shared → Prop} {s : Shared} {Q : Value → Shared → Prop} {a : Addr} {d : PyData} {as : List Addr} (hn : s.heap.NoDigits) (r : Reads s.heap (.ref a) d as) (hs : bgOk d = true) (hz : d.shown.length ≤ sizeLine) (hg : A.guards = some []) (hu : A.units + (d.depth + 1) < cLine)
    (hQ : ∀ h' u tk, (∀ b o, s.heap.get? b = some o → h'.get? b = some o) → Q (.str d.shown u) { s with heap := h', toks := tk }) : wpAny (model prog w) A (PySem.call (.builtin "repr") [.ref a]) Q E s := by
  have hu1 : A.in1.units + d.depth < cLine := by show A.units + 1 + d.depth < cLine; omega
  cases r with
  | dict h1 h2 h3 h4 h5 => exact nomatch hs
  | tuple h1 h2 h3 h4 =>
    rename_i o vs n2 xs
    have hz' : (tupleText (PyData.shownAll xs)).length ≤ sizeLine := by simpa only [PyData.shown] using hz
    obtain ⟨bs, hb, hk⟩ := reprs_big (prog := prog) (w := w) (repr_big hn (PyData.depthAll xs)) (Nat.le_refl _) h4 hs (fun t ht => Nat.le_trans (tupleText_mem_le ht) hz')
    have hna := not_mem_of_deeper (.tuple h1 h2 h3 h4) (by simp only [PyData.depth]; omega) hb
    simp only [PyData.depth] at hu1
    simp only [PyData.shown] at hQ
    exact call_repr_slot (by omega) ⟨o, h1, h2⟩ F.slot_tuple_repr (call_tuple_reprK h1 h2 h3 hna hk hg (fun b _ => Clear.nil b) hu1 (fun _ _ e => e) (fun h' u tk hk' => ⟨_, _, rfl, hQ h' u tk hk'⟩) hz')
  | list h1 h2 h3 h4 =>
    rename_i o vs n2 xs as2
    have hz' : (listText (PyData.shownAll xs)).length ≤ sizeLine := by simpa only [PyData.shown] using hz
    obtain ⟨bs, hb, hk⟩ := reprs_big (prog := prog) (w := w) (repr_big hn (PyData.depthAll xs)) (Nat.le_refl _) h4 hs (fun t ht => Nat.le_trans (listText_mem_le ht) hz')
    have hna := not_mem_of_deeper (.list h1 h2 h3 h4) (by simp only [PyData.depth]; omega) hb
    simp only [PyData.depth] at hu1
    simp only [PyData.shown] at hQ
    obtain ⟨l⟩ := vs
    cases l with
    | nil =>
      have h4' : ReadsAll s.heap [] xs _ := h4
      cases h4'
      simp only [PyData.shownAll, listText_nil] at hQ
      exact call_repr_slot (by omega) ⟨o, h1, h2⟩ F.slot_list_repr.toG (call_list_repr_empty ⟨o, h1, h2⟩ h1 h3 ⟨_, _, rfl, hQ s.heap _ _ fun _ _ e => e⟩)
    | cons x l =>
      exact call_repr_slot (by omega) ⟨o, h1, h2⟩ F.slot_list_repr.toG (call_list_reprK h1 h2 h3 hna (by simpa using hk.length_eq) (fun i y e => hk.item i y (by simpa using e)) hg (fun b _ => Clear.nil b) hu1 (fun _ _ e => e) (fun h' u tk hk' => ⟨_, _, rfl, hQ h' u tk hk'⟩) hz')
end
def rReprN (K : PySem.W.Frag) : List V → Hp → VK → Prop := fun xs H Q => (∃ a d, xs = [.ref a] ∧ Dp K H (.ref a) d ∧ bgOk d = true ∧ d.depth ≤ 60 ∧ d.shown.length ≤ sizeLine ∧ Q (.str d.shown) H) ∨ (xs = [.non] ∧ Q (.str (PyData.shown .none)) H)
theorem call_reprN {X : Cx} (hg : X.A.guards = some []) (hu : X.A.units + 64 < cLine) (nd : X.base.NoDigits) : CallR X (.builtin "repr") (rReprN X.K) := by
  intro pins s σ H xs us Q I r h
  rcases h with ⟨a, d, rfl, hd, h1, h3, h4, q⟩ | ⟨rfl, q⟩
  · obtain ⟨u, rfl, ru⟩ := vals1 r
    obtain ⟨as, rd⟩ := Dp.reads I d _ u hd ru
    cases (show u = Value.ref a from ru)
    exact call_repr_big (nd.keeps I.bk) rd h1 h4 hg (by omega) (fun h' u tk hk => ⟨.str d.shown, H, I.kept hk, ⟨_, rfl⟩, q⟩)
  · obtain ⟨u, rfl, ru⟩ := vals1 r
    cases (show u = Value.none from ru)
    exact PySem.P.repr_of_none ⟨.str (PyData.shown .none), H, I.kept (fun _ _ e => e), ⟨_, rfl⟩, q⟩
theorem ev_shownN {K : PySem.W.Frag} {σ : L2.St} {H : Hp} {ta : TE} {d : PyData} (ha : EvD K ta σ H d) (hr : d ≠ .none → ∀ v H1, Dp K H1 v d → ∃ a, v = .ref a) (h1 : bgOk d = true) (h2 : bgB d ≤ 4000000) (h3 : d.depth ≤ 60) : Ev (tCB (rReprN K) (tCons ta tNil)) σ H (.str d.shown) := fun H1 e Q q =>
  ha H1 e _ fun v H2 e2 hd => by
    by_cases z : d = .none
    · subst z
      cases hd
      exact .inr ⟨rfl, q H2 e2⟩
    · obtain ⟨a, rfl⟩ := hr z v H2 hd
      exact .inl ⟨a, d, rfl, hd, h1, h3, Nat.le_trans (bg_le d h1) (Nat.le_trans h2 (by decide)), q H2 e2⟩

/-! ### further loops: reversed(a list), range(n - 1, -1, -1), a new tuple -/
section
variable {K : PySem.W.Frag} {σ : L2.St} {H H' : Hp} {D : Ends} {tz tu : TS} {te tl : TE} {g : TG}
theorem s_break (h : D.bk σ H) : tBreak D σ H := h
theorem q_forRev {a : Addr} {xs : List V} {tr : TA} {j : Nat} (h : EvA tr σ H [.ref a]) (hS : SqL K H a xs) (Pv : Nat → L2.St → Hp → Prop) (h0 : ∀ H1, Ex H H1 → Pv 0 σ H1) (hl : ∀ i σ' H', Pv i σ' H' → SqL K H' a xs)
    (hs : ∀ (i : Nat) x σ' H', i < xs.length → xs[xs.length - 1 - i]? = some x → Pv i σ' H' → tu { D with nx := Pv (i + 1), ct := Pv (i + 1), bk := tz D } (σ'.set j (some x)) H') (hd : ∀ σ' H', Pv xs.length σ' H' → tz D σ' H') : tSeq (tFor (iRev K tr) (gName j) tu) tz D σ H :=
  h H (Ex.refl H) _ fun H1 e => ⟨a, xs, rfl, ex_l e hS, RT.for_Itv (D := { D with nx := tz D }) Pv (h0 H1 e) hl hs hd⟩
theorem s_forDown {tr : TA} {j n : Nat} (h : EvA tr σ H [.int ((n : Int) - 1), .int (-1), .int (-1)]) (hn : n ≤ 100000) (Pv : Nat → L2.St → Hp → Prop) (h0 : ∀ H1, Ex H H1 → Pv 0 σ H1)
    (hs : ∀ (i : Nat) σ' H', i < n → Pv i σ' H' → tu { D with nx := Pv (i + 1), ct := Pv (i + 1), bk := D.nx } (σ'.set j (some (.int (((n - 1 - i : Nat) : Int))))) H') (hd : ∀ σ' H', Pv n σ' H' → D.nx σ' H') : tFor (iRng3 tr) (gName j) tu D σ H := by
  refine h H (Ex.refl H) _ fun H1 e => ⟨(n : Int) - 1, -1, -1, ((n : Int) - 1 - (-1)).toNat, rfl, RgC.neg (by omega) (by omega) (by omega) (by omega), for_rangeC Pv (h0 H1 e) (fun i σ' H' hi p => ?_) fun σ' H' p => hd σ' H' ?_⟩
  · have e0 : (n : Int) - 1 + (i : Nat) * (-1) = ((n - 1 - i : Nat) : Int) := by omega
    show tu { D with nx := Pv (i + 1), ct := Pv (i + 1), bk := D.nx } (σ'.set j (some (.int ((n : Int) - 1 + (i : Nat) * (-1))))) H'
    rw [e0]
    exact hs i σ' H' (by omega) p
  · rw [show ((n : Int) - 1 - (-1)).toNat = n by omega] at p
    exact p
theorem q_forDown {tr : TA} {j n : Nat} (h : EvA tr σ H [.int ((n : Int) - 1), .int (-1), .int (-1)]) (hn : n ≤ 100000) (Pv : Nat → L2.St → Hp → Prop) (h0 : ∀ H1, Ex H H1 → Pv 0 σ H1)
    (hs : ∀ (i : Nat) σ' H', i < n → Pv i σ' H' → tu { D with nx := Pv (i + 1), ct := Pv (i + 1), bk := tz D } (σ'.set j (some (.int (((n - 1 - i : Nat) : Int))))) H') (hd : ∀ σ' H', Pv n σ' H' → tz D σ' H') : tSeq (tFor (iRng3 tr) (gName j) tu) tz D σ H :=
  s_forDown (D := { D with nx := tz D }) h hn Pv h0 hs hd
/-- over a new tuple: the turns' word speaks of what grows out of H1 -/
theorem q_forU {xs : List V} {j : Nat} (h : EvU tl σ H xs) (Pv : Nat → L2.St → Hp → Prop) (h0 : Pv 0 σ H) (hm : ∀ i σ' H1 H2, Pv i σ' H1 → Ex H1 H2 → Pv i σ' H2)
    (hs : ∀ i x σ' H1, xs[i]? = some x → Pv i σ' H1 → ∀ N : L2.St → Hp → Prop, (∀ σ2 H2, Pv (i + 1) σ2 H2 → Ex H1 H2 → N σ2 H2) → tu { D with nx := N, ct := N, bk := tz D } (σ'.set j (some x)) H1) (hd : ∀ σ' H', Pv xs.length σ' H' → tz D σ' H') : tSeq (tFor (iTup K tl) (gName j) tu) tz D σ H :=
  h H (Ex.refl H) _ fun p H1 hp e h1 => ⟨p, rfl, ⟨xs, st_of h1⟩, for_tup (D := { D with nx := tz D }) (fun i σ' H' => Pv i σ' H' ∧ H' p = some (.tup xs)) ⟨hm _ _ _ _ h0 e, h1⟩ (fun i σ' H' _ q => st_of q.2)
    (fun i x σ' H' hx q => hs i x σ' H' hx q.1 _ fun σ2 H2 q2 e2 => ⟨q2, e2 _ _ q.2⟩) fun σ' H' q => hd σ' H' q.1⟩
end

def limV (n : Int) : V := if -1000000000000000 ≤ n ∧ n ≤ 1000000000000000 then .int n else .non
/-! ### the mathematics: digits -/
abbrev dval : List Nat → Nat := NumText.digitsVal
def isD (c : Nat) : Bool := decide (48 ≤ c) && decide (c ≤ 57)
def digs (l : List Nat) : Bool := !l.isEmpty && l.all isD
theorem uni_dig : ∀ c : Fin 128, Unicode.isDigit c.1 = isD c.1 := by decide +kernel
theorem all_dig : ∀ l : List Nat, (l.all Unicode.isDigit && l.all fun c => decide (c < 128)) = l.all isD
  | [] => rfl
  | c :: r => by
    have ih := all_dig r
    rw [List.all_cons, List.all_cons, List.all_cons, ← ih]
    by_cases h : c < 128
    · rw [decide_eq_true h, show Unicode.isDigit c = isD c from uni_dig ⟨c, h⟩]
      cases isD c <;> cases r.all Unicode.isDigit <;> simp
    · have : isD c = false := by
        unfold isD
        rw [decide_eq_false (show ¬ c ≤ 57 by omega), Bool.and_false]
      rw [this, decide_eq_false h]
      simp
theorem digs_txt (l : List Nat) : (Txt.isdigit (SX.S l) && Txt.isascii (SX.S l)) = digs l := by
  unfold Txt.isdigit Txt.isascii digs
  rw [SX.S_len, show (SX.S l).cps.all Unicode.isDigit = l.all Unicode.isDigit from List.all_toArray, show ((SX.S l).cps.all fun c => decide (c < 128)) = l.all fun c => decide (c < 128) from List.all_toArray, Bool.and_assoc, all_dig]
  cases l <;> rfl
theorem mem_dig {l : List Nat} (h : l.all isD = true) : NumText.AllDigits l := fun c hc => by
  have := List.all_eq_true.mp h c hc
  unfold isD at this
  rw [Bool.and_eq_true, decide_eq_true_eq, decide_eq_true_eq] at this
  exact this
theorem fold_app (l : List Nat) : ∀ a : Nat, l.foldl (fun acc c => acc * 10 + (c - 48)) a = a * 10 ^ l.length + dval l := by
  induction l with
  | nil => intro a; simp [dval, NumText.digitsVal]
  | cons c r ih =>
    intro a
    show r.foldl _ (a * 10 + (c - 48)) = _ + r.foldl _ (0 * 10 + (c - 48))
    rw [ih, ih, List.length_cons, Nat.pow_succ, Nat.add_mul, Nat.zero_mul, Nat.zero_add, Nat.mul_assoc, Nat.mul_comm 10, Nat.add_assoc]
theorem dval_app (l r : List Nat) : dval (l ++ r) = dval l * 10 ^ r.length + dval r := by
  show (l ++ r).foldl _ 0 = _
  rw [List.foldl_append, fold_app]
  rfl
theorem dval_cons (c : Nat) (r : List Nat) : dval (c :: r) = (c - 48) * 10 ^ r.length + dval r := by
  have := dval_app [c] r
  rw [show dval [c] = c - 48 from by show 0 * 10 + (c - 48) = _; omega] at this
  exact this
theorem dval_lt : ∀ l : List Nat, l.all isD = true → dval l < 10 ^ l.length
  | [], _ => by decide
  | c :: r, h => by
    rw [List.all_cons, Bool.and_eq_true] at h
    have ih := dval_lt r h.2
    have hc := mem_dig (l := [c]) (by rw [List.all_cons, h.1]; rfl) c (List.mem_singleton.mpr rfl)
    rw [dval_cons, List.length_cons, Nat.pow_succ]
    have : (c - 48) * 10 ^ r.length ≤ 9 * 10 ^ r.length := Nat.mul_le_mul_right _ (by omega)
    omega
def noZ (l : List Nat) : List Nat := l.dropWhile (fun c => c == 48)
theorem dval_noZ : ∀ l : List Nat, dval (noZ l) = dval l
  | [] => rfl
  | c :: r => by
    unfold noZ
    rw [List.dropWhile_cons]
    split
    · rename_i h
      rw [show List.dropWhile (fun c => c == 48) r = noZ r from rfl, dval_noZ r, dval_cons, beq_iff_eq.mp h, Nat.sub_self, Nat.zero_mul, Nat.zero_add]
    · rfl
theorem all_noZ : ∀ {l : List Nat}, l.all isD = true → (noZ l).all isD = true
  | [], _ => rfl
  | c :: r, h => by
    unfold noZ
    rw [List.dropWhile_cons]
    split
    · exact all_noZ (by rw [List.all_cons, Bool.and_eq_true] at h; exact h.2)
    · exact h
theorem noZ_len (l : List Nat) : (noZ l).length ≤ l.length := (List.dropWhile_suffix _).length_le
/-- more than sixteen digits behind the zeros: beyond every limit -/
theorem noZ_big {l : List Nat} (h : l.all isD = true) (hl : 16 < (noZ l).length) : 10 ^ 16 ≤ dval l := by
  have ha := all_noZ h
  rw [← dval_noZ]
  have hd : ∀ c r, noZ l = c :: r → ¬ c = 48 := fun c r e hc => by
    have := List.head?_dropWhile_not (fun c => c == 48) l
    rw [show List.dropWhile (fun c => c == 48) l = c :: r from e] at this
    simp [hc] at this
  generalize noZ l = z at *
  cases z with
  | nil => simp at hl
  | cons c r =>
    have hc := mem_dig (l := [c]) (by rw [List.all_cons, Bool.and_eq_true] at ha; rw [List.all_cons, ha.1]; rfl) c (List.mem_singleton.mpr rfl)
    have hn := hd c r rfl
    rw [dval_cons]
    have h1 : 10 ^ 16 ≤ 10 ^ r.length := Nat.pow_le_pow_right (by decide) (by simp at hl; omega)
    have h2 : 1 * 10 ^ r.length ≤ (c - 48) * 10 ^ r.length := Nat.mul_le_mul_right _ (by omega)
    omega
theorem con48 : (SX.S [48]).cps.contains = fun c => c == 48 := by
  funext c
  show (#[48] : Array Nat).contains c = _
  rw [Bool.eq_iff_iff]
  simp
theorem tl_S (l : List Nat) : TL.tl (SX.S l) = l := TL.tl_mk l
theorem lstrip_S (l : List Nat) : Txt.lstripChars (SX.S l) (SX.S [48]) = SX.S (noZ l) := by
  unfold Txt.lstripChars
  rw [PySem.W.stripBy_eq, con48]
  apply TL.ext_tl
  unfold PySem.W.stripped
  simp only [if_true, Bool.false_eq_true, if_false]
  rw [TL.tl_strSub, TL.len_tl, tl_S, tl_S]
  show List.take _ (List.drop (List.takeWhile (fun c => c == 48) l).length l) = _
  have e : List.drop (List.takeWhile (fun c => c == 48) l).length l = noZ l := by
    have h := List.takeWhile_append_dropWhile (p := fun c => c == 48) (l := l)
    conv => lhs; arg 2; rw [← h]
    rw [List.drop_left]
    rfl
  rw [e]
  apply List.take_of_length_le
  have h := congrArg List.length (List.takeWhile_append_dropWhile (p := fun c => c == 48) (l := l))
  rw [List.length_append] at h
  have : (noZ l).length = (List.dropWhile (fun c => c == 48) l).length := rfl
  omega
/-- without zeros at the end -/
def noE (l : List Nat) : List Nat := (noZ l.reverse).reverse
theorem rstrip_S (l : List Nat) : Txt.rstripChars (SX.S l) (SX.S [48]) = SX.S (noE l) := by
  unfold Txt.rstripChars
  rw [PySem.W.stripBy_eq, con48]
  apply TL.ext_tl
  unfold PySem.W.stripped
  simp only [if_true, Bool.false_eq_true, if_false]
  rw [TL.tl_strSub, SX.S_len, tl_S, tl_S]
  show List.take (l.length - (List.takeWhile (fun c => c == 48) (List.drop 0 l).reverse).length - 0) (List.drop 0 l) = _
  rw [List.drop_zero, Nat.sub_zero]
  have h := List.takeWhile_append_dropWhile (p := fun c => c == 48) (l := l.reverse)
  have h2 : l = noE l ++ (List.takeWhile (fun c => c == 48) l.reverse).reverse := by
    have := congrArg List.reverse h
    rw [List.reverse_append, List.reverse_reverse] at this
    exact this.symm
  have h3 := congrArg List.length h2
  rw [List.length_append, List.length_reverse] at h3
  conv => lhs; arg 2; rw [h2]
  rw [show l.length - (List.takeWhile (fun c => c == 48) l.reverse).length = (noE l).length by omega, List.take_left]
theorem starts_S (l : List Nat) : Txt.startswith (SX.S l) (SX.S [45]) = decide (l.head? = some 45) := by
  cases l with
  | nil => rfl
  | cons c r =>
    unfold Txt.startswith
    rw [SX.S_len, SX.S_len, decide_eq_true (by simp), Bool.true_and]
    rw [Bool.eq_iff_iff, decide_eq_true_eq]
    show Builtin.Str.subAt (SX.S (c :: r)) (SX.S [45]) 0 = true ↔ some c = some 45
    unfold Builtin.Str.subAt
    simp
    show List.take 1 (c :: r) = [45] ↔ c = 45
    simp
/-- the text without a minus sign in front -/
def noM (l : List Nat) : List Nat := if l.head? = some 45 then l.drop 1 else l
def sgI (l : List Nat) (n : Nat) : Int := if l.head? = some 45 then -(n : Int) else (n : Int)
def rdI (l : List Nat) : V := if digs (noM l) = true then limV (sgI l (dval (noM l))) else .non
theorem numL_pad {r : Nat} (h : r < 10000) : List.replicate (4 - (TL.numL r).length) 48 ++ TL.numL r = [48 + r / 1000, 48 + r / 100 % 10, 48 + r / 10 % 10, 48 + r % 10] := by
  by_cases h1 : r < 10
  · rw [TL.numL_lt h1, show r / 1000 = 0 by omega, show r / 100 = 0 by omega, show r / 10 = 0 by omega, show r % 10 = r by omega]
    rfl
  by_cases h2 : r < 100
  · rw [TL.numL_step (by omega), TL.numL_lt (by omega), show r / 1000 = 0 by omega, show r / 100 = 0 by omega, show r / 10 % 10 = r / 10 by omega]
    rfl
  by_cases h3 : r < 1000
  · rw [TL.numL_step (by omega), TL.numL_step (by omega), TL.numL_lt (by omega), show r / 1000 = 0 by omega, show r / 10 / 10 = r / 100 by omega, show r / 100 % 10 = r / 100 by omega]
    rfl
  · rw [TL.numL_step (by omega), TL.numL_step (by omega), TL.numL_step (by omega), TL.numL_lt (by omega), show r / 10 / 10 / 10 = r / 1000 by omega, show r / 10 / 10 = r / 100 by omega]
    rfl
def four (r : Nat) : List Nat := [48 + r / 1000, 48 + r / 100 % 10, 48 + r / 10 % 10, 48 + r % 10]
theorem zfill_S {r : Nat} (h : r < 10000) : Txt.zfill (SX.S (TL.numL r)) 4 = SX.S (four r) := by
  unfold Txt.zfill four
  rw [← numL_pad h, SX.S_len]
  split
  · rename_i hl
    rw [show 4 - (TL.numL r).length = 0 by omega]
    rfl
  · unfold zfilled
    have hd := TL.numL_digits r
    cases e : TL.numL r with
    | nil => exact absurd e (TL.numL_ne r)
    | cons c t =>
      have hc := hd c (by rw [e]; exact List.mem_cons_self)
      have eg : (SX.S (c :: t)).cps[0]? = some c := rfl
      have e43 : ¬ c = 43 := by omega
      have e45 : ¬ c = 45 := by omega
      rw [eg]
      split
      · rename_i h; exact absurd (Option.some.inj h) e43
      · rename_i h; exact absurd (Option.some.inj h) e45
      · rw [Builtin.Str.padded.eq_1]
        apply TL.ext_tl
        rw [tl_S]
        show ((Array.replicate _ 48 ++ (SX.S (c :: t)).cps ++ Array.replicate 0 0) : Array Nat).toList = _
        simp [SX.S]
def dtx (n : Int) : List Nat := (if n < 0 then [45] else []) ++ (TL.numL (n.natAbs / 10000) ++ (if n.natAbs % 10000 = 0 then [] else 46 :: noE (four (n.natAbs % 10000))))

/-! ### texts as lists of codes: further words -/
theorem c48 : PySem.Str.ofString "0" = SX.S [48] := by decide +kernel
theorem c45 : PySem.Str.ofString "-" = SX.S [45] := by decide +kernel
theorem c46 : PySem.Str.ofString "." = SX.S [46] := by decide +kernel
theorem c00 : PySem.Str.ofString "" = SX.S [] := by decide +kernel
theorem mt_ljustF {X : Cx} : MtR X "str.ljust" fun x xs H Q => ∃ (a f : Str) (i : Int), x = .str a ∧ xs = [.int i, .str f] ∧ PadOk i = true ∧ f.length = 1 ∧ Q (.str (Txt.ljustF a i (f.cps.getD 0 0))) H := by
  intro pins s σ H x xs v us Q I rx rv h
  obtain ⟨a, f, i, rfl, rfl, hp, hf, q⟩ := h
  obtain ⟨t, rfl⟩ := (show ∃ t, v = Value.str a t from rx)
  cases rv with
  | cons r1 rv =>
    cases rv with
    | cons r2 rv =>
      cases rv
      obtain ⟨u, rfl⟩ := r1
      obtain ⟨u2, rfl⟩ := r2
      exact ljust_fill hp hf fun t' k => ⟨.str _, H, I.tok k, ⟨t', rfl⟩, q⟩
section
variable {K : PySem.W.Frag} {σ : L2.St} {H : Hp} {D : Ends} {te ta tl th tb : TE}
theorem ev_m0 {r : V → List V → Hp → VK → Prop} {a : Str} {z : V} (h : Ev ta σ H (.str a)) (hr : ∀ H1 Q, (∀ H2, Ex H1 H2 → Q z H2) → r (.str a) [] H1 Q) : Ev (tM0 r ta) σ H z := fun H1 e Q q => h H1 e _ fun H2 e2 => ⟨⟨_, rfl⟩, hr H2 Q fun H3 e3 => q H3 (e2.trans e3)⟩
theorem ev_m1 {r : V → List V → Hp → VK → Prop} {a : Str} {y z : V} (h : Ev ta σ H (.str a)) (hb : Ev tb σ H y) (hr : ∀ H1 Q, (∀ H2, Ex H1 H2 → Q z H2) → r (.str a) [y] H1 Q) : Ev (tM1 r ta tb) σ H z := fun H1 e Q q =>
  h H1 e _ fun H2 e2 => ⟨⟨_, rfl⟩, hb H2 (e.trans e2) _ fun H3 e3 => hr H3 Q fun H4 e4 => q H4 ((e2.trans e3).trans e4)⟩
theorem ev_bmS {r : V → List V → Hp → VK → Prop} {a : Str} {z : V} {tr : TA} {ys : List V} (h : Ev ta σ H (.str a)) (hb : EvA tr σ H ys) (hr : ∀ H1 Q, (∀ H2, Ex H1 H2 → Q z H2) → r (.str a) ys H1 Q) : Ev (tBM K "str" r ta tr) σ H z := fun H1 e Q q =>
  h H1 e _ fun H2 e2 => ⟨rfl, hb H2 (e.trans e2) _ fun H3 e3 => hr H3 Q fun H4 e4 => q H4 ((e2.trans e3).trans e4)⟩
theorem ev_intS {a : Str} {n : Int} (h : Ev ta σ H (.str a)) (hn : intText? a = some n) (hl : a.length ≤ 640) : Ev (tCB (fun xs H Q => ∃ a n, xs = [.str a] ∧ intText? a = some n ∧ a.length ≤ 640 ∧ Q (.int n) H) (tCons ta tNil)) σ H (.int n) := fun H1 e Q q =>
  h H1 e _ fun H2 e2 => ⟨a, n, rfl, hn, hl, q H2 e2⟩
theorem ev_slF {to : TO} {l : List Nat} {i : Nat} (ha : Ev ta σ H (.str (SX.S l))) (hl : Ev tl σ H (.int (i : Int))) (hn : ∀ σ H Q, Q none H → to σ H Q) (hz : l.length ≤ 100000) : Ev (tSl C8.rSlX ta (tPart tl) to) σ H (.str (SX.S (l.drop i))) := fun H1 e Q q =>
  ha H1 e _ fun H2 e2 => hl H2 (e.trans e2) _ fun H3 e3 => ⟨_, rfl, hn _ _ _ ⟨SX.S l, rfl, by rw [SX.S_len]; exact sz_of hz, by rw [SX.slice_from (by omega), Int.toNat_natCast]; exact q H3 (e2.trans e3)⟩⟩
theorem eu_part {a b : Str} (ha : Ev ta σ H (.str a)) (hb : Ev tb σ H (.str b)) (h1 : (b.length == 0) = false) (hz : a.length ≤ 100000) : EvU (tM1 (fun x xs H Q => ∃ a b, x = .str a ∧ xs = [.str b] ∧ (b.length == 0) = false ∧ a.length ≤ sizeLine ∧ ∀ p, H p = none → Q (.ref p) (upd H p (.tup [.str (Txt.partition a b).1, .str (Txt.partition a b).2.1, .str (Txt.partition a b).2.2]))) ta tb) σ H [.str (Txt.partition a b).1, .str (Txt.partition a b).2.1, .str (Txt.partition a b).2.2] := fun H1 e Q q =>
  ha H1 e _ fun H2 e2 => ⟨⟨_, rfl⟩, hb H2 (e.trans e2) _ fun H3 e3 => ⟨a, b, rfl, rfl, h1, sz_of hz, fun p hp => q p _ (fresh_back (e2.trans e3) hp) ((e2.trans e3).trans (Ex.new hp)) upd_same⟩⟩
end
theorem js_str {t : TE} {ts : List TE} {acc y : Str} {σ : L2.St} {H : Hp} {Q : Str → Hp → Prop} (h : Ev t σ H (.str y)) (hz : (acc ++ y).length ≤ 100000) (k : ∀ H1, Ex H H1 → tJs ts (acc ++ y) σ H1 Q) : tJs (t :: ts) acc σ H Q := h H (Ex.refl H) _ fun H1 e1 => ⟨y, rfl, sz_of hz, k H1 e1⟩
theorem pre1 {c : Nat} {l : List Nat} {i : Nat} : TL.pre [c] (l.drop i) = true ↔ l[i]? = some c := by
  by_cases h : i < l.length
  · rw [List.drop_eq_getElem_cons h, List.getElem?_eq_getElem h]
    constructor
    · intro e
      by_cases e2 : l[i] = c
      · rw [e2]
      · rw [TL.pre_of_head [] _ e2] at e
        exact nomatch e
    · intro e
      rw [Option.some.inj e]
      exact TL.pre_self [c] _
  · rw [List.drop_eq_nil_of_le (by omega), List.getElem?_eq_none (by omega), TL.pre_nil (List.cons_ne_nil _ _)]
    simp
theorem find1 (l : List Nat) (c : Nat) : (Txt.find (SX.S l) (SX.S [c]) = -1 ∧ ∀ i : Nat, ¬ l[i]? = some c) ∨ ∃ i : Nat, Txt.find (SX.S l) (SX.S [c]) = (i : Int) ∧ l[i]? = some c ∧ ∀ k : Nat, k < i → ¬ l[k]? = some c := by
  have ha : ∀ i, StrLaws.At (SX.S l) (SX.S [c]) (SX.S l).length i ↔ l[i]? = some c := fun i => by
    rw [TL.at_iff (by rw [tl_S]; exact List.cons_ne_nil _ _), tl_S, tl_S, pre1]
  rcases StrLaws.occ_head (SX.S l) (SX.S [c]) 1 (Nat.le_refl 1) with ⟨h1, h2⟩ | ⟨i, r, h1, h2, h3⟩
  · refine .inl ⟨?_, fun i h => h2 i ((ha i).mpr h)⟩
    unfold Txt.find
    rw [h1]
  · refine .inr ⟨i, ?_, (ha i).mp h2, fun k hk h => h3 k hk ((ha k).mpr h)⟩
    unfold Txt.find
    rw [h1]
def tenL : List Nat := [48, 49, 50, 51, 52, 53, 54, 55, 56, 57]
theorem cTen : PySem.Str.ofString "0123456789" = SX.S tenL := by decide +kernel
theorem ten_at {i : Nat} (h : i < 10) : tenL[i]? = some (48 + i) := by
  have : ∀ i : Fin 10, tenL[i.1]? = some (48 + i.1) := by decide
  exact this ⟨i, h⟩
theorem ten_in {i c : Nat} (h : tenL[i]? = some c) : c = 48 + i ∧ i < 10 := by
  have hi : i < 10 := (List.getElem?_eq_some_iff.mp h).1
  rw [ten_at hi] at h
  exact ⟨(Option.some.inj h).symm, hi⟩
theorem find_ten (c : Nat) : (isD c = false ∧ Txt.find (SX.S tenL) (SX.S [c]) = -1) ∨ (isD c = true ∧ Txt.find (SX.S tenL) (SX.S [c]) = ((c - 48 : Nat) : Int)) := by
  rcases find1 tenL c with ⟨h1, h2⟩ | ⟨i, h1, h2, _⟩
  · refine .inl ⟨?_, h1⟩
    cases h : isD c with
    | false => rfl
    | true =>
      unfold isD at h
      rw [Bool.and_eq_true, decide_eq_true_eq, decide_eq_true_eq] at h
      exact absurd (by rw [ten_at (by omega), show 48 + (c - 48) = c by omega]) (h2 (c - 48))
  · obtain ⟨e, hi⟩ := ten_in h2
    refine .inr ⟨?_, by rw [h1, show c - 48 = i by omega]⟩
    unfold isD
    rw [decide_eq_true (by omega), decide_eq_true (by omega)]
    rfl
section
variable {σ : L2.St} {H : Hp} {ta tb tl : TE} {K : PySem.W.Frag}
theorem ev_ixN {xs : List V} {i : Int} {v : V} (ha : EvL ta σ H xs) (hb : Ev tb σ H (.int i)) (hi : atI xs i = some v) : Ev (tOp (rIxL K) ta tb) σ H v := fun H1 e Q q =>
  ha H1 e _ fun p H2 hp e2 h2 => hb H2 (e.trans e2) _ fun H3 e3 => rv_ixL (sq_of (e3 _ _ h2)) hi H3 (Ex.refl H3) Q fun H4 e4 => q H4 ((e2.trans e3).trans e4)
theorem ev_ten {i : Nat} (h : i < 10) (hb : Ev tb σ H (.int (i : Int))) : Ev (tOp rIxS (tC (.str (PySem.Str.ofString "0123456789"))) tb) σ H (.str (SX.S [48 + i])) :=
  ev_op (x := .str (SX.S tenL)) (ev_is ev_c (by rw [cTen])) hb (rv_ixS (by decide) (atI_nat (ten_at h)))
theorem ev_slT {to : TO} {l : List Nat} {i : Nat} (ha : Ev ta σ H (.str (SX.S l))) (hn : ∀ σ H Q, Q none H → to σ H Q) (hl : Ev tl σ H (.int (i : Int))) (hz : l.length ≤ 100000) : Ev (tSl C8.rSlX ta to (tPart tl)) σ H (.str (SX.S (l.take i))) := fun H1 e Q q =>
  ha H1 e _ fun H2 e2 => hn _ _ _ (hl H2 (e.trans e2) _ fun H3 e3 => ⟨_, rfl, SX.S l, rfl, by rw [SX.S_len]; exact sz_of hz, by rw [SX.slice_to (by omega), Int.toNat_natCast]; exact q H3 (e2.trans e3)⟩)
end
theorem ev_lenX {σ : L2.St} {H : Hp} {ta : TE} {w : List Nat} (ha : Ev ta σ H (.str (SX.S w))) (hz : w.length ≤ 100000) : Ev (tCB (fun xs H Q => ∃ z, xs = [.str z] ∧ z.length ≤ sizeLine ∧ Q (.int z.length) H) (tCons ta tNil)) σ H (.int (w.length : Int)) :=
  ev_is (ev_lenS ha (by rw [SX.S_len]; exact hz)) (by rw [SX.S_len])
section
variable {K : PySem.W.Frag} {σ : L2.St} {H : Hp} {ta tb : TE}
theorem ev_cat {a b : Str} (ha : Ev ta σ H (.str a)) (hb : Ev tb σ H (.str b)) (h : a.length + b.length ≤ 100000) : Ev (tOp (fun x y H Q => ∃ i j, x = .str i ∧ y = .str j ∧ i.length + j.length ≤ sizeLine ∧ Q (.str (i ++ j)) H) ta tb) σ H (.str (a ++ b)) := fun H1 e Q q =>
  ha H1 e _ fun H2 e2 => hb H2 (e.trans e2) _ fun H3 e3 => ⟨a, b, rfl, rfl, sz_of h, q H3 (e2.trans e3)⟩
end
section
variable {σ : L2.St} {H : Hp} {D : Ends} {tz : TS} {te : TE}
theorem q_forX {tu : TS} {j : Nat} {w : List Nat} (h : Ev te σ H (.str (SX.S w))) (Pv : Nat → L2.St → Hp → Prop) (h0 : ∀ H1, Ex H H1 → Pv 0 σ H1)
    (hs : ∀ (i : Nat) (c : Nat) σ' H', w[i]? = some c → Pv i σ' H' → tu { nx := Pv (i + 1), rt := D.rt, bk := tz D, ct := Pv (i + 1) } (σ'.set j (some (.str ⟨#[c]⟩))) H')
    (hd : ∀ σ' H', Pv w.length σ' H' → tz D σ' H') : tSeq (tFor (iStr te) (gName j) tu) tz D σ H := by
  have ec : ∀ i, (SX.S w).cps[i]? = w[i]? := fun i => List.getElem?_toArray
  have es : (SX.S w).cps.size = w.length := List.size_toArray
  refine h H (Ex.refl H) _ fun H1 e1 => ⟨SX.S w, rfl, fun i m σ' H' => Pv i σ' H' ∧ i ≤ w.length ∧ w.length - i ≤ m, ⟨_, h0 H1 e1, Nat.zero_le _, Nat.le_refl _⟩, fun i m σ' H' p => ?_⟩
  obtain ⟨p, hi, hm⟩ := p
  by_cases hlt : i < w.length
  · refine .inr ⟨by show i < (SX.S w).cps.size; omega, fun σ2 H2 => Pv (i + 1) σ2 H2, fun σ2 H2 q => ⟨m - 1, by omega, q, hlt, by omega⟩, ?_⟩
    rintro x H2 ⟨rfl, c, hc, rfl⟩
    rw [ec] at hc
    exact hs i c σ' _ hc p
  · refine .inl ⟨by show (SX.S w).cps.size ≤ i; omega, ?_⟩
    rw [show i = w.length by omega] at p
    exact hd _ _ p
theorem q_callG {sp : Sp} {dvs vs : List V} {E : XK} {tr : TA} {g : TG} (h : EvA tr σ H vs) (k : ∀ H1, Ex H H1 → sp (vs ++ dvs) H1 (fun x H2 => g x σ H2 (tz D)) E) : tSeq (tAsg (tCall sp dvs E tr) g) tz D σ H := h H (Ex.refl H) _ fun H1 e1 => k H1 e1
end
theorem slice_mid {a : List Nat} {i j : Nat} (h : i ≤ j) (hj : j ≤ a.length) : Txt.slice (SX.S a) (some (i : Int)) (some (j : Int)) = SX.S ((a.drop i).take (j - i)) := by
  rw [← C8.cutS_slice]
  unfold cutS
  rw [SX.S_len, HT.sIx_nat, HT.sIx_nat, Nat.min_eq_left hj, Nat.min_eq_left (show i ≤ a.length by omega)]
theorem ev_slM {σ : L2.St} {H : Hp} {ta tl th : TE} {l : List Nat} {i j : Nat} (ha : Ev ta σ H (.str (SX.S l))) (hl : Ev tl σ H (.int (i : Int))) (hh : Ev th σ H (.int (j : Int))) (h : i ≤ j) (hj : j ≤ l.length) (hz : l.length ≤ 100000) : Ev (tSl C8.rSlX ta (tPart tl) (tPart th)) σ H (.str (SX.S ((l.drop i).take (j - i)))) := fun H1 e Q q =>
  ha H1 e _ fun H2 e2 => hl H2 (e.trans e2) _ fun H3 e3 => ⟨_, rfl, hh H3 ((e.trans e2).trans e3) _ fun H4 e4 => ⟨_, rfl, SX.S l, rfl, by rw [SX.S_len]; exact sz_of hz, by rw [slice_mid h hj]; exact q H4 ((e2.trans e3).trans e4)⟩⟩
theorem q_par2 {σ : L2.St} {H : Hp} {ta : TA} {D : Ends} {tz : TS} {i j : Nat} {x y : V} (h : EvA ta σ H [x, y]) (k : ∀ H1, Ex H H1 → tz D ((σ.set i (some x)).set j (some y)) H1) : tSeq (tPar i j ta) tz D σ H := h H (Ex.refl H) _ fun H1 e => ⟨x, y, rfl, k H1 e⟩
theorem q_par3 {σ : L2.St} {H : Hp} {ta : TA} {D : Ends} {tz : TS} {i j l : Nat} {x y z : V} (h : EvA ta σ H [x, y, z]) (k : ∀ H1, Ex H H1 → tz D (((σ.set i (some x)).set j (some y)).set l (some z)) H1) : tSeq (tPar3 i j l ta) tz D σ H := h H (Ex.refl H) _ fun H1 e => ⟨x, y, z, rfl, k H1 e⟩

/-! ### dicts of whole numbers, written at the top -/
def DInts (K : PySem.W.Frag) (p : Addr) (l : List (String × Int)) : Prop := ∀ kv ∈ l, ∃ t, PySem.W.nsIn K p (Str.ofString kv.1) = some (some (.int kv.2 t))
theorem DInts.nil {K : PySem.W.Frag} {p : Addr} : DInts K p [] := fun _ h => nomatch h
theorem DInts.cons {K : PySem.W.Frag} {p : Addr} {k : String} {n : Int} {t : Tok} {l : List (String × Int)} (e : PySem.W.nsIn K p (Str.ofString k) = some (some (.int n t))) (h : DInts K p l) : DInts K p ((k, n) :: l) := fun kv hk => by
  rcases List.mem_cons.mp hk with z | z
  · rw [z]; exact ⟨t, e⟩
  · exact h kv z
open PySem.AutoSeq1 in
/-- xs.extend(a tuple) -/
theorem list_extend_tupG (l : Addr) (items : Array Value) (n : Nat) (b : Addr) (o2 : Obj) (items2 : Array Value) (n2 : Nat) (hc : o2.cls = .type "tuple") (hd : o2.data = .seq items2 n2) (hs0 : ¬(!items.isEmpty && Builtin.List.listTooLong (items.size + items2.size)) = true) (hs1 : items.size ≤ sizeLine) (hs2 : items.size + items2.size ≤ sizeLine + 1) :
    Meets (Builtin.«list.extend» ⟨[.ref l, .ref b], []⟩) (fun _ R s => s.heap.get? l = some { cls := .type "list", dict := none, data := .seq items n, slots := #[] } ∧ s.heap.get? b = some o2 ∧ R (.ok (.ret Value.none)) { s with heap := s.heap.update l (Obj.mapSeq fun x => x ++ items2), toks := s.toks }) :=
  .of_wp fun prog w A R s h => by
    obtain ⟨cls, dd, data, sl⟩ := o2
    simp only at hc hd
    subst hc hd
    obtain ⟨hp, g, d, tk, os⟩ := s; obtain ⟨hl, hb, h⟩ := h; have f1 := AutoSeq1.idx_int; have f2 := AutoSeq1.sub_tuple_tuple; have f3 := AutoSeq1.sub_list_list; have f4 := AutoSeq1.sub_tuple_list; have f5 := AutoSeq1.sub_list_tuple
    have hz' : (items ++ items2).size ≤ sizeLine + 1 := by rw [Array.size_append]; exact hs2
    wp_walk using (wpAny_updateSeq hl rfl (hz := hs1) (_hz' := hz')), wpAny_loadPart' hl, wpAny_loadPart' hb; exact ⟨_, rfl, h⟩
def rExtT (K : PySem.W.Frag) : V → List V → Hp → VK → Prop := fun x vs H Q => ∃ l b xs zs, x = .ref l ∧ vs = [.ref b] ∧ H l = some (.lst xs) ∧ SqT K H b zs ∧ xs.length + zs.length ≤ sizeLine ∧ Q .non (upd H l (.lst (xs ++ zs)))
theorem mt_extT {X : L2.Cx} : MtM X "list.extend" (rExtT X.K) := by
  intro pins s σ H x vs v us Q I rx rv h
  obtain ⟨l, b, xs, zs, rfl, rfl, hH, hB, hz, q⟩ := h
  cases rx
  obtain ⟨u, rfl, ru⟩ := rv.one
  cases ru
  obtain ⟨z, its, n, r, hl, e⟩ := I.lstM hH
  obtain ⟨its2, r2, ⟨o2, e2, hc2, n2, hd2⟩, hz2⟩ := I.tuple hB
  have hl2 := r2.length
  have hsz : its.toArray.size + its2.toArray.size ≤ sizeLine := by rw [List.size_toArray, List.size_toArray]; omega
  have hlong : ¬ (!its.toArray.isEmpty && Builtin.List.listTooLong (its.toArray.size + its2.toArray.size)) = true := by
    rw [notLongL hsz, Bool.and_false]
    exact Bool.false_ne_true
  refine call_meets F.slot_list_extend ⟨_, e, rfl⟩ F.entry_list_extend (F.args_list_extend_2 _ _)
    (list_extend_tupG l its.toArray n b o2 its2.toArray n2 hc2 hd2 hlong (by rw [List.size_toArray]; omega) (by omega)) ⟨e, e2, ?_⟩
  refine ⟨.non, _, I.lset (its' := its ++ its2) hH e (by simp) (r.append r2) ?_, rfl, q⟩
  rw [List.length_append]
  omega

def topS (i : Nat) : Stmt := PySem.Challenge.pw_stylobate_k72_keys_and_costs.main.body.getD i (.Pass ⟨0, 0, 0, 0⟩)
abbrev s_parts_of : Stmt := topS 2
abbrev n_parts_of : List Str := ["expression"]
theorem sc_parts_of : FnScope n_parts_of ["expression"] (C8.fnScope s_parts_of) := C8.fnScope_by (by decide +kernel)
abbrev s__with_parts : Stmt := topS 3
abbrev n__with_parts : List Str := ["expression", "parts"]
theorem sc__with_parts : FnScope n__with_parts ["expression", "parts"] (C8.fnScope s__with_parts) := C8.fnScope_by (by decide +kernel)
abbrev s_columns_of : Stmt := topS 4
abbrev n_columns_of : List Str := ["expression", "found", "waiting", "part"]
theorem sc_columns_of : FnScope n_columns_of ["expression"] (C8.fnScope s_columns_of) := C8.fnScope_by (by decide +kernel)
abbrev s_moved : Stmt := topS 5
abbrev n_moved : List Str := ["expression", "distance", "parts", "part"]
theorem sc_moved : FnScope n_moved ["expression", "distance"] (C8.fnScope s_moved) := C8.fnScope_by (by decide +kernel)
abbrev s_condition_parts : Stmt := topS 8
abbrev n_condition_parts : List Str := ["condition", "found", "waiting", "part"]
theorem sc_condition_parts : FnScope n_condition_parts ["condition"] (C8.fnScope s_condition_parts) := C8.fnScope_by (by decide +kernel)
abbrev s_conjunction : Stmt := topS 9
abbrev n_conjunction : List Str := ["conditions", "half"]
theorem sc_conjunction : FnScope n_conjunction ["conditions"] (C8.fnScope s_conjunction) := C8.fnScope_by (by decide +kernel)
abbrev s_uses_only : Stmt := topS 10
abbrev n_uses_only : List Str := ["expression", "low", "high", "columns"]
theorem sc_uses_only : FnScope n_uses_only ["expression", "low", "high"] (C8.fnScope s_uses_only) := C8.fnScope_by (by decide +kernel)
abbrev s_halvings : Stmt := topS 14
abbrev n_halvings : List Str := ["number", "many"]
theorem sc_halvings : FnScope n_halvings ["number"] (C8.fnScope s_halvings) := C8.fnScope_by (by decide +kernel)
abbrev s_sort_cost : Stmt := topS 15
abbrev n_sort_cost : List Str := ["number"]
theorem sc_sort_cost : FnScope n_sort_cost ["number"] (C8.fnScope s_sort_cost) := C8.fnScope_by (by decide +kernel)
abbrev s_join_cost : Stmt := topS 16
abbrev n_join_cost : List Str := ["way", "x", "y"]
theorem sc_join_cost : FnScope n_join_cost ["way", "x", "y"] (C8.fnScope s_join_cost) := C8.fnScope_by (by decide +kernel)
abbrev s_group_cost : Stmt := topS 17
abbrev n_group_cost : List Str := ["way", "many"]
theorem sc_group_cost : FnScope n_group_cost ["way", "many"] (C8.fnScope s_group_cost) := C8.fnScope_by (by decide +kernel)
abbrev s__is_left : Stmt := topS 18
abbrev n__is_left : List Str := ["expression", "m"]
theorem sc__is_left : FnScope n__is_left ["expression", "m"] (C8.fnScope s__is_left) := C8.fnScope_by (by decide +kernel)
abbrev s__is_right : Stmt := topS 19
abbrev n__is_right : List Str := ["expression", "m", "numbers"]
theorem sc__is_right : FnScope n__is_right ["expression", "m"] (C8.fnScope s__is_right) := C8.fnScope_by (by decide +kernel)
abbrev s__key_in : Stmt := topS 20
abbrev n__key_in : List Str := ["part", "m", "_", "first", "second"]
theorem sc__key_in : FnScope n__key_in ["part", "m"] (C8.fnScope s__key_in) := C8.fnScope_by (by decide +kernel)
abbrev s_keys_of : Stmt := topS 21
abbrev n_keys_of : List Str := ["condition", "m", "pairs", "others", "part", "pair"]
theorem sc_keys_of : FnScope n_keys_of ["condition", "m"] (C8.fnScope s_keys_of) := C8.fnScope_by (by decide +kernel)
abbrev s__law_cell : Stmt := topS 23
abbrev n__law_cell : List Str := ["script", "k"]
theorem sc__law_cell : FnScope n__law_cell ["script", "k"] (C8.fnScope s__law_cell) := C8.fnScope_by (by decide +kernel)
abbrev s__law_state : Stmt := topS 24
abbrev n__law_state : List Str := ["cell", "k", "prime", "first", "second", "third", "fourth"]
theorem sc__law_state : FnScope n__law_state ["cell", "k"] (C8.fnScope s__law_state) := C8.fnScope_by (by decide +kernel)
abbrev s__law_digit : Stmt := topS 25
abbrev n__law_digit : List Str := ["state", "many", "digit"]
theorem sc__law_digit : FnScope n__law_digit ["state", "many"] (C8.fnScope s__law_digit) := C8.fnScope_by (by decide +kernel)
abbrev s__law_is_integer : Stmt := topS 26
abbrev n__law_is_integer : List Str := ["told"]
theorem sc__law_is_integer : FnScope n__law_is_integer ["told"] (C8.fnScope s__law_is_integer) := C8.fnScope_by (by decide +kernel)
abbrev s__law_text : Stmt := topS 27
abbrev n__law_text : List Str := ["state", "signs", "k"]
theorem sc__law_text : FnScope n__law_text ["state"] (C8.fnScope s__law_text) := C8.fnScope_by (by decide +kernel)
abbrev s__law_value : Stmt := topS 28
abbrev n__law_value : List Str := ["state", "kind"]
theorem sc__law_value : FnScope n__law_value ["state"] (C8.fnScope s__law_value) := C8.fnScope_by (by decide +kernel)
abbrev s__law_condition : Stmt := topS 29
abbrev n__law_condition : List Str := ["state", "width", "depth", "kind", "name", "column", "value"]
theorem sc__law_condition : FnScope n__law_condition ["state", "width", "depth"] (C8.fnScope s__law_condition) := C8.fnScope_by (by decide +kernel)
abbrev s__law_parts : Stmt := topS 30
abbrev n__law_parts : List Str := ["condition"]
theorem sc__law_parts : FnScope n__law_parts ["condition"] (C8.fnScope s__law_parts) := C8.fnScope_by (by decide +kernel)
abbrev s__law_joined : Stmt := topS 31
abbrev n__law_joined : List Str := ["conditions", "half"]
theorem sc__law_joined : FnScope n__law_joined ["conditions"] (C8.fnScope s__law_joined) := C8.fnScope_by (by decide +kernel)
abbrev s__law_used : Stmt := topS 32
abbrev n__law_used : List Str := ["expression", "found", "part"]
theorem sc__law_used : FnScope n__law_used ["expression"] (C8.fnScope s__law_used) := C8.fnScope_by (by decide +kernel)
abbrev s__law_moved : Stmt := topS 33
abbrev n__law_moved : List Str := ["expression", "m", "first", "part"]
theorem sc__law_moved : FnScope n__law_moved ["expression", "m"] (C8.fnScope s__law_moved) := C8.fnScope_by (by decide +kernel)
abbrev s__law_side : Stmt := topS 34
abbrev n__law_side : List Str := ["expression", "m", "used"]
theorem sc__law_side : FnScope n__law_side ["expression", "m"] (C8.fnScope s__law_side) := C8.fnScope_by (by decide +kernel)
abbrev s__law_due : Stmt := topS 35
abbrev n__law_due : List Str := ["condition", "m", "keys", "rest", "part", "sides"]
theorem sc__law_due : FnScope n__law_due ["condition", "m"] (C8.fnScope s__law_due) := C8.fnScope_by (by decide +kernel)
abbrev s__law_equal : Stmt := topS 36
abbrev n__law_equal : List Str := ["state", "width", "first", "second"]
theorem sc__law_equal : FnScope n__law_equal ["state", "width"] (C8.fnScope s__law_equal) := C8.fnScope_by (by decide +kernel)
abbrev s__law_halved : Stmt := topS 37
abbrev n__law_halved : List Str := ["number", "steps", "size", "k"]
theorem sc__law_halved : FnScope n__law_halved ["number"] (C8.fnScope s__law_halved) := C8.fnScope_by (by decide +kernel)
abbrev s_law : Stmt := topS 38
abbrev n_law : List Str := ["script", "k", "state", "m", "width", "condition", "j", "x", "y", "sorts", "due", "told", "number", "way"]
theorem sc_law : FnScope n_law ["script"] (C8.fnScope s_law) := C8.fnScope_by (by decide +kernel)
/-! ### a list that is drawn from: its one object may change -/
def wo (p : Addr) (H : Hp) : Hp := fun a => if a = p then none else H a
theorem wo_self (p : Addr) (H : Hp) : wo p H p = none := if_pos rfl
theorem wo_ne {p a : Addr} {H : Hp} (h : a ≠ p) : wo p H a = H a := if_neg h
theorem wo_le (p : Addr) (H : Hp) : Ex (wo p H) H := fun a o h => by
  unfold wo at h
  split at h
  · cases h
  · exact h
theorem wx_of {p : Addr} {H H' : Hp} (e : Ex H H') : Ex (wo p H) H' := (wo_le p H).trans e
theorem wx_trans {p : Addr} {H1 H2 H3 : Hp} (a : Ex (wo p H1) H2) (b : Ex (wo p H2) H3) : Ex (wo p H1) H3 := fun x o h => b x o (by
  have hx : x ≠ p := fun z => by
    rw [z, wo_self] at h
    cases h
  rw [wo_ne hx]
  exact a x o h)
theorem wx_back {p : Addr} {H0 H1 H2 : Hp} (h : H0 p = none) (e : Ex H0 H1) (x : Ex (wo p H1) H2) : Ex H0 H2 := fun a o ha => x a o (by
  have hx : a ≠ p := fun z => by
    rw [z, h] at ha
    cases ha
  rw [wo_ne hx]
  exact e a o ha)
theorem wx_to {p : Addr} {H0 H1 : Hp} (h : H0 p = none) (e : Ex H0 H1) : Ex H0 (wo p H1) := wx_back h e (fun _ _ z => z)
theorem wx_mut {p : Addr} {H1 H2 : Hp} {o : HO} (e : Ex (wo p H1) H2) : Ex (wo p H1) (upd H2 p o) := Ex.mut e (wo_self p H1)
def Dr (p : Addr) (H : Hp) : Prop := ∃ s : Int, 0 ≤ s ∧ H p = some (.lst [.int s])
theorem Dr.ex {p : Addr} {H H' : Hp} (d : Dr p H) (e : Ex H H') : Dr p H' := by
  obtain ⟨s, h0, h⟩ := d
  exact ⟨s, h0, e _ _ h⟩
/-- a value that is drawn: one of those with the word P -/
def EvD1 (te : TE) (σ : L2.St) (p : Addr) (H : Hp) (P : V → Prop) : Prop := ∀ H1, Ex (wo p H) H1 → Dr p H1 → ∀ Q : VK, (∀ v H2, P v → Ex (wo p H1) H2 → Dr p H2 → Q v H2) → te σ H1 Q
def EvDT (tt : TT) (σ : L2.St) (p : Addr) (H : Hp) (P : Bool → Prop) : Prop := ∀ H1, Ex (wo p H) H1 → Dr p H1 → ∀ Q : Bool → Hp → Prop, (∀ b H2, P b → Ex (wo p H1) H2 → Dr p H2 → Q b H2) → tt σ H1 Q
def ZP (P : Int → Prop) : V → Prop := fun v => ∃ i, v = .int i ∧ P i
/-- a value of which a word alone is known, all else as it was -/
def EvN (te : TE) (σ : L2.St) (H : Hp) (P : V → Prop) : Prop := ∀ H1, Ex H H1 → ∀ Q : VK, (∀ v H2, P v → Ex H1 H2 → Q v H2) → te σ H1 Q
/-- a new list to draw from -/
def EvC (te : TE) (σ : L2.St) (H : Hp) : Prop := ∀ H1, Ex H H1 → ∀ Q : VK, (∀ p H2, H1 p = none → Ex H1 H2 → Dr p H2 → Q (.ref p) H2) → te σ H1 Q
def sp__law_cell (K : PySem.W.Frag) : Sp := fun vs H Q _ => ∃ (a : Addr) (ns : List Int) (k : Int), vs = [.ref a, .int k] ∧ SqL K H a (ns.map V.int) ∧ 0 ≤ k ∧ ∀ H', Ex H H' → Q (.int (ns.getD k.toNat 0)) H'
def sp__law_state (K : PySem.W.Frag) : Sp := fun vs H Q _ => ∃ c k : Int, vs = [.int c, .int k] ∧ ∀ p H', H p = none → Ex H H' → Dr p H' → Q (.ref p) H'
def sp__law_digit (K : PySem.W.Frag) : Sp := fun vs H Q _ => ∃ (p : Addr) (m : Int), vs = [.ref p, .int m] ∧ Dr p H ∧ 0 < m ∧ m < 2 ^ 400 ∧ ∀ d H', 0 ≤ d → d < m → Ex (wo p H) H' → Dr p H' → Q (.int d) H'
section
variable {K : PySem.W.Frag} {σ : L2.St} {H H' : Hp} {p : Addr} {ta tb te tx : TE} {t u : TT} {x y z v : V} {r : R2} {P R S : V → Prop} {PI RI SI : Int → Prop} {D : Ends} {tz tu tw : TS} {E : XK}
theorem e1_pure (h : Ev te σ (wo p H) v) (hv : P v) : EvD1 te σ p H P := fun H1 e d Q q => h H1 e Q fun H2 e2 => q v H2 hv (wx_of e2) (d.ex e2)
theorem e1_int {i : Int} (h : Ev te σ (wo p H) (.int i)) (hv : PI i) : EvD1 te σ p H (ZP PI) := e1_pure h ⟨i, rfl, hv⟩
theorem e1_mono (h : EvD1 te σ p H P) (k : ∀ v, P v → R v) : EvD1 te σ p H R := fun H1 e d Q q => h H1 e d Q fun v H2 hv e2 d2 => q v H2 (k v hv) e2 d2
theorem ez_mono (h : EvD1 te σ p H (ZP PI)) (k : ∀ i, PI i → RI i) : EvD1 te σ p H (ZP RI) := e1_mono h fun v ⟨i, e, hi⟩ => ⟨i, e, k i hi⟩
theorem ez_op {C : Int → Int → Prop} {g : Int → Int → Int} (ha : EvD1 ta σ p H (ZP PI)) (hb : EvD1 tb σ p H (ZP RI)) (hc : ∀ i j, PI i → RI j → C i j ∧ SI (g i j)) : EvD1 (tOp (rI C fun i j => .int (g i j)) ta tb) σ p H (ZP SI) := fun H1 e d Q q =>
  ha H1 e d _ fun v H2 ⟨i, ev, hi⟩ e2 d2 => hb H2 (wx_trans e e2) d2 _ fun w H3 ⟨j, ew, hj⟩ e3 d3 => ⟨i, j, ev, ew, (hc i j hi hj).1, q _ H3 ⟨_, rfl, (hc i j hi hj).2⟩ (wx_trans e2 e3) d3⟩
theorem ez_op0 {g : Int → Int → Int} (ha : EvD1 ta σ p H (ZP PI)) (hb : EvD1 tb σ p H (ZP RI)) (hc : ∀ i j, PI i → RI j → SI (g i j)) : EvD1 (tOp (rI0 fun i j => .int (g i j)) ta tb) σ p H (ZP SI) := fun H1 e d Q q =>
  ha H1 e d _ fun v H2 ⟨i, ev, hi⟩ e2 d2 => hb H2 (wx_trans e e2) d2 _ fun w H3 ⟨j, ew, hj⟩ e3 d3 => ⟨i, j, ev, ew, q _ H3 ⟨_, rfl, hc i j hi hj⟩ (wx_trans e2 e3) d3⟩
theorem ez_cmp {g : Int → Int → Bool} (ha : EvD1 ta σ p H (ZP PI)) (hb : EvD1 tb σ p H (ZP RI)) : EvD1 (tOp (rI0 fun i j => .bl (g i j)) ta tb) σ p H (fun v => ∃ b, v = .bl b) := fun H1 e d Q q =>
  ha H1 e d _ fun v H2 ⟨i, ev, hi⟩ e2 d2 => hb H2 (wx_trans e e2) d2 _ fun w H3 ⟨j, ew, hj⟩ e3 d3 => ⟨i, j, ev, ew, q _ H3 ⟨_, rfl⟩ (wx_trans e2 e3) d3⟩
theorem ez_eq (ha : EvD1 ta σ p H (ZP PI)) (hb : EvD1 tb σ p H (ZP RI)) : EvD1 (tOp rEq ta tb) σ p H (fun v => ∃ b, v = .bl b) := fun H1 e d Q q =>
  ha H1 e d _ fun v H2 ⟨i, ev, hi⟩ e2 d2 => hb H2 (wx_trans e e2) d2 _ fun w H3 ⟨j, ew, hj⟩ e3 d3 => by
    subst ev ew
    exact ⟨rfl, q _ H3 ⟨_, rfl⟩ (wx_trans e2 e3) d3⟩
theorem ez_int (h : EvD1 ta σ p H (ZP PI)) : EvD1 (tCB (fun xs H Q => (∃ i, xs = [.int i] ∧ Q (.int i) H) ∨ ∃ k, xs = [.bl k] ∧ Q (.int (if k then 1 else 0)) H) (tCons ta tNil)) σ p H (ZP PI) :=
  fun H1 e d Q q => h H1 e d _ fun v H2 ⟨i, ev, hi⟩ e2 d2 => .inl ⟨i, by rw [ev], q _ H2 ⟨i, rfl, hi⟩ e2 d2⟩
/-- _law_digit(state, m) -/
theorem ez_digit {m : Int} (ha : Ev ta σ (wo p H) (.ref p)) (hb : Ev tb σ (wo p H) (.int m)) (h0 : 0 < m) (h1 : m < 2 ^ 400) : EvD1 (tCall (sp__law_digit K) [] E (tCons ta (tCons tb tNil))) σ p H (ZP fun d => 0 ≤ d ∧ d < m) := fun H1 e d Q q =>
  ha H1 e _ fun H2 e2 => hb H2 (e.trans e2) _ fun H3 e3 => ⟨p, m, rfl, d.ex (e2.trans e3), h0, h1, fun d H4 a b e4 d4 => q _ H4 ⟨d, rfl, a, b⟩ (wx_trans (wx_of (e2.trans e3)) e4) d4⟩
theorem edt_test (h : EvD1 te σ p H (fun v => ∃ b, v = .bl b)) : EvDT (tTest te) σ p H (fun _ => True) := fun H1 e d Q q => h H1 e d _ fun v H2 ⟨b, ev⟩ e2 d2 => ⟨b, ev, q b H2 trivial e2 d2⟩
theorem q1_asg {i : Nat} (h : EvD1 te σ p H P) (d : Dr p H) (k : ∀ v H1, P v → Ex (wo p H) H1 → Dr p H1 → tz D (σ.set i (some v)) H1) : tSeq (tAsg te (gName i)) tz D σ H := h H (wo_le p H) d _ fun v H1 hv e1 d1 => k v H1 hv e1 d1
theorem qz_asg {i : Nat} (h : EvD1 te σ p H (ZP PI)) (d : Dr p H) (k : ∀ (n : Int) H1, PI n → Ex (wo p H) H1 → Dr p H1 → tz D (σ.set i (some (.int n))) H1) : tSeq (tAsg te (gName i)) tz D σ H := q1_asg h d fun v H1 ⟨n, ev, hn⟩ e1 d1 => by
  subst ev
  exact k n H1 hn e1 d1
theorem s1_ret (h : EvD1 te σ p H P) (d : Dr p H) (k : ∀ v H1, P v → Ex (wo p H) H1 → Dr p H1 → D.rt v H1) : tRet te D σ H := h H (wo_le p H) d _ fun v H1 hv e1 d1 => k v H1 hv e1 d1
theorem q1_when (h : EvDT t σ p H (fun _ => True)) (d : Dr p H) (h1 : ∀ H1, Ex (wo p H) H1 → Dr p H1 → tu { D with nx := tz D } σ H1) (h2 : ∀ H1, Ex (wo p H) H1 → Dr p H1 → tz D σ H1) : tSeq (tIfS t tu tNext) tz D σ H := h H (wo_le p H) d _ fun b H1 _ e1 d1 => by
  cases b with
  | true =>
    show tu { D with nx := tz D } σ H1
    exact h1 H1 e1 d1
  | false =>
    show tz D σ H1
    exact h2 H1 e1 d1
/-- _law_cell(script, i), _law_state(cell, k) -/
theorem ec_cell {a : Addr} {ns : List Int} {k : Int} (ha : Ev ta σ H (.ref a)) (hb : Ev tb σ H (.int k)) (hS : SqL K H a (ns.map V.int)) (h0 : 0 ≤ k) : Ev (tCall (sp__law_cell K) [] E (tCons ta (tCons tb tNil))) σ H (.int (ns.getD k.toNat 0)) :=
  ev_call (ea_cons ha (ea_cons hb ea_nil)) fun H1 e Q q E => ⟨a, ns, k, rfl, ex_l e hS, h0, q⟩
theorem ec_state {c k : Int} (ha : Ev ta σ H (.int c)) (hb : Ev tb σ H (.int k)) : EvC (tCall (sp__law_state K) [] E (tCons ta (tCons tb tNil))) σ H := fun H1 e Q q =>
  ha H1 e _ fun H2 e2 => hb H2 (e.trans e2) _ fun H3 e3 => ⟨c, k, rfl, fun p H4 hp e4 d => q p H4 (fresh_back (e2.trans e3) hp) ((e2.trans e3).trans e4) d⟩
theorem q_asgC {i : Nat} (h : EvC te σ H) (k : ∀ p H1, H p = none → Ex H H1 → Dr p H1 → tz D (σ.set i (some (.ref p))) H1) : tSeq (tAsg te (gName i)) tz D σ H := h H (Ex.refl H) _ fun p H1 hp e d => k p H1 hp e d
theorem EvN.mono (e : Ex H H') (h : EvN te σ H P) : EvN te σ H' P := fun H1 a Q q => h H1 (e.trans a) Q q
theorem q_asgN {i : Nat} (h : EvN te σ H P) (k : ∀ v H1, P v → Ex H H1 → tz D (σ.set i (some v)) H1) : tSeq (tAsg te (gName i)) tz D σ H := h H (Ex.refl H) _ fun v H1 hv e => k v H1 hv e
theorem s_appN {l : Addr} {xs : List V} (hl : H l = some (.lst xs)) (ha : Ev ta σ H (.ref l)) (h : EvN te σ H P) (hz : xs.length < 100000) (k : ∀ v H1, P v → Ex H H1 → D.nx σ (upd H1 l (.lst (xs ++ [v])))) :
    tDrop (tBM K "list" rAppend ta (tCons te tNil)) D σ H := ha H (Ex.refl H) _ fun H1 e1 =>
  ⟨Or.inl ⟨rfl, xs, sq_of (e1 l _ hl)⟩, h H1 e1 _ fun v H2 hv e2 => ⟨l, xs, v, rfl, rfl, e2 l _ (e1 l _ hl), sz_lt hz, k v H2 hv (e1.trans e2)⟩⟩
end
section
variable {P : Program} {w : World} {K : PySem.W.Frag} {mg : Str → Option Value} {base : Heap}
theorem ok__law_cell (D : Dn K mg "_law_cell" s__law_cell ["script", "k"]) (z_len : mg "len" = none) :
    C8.Cal P w K mg base 1 "_law_cell" (sp__law_cell K) [] := by
  refine cal_of D sc__law_cell (fun vs H Q E h => ?_) (fun f cdv A outer s H vs Q E hr h => ?_)
  · obtain ⟨_, _, _, rfl, _⟩ := h
    rfl
  refine ⟨_, (pss_cons (ps_if (pt_cmpR op_lt (pv 1) (pe_callB call_len_seq (by rfl) z_len PySem.boot_len (pa_cons (pv 0) pa_nil)) (nomark _))
      (pss_one (ps_ret (pe_ix ix_list (pv 0) (pv 1) (fun _ _ => rfl))))
      pss_nil)
    (pss_one (ps_ret pe_int))), ?_⟩
  obtain ⟨a, ns, k, rfl, hS, h0, q⟩ := h
  refine q_when (b := decide (k < (((ns.map V.int).length : Nat) : Int))) (et_test (ev_op (ev_var rfl) (ev_len (ev_var rfl) hS) rv_I0)) (fun hb H1 e1 => ?_) fun hb H1 e1 => ?_
  · have hk : k.toNat < ns.length := by
      have := of_decide_eq_true hb
      rw [List.length_map] at this
      omega
    refine s_ret (v := .int (ns.getD k.toNat 0)) (ev_op (ev_var rfl) (ev_var rfl) (rv_ixL (ex_l e1 hS) ?_)) fun H2 e2 => q _ (e1.trans e2)
    obtain ⟨j, rfl⟩ := Int.eq_ofNat_of_zero_le h0
    rw [Int.toNat_natCast] at hk ⊢
    exact atI_nat (by rw [List.getElem?_map, List.getElem?_eq_getElem hk, List.getD_eq_getElem?_getD, List.getElem?_eq_getElem hk]; rfl)
  · have hk : ns.length ≤ k.toNat := by
      have := of_decide_eq_false hb
      rw [List.length_map] at this
      omega
    refine s_ret (v := .int (ns.getD k.toNat 0)) (ev_is ev_c ?_) fun H2 e2 => q _ (e1.trans e2)
    rw [List.getD_eq_getElem?_getD, List.getElem?_eq_none hk]
    rfl
theorem ok__law_state (D : Dn K mg "_law_state" s__law_state ["cell", "k"]) (z_int : mg "int" = none) :
    C8.Cal P w K mg base 1 "_law_state" (sp__law_state K) [] := by
  refine cal_of D sc__law_state (fun vs H Q E h => ?_) (fun f cdv A outer s H vs Q E hr h => ?_)
  · obtain ⟨_, _, rfl, _⟩ := h
    rfl
  refine ⟨_, (pss_cons (ps_if (pt_cmpR op_ge (pv 0) pe_int (nomark _))
      (pss_one (ps_ret (pe_lst (pa_cons (pv 0) pa_nil))))
      pss_nil)
    (pss_cons (ps_set (i := 2) sc__law_state.nd rfl (.inl rfl) pe_int)
    (pss_cons (ps_set (i := 3) sc__law_state.nd rfl (.inl rfl) (pe_op op_mod (pe_callTy call_int1 (by rfl) z_int (by decide +kernel) (pa_cons (pe_op op_add (pe_op op_add (pe_op op_mul (pv 0) pe_int) (pe_op op_mul (pe_op op_add (pv 1) pe_int) pe_int)) pe_int) pa_nil)) (pv 2)))
    (pss_cons (ps_set (i := 4) sc__law_state.nd rfl (.inl rfl) (pe_op op_mod (pe_callTy call_int1 (by rfl) z_int (by decide +kernel) (pa_cons (pe_op op_add (pe_op op_add (pe_op op_mulX (pv 3) (pv 3)) (pe_op op_mul pe_int (pv 3))) (pv 1)) pa_nil)) (pv 2)))
    (pss_cons (ps_set (i := 5) sc__law_state.nd rfl (.inl rfl) (pe_op op_mod (pe_callTy call_int1 (by rfl) z_int (by decide +kernel) (pa_cons (pe_op op_add (pe_op op_add (pe_op op_mul (pv 4) pe_int) (pe_op op_mul (pv 3) pe_int)) pe_int) pa_nil)) (pv 2)))
    (pss_cons (ps_set (i := 6) sc__law_state.nd rfl (.inl rfl) (pe_op op_mod (pe_callTy call_int1 (by rfl) z_int (by decide +kernel) (pa_cons (pe_op op_add (pe_op op_mulX (pv 5) (pv 5)) (pv 4)) pa_nil)) (pv 2)))
    (pss_one (ps_ret (pe_lst (pa_cons (pe_op op_add (pe_op op_mul (pe_op op_add (pe_op op_mul (pe_op op_add (pe_op op_mul (pv 6) (pv 2)) (pv 5)) (pv 2)) (pv 4)) (pv 2)) (pv 3)) pa_nil)))))))))), ?_⟩
  obtain ⟨c, k, rfl, q⟩ := h
  refine q_when (b := decide (c ≥ 1000000000000000000)) (et_test (ev_op (ev_var rfl) ev_c rv_I0)) (fun hb H1 e1 => ?_) fun hb H1 e1 => ?_
  · exact s_retL (el_lst (ea_cons (ev_var rfl) ea_nil) (by show 1 ≤ 100000; decide)) fun p H2 hp e2 h2 => q p H2 (fresh_back e1 hp) (e1.trans e2) ⟨c, by have := of_decide_eq_true hb; omega, h2⟩
  refine q_asg (v := .int 2305843009213693951) ev_c fun H2 e2 => ?_
  have mp : ∀ n : Int, 0 ≤ n % 2305843009213693951 ∧ n % 2305843009213693951 < 2305843009213693951 := fun n => by omega
  have mb : ∀ i j : Int, 0 ≤ i ∧ i < 2305843009213693951 → 0 ≤ j ∧ j < 2305843009213693951 → CMulX i j := fun i j hi hj => mulx_ok (a := 61) (b := 61) (by omega) (by omega) (by decide)
  refine q_asg (v := .int ((c * 6364136223 + (k + 1) * 104729 + 77) % 2305843009213693951)) ?_ fun H3 e3 => ?_
  · exact ev_op (ev_int (ev_op (ev_op (ev_op (ev_var rfl) ev_c (rv_I (.inr ⟨by decide, by decide⟩))) (ev_op (ev_op (ev_var rfl) ev_c rv_I0) ev_c (rv_I (.inr ⟨by decide, by decide⟩))) rv_I0) ev_c rv_I0)) (ev_var rfl) (rv_I (by decide))
  have h1 := mp (c * 6364136223 + (k + 1) * 104729 + 77)
  generalize (c * 6364136223 + (k + 1) * 104729 + 77) % 2305843009213693951 = f1 at *
  refine q_asg (v := .int ((f1 * f1 + 1013 * f1 + k) % 2305843009213693951)) ?_ fun H4 e4 => ?_
  · exact ev_op (ev_int (ev_op (ev_op (ev_op (ev_var rfl) (ev_var rfl) (rv_I (mb _ _ h1 h1))) (ev_op ev_c (ev_var rfl) (rv_I (.inl ⟨by decide, by decide⟩))) rv_I0) (ev_var rfl) rv_I0)) (ev_var rfl) (rv_I (by decide))
  have h2 := mp (f1 * f1 + 1013 * f1 + k)
  generalize (f1 * f1 + 1013 * f1 + k) % 2305843009213693951 = f2 at *
  refine q_asg (v := .int ((f2 * 48271 + f1 * 31 + 9) % 2305843009213693951)) ?_ fun H5 e5 => ?_
  · exact ev_op (ev_int (ev_op (ev_op (ev_op (ev_var rfl) ev_c (rv_I (.inr ⟨by decide, by decide⟩))) (ev_op (ev_var rfl) ev_c (rv_I (.inr ⟨by decide, by decide⟩))) rv_I0) ev_c rv_I0)) (ev_var rfl) (rv_I (by decide))
  have h3 := mp (f2 * 48271 + f1 * 31 + 9)
  generalize (f2 * 48271 + f1 * 31 + 9) % 2305843009213693951 = f3 at *
  refine q_asg (v := .int ((f3 * f3 + f2) % 2305843009213693951)) ?_ fun H6 e6 => ?_
  · exact ev_op (ev_int (ev_op (ev_op (ev_var rfl) (ev_var rfl) (rv_I (mb _ _ h3 h3))) (ev_var rfl) rv_I0)) (ev_var rfl) (rv_I (by decide))
  have h4 := mp (f3 * f3 + f2)
  generalize (f3 * f3 + f2) % 2305843009213693951 = f4 at *
  refine s_retL (xs := [.int (((f4 * 2305843009213693951 + f3) * 2305843009213693951 + f2) * 2305843009213693951 + f1)]) (el_lst (ea_cons ?_ ea_nil) (by show 1 ≤ 100000; decide)) fun p H7 hp e7 h7 => ?_
  · exact ev_op (ev_op (ev_op (ev_op (ev_op (ev_op (ev_var rfl) (ev_var rfl) (rv_I (.inr ⟨by decide, by decide⟩))) (ev_var rfl) rv_I0) (ev_var rfl) (rv_I (.inr ⟨by decide, by decide⟩))) (ev_var rfl) rv_I0) (ev_var rfl) (rv_I (.inr ⟨by decide, by decide⟩))) (ev_var rfl) rv_I0
  have x6 := ((((e1.trans e2).trans e3).trans e4).trans e5).trans e6
  exact q p H7 (fresh_back x6 hp) (x6.trans e7) ⟨_, by omega, h7⟩
theorem ok__law_digit (D : Dn K mg "_law_digit" s__law_digit ["state", "many"]) (z_int : mg "int" = none) :
    C8.Cal P w K mg base 1 "_law_digit" (sp__law_digit K) [] := by
  refine cal_of D sc__law_digit (fun vs H Q E h => ?_) (fun f cdv A outer s H vs Q E hr h => ?_)
  · obtain ⟨_, _, rfl, _⟩ := h
    rfl
  refine ⟨_, (pss_cons (ps_set (i := 2) sc__law_digit.nd rfl (.inl rfl) (pe_op op_mod (pe_callTy call_int1 (by rfl) z_int (by decide +kernel) (pa_cons (pe_ix ix_list (pv 0) pe_int (fun _ _ => rfl)) pa_nil)) (pv 1)))
    (pss_cons (ps_asg (pe_op op_fdivW (pe_ix ix_list (pv 0) pe_int (fun _ _ => rfl)) (pv 1)) (pg_sub (pv 0) pe_int set_list))
    (pss_one (ps_ret (pv 2))))), ?_⟩
  obtain ⟨p, m, rfl, ⟨s, s0, hp⟩, m0, m1, q⟩ := h
  refine q_asg (v := .int (s % m)) (ev_op (ev_int (ev_op (ev_var rfl) ev_c (rv_ixL (sq_of hp) rfl))) (ev_var rfl) (rv_I m0)) fun H1 e1 => ?_
  refine q_setL (v := .int (s / m)) (j := 0) (e1 _ _ hp) (ev_op (ev_op (ev_var rfl) ev_c (rv_ixL (sq_of (e1 _ _ hp)) rfl)) (ev_var rfl) (rv_I (wide_div (b := 400) m0 (by omega) (by decide) (by decide)))) (ev_var rfl) ev_c (by show 0 < 1; decide) fun H2 e2 => ?_
  exact s_ret (ev_var rfl) fun H3 e3 => q (s % m) H3 (Int.emod_nonneg _ (by omega)) (Int.emod_lt_of_pos _ m0) ((Ex.mut ((wo_le p H).trans (e1.trans e2)) (wo_self p H)).trans e3) ⟨s / m, Int.ediv_nonneg s0 (by omega), e3 _ _ upd_same⟩
end
section
variable {K : PySem.W.Frag} {σ : L2.St} {H : Hp} {p : Addr} {ta tb te : TE} {P : V → Prop} {D : Ends} {tz : TS}
/-- xs[i] = what is drawn -/
theorem q1_setL {l : Addr} {xs : List V} {j : Nat} (hl : wo p H l = some (.lst xs)) (h : EvD1 te σ p H P) (d : Dr p H) (ho : Ev ta σ (wo p H) (.ref l)) (hi : Ev tb σ (wo p H) (.int (j : Int))) (hj : j < xs.length) (k : ∀ v H1, P v → Ex (wo p H) H1 → Dr p H1 → tz D σ (upd H1 l (.lst (xs.set j v)))) :
    tSeq (tAsg te (gSub ta tb rSetL)) tz D σ H := h H (wo_le p H) d _ fun v H1 hv e1 d1 => ho H1 e1 _ fun H2 e2 => hi H2 (e1.trans e2) _ fun H3 e3 =>
  ⟨l, xs, (j : Int), j, rfl, rfl, ((e1.trans e2).trans e3) l _ hl, ixN_nat hj, k v H3 hv ((e1.trans e2).trans e3) (d1.ex (e2.trans e3))⟩
/-- a digit of a list that is new -/
theorem en_digit {m : Int} {E : XK} (ha : EvC ta σ H) (hb : Ev tb σ H (.int m)) (h0 : 0 < m) (h1 : m < 2 ^ 400) : EvN (tCall (sp__law_digit K) [] E (tCons ta (tCons tb tNil))) σ H (ZP fun d => 0 ≤ d ∧ d < m) := fun H1 e Q q =>
  ha H1 e _ fun p H2 hp e2 d2 => hb H2 (e.trans e2) _ fun H3 e3 => ⟨p, m, rfl, d2.ex e3, h0, h1, fun d H4 a b e4 _ => q _ H4 ⟨d, rfl, a, b⟩ (wx_back hp (e2.trans e3) e4)⟩
end
section
variable {K : PySem.W.Frag} {σ : L2.St} {H : Hp} {p : Addr} {te : TE} {t : TT} {P : V → Prop} {D : Ends} {tu : TS}
theorem s1_asg {i : Nat} (h : EvD1 te σ p H P) (d : Dr p H) (k : ∀ v H1, P v → Ex (wo p H) H1 → Dr p H1 → D.nx (σ.set i (some v)) H1) : tAsg te (gName i) D σ H := h H (wo_le p H) d _ fun v H1 hv e1 d1 => k v H1 hv e1 d1
theorem s1_when (h : EvDT t σ p H (fun _ => True)) (d : Dr p H) (h1 : ∀ H1, Ex (wo p H) H1 → Dr p H1 → tu D σ H1) (h2 : ∀ H1, Ex (wo p H) H1 → Dr p H1 → D.nx σ H1) : tIfS t tu tNext D σ H := h H (wo_le p H) d _ fun b H1 _ e1 d1 => by
  cases b with
  | true =>
    show tu D σ H1
    exact h1 H1 e1 d1
  | false =>
    show D.nx σ H1
    exact h2 H1 e1 d1
end

/-! ### lists compared, cut; list as a type -/
theorem cut_take {xs : List V} {m : Nat} (h : m ≤ xs.length) : cutV xs none (some (m : Int)) = xs.take m := by
  unfold cutV
  rw [HT.sIx_none, HT.sIx_nat, List.drop_zero, Nat.sub_zero, Nat.min_eq_left h]
theorem eqv_intsL : ∀ ns ms : List Int, PyData.eqv (.list (ns.map PyData.int)) (.list (ms.map PyData.int)) = decide (ns = ms)
  | [], [] => rfl
  | [], _ :: _ => rfl
  | _ :: _, [] => rfl
  | n :: r, m :: t => by
    have ih := eqv_intsL r t
    show ((n == m) && PyData.eqv (.list (r.map PyData.int)) (.list (t.map PyData.int))) = _
    rw [ih, Bool.eq_iff_iff, Bool.and_eq_true, decide_eq_true_eq, decide_eq_true_eq, beq_iff_eq, List.cons.injEq]
theorem rv_neL {K : PySem.W.Frag} {H : Hp} {p q : Addr} {ns ms : List Int} (hp : SqL K H p (ns.map V.int)) (hq : SqL K H q (ms.map V.int)) : RV (rNeD K) (.ref p) (.ref q) H (.bl (!decide (ns = ms))) := fun H1 e Q k =>
  ⟨_, _, .lst (ex_l e hp) (dp_ints ns), .lst (ex_l e hq) (dp_ints ms), PySem.W.ke_shaped_ints _, PySem.W.ke_shaped_ints _, by rw [eqv_intsL]; exact k H1 (Ex.refl H1)⟩
theorem tx_lst {K : PySem.W.Frag} {H : Hp} {a : Addr} {xs : List V} (h : H a = some (.lst xs)) : ∀ H1, Ex H H1 → TyX K H1 (.ref a) (.type "list") := fun H1 e => .base (.lst (e _ _ h))
theorem given_all (n : Nat) (v : Nat → V) : given n (fun _ => true) v = (List.range n).map v := by
  unfold given
  rw [List.filter_eq_self.mpr (fun _ _ => rfl)]
theorem foldl_take {α β : Type} {f : β → α → β} {l : List α} {i : Nat} {x : α} {b : β} (h : l[i]? = some x) : (l.take (i + 1)).foldl f b = f ((l.take i).foldl f b) x := by
  rw [List.take_add_one, h, List.foldl_append]
  rfl
theorem ix_listK {X : Cx} {K : PySem.W.Frag} (h : X.K = K) : IxR X (rIxL K) := h ▸ ix_list
theorem call_len_seqK {X : Cx} {K : PySem.W.Frag} (h : X.K = K) : CallR X (.builtin "len") (fun xs H Q => ∃ p ys, xs = [V.ref p] ∧ (SqL K H p ys ∨ SqT K H p ys) ∧ Q (V.int ys.length) H) := h ▸ call_len_seq
theorem ix_tupK {X : Cx} {K : PySem.W.Frag} (h : X.K = K) : IxR X (rIxT K) := h ▸ ix_tup

/-! ### lists of objects, each with a word of its own -/
def Al2 {α : Type} (R : Hp → Addr → α → Prop) (H : Hp) (qs : List Addr) (L : List α) : Prop := qs.length = L.length ∧ ∀ (i : Nat) q l, qs[i]? = some q → L[i]? = some l → R H q l
def Lst2 {α : Type} (R : Hp → Addr → α → Prop) (H : Hp) (p : Addr) (L : List α) : Prop := ∃ qs, H p = some (.lst (qs.map V.ref)) ∧ Al2 R H qs L
section
variable {α : Type} {R S : Hp → Addr → α → Prop} {H H' : Hp} {qs : List Addr} {L : List α}
theorem Al2.nil : Al2 R H [] [] := ⟨rfl, fun i q l h => by simp at h⟩
theorem Al2.mono (h : Al2 R H qs L) (k : ∀ q l, l ∈ L → R H q l → S H' q l) : Al2 S H' qs L := ⟨h.1, fun i q l a b => k q l (List.mem_of_getElem? b) (h.2 i q l a b)⟩
theorem Al2.snoc {q : Addr} {l : α} (h : Al2 R H qs L) (hr : R H q l) : Al2 R H (qs ++ [q]) (L ++ [l]) := by
  refine ⟨by rw [List.length_append, List.length_append, h.1, List.length_cons, List.length_cons]; rfl, fun i q' l' a b => ?_⟩
  by_cases hi : i < qs.length
  · rw [List.getElem?_append_left hi] at a
    rw [List.getElem?_append_left (by rw [← h.1]; exact hi)] at b
    exact h.2 i q' l' a b
  · rw [List.getElem?_append_right (by omega)] at a
    rw [List.getElem?_append_right (by rw [← h.1]; omega)] at b
    have e : i - qs.length = 0 := by
      by_cases z : i - qs.length = 0
      · exact z
      · rw [List.getElem?_eq_none (by show 1 ≤ _; omega)] at a; cases a
    rw [e] at a
    rw [← h.1, e] at b
    cases a
    cases b
    exact hr
theorem Al2.get (h : Al2 R H qs L) {i : Nat} (hi : i < L.length) : ∃ q, qs[i]? = some q ∧ R H q L[i] := by
  have hq : i < qs.length := by rw [h.1]; exact hi
  exact ⟨qs[i], List.getElem?_eq_getElem hq, h.2 i _ _ (List.getElem?_eq_getElem hq) (List.getElem?_eq_getElem hi)⟩
end
/-- an object that is new -/
def EvR (R : Hp → Addr → Prop) (te : TE) (σ : L2.St) (H : Hp) : Prop := ∀ H1, Ex H H1 → ∀ Q : VK, (∀ p H2, H1 p = none → Ex H1 H2 → R H2 p → Q (.ref p) H2) → te σ H1 Q
theorem slice_any {a : List Nat} {i j : Nat} : Txt.slice (SX.S a) (some (i : Int)) (some (j : Int)) = SX.S ((a.take j).drop i) := by
  rw [← C8.cutS_slice]
  unfold cutS
  rw [SX.S_len, HT.sIx_nat, HT.sIx_nat]
  refine congrArg SX.S ?_
  show (a.drop (min i a.length)).take (min j a.length - min i a.length) = (a.take j).drop i
  rw [List.drop_take]
  by_cases hi : i ≤ a.length
  · rw [Nat.min_eq_left hi]
    by_cases hj : j ≤ a.length
    · rw [Nat.min_eq_left hj]
    · rw [Nat.min_eq_right (show a.length ≤ j by omega), List.take_of_length_le (by rw [List.length_drop]; omega), List.take_of_length_le (by rw [List.length_drop]; omega)]
  · rw [Nat.min_eq_right (show a.length ≤ i by omega), List.drop_eq_nil_of_le (Nat.le_refl _), List.drop_eq_nil_of_le (by omega)]
    simp
theorem ev_slA {σ : L2.St} {H : Hp} {ta tl th : TE} {l : List Nat} {i j : Nat} (ha : Ev ta σ H (.str (SX.S l))) (hl : Ev tl σ H (.int (i : Int))) (hh : Ev th σ H (.int (j : Int))) (hz : l.length ≤ 100000) : Ev (tSl C8.rSlX ta (tPart tl) (tPart th)) σ H (.str (SX.S ((l.take j).drop i))) := fun H1 e Q q =>
  ha H1 e _ fun H2 e2 => hl H2 (e.trans e2) _ fun H3 e3 => ⟨_, rfl, hh H3 ((e.trans e2).trans e3) _ fun H4 e4 => ⟨_, rfl, SX.S l, rfl, by rw [SX.S_len]; exact sz_of hz, by rw [slice_any]; exact q H4 ((e2.trans e3).trans e4)⟩⟩
theorem getD_S (t : List Nat) (v : Nat) : (SX.S t).cps.getD v 0 = t.getD v 0 := by
  show t.toArray.getD v 0 = t.getD v 0
  rw [Array.getD_eq_getD_getElem?, List.getD_eq_getElem?_getD, List.getElem?_toArray]
/-- the first c at or behind i -/
theorem find3_at {t a m : List Nat} {c i : Nat} (h : t.drop i = a ++ c :: m) (ha : c ∉ a) : Txt.find3 (SX.S t) (SX.S [c]) (i : Int) = ((i + a.length : Nat) : Int) := by
  have hlen : i + (a.length + (m.length + 1)) = t.length := by
    have := congrArg List.length h
    rw [List.length_drop, List.length_append, List.length_cons] at this
    omega
  have hf : fromIndex (SX.S t).length (i : Int) = i := by
    unfold fromIndex
    rw [if_neg (by omega)]
    omega
  have at_ : ∀ v, i ≤ v → t.getD v 0 = (a ++ c :: m).getD (v - i) 0 := fun v hv => by
    rw [← h, List.getD_eq_getElem?_getD, List.getD_eq_getElem?_getD, List.getElem?_drop, show i + (v - i) = v by omega]
  have hc : t.getD (i + a.length) 0 = c := by
    rw [at_ _ (by omega), show i + a.length - i = a.length by omega, List.getD_eq_getElem?_getD, List.getElem?_append_right (Nat.le_refl _), Nat.sub_self]
    rfl
  rcases StrLaws.find3_spec (SX.S t) c (i : Int) with ⟨_, h2⟩ | ⟨k, h1, h2, h3, h4, h5⟩
  · have := h2 (i + a.length) (by rw [hf]; omega) (by rw [SX.S_len]; omega)
    rw [getD_S, hc] at this
    exact absurd rfl this
  · rw [hf] at h2 h5
    rw [getD_S] at h4
    have e1 : ¬ i + a.length < k := fun z => by
      have := h5 (i + a.length) (by omega) z
      rw [getD_S, hc] at this
      exact this rfl
    have e2 : ¬ k < i + a.length := fun z => by
      rw [at_ k h2, List.getD_eq_getElem?_getD, List.getElem?_append_left (by omega), List.getElem?_eq_getElem (by omega)] at h4
      exact ha (by rw [← h4]; exact List.getElem_mem _)
    rw [show k = i + a.length by omega] at h1
    exact h1
theorem at_drop {t r : List Nat} {i : Nat} {c : Nat} (h : t.drop i = c :: r) : t[i]? = some c ∧ i < t.length ∧ t.drop (i + 1) = r := by
  have hi : i < t.length := by
    have := congrArg List.length h
    rw [List.length_drop, List.length_cons] at this
    omega
  rw [List.drop_eq_getElem_cons hi] at h
  have h2 := List.cons.inj h
  exact ⟨by rw [List.getElem?_eq_getElem hi, h2.1], hi, h2.2⟩
theorem drop_nil {t : List Nat} {i : Nat} (h : t.drop i = []) : t.length ≤ i := by
  have := congrArg List.length h
  rw [List.length_drop] at this
  simp at this
  omega
theorem drop_app {t a b : List Nat} {i : Nat} (h : t.drop i = a ++ b) : t.drop (i + a.length) = b := by
  rw [← List.drop_drop, h, List.drop_left]
theorem take1 {t : List Nat} {i : Nat} : (t.take (i + 1)).drop i = (t.drop i).take 1 := by rw [List.drop_take, show i + 1 - i = 1 by omega]
theorem joinL_len (w : List Nat) : ∀ ps : List (List Nat), (ps.map (·.length)).sum ≤ (TL.joinL w ps).length
  | [] => Nat.le_refl _
  | [p] => by
    show p.length + 0 ≤ p.length
    omega
  | p :: q :: r => by
    have := joinL_len w (q :: r)
    show p.length + ((q :: r).map (·.length)).sum ≤ (p ++ (w ++ TL.joinL w (q :: r))).length
    rw [List.length_append, List.length_append]
    omega
theorem ev_joinL {K : PySem.W.Frag} {σ : L2.St} {H : Hp} {ta tb : TE} {w : List Nat} {pcs : List (List Nat)} {p : Addr} (ha : Ev ta σ H (.str (SX.S w))) (hb : Ev tb σ H (.ref p)) (hp : SqL K H p ((pcs.map SX.S).map V.str)) (h1 : (TL.joinL w pcs).length ≤ 100000) (h2 : pcs.length ≤ 100000) (h3 : w.length ≤ 10) :
    Ev (tM1 (fun x xs H Q => ∃ a p, ∃ ys : List Str, x = .str a ∧ xs = [.ref p] ∧ (SqL K H p (ys.map V.str) ∨ SqT K H p (ys.map V.str)) ∧
      (ys.map (·.length)).sum + ys.length * a.length ≤ 16777216 ∧ Q (.str (Txt.join a ys)) H) ta tb) σ H (.str (SX.S (TL.joinL w pcs))) := fun H1 e Q q =>
  ha H1 e _ fun H2 e2 => ⟨⟨_, rfl⟩, hb H2 (e.trans e2) _ fun H3 e3 => ⟨SX.S w, p, pcs.map SX.S, rfl, rfl, .inl (ex_l ((e.trans e2).trans e3) hp), by
    rw [SX.lens, SX.S_len, List.length_map]
    have := joinL_len w pcs
    have : pcs.length * w.length ≤ 100000 * 10 := Nat.mul_le_mul h2 h3
    omega, by rw [SX.join_S]; exact q H3 (e2.trans e3)⟩⟩
/-- return (a new object, ..) -/
theorem s_retUR {R : Hp → Addr → Prop} {te : TE} {tr : TA} {σ : L2.St} {H : Hp} {D : Ends} {vs : List V} (hm : ∀ H H' p, Ex H H' → R H p → R H' p) (h : EvR R te σ H) (hr : ∀ H1, Ex H H1 → EvA tr σ H1 vs) (hl : vs.length ≤ 1000)
    (k : ∀ q p H1, H q = none → Ex H H1 → R H1 p → H1 q = some (.tup (.ref p :: vs)) → D.rt (.ref q) H1) : tRet (tTup (tCons te tr)) D σ H :=
  h H (Ex.refl H) _ fun p H1 hp e1 hR => hr H1 e1 H1 (Ex.refl H1) _ fun H2 e2 => ⟨by rw [List.length_cons]; exact sz_of (by omega), fun q hq => k q p _ (fresh_back (e1.trans e2) hq) ((e1.trans e2).trans (Ex.new hq)) (hm _ _ _ (e2.trans (Ex.new hq)) hR) upd_same⟩
theorem wo_upd (p : Addr) (H : Hp) (o : HO) : wo p (upd H p o) = wo p H := by
  funext a
  unfold wo
  split
  · rfl
  · rename_i h
    exact upd_ne h
theorem wo_mono {p : Addr} {H H' : Hp} (e : Ex H H') : Ex (wo p H) (wo p H') := fun a o h => by
  have hx : a ≠ p := fun z => by rw [z, wo_self] at h; cases h
  rw [wo_ne hx] at h ⊢
  exact e a o h
theorem Lst2.mono {α : Type} {R : Hp → Addr → α → Prop} {H H' : Hp} {p : Addr} {L : List α} (h : Lst2 R H p L) (e : Ex H H') (k : ∀ q l, R H q l → R H' q l) : Lst2 R H' p L := by
  obtain ⟨qs, h1, h2⟩ := h
  exact ⟨qs, e _ _ h1, h2.mono fun q l _ => k q l⟩
/-- [a new object] -/
theorem er_one {R : Hp → Addr → Prop} {te : TE} {σ : L2.St} {H : Hp} (hm : ∀ H H' p, Ex H H' → R H p → R H' p) (h : EvR R te σ H) : EvR (fun H p => ∃ t, H p = some (.lst [.ref t]) ∧ R H t) (tLst (tCons te tNil)) σ H := fun H1 e Q q =>
  h H1 e _ fun t H2 ht e2 hR => ⟨sz_of (by show 1 ≤ 100000; decide), fun p hp => q p _ (fresh_back e2 hp) (e2.trans (Ex.new hp)) ⟨t, upd_same, hm _ _ _ (Ex.new hp) hR⟩⟩

/-! ### signs -/
def signsL : List Nat := (PySem.Str.ofString " !\"#$&'()*+,-./0123456789:;<=>?@ABCDEFGHIJKLMNOPQRSTUVWXYZ[\\]^_`abcdefghijklmnopqrstuvwxyz{|}~").cps.toList
def fewL : List Nat := (PySem.Str.ofString "ab*?\\ -'\"A").cps.toList
theorem signs_len : signsL.length = 94 := by decide +kernel
theorem few_len : fewL.length = 10 := by decide +kernel
theorem signs_ok : ∀ c ∈ signsL, 32 ≤ c ∧ c ≤ 126 := by decide +kernel
theorem few_ok : ∀ c ∈ fewL, 32 ≤ c ∧ c ≤ 126 := by decide +kernel
def okC (c : Nat) : Prop := 32 ≤ c ∧ c ≤ 126
theorem join_ones : ∀ l : List Nat, Txt.join (SX.S []) (l.map fun c => (⟨#[c]⟩ : Str)) = SX.S l := by
  intro l
  have e : (l.map fun c => (⟨#[c]⟩ : Str)) = (l.map fun c => [c]).map SX.S := by
    rw [List.map_map]
    rfl
  rw [e, SX.join_S]
  congr 1
  induction l with
  | nil => rfl
  | cons c r ih =>
    cases r with
    | nil => rfl
    | cons d r => 
      have e2 : TL.joinL [] (List.map (fun c => [c]) (c :: d :: r)) = c :: TL.joinL [] (List.map (fun c => [c]) (d :: r)) := rfl
      rw [e2, ih (by rw [List.map_map]; rfl)]

/-! ### texts and values that are drawn -/
def fewS : List Nat := (PySem.Str.ofString "abAB 19-'~").cps.toList
theorem fewS_len : fewS.length = 10 := by decide +kernel
theorem fewS_S : PySem.Str.ofString "abAB 19-'~" = SX.S fewS := by decide +kernel
theorem fewS_in : ∀ c ∈ fewS, c ∈ signsL := by decide +kernel
def EvLD1 (te : TE) (σ : L2.St) (p : Addr) (H : Hp) (P : List V → Prop) : Prop := ∀ H1, Ex (wo p H) H1 → Dr p H1 → ∀ Q : VK, (∀ l H2 xs, P xs → H1 l = none → Ex (wo p H1) H2 → Dr p H2 → H2 l = some (.lst xs) → Q (.ref l) H2) → te σ H1 Q
theorem dr_ne {p l : Addr} {H : Hp} (d : Dr p H) (h : H l = none) : p ≠ l := fun z => by
  obtain ⟨s, _, e⟩ := d
  rw [z, h] at e
  cases e
theorem Dr.upd {p l : Addr} {H : Hp} {o : HO} (d : Dr p H) (h : p ≠ l) : Dr p (upd H l o) := by
  obtain ⟨s, s0, e⟩ := d
  exact ⟨s, s0, by rw [upd_ne h]; exact e⟩
section
variable {K : PySem.W.Frag} {σ : L2.St} {H : Hp} {p : Addr} {ta tb te tn : TE} {R : V → Prop} {PI : Int → Prop} {D : Ends} {tz : TS}
/-- [what is drawn for k in range(a number that is drawn)] -/
theorem e1_lc {j : Nat} {vs : List Nat} {m : Int} (hn : EvD1 tn σ p H (ZP fun n => 0 ≤ n ∧ n ≤ m)) (hm : m ≤ 10000) (hw : ∀ x, wipe ((wipe σ vs).set j (some x)) vs = wipe σ vs)
    (he : ∀ i : Nat, EvD1 te ((wipe σ vs).set j (some (.int (i : Int)))) p H R) : EvLD1 (tLc (iRng1 (tCons tn tNil)) (gName j) tYes te vs) σ p H (fun xs => (xs.length : Int) ≤ m ∧ ∀ x ∈ xs, R x) := fun H0 e d Q q =>
  hn H0 e d _ fun v H1 ⟨n, ev, hn0, hn1⟩ e1 d1 => by
    subst ev
    refine ⟨n, rfl, by omega, by omega, fun Dl hD => ?_⟩
    have hpd : p ≠ Dl := dr_ne d1 hD
    refine lc_range (lo := 0) (n := n.toNat) (fun i H' => Ex (wo p H1) H' ∧ Dr p H' ∧ ∃ acc, H' Dl = some (.lst acc) ∧ acc.length = i ∧ ∀ x ∈ acc, R x) ⟨Ex.mut (wo_le p H1) (by rw [wo_ne (Ne.symm hpd)]; exact hD), d1.upd hpd, [], upd_same, rfl, fun x hx => by cases hx⟩ (fun i H' hi pv => ?_) (fun H' pv => ?_)
    · obtain ⟨p1, p2, acc, p3, p4, p5⟩ := pv
      have e0 : (0 : Int) + (i : Int) = (i : Int) := Int.zero_add _
      show wipe ((wipe σ vs).set j (some (.int ((0 : Int) + (i : Int))))) vs = wipe σ vs ∧ te ((wipe σ vs).set j (some (.int ((0 : Int) + (i : Int))))) H' fun y H4 => ∃ acc, H4 Dl = some (.lst acc) ∧ acc.length < sizeLine ∧ _
      rw [e0]
      refine ⟨hw _, he i H' (wx_trans e (wx_trans e1 p1)) p2 _ fun y H4 hy e4 d4 => ?_⟩
      refine ⟨acc, e4 Dl _ (by rw [wo_ne (Ne.symm hpd)]; exact p3), sz_lt (by omega), Ex.mut (wx_trans p1 e4) (by rw [wo_ne (Ne.symm hpd)]; exact hD), d4.upd hpd, acc ++ [y], upd_same, by rw [List.length_append, p4]; rfl, fun x hx => ?_⟩
      rcases List.mem_append.mp hx with h | h
      · exact p5 x h
      · rw [List.mem_singleton.mp h]
        exact hy
    · obtain ⟨p1, p2, acc, p3, p4, p5⟩ := pv
      have hD0 : H0 Dl = none := by
        cases z : H0 Dl with
        | none => rfl
        | some o =>
          have := e1 Dl o (by rw [wo_ne (Ne.symm hpd)]; exact z)
          rw [hD] at this
          cases this
      exact q Dl H' acc ⟨by omega, p5⟩ hD0 (wx_trans e1 p1) p2 p3
def oneS (L : List Nat) (v : V) : Prop := ∃ c, v = .str ⟨#[c]⟩ ∧ c ∈ L
theorem ones_of {L : List Nat} : ∀ {xs : List V}, (∀ x ∈ xs, oneS L x) → ∃ l : List Nat, xs = l.map (fun c => V.str ⟨#[c]⟩) ∧ ∀ c ∈ l, c ∈ L
  | [], _ => ⟨[], rfl, fun c hc => by cases hc⟩
  | x :: r, h => by
    obtain ⟨l, e, hl⟩ := ones_of (xs := r) fun y hy => h y (List.mem_cons_of_mem _ hy)
    obtain ⟨c, ec, hc⟩ := h x List.mem_cons_self
    refine ⟨c :: l, by rw [ec, e]; rfl, fun y hy => ?_⟩
    rcases List.mem_cons.mp hy with z | z
    · rw [z]; exact hc
    · exact hl y z
def txtP (L : List Nat) (m : Nat) (v : V) : Prop := ∃ l : List Nat, v = .str (SX.S l) ∧ l.length ≤ m ∧ ∀ c ∈ l, c ∈ L
/-- ''.join(a list of single signs) -/
theorem e1_join {L : List Nat} {m : Nat} (hm : m ≤ 10000) (h : EvLD1 te σ p H (fun xs => (xs.length : Int) ≤ (m : Int) ∧ ∀ x ∈ xs, oneS L x)) : EvD1 (tM1 (fun x xs H Q => ∃ a p, ∃ ys : List Str, x = .str a ∧ xs = [.ref p] ∧ (SqL K H p (ys.map V.str) ∨ SqT K H p (ys.map V.str)) ∧
      (ys.map (·.length)).sum + ys.length * a.length ≤ 16777216 ∧ Q (.str (Txt.join a ys)) H) (tC (.str (PySem.Str.ofString ""))) te) σ p H (txtP L m) := fun H1 e d Q q => by
  refine ⟨⟨_, rfl⟩, h H1 e d _ fun l H2 xs hP hl e2 d2 h2 => ?_⟩
  obtain ⟨hlen, hxs⟩ := hP
  obtain ⟨w, rfl, hw⟩ := ones_of hxs
  rw [List.length_map] at hlen
  have hw2 : w.length ≤ m := by omega
  refine ⟨SX.S [], l, w.map fun c => (⟨#[c]⟩ : Str), by rw [c00], rfl, .inl (sq_of ?_), ?_, ?_⟩
  · rw [h2, List.map_map]
    rfl
  · have e9 : (w.map fun c => (⟨#[c]⟩ : Str)).map (·.length) = List.replicate w.length 1 := by
      rw [List.map_map, List.eq_replicate_iff]
      refine ⟨by rw [List.length_map], fun b hb => ?_⟩
      obtain ⟨c, _, rfl⟩ := List.mem_map.mp hb
      rfl
    rw [e9, List.sum_replicate_nat, List.length_map]
    show w.length * 1 + w.length * 0 ≤ _
    omega
  · rw [join_ones]
    exact q _ H2 ⟨w, rfl, hw2, hw⟩ e2 d2
/-- signs[_law_digit(state, m)] -/
theorem e1_sign {L : List Nat} {m : Int} {E : XK} {i : Nat} (hs : σ[i]? = some (some (.str (SX.S L)))) (hL : (L.length : Int) = m) (h0 : 0 < m) (hm : m ≤ 1000) (ha : Ev ta σ (wo p H) (.ref p)) (hb : Ev tb σ (wo p H) (.int m)) : EvD1 (tOp rIxS (tVar i) (tCall (sp__law_digit K) [] E (tCons ta (tCons tb tNil)))) σ p H (oneS L) := fun H1 e d Q q =>
  ⟨.str (SX.S L), hs, ez_digit ha hb h0 (by omega) H1 e d _ fun v H2 ⟨n, ev, n0, n1⟩ e2 d2 => by
    subst ev
    obtain ⟨k, rfl⟩ := Int.eq_ofNat_of_zero_le n0
    have hk : k < L.length := by omega
    exact ⟨SX.S L, (k : Int), L[k], rfl, rfl, by rw [SX.S_len]; exact sz_of (by omega), atI_nat (List.getElem?_eq_getElem hk), q _ H2 ⟨L[k], rfl, List.getElem_mem hk⟩ e2 d2⟩⟩
end
/-- a value that is drawn -/
inductive DV : V → Prop where
  | non : DV .non
  | bl (b : Bool) : DV (.bl b)
  | int (i : Int) (h : -1000000000000000 ≤ i ∧ i ≤ 1000000000000000) : DV (.int i)
  | str (l : List Nat) (h : l.length ≤ 4) (hc : ∀ c ∈ l, c ∈ signsL) : DV (.str (SX.S l))
theorem DV.pl {x : V} (h : DV x) : Pl x := by cases h <;> constructor
def sp__law_text (K : PySem.W.Frag) : Sp := fun vs H Q _ => ∃ p : Addr, vs = [.ref p] ∧ Dr p H ∧ ∀ v H', txtP signsL 4 v → Ex (wo p H) H' → Dr p H' → Q v H'
def sp__law_value (K : PySem.W.Frag) : Sp := fun vs H Q _ => ∃ p : Addr, vs = [.ref p] ∧ Dr p H ∧ ∀ v H', DV v → Ex (wo p H) H' → Dr p H' → Q v H'
section
variable {P : Program} {w : World} {K : PySem.W.Frag} {mg : Str → Option Value} {base : Heap}
theorem ok__law_text (D : Dn K mg "_law_text" s__law_text ["state"]) (c__law_digit : C8.Cal P w K mg base 1 "_law_digit" (sp__law_digit K) []) (z_range : mg "range" = none) :
    C8.Cal P w K mg base 2 "_law_text" (sp__law_text K) [] := by
  refine cal_of D sc__law_text (fun vs H Q E h => ?_) (fun f cdv A outer s H vs Q E hr h => ?_)
  · obtain ⟨_, rfl, _⟩ := h
    rfl
  refine ⟨_, (pss_cons (ps_set (i := 1) sc__law_text.nd rfl (.inr rfl) pe_str)
    (pss_one (ps_ret (pe_join pe_str (pe_lc (own := [("k", 2)]) (g := gName 2) (tt := tYes) rfl sc__law_text.nd (pi_range1 rfl z_range (pa_cons (C8.pe_c c__law_digit hr (by decide) (by rfl) (pa_cons (pv 0) (pa_cons pe_int pa_nil))) pa_nil)) (blkOk_by (N := n__law_text) (sc := C8.fnScope s__law_text) (by decide +kernel)) (fun _ _ _ _ _ => pg_name (i := 2) sc__law_text.nd rfl (Or.inl rfl)) (fun _ _ _ _ _ => pts_nil) (fun _ _ _ _ _ => (pe_ix ix_str (pv 1) (C8.pe_c c__law_digit hr (by decide) (by rfl) (pa_cons (pv 0) (pa_cons pe_int pa_nil))) (fun _ _ => rfl)))))))), ?_⟩
  obtain ⟨p, rfl, d, q⟩ := h
  refine q_asg (v := .str (SX.S fewS)) (ev_is ev_c (by rw [fewS_S])) fun H1 e1 => ?_
  refine s1_ret (P := txtP fewS 4) (e1_join (by decide) (e1_lc (m := 4) (ez_mono (ez_digit (ev_var rfl) ev_c (by decide) (by decide)) fun i hi => by omega) (by decide) (fun _ => rfl) fun i => e1_sign rfl (by rw [fewS_len]; rfl) (by decide) (by decide) (ev_var rfl) ev_c)) (d.ex e1) fun v H2 hv e2 d2 => ?_
  obtain ⟨l, rfl, hl, hc⟩ := hv
  exact q _ H2 ⟨l, rfl, hl, fun c h => fewS_in c (hc c h)⟩ (wx_trans (wx_of e1) e2) d2
section
variable {σ : L2.St} {H : Hp} {ta : TE} {E : XK} {p : Addr}
theorem e1_text (ha : Ev ta σ (wo p H) (.ref p)) : EvD1 (tCall (sp__law_text K) [] E (tCons ta tNil)) σ p H (txtP signsL 4) := fun H1 e d Q q =>
  ha H1 e _ fun H2 e2 => ⟨p, rfl, d.ex e2, fun v H3 hv e3 d3 => q v H3 hv (wx_trans (wx_of e2) e3) d3⟩
theorem e1_value (ha : Ev ta σ (wo p H) (.ref p)) : EvD1 (tCall (sp__law_value K) [] E (tCons ta tNil)) σ p H DV := fun H1 e d Q q =>
  ha H1 e _ fun H2 e2 => ⟨p, rfl, d.ex e2, fun v H3 hv e3 d3 => q v H3 hv (wx_trans (wx_of e2) e3) d3⟩
end
theorem ok__law_value (D : Dn K mg "_law_value" s__law_value ["state"]) (c__law_digit : C8.Cal P w K mg base 1 "_law_digit" (sp__law_digit K) []) (c__law_text : C8.Cal P w K mg base 2 "_law_text" (sp__law_text K) []) :
    C8.Cal P w K mg base 3 "_law_value" (sp__law_value K) [] := by
  refine cal_of D sc__law_value (fun vs H Q E h => ?_) (fun f cdv A outer s H vs Q E hr h => ?_)
  · obtain ⟨_, rfl, _⟩ := h
    rfl
  refine ⟨_, (pss_cons (ps_set (i := 1) sc__law_value.nd rfl (.inl rfl) (C8.pe_c c__law_digit hr (by decide) (by rfl) (pa_cons (pv 0) (pa_cons pe_int pa_nil))))
    (pss_cons (ps_if (pt_cmpR op_lt (pv 1) pe_int (nomark _))
      (pss_one (ps_ret pe_non))
      pss_nil)
    (pss_cons (ps_if (pt_cmpR op_eq (pv 1) pe_int (nomark _))
      (pss_one (ps_ret (pe_cmpR op_eq (C8.pe_c c__law_digit hr (by decide) (by rfl) (pa_cons (pv 0) (pa_cons pe_int pa_nil))) pe_int (nomark _))))
      pss_nil)
    (pss_cons (ps_if (pt_cmpR op_lt (pv 1) pe_int (nomark _))
      (pss_one (ps_ret (pe_op op_sub (C8.pe_c c__law_digit hr (by decide) (by rfl) (pa_cons (pv 0) (pa_cons pe_int pa_nil))) pe_int)))
      pss_nil)
    (pss_cons (ps_if (pt_cmpR op_eq (pv 1) pe_int (nomark _))
      (pss_one (ps_ret (pe_op op_mul (pe_op op_sub (pe_op op_mul (C8.pe_c c__law_digit hr (by decide) (by rfl) (pa_cons (pv 0) (pa_cons pe_int pa_nil))) pe_int) pe_int) (pe_op op_sub pe_int (C8.pe_c c__law_digit hr (by decide) (by rfl) (pa_cons (pv 0) (pa_cons pe_int pa_nil)))))))
      pss_nil)
    (pss_one (ps_ret (C8.pe_c c__law_text hr (by decide) (by rfl) (pa_cons (pv 0) pa_nil))))))))), ?_⟩
  obtain ⟨p, rfl, d, q⟩ := h
  refine qz_asg (ez_digit (ev_var rfl) ev_c (by decide) (by decide)) d fun kd H1 hk e1 d1 => ?_
  have w2 : ∀ {H2 : Hp}, Ex H1 H2 → Ex (wo p H) H2 := fun e => wx_trans e1 (wx_of e)
  refine q_when (b := decide (kd < 2)) (by walk_at "et") (fun _ H2 e2 => s_ret ev_c fun H3 e3 => q _ H3 .non (w2 (e2.trans e3)) (d1.ex (e2.trans e3))) fun _ H2 e2 => ?_
  have dg : ∀ {m : Int} {σ : L2.St} {H0 : Hp}, σ[0]? = some (some (V.ref p)) → 0 < m → m < 2 ^ 400 → EvD1 (tCall (sp__law_digit K) [] C8.E0 (tCons (tVar 0) (tCons (tC (.int m)) tNil))) σ p H0 (ZP fun d => 0 ≤ d ∧ d < m) := fun h0 a b => ez_digit (ev_var h0) ev_c a b
  have cc : ∀ {c : Int} {σ : L2.St} {H0 : Hp}, EvD1 (tC (.int c)) σ p H0 (ZP fun d => d = c) := e1_int ev_c rfl
  refine q_when (b := decide (V.int kd = V.int 2)) (by walk_at "et") (fun _ H3 e3 => ?_) fun _ H3 e3 => ?_
  · refine s1_ret (P := fun v => ∃ b, v = .bl b) (ez_eq (dg rfl (by decide) (by decide)) cc) (d1.ex (e2.trans e3)) fun v H4 hv e4 d4 => ?_
    obtain ⟨b, rfl⟩ := hv
    exact q _ H4 (.bl b) (wx_trans (w2 (e2.trans e3)) e4) d4
  have x3 := e2.trans e3
  refine q_when (b := decide (kd < 5)) (by walk_at "et") (fun _ H4 e4 => ?_) fun _ H4 e4 => ?_
  · refine s1_ret (P := ZP fun i => -3 ≤ i ∧ i < 4) (ez_op0 (dg rfl (by decide) (by decide)) cc fun i j hi hj => ⟨by omega, by omega⟩) (d1.ex (x3.trans e4)) fun v H5 hv e5 d5 => ?_
    obtain ⟨i, rfl, hi⟩ := hv
    exact q _ H5 (.int i (by omega)) (wx_trans (w2 (x3.trans e4)) e5) d5
  refine q_when (b := decide (V.int kd = V.int 5)) (by walk_at "et") (fun _ H5 e5 => ?_) fun _ H5 e5 => ?_
  · refine s1_ret (P := ZP fun i => -1000000000000000 ≤ i ∧ i ≤ 1000000000000000) ?_ (d1.ex ((x3.trans e4).trans e5)) fun v H6 hv e6 d6 => ?_
    · refine ez_op (PI := fun i => i = -1 ∨ i = 1) (RI := fun j => 0 ≤ j ∧ j ≤ 1000000000000000) (ez_op0 (PI := fun i => i = 0 ∨ i = 2) (ez_op (dg rfl (by decide) (by decide)) cc fun i j hi hj => ⟨.inl ⟨by omega, by omega⟩, by subst hj; omega⟩) cc fun i j hi hj => by omega) (ez_op0 cc (dg rfl (by decide) (by decide)) fun i j hi hj => ⟨by omega, by omega⟩) fun i j hi hj => ⟨.inl ⟨by omega, by omega⟩, ?_⟩
      rcases hi with h | h <;> subst h <;> omega
    · obtain ⟨i, rfl, hi⟩ := hv
      exact q _ H6 (.int i hi) (wx_trans (w2 ((x3.trans e4).trans e5)) e6) d6
  · refine s1_ret (e1_text (ev_var rfl)) (d1.ex ((x3.trans e4).trans e5)) fun v H6 hv e6 d6 => ?_
    obtain ⟨l, rfl, hl, hc⟩ := hv
    exact q _ H6 (.str l hl hc) (wx_trans (w2 ((x3.trans e4).trans e5)) e6) d6
end

/-! ### a text by a number; s.index of what is there; a comprehension over a text -/
theorem fold_rep (l : List Nat) : ∀ (m : Nat) (acc : List Nat), (List.replicate m l.toArray).foldl (· ++ ·) acc.toArray = (acc ++ (List.replicate m l).flatten).toArray
  | 0, acc => by simp
  | m + 1, acc => by
    rw [List.replicate_succ, List.foldl_cons, List.append_toArray, fold_rep l m (acc ++ l), List.replicate_succ, List.flatten_cons, List.append_assoc]
theorem op_mulS {X : Cx} : OpR X (binaryOp .Mult) (fun x y H Q => ∃ (l : List Nat) (n : Nat), x = .str (SX.S l) ∧ y = .int (n : Int) ∧ 1 ≤ n ∧ n ≤ 100 ∧ l.length ≤ 1000 ∧ Q (.str (SX.S (List.replicate n l).flatten)) H) := by
  intro pins s σ H x y v u Q I rx ry h
  obtain ⟨l, n, rfl, rfl, n1, n2, hl, q⟩ := h
  obtain ⟨t, rfl⟩ := (show ∃ t, v = Value.str (SX.S l) t from rx)
  obtain ⟨t', rfl⟩ := (show ∃ t, u = Value.int (n : Int) t from ry)
  have hm : l.length * n ≤ 1000 * 100 := Nat.mul_le_mul hl n2
  refine PySem.P.mul_str (by rw [decide_eq_false (by omega), decide_eq_false (by omega)]; rfl) (fun _ _ => ?_) (fun _ _ => ?_) ?_
  · rw [SX.S_len]
    have : (l.length : Int) ≤ (2 ^ 63 - 1) / (n : Int) := Int.le_ediv_of_mul_le (by omega) (by
      have e : (l.length : Int) * (n : Int) = ((l.length * n : Nat) : Int) := by rw [Int.natCast_mul]
      rw [e]
      omega)
    omega
  · rw [SX.S_len, Int.toNat_natCast]
    exact decide_eq_false (Nat.not_lt.mpr (Nat.le_trans hm (by decide)))
  · rw [if_neg (by omega)]
    split
    · rename_i h
      rw [Bool.or_eq_true, beq_iff_eq, beq_iff_eq, SX.S_len] at h
      have e : (List.replicate n l).flatten = l := by
        rcases h with h | h
        · have : n = 1 := by omega
          rw [this]
          simp
        · have : l = [] := List.length_eq_zero_iff.mp h
          rw [this]
          simp
      rw [e] at q
      exact ⟨.str _, H, I, ⟨t, rfl⟩, q⟩
    · have e : (⟨(List.replicate ((n : Int)).toNat (SX.S l).cps).foldl (· ++ ·) #[]⟩ : Str) = SX.S (List.replicate n l).flatten := by
        have := fold_rep l n []
        rw [List.nil_append] at this
        rw [Int.toNat_natCast]
        exact congrArg Str.mk this
      rw [e]
      refine ⟨?_, .str _, H, I.tok _, ⟨_, rfl⟩, q⟩
      rw [SX.S_len]
      have : (List.replicate n l).flatten.length = n * l.length := by simp
      rw [this, Nat.mul_comm]
      exact Nat.le_trans hm (by decide)
/-- s.index(t), found -/
theorem mt_indexOk {X : Cx} : MtR X "str.index" (fun x xs H Q => ∃ (a b : Str) (k : Nat), x = .str a ∧ xs = [.str b] ∧ Txt.index0 a b = some k ∧ Q (.int (k : Int)) H) := by
  intro pins s σ H x xs v us Q I rx rs h
  obtain ⟨a, b, k, rfl, rfl, hk, w⟩ := h
  obtain ⟨t, rfl⟩ := (show ∃ t, v = Value.str a t from rx)
  cases rs with
  | cons r1 rs =>
    cases rs
    obtain ⟨u, rfl⟩ := r1
    cases q : Builtin.Str.occurrences a b 0 a.length 1 with
    | nil =>
      unfold Txt.index0 at hk
      rw [q] at hk
      cases hk
    | cons j rest =>
      have e : j = k := by
        unfold Txt.index0 at hk
        rw [q] at hk
        exact Option.some.inj hk
      subst e
      exact PySem.SC.index q ⟨.int (j : Nat), H, I.tok _, ⟨_, rfl⟩, w⟩
section
variable {K : PySem.W.Frag} {σ : L2.St} {H : Hp} {tl te ta tb : TE}
/-- [e for c in a text] -/
theorem el_lcX {w : List Nat} {j : Nat} {vs : List Nat} (f : Nat → V) (h : Ev tl σ H (.str (SX.S w))) (hz : w.length ≤ 40000) (hw : ∀ x, wipe ((wipe σ vs).set j (some x)) vs = wipe σ vs)
    (he : ∀ (i c : Nat) H1, Ex H H1 → w[i]? = some c → Ev te ((wipe σ vs).set j (some (.str ⟨#[c]⟩))) H1 (f c)) : EvL (tLc (iStr tl) (gName j) tYes te vs) σ H (w.map f) := fun H0 e Q q => h H0 e _ fun H1 e1 => ⟨SX.S w, rfl, fun Dl hD => by
  have ec : ∀ i, (SX.S w).cps[i]? = w[i]? := fun i => List.getElem?_toArray
  have es : (SX.S w).cps.size = w.length := List.size_toArray
  refine ⟨fun i m H' => (Ex H1 H' ∧ H' Dl = some (.lst ((w.take i).map f))) ∧ i ≤ w.length ∧ w.length - i ≤ m, ⟨_, ⟨Ex.new hD, upd_same⟩, Nat.zero_le _, Nat.le_refl _⟩, fun i m H' pv => ?_⟩
  obtain ⟨⟨p2, p3⟩, hi, hm⟩ := pv
  by_cases hlt : i < w.length
  · refine .inr ⟨by show i < (SX.S w).cps.size; omega, fun H2 => Ex H1 H2 ∧ H2 Dl = some (.lst ((w.take (i + 1)).map f)), fun H2 q2 => ⟨m - 1, by omega, q2, hlt, by omega⟩, ?_⟩
    rintro x H2 ⟨rfl, c, hc, rfl⟩
    rw [ec] at hc
    show wipe ((wipe σ vs).set j (some (.str ⟨#[c]⟩))) vs = wipe σ vs ∧ te ((wipe σ vs).set j (some (.str ⟨#[c]⟩))) _ fun y H4 => ∃ acc, H4 Dl = some (.lst acc) ∧ acc.length < sizeLine ∧ _
    refine ⟨hw _, he i c H1 (e.trans e1) hc _ p2 _ fun H4 e4 => ⟨_, e4 _ _ p3, sz_lt (by rw [List.length_map, List.length_take]; omega), Ex.mut (p2.trans e4) hD, ?_⟩⟩
    rw [upd_same, List.take_add_one, hc, List.map_append]
    rfl
  · refine .inl ⟨by show (SX.S w).cps.size ≤ i; omega, ?_⟩
    rw [show i = w.length by omega, List.take_length] at p3
    exact q Dl H' (fresh_back e1 hD) (e1.trans p2) p3⟩
/-- a new list + a new list -/
theorem el_catNN {xs ys : List V} (ha : EvL ta σ H xs) (hb : EvL tb σ H ys) (hz : xs.length + ys.length ≤ 100000) : EvL (tOp rCat ta tb) σ H (xs ++ ys) := fun H1 e Q q =>
  ha H1 e _ fun a H2 ha2 e2 h2 => hb H2 (e.trans e2) _ fun b H3 _ e3 hb3 => ⟨a, b, xs, ys, rfl, rfl, e3 _ _ h2, hb3, sz_of hz, fun p hp => q p _ (fresh_back (e2.trans e3) hp) ((e2.trans e3).trans (Ex.new hp)) upd_same⟩
end
theorem el_given {te : TE} {σ : L2.St} {H : Hp} {n : Nat} {f : Nat → Bool} {v : Nat → V} (h : EvL te σ H (given ((n : Int)).toNat f v)) : EvL te σ H (given n f v) := by
  rw [Int.toNat_natCast] at h
  exact h

def sp__law_is_integer (K : PySem.W.Frag) : Sp := fun vs H Q _ => ∃ x : V, vs = [x] ∧ Pl x ∧ ∀ H', Ex H H' → Q (.bl (isInt x)) H'
section
variable {P : Program} {w : World} {K : PySem.W.Frag} {mg : Str → Option Value} {base : Heap}
theorem ok__law_is_integer (D : Dn K mg "_law_is_integer" s__law_is_integer ["told"]) (z_bool : mg "bool" = none) (z_int : mg "int" = none) (z_isinstance : mg "isinstance" = none) :
    C8.Cal P w K mg base 1 "_law_is_integer" (sp__law_is_integer K) [] := by
  refine cal_of D sc__law_is_integer (fun vs H Q E h => ?_) (fun f cdv A outer s H vs Q E hr h => ?_)
  · obtain ⟨_, rfl, _⟩ := h
    rfl
  refine ⟨_, (pss_one (ps_ret (pe_and (pe_callB call_isi (by rfl) z_isinstance (by decide +kernel) (pa_cons (pv 0) (pa_cons (pe_bltn (v := .ty "int") (u := .type "int") rfl z_int (by decide +kernel) rfl) pa_nil))) (pe_one (pe_not (pe_callB call_isi (by rfl) z_isinstance (by decide +kernel) (pa_cons (pv 0) (pa_cons (pe_bltn (v := .ty "bool") (u := .type "bool") rfl z_bool (by decide +kernel) rfl) pa_nil)))))))), ?_⟩
  obtain ⟨x, rfl, hx, q⟩ := h
  exact s_ret (ev_isInt (ev_var rfl) (ev_var rfl) hx) fun H2 e2 => q _ e2
section
variable {σ : L2.St} {H : Hp} {ta : TE} {E : XK}
theorem ec_isx {x : V} (hx : Pl x) (ha : Ev ta σ H x) : Ev (tCall (sp__law_is_integer K) [] E (tCons ta tNil)) σ H (.bl (isInt x)) := ev_call (ea_cons ha ea_nil) fun H1 e Q q E => ⟨x, rfl, hx, q⟩
theorem ec_isint {n : Int} (ha : Ev ta σ H (.int n)) : Ev (tCall (sp__law_is_integer K) [] E (tCons ta tNil)) σ H (.bl true) := ec_isx (.int n) ha
end
end

--@SPLIT
def unNames : List Str := ["not", "is null"]
def binNames : List Str := ["and", "or", "equal", "less", "at most", "same", "add"]

theorem cal_no {P : Program} {w : World} {K : PySem.W.Frag} {mg : Str → Option Value} {base : Heap} {x : Str} {st : Stmt} {N ps : List Str} {k : Nat} {sp : Sp} (D : Dn K mg x st ps) (S : FnScope N ps (C8.fnScope st)) (no : ∀ vs H Q E, sp vs H Q E → False) : C8.Cal P w K mg base (k + 1) x sp [] :=
  cal_of D S (fun vs H Q E h => (no vs H Q E h).elim) fun f cdv A outer s H vs Q E hr h => (no vs H Q E h).elim
/-! ### conditions: what they are as data -/
inductive Cnd where
  | col (n : Nat)
  | cst (v : V)
  | un (nm : Str) (a : Cnd)
  | bin (nm : Str) (a b : Cnd)
def vDc : V → PyData
  | .bl b => .bool b
  | .int i => .int i
  | .str s => .str s
  | _ => .none
theorem dp_vDc {K : PySem.W.Frag} {H : Hp} {x : V} (h : Pl x) : Dp K H x (vDc x) := by
  cases h with
  | non => exact .non
  | bl b => exact .bl b
  | int i => exact .int i
  | str s => exact .str s
theorem vDc_is {K : PySem.W.Frag} {H : Hp} {v x : V} (h : Pl x) (hd : Dp K H v (vDc x)) : v = x := by cases h <;> cases hd <;> rfl
def Cnd.d : Cnd → PyData
  | .col n => .tuple [.str "column", .int (n : Int)]
  | .cst v => .tuple [.str "constant", vDc v]
  | .un nm a => .tuple [.str "unary", .str nm, a.d]
  | .bin nm a b => .tuple [.str "binary", .str nm, a.d, b.d]
def Cnd.dep : Cnd → Nat
  | .col _ => 1
  | .cst _ => 1
  | .un _ a => a.dep + 1
  | .bin _ a b => max a.dep b.dep + 1
/-- over w columns, of these names -/
inductive Cnd.ok (w : Nat) : Cnd → Prop where
  | col (n : Nat) (h : n < w) : Cnd.ok w (.col n)
  | cst (v : V) (h : DV v) : Cnd.ok w (.cst v)
  | un (nm : Str) (a : Cnd) (h : nm ∈ unNames) (ha : a.ok w) : Cnd.ok w (.un nm a)
  | bin (nm : Str) (a b : Cnd) (h : nm ∈ binNames) (ha : a.ok w) (hb : b.ok w) : Cnd.ok w (.bin nm a b)
theorem noL_vDc (v : V) : noL (vDc v) = true := by cases v <;> rfl
theorem noL_cx : ∀ e : Cnd, noL e.d = true
  | .col _ => rfl
  | .cst v => by
    show (true && (noL (vDc v) && true)) = true
    rw [noL_vDc]
    rfl
  | .un _ a => by
    show (true && (true && (noL a.d && true))) = true
    rw [noL_cx a]
    rfl
  | .bin _ a b => by
    show (true && (true && (noL a.d && (noL b.d && true)))) = true
    rw [noL_cx a, noL_cx b]
    rfl
/-! ### data that is drawn -/
mutual
theorem dp_wo {K : PySem.W.Frag} {H : Hp} {p : Addr} {ys : List V} (hp : H p = some (.lst ys)) : ∀ {v : V} {d : PyData}, noL d = true → Dp K H v d → Dp K (wo p H) v d
  | _, _, _, .non => .non
  | _, _, _, .bl b => .bl b
  | _, _, _, .int i => .int i
  | _, _, _, .str x => .str x
  | _, _, n, .lst h a => by simp [noL] at n
  | _, _, n, .tup h a => by
    refine .tup ?_ (dps_wo hp (by simpa [noL] using n) a)
    rcases h with (h | ⟨o, h⟩) | h
    · exact .inl (.inl (by rw [wo_ne (by intro z; rw [z, hp] at h; cases h)]; exact h))
    · exact .inl (.inr ⟨o, by rw [wo_ne (by intro z; rw [z, hp] at h; cases h)]; exact h⟩)
    · exact .inr h
theorem dps_wo {K : PySem.W.Frag} {H : Hp} {p : Addr} {ys : List V} (hp : H p = some (.lst ys)) : ∀ {vs : List V} {ds : List PyData}, noLs ds = true → DpAll K H vs ds → DpAll K (wo p H) vs ds
  | _, _, _, .nil => .nil
  | _, _, n, .cons h t => by
    have n' : (noL _ && noLs _) = true := n
    rw [Bool.and_eq_true] at n'
    exact .cons (dp_wo hp n'.1 h) (dps_wo hp n'.2 t)
end
theorem Dr.at {p : Addr} {H : Hp} (d : Dr p H) : ∃ xs, H p = some (.lst xs) := by
  obtain ⟨s, _, h⟩ := d
  exact ⟨_, h⟩
theorem dp_wx {K : PySem.W.Frag} {H H' : Hp} {p : Addr} {v : V} {d : PyData} (hd : Dp K H v d) (n : noL d = true) (dr : Dr p H) (e : Ex (wo p H) H') : Dp K H' v d := by
  obtain ⟨xs, hx⟩ := dr.at
  exact ex_dp e (dp_wo hx n hd)
theorem dps_wx {K : PySem.W.Frag} {H H' : Hp} {p : Addr} {vs : List V} {ds : List PyData} (hd : DpAll K H vs ds) (n : noLs ds = true) (dr : Dr p H) (e : Ex (wo p H) H') : DpAll K H' vs ds := by
  obtain ⟨xs, hx⟩ := dr.at
  exact ex_dps e (dps_wo hx n hd)
/-- an expression that is drawn -/
def EvX (K : PySem.W.Frag) (te : TE) (σ : L2.St) (p : Addr) (H : Hp) (P : PyData → Prop) : Prop := ∀ H1, Ex (wo p H) H1 → Dr p H1 → ∀ Q : VK, (∀ v H2 d, P d → noL d = true → Dp K H2 v d → Ex (wo p H1) H2 → Dr p H2 → Q v H2) → te σ H1 Q
def EvXA (K : PySem.W.Frag) (ta : TA) (σ : L2.St) (p : Addr) (H : Hp) (P : List PyData → Prop) : Prop := ∀ H1, Ex (wo p H) H1 → Dr p H1 → ∀ Q : List V → Hp → Prop, (∀ vs H2 ds, P ds → noLs ds = true → DpAll K H2 vs ds → Ex (wo p H1) H2 → Dr p H2 → Q vs H2) → ta σ H1 Q
section
variable {K : PySem.W.Frag} {σ : L2.St} {H : Hp} {p : Addr} {ta tb te : TE} {tr : TA} {P R : PyData → Prop} {PL : List PyData → Prop} {D : Ends} {tz : TS} {E : XK} {v : V} {t : TT}
theorem x_pure {d : PyData} (h : Ev te σ (wo p H) v) (hd : ∀ H, Dp K H v d) (n : noL d = true) : EvX K te σ p H (· = d) := fun H1 e dr Q q => h H1 e Q fun H2 e2 => q v H2 d rfl n (hd H2) (wx_of e2) (dr.ex e2)
theorem x_var {i : Nat} {d : PyData} (h : σ[i]? = some (some v)) (hd : Dp K H v d) (n : noL d = true) (d0 : Dr p H) : EvX K (tVar i) σ p H (· = d) := fun H1 e dr Q q => ⟨v, h, q v H1 d rfl n (dp_wx hd n d0 e) (wo_le p H1) dr⟩
theorem x_dv (h : EvD1 te σ p H DV) : EvX K te σ p H (fun d => ∃ x, DV x ∧ d = vDc x) := fun H1 e dr Q q => h H1 e dr Q fun v H2 hv e2 d2 => q v H2 (vDc v) ⟨v, hv, rfl⟩ (noL_vDc v) (dp_vDc hv.pl) e2 d2
theorem x_int {PI : Int → Prop} (h : EvD1 te σ p H (ZP PI)) : EvX K te σ p H (fun d => ∃ i, PI i ∧ d = .int i) := fun H1 e dr Q q => h H1 e dr Q fun v H2 ⟨i, ev, hi⟩ e2 d2 => by
  subst ev
  exact q _ H2 (.int i) ⟨i, hi, rfl⟩ rfl (.int i) e2 d2
theorem x_mono (h : EvX K te σ p H P) (k : ∀ d, P d → R d) : EvX K te σ p H R := fun H1 e dr Q q => h H1 e dr Q fun v H2 d hd => q v H2 d (k d hd)
theorem xa_nil : EvXA K tNil σ p H (· = []) := fun H1 _ dr _ q => q [] H1 [] rfl rfl .nil (wo_le p H1) dr
theorem xa_cons (h : EvX K te σ p H P) (hr : EvXA K tr σ p H PL) : EvXA K (tCons te tr) σ p H (fun ds => ∃ d r, ds = d :: r ∧ P d ∧ PL r) := fun H1 e dr Q q =>
  h H1 e dr _ fun v H2 d hd n hv e2 d2 => hr H2 (wx_trans e e2) d2 _ fun vs H3 r hr' n' hvs e3 d3 => q (v :: vs) H3 (d :: r) ⟨d, r, rfl, hd, hr'⟩ (by show (noL d && noLs r) = true; rw [n, n']; rfl) (.cons (dp_wx hv n d2 e3) hvs) (wx_trans e2 e3) d3
theorem x_tup (h : EvXA K tr σ p H PL) (hl : ∀ ds, PL ds → ds.length ≤ 100000) : EvX K (tTup tr) σ p H (fun d => ∃ ds, d = .tuple ds ∧ PL ds) := fun H1 e dr Q q =>
  h H1 e dr _ fun vs H2 ds hds n hvs e2 d2 => ⟨sz_of (by rw [dps_len hvs]; exact hl ds hds), fun a ha => q (.ref a) _ (.tuple ds) ⟨ds, rfl, hds⟩ n (.tup (st_of upd_same) (ex_dps (Ex.new ha) hvs)) (e2.trans (Ex.new ha)) (d2.ex (Ex.new ha))⟩
theorem qx_asg {i : Nat} (h : EvX K te σ p H P) (d : Dr p H) (k : ∀ v H1 d', P d' → noL d' = true → Dp K H1 v d' → Ex (wo p H) H1 → Dr p H1 → tz D (σ.set i (some v)) H1) : tSeq (tAsg te (gName i)) tz D σ H := h H (wo_le p H) d _ k
theorem sx_ret (h : EvX K te σ p H P) (d : Dr p H) (k : ∀ v H1 d', P d' → noL d' = true → Dp K H1 v d' → Ex (wo p H) H1 → Dr p H1 → D.rt v H1) : tRet te D σ H := h H (wo_le p H) d _ k
/-- (a, b, c)[i] -/
theorem ev_ixD {xs : List V} {i : Nat} {x : V} (ha : EvU ta σ H xs) (hb : Ev tb σ H (.int (i : Int))) (hi : xs[i]? = some x) : Ev (tOp (rIxT K) ta tb) σ H x := fun H1 e Q q =>
  ha H1 e _ fun a H2 ha2 e2 h2 => hb H2 (e.trans e2) _ fun H3 e3 => rv_ixT (st_of (e3 _ _ h2)) (atI_nat hi) H3 (Ex.refl H3) Q fun H4 e4 => q H4 ((e2.trans e3).trans e4)
end
def CondD (w n : Nat) (d : PyData) : Prop := ∃ e : Cnd, d = e.d ∧ e.ok w ∧ e.dep ≤ n
def spR__law_condition : Nat → PySem.W.Frag → Sp
  | 0, _ => fun _ _ _ _ => False
  | n + 1, K => fun vs H Q _ => ∃ (p : Addr) (w dp : Nat), vs = [.ref p, .int (w : Int), .int (dp : Int)] ∧ Dr p H ∧ 0 < w ∧ w ≤ 1000 ∧ dp ≤ n ∧ ∀ v H' d, CondD w (dp + 2) d → noL d = true → Dp K H' v d → Ex (wo p H) H' → Dr p H' → Q v H'
def sp__law_condition (K : PySem.W.Frag) : Sp := spR__law_condition 4 K
section
variable {P : Program} {w : World} {K : PySem.W.Frag} {mg : Str → Option Value} {base : Heap}
theorem x_cond {σ : L2.St} {H : Hp} {p : Addr} {ta tb tc : TE} {E : XK} {n wd dp : Nat} (ha : Ev ta σ (wo p H) (.ref p)) (hb : Ev tb σ (wo p H) (.int (wd : Int))) (hc : Ev tc σ (wo p H) (.int (dp : Int))) (h0 : 0 < wd) (h1 : wd ≤ 1000) (h2 : dp ≤ n) :
    EvX K (tCall (spR__law_condition (n + 1) K) [] E (tCons ta (tCons tb (tCons tc tNil)))) σ p H (CondD wd (dp + 2)) := fun H1 e d Q q =>
  ha H1 e _ fun H2 e2 => hb H2 (e.trans e2) _ fun H3 e3 => hc H3 ((e.trans e2).trans e3) _ fun H4 e4 => ⟨p, wd, dp, rfl, d.ex ((e2.trans e3).trans e4), h0, h1, h2, fun v H5 dd hd n hv e5 d5 => q v H5 dd hd n hv (wx_trans (wx_of ((e2.trans e3).trans e4)) e5) d5⟩
theorem ok__law_condition {rn : Nat} (D : Dn K mg "_law_condition" s__law_condition ["state", "width", "depth"]) (c__law_digit : C8.Cal P w K mg base 1 "_law_digit" (sp__law_digit K) []) (c__law_value : C8.Cal P w K mg base 3 "_law_value" (sp__law_value K) []) (c__law_condition : C8.Cal P w K mg base (4 + rn) "_law_condition" (spR__law_condition rn K) []) :
    C8.Cal P w K mg base (4 + rn + 1) "_law_condition" (spR__law_condition (rn + 1) K) [] := by
  refine cal_of D sc__law_condition (fun vs H Q E h => ?_) (fun f cdv A outer s H vs Q E hr h => ?_)
  · obtain ⟨_, _, _, rfl, _⟩ := h
    rfl
  refine ⟨_, (pss_cons (ps_set (i := 3) sc__law_condition.nd rfl (.inl rfl) (C8.pe_c c__law_digit hr (by omega) (by rfl) (pa_cons (pv 0) (pa_cons pe_int pa_nil))))
    (pss_cons (ps_if (PW.pt (pw_and (pt_cmpR op_gt (pv 2) pe_int (nomark _)) (pw_and1 (pt_cmpR op_lt (pv 3) pe_int (nomark _)))))
      (pss_cons (ps_set (i := 4) sc__law_condition.nd rfl (.inl rfl) (pe_ix ix_tup (pe_tup (pa_cons pe_str (pa_cons pe_str (pa_cons pe_str pa_nil)))) (pv 3) (fun _ _ => rfl)))
    (pss_one (ps_ret (pe_tup (pa_cons pe_str (pa_cons (pv 4) (pa_cons (C8.pe_c c__law_condition hr (Nat.le_refl _) (by rfl) (pa_cons (pv 0) (pa_cons (pv 1) (pa_cons (pe_op op_sub (pv 2) pe_int) pa_nil)))) (pa_cons (C8.pe_c c__law_condition hr (Nat.le_refl _) (by rfl) (pa_cons (pv 0) (pa_cons (pv 1) (pa_cons (pe_op op_sub (pv 2) pe_int) pa_nil)))) pa_nil))))))))
      pss_nil)
    (pss_cons (ps_if (PW.pt (pw_and (pt_cmpR op_gt (pv 2) pe_int (nomark _)) (pw_and1 (pt_cmpR op_eq (pv 3) pe_int (nomark _)))))
      (pss_one (ps_ret (pe_tup (pa_cons pe_str (pa_cons pe_str (pa_cons (C8.pe_c c__law_condition hr (Nat.le_refl _) (by rfl) (pa_cons (pv 0) (pa_cons (pv 1) (pa_cons (pe_op op_sub (pv 2) pe_int) pa_nil)))) pa_nil))))))
      pss_nil)
    (pss_cons (ps_set (i := 5) sc__law_condition.nd rfl (.inl rfl) (pe_tup (pa_cons pe_str (pa_cons (C8.pe_c c__law_digit hr (by omega) (by rfl) (pa_cons (pv 0) (pa_cons (pv 1) pa_nil))) pa_nil))))
    (pss_cons (ps_if (pt_cmpR op_eq (pv 3) pe_int (nomark _))
      (pss_one (ps_ret (pe_tup (pa_cons pe_str (pa_cons pe_str (pa_cons (pv 5) pa_nil))))))
      pss_nil)
    (pss_cons (ps_if (pt_cmpR op_eq (pv 3) pe_int (nomark _))
      (pss_one (ps_ret (pe_tup (pa_cons pe_str (pa_cons pe_str (pa_cons (pv 5) (pa_cons (pe_tup (pa_cons pe_str (pa_cons (C8.pe_c c__law_digit hr (by omega) (by rfl) (pa_cons (pv 0) (pa_cons (pv 1) pa_nil))) pa_nil))) pa_nil)))))))
      pss_nil)
    (pss_cons (ps_set (i := 4) sc__law_condition.nd rfl (.inl rfl) (pe_ifExp (pt_cmpR op_gt (pv 3) pe_int (nomark _)) (pe_ix ix_tup (pe_tup (pa_cons pe_str (pa_cons pe_str (pa_cons pe_str (pa_cons pe_str pa_nil))))) (pe_op op_sub (pv 3) pe_int) (fun _ _ => rfl)) pe_str))
    (pss_cons (ps_set (i := 6) sc__law_condition.nd rfl (.inl rfl) (pe_tup (pa_cons pe_str (pa_cons (C8.pe_c c__law_value hr (by omega) (by rfl) (pa_cons (pv 0) pa_nil)) pa_nil))))
    (pss_cons (ps_if (pt_cmpR op_eq (C8.pe_c c__law_digit hr (by omega) (by rfl) (pa_cons (pv 0) (pa_cons pe_int pa_nil))) pe_int (nomark _))
      (pss_one (ps_ret (pe_tup (pa_cons pe_str (pa_cons (pv 4) (pa_cons (pv 6) (pa_cons (pv 5) pa_nil)))))))
      pss_nil)
    (pss_one (ps_ret (pe_tup (pa_cons pe_str (pa_cons (pv 4) (pa_cons (pv 5) (pa_cons (pv 6) pa_nil)))))))))))))))), ?_⟩
  obtain ⟨p, wd, dp, rfl, dr, w0, w1, hdp, q⟩ := h
  refine qz_asg (ez_digit (ev_var rfl) ev_c (by decide) (by decide)) dr fun kd H1 hk e1 d1 => ?_
  obtain ⟨kn, rfl⟩ := Int.eq_ofNat_of_zero_le hk.1
  have hk10 : kn < 10 := by omega
  refine q_when (b := decide ((dp : Int) > 0) && decide ((kn : Int) < 3)) (et_and (et_test (ev_op (ev_var rfl) ev_c rv_I0)) fun _ => et_test (ev_op (ev_var rfl) ev_c rv_I0)) (fun hb H2 e2 => ?_) fun hb H2 e2 => ?_
  · rw [Bool.and_eq_true, decide_eq_true_eq, decide_eq_true_eq] at hb
    have hk3 : kn < 3 := by omega
    have hdp0 : 0 < dp := by omega
    generalize hnm : (["and", "or", "and"] : List Str).getD kn "" = nm
    have hnm2 : nm ∈ binNames ∧ ([V.str "and", .str "or", .str "and"] : List V)[kn]? = some (.str nm) := by
      rcases (show kn = 0 ∨ kn = 1 ∨ kn = 2 by omega) with z | z | z <;> subst z <;> (rw [← hnm]; exact ⟨by decide +kernel, rfl⟩)
    refine q_asg (v := .str nm) (ev_ixD (i := kn) (eu_tup (ea_cons ev_c (ea_cons ev_c (ea_cons ev_c ea_nil))) (by show 3 ≤ 100000; decide)) (ev_var rfl) hnm2.2) fun H3 e3 => ?_
    have d3 := d1.ex (e2.trans e3)
    cases rn with
    | zero => omega
    | succ m =>
    have hdv : ∀ {H0 : Hp}, Ev (tOp (rI0 fun i j => .int (i - j)) (tVar 2) (tC (.int 1))) [some (.ref p), some (.int (wd : Int)), some (.int (dp : Int)), some (.int (kn : Int)), some (.str nm), none, none] H0 (.int ((dp - 1 : Nat) : Int)) := ev_is (ev_op (ev_var rfl) ev_c rv_I0) (by rw [show (dp : Int) - 1 = ((dp - 1 : Nat) : Int) by omega])
    refine sx_ret (K := K) (x_tup (xa_cons (x_pure ev_c (fun _ => .str _) rfl) (xa_cons (x_pure (ev_var rfl) (fun _ => .str _) rfl) (xa_cons (x_cond (n := m) (ev_var rfl) (ev_var rfl) hdv w0 w1 (by omega)) (xa_cons (x_cond (n := m) (ev_var rfl) (ev_var rfl) hdv w0 w1 (by omega)) xa_nil)))) (fun ds h => ?_)) d3 fun v H4 d' hd n hv e4 d4 => ?_
    · obtain ⟨d1, r1, rfl, _, d2, r2, rfl, _, d3, r3, rfl, _, d4, r4, rfl, _, rfl⟩ := h
      show 4 ≤ 100000
      decide
    · refine q v H4 d' ?_ n hv (wx_trans e1 (wx_trans (wx_of (e2.trans e3)) e4)) d4
      obtain ⟨ds, rfl, d1, r1, rfl, rfl, d2, r2, rfl, rfl, d3, r3, rfl, ⟨a, rfl, oa, da⟩, d4, r4, rfl, ⟨b, rfl, ob, db⟩, rfl⟩ := hd
      exact ⟨.bin nm a b, rfl, .bin nm a b hnm2.1 oa ob, by show max a.dep b.dep + 1 ≤ _; omega⟩
  refine q_when (b := decide ((dp : Int) > 0) && decide (V.int (kn : Int) = V.int 3)) (et_and (et_test (ev_op (ev_var rfl) ev_c rv_I0)) fun _ => et_test (ev_op (ev_var rfl) ev_c (rv_eq rfl))) (fun hb H3 e3 => ?_) fun hb H3 e3 => ?_
  · rw [Bool.and_eq_true, decide_eq_true_eq, decide_eq_true_eq] at hb
    have d3 := d1.ex (e2.trans e3)
    cases rn with
    | zero => omega
    | succ m =>
    refine sx_ret (K := K) (x_tup (xa_cons (x_pure ev_c (fun _ => .str _) rfl) (xa_cons (x_pure ev_c (fun _ => .str _) rfl) (xa_cons (x_cond (n := m) (dp := dp - 1) (ev_var rfl) (ev_var rfl) (ev_is (ev_op (ev_var rfl) ev_c rv_I0) (by rw [show (dp : Int) - 1 = ((dp - 1 : Nat) : Int) by omega])) w0 w1 (by omega)) xa_nil))) (fun ds h => ?_)) d3 fun v H4 d' hd n hv e4 d4 => ?_
    · obtain ⟨d1, r1, rfl, _, d2, r2, rfl, _, d3, r3, rfl, _, rfl⟩ := h
      show 3 ≤ 100000
      decide
    · refine q v H4 d' ?_ n hv (wx_trans e1 (wx_trans (wx_of (e2.trans e3)) e4)) d4
      obtain ⟨ds, rfl, d1, r1, rfl, rfl, d2, r2, rfl, rfl, d3, r3, rfl, ⟨a, rfl, oa, da⟩, rfl⟩ := hd
      exact ⟨.un "not" a, rfl, .un "not" a (by decide +kernel) oa, by show a.dep + 1 ≤ _; omega⟩
  have x3 := e2.trans e3
  have d3 := d1.ex x3
  have w3 : ∀ {H' : Hp}, Ex (wo p H3) H' → Ex (wo p H) H' := fun e => wx_trans e1 (wx_trans (wx_of x3) e)
  have two : ∀ {a b : PyData → Prop} (ds : List PyData), (∃ d r, ds = d :: r ∧ a d ∧ ∃ d' r', r = d' :: r' ∧ b d' ∧ r' = []) → ds.length ≤ 100000 := fun ds h => by
    obtain ⟨d1, r1, rfl, _, d2, r2, rfl, _, rfl⟩ := h
    show 2 ≤ 100000
    decide
  have three : ∀ {a b c : PyData → Prop} (ds : List PyData), (∃ d r, ds = d :: r ∧ a d ∧ ∃ d' r', r = d' :: r' ∧ b d' ∧ ∃ d2 r2, r' = d2 :: r2 ∧ c d2 ∧ r2 = []) → ds.length ≤ 100000 := fun ds h => by
    obtain ⟨d1, r1, rfl, _, d2, r2, rfl, _, d3, r3, rfl, _, rfl⟩ := h
    show 3 ≤ 100000
    decide
  have four : ∀ {a b c e : PyData → Prop} (ds : List PyData), (∃ d r, ds = d :: r ∧ a d ∧ ∃ d' r', r = d' :: r' ∧ b d' ∧ ∃ d2 r2, r' = d2 :: r2 ∧ c d2 ∧ ∃ d3 r3, r2 = d3 :: r3 ∧ e d3 ∧ r3 = []) → ds.length ≤ 100000 := fun ds h => by
    obtain ⟨d1, r1, rfl, _, d2, r2, rfl, _, d3, r3, rfl, _, d4, r4, rfl, _, rfl⟩ := h
    show 4 ≤ 100000
    decide
  refine qx_asg (K := K) (x_tup (xa_cons (x_pure ev_c (fun _ => .str _) rfl) (xa_cons (x_int (ez_digit (ev_var rfl) (ev_var rfl) (by omega) (by omega))) xa_nil)) two) d3 fun vc H4 dc hdc nc hvc e4 d4 => ?_
  obtain ⟨ds, rfl, _, _, rfl, rfl, _, _, rfl, ⟨ci, hci, rfl⟩, rfl⟩ := hdc
  obtain ⟨cn, rfl⟩ := Int.eq_ofNat_of_zero_le hci.1
  have hcn : cn < wd := by omega
  refine q_when (b := decide (V.int (kn : Int) = V.int 4)) (by walk_at "et") (fun _ H5 e5 => ?_) fun _ H5 e5 => ?_
  · refine sx_ret (K := K) (x_tup (xa_cons (x_pure ev_c (fun _ => .str _) rfl) (xa_cons (x_pure ev_c (fun _ => .str _) rfl) (xa_cons (x_var rfl (ex_dp e5 hvc) nc (d4.ex e5)) xa_nil))) three) (d4.ex e5) fun v H6 d' hd n hv e6 d6 => ?_
    refine q v H6 d' ?_ n hv (w3 (wx_trans e4 (wx_trans (wx_of e5) e6))) d6
    obtain ⟨ds, rfl, _, _, rfl, rfl, _, _, rfl, rfl, _, _, rfl, rfl, rfl⟩ := hd
    exact ⟨.un "is null" (.col cn), rfl, .un "is null" _ (by decide +kernel) (.col cn hcn), by show 1 + 1 ≤ _; omega⟩
  refine q_when (b := decide (V.int (kn : Int) = V.int 5)) (by walk_at "et") (fun _ H6 e6 => ?_) fun _ H6 e6 => ?_
  · have d6 := d4.ex (e5.trans e6)
    refine sx_ret (K := K) (x_tup (xa_cons (x_pure ev_c (fun _ => .str _) rfl) (xa_cons (x_pure ev_c (fun _ => .str _) rfl) (xa_cons (x_var rfl (ex_dp (e5.trans e6) hvc) nc d6) (xa_cons (x_tup (xa_cons (x_pure ev_c (fun _ => .str _) rfl) (xa_cons (x_int (ez_digit (ev_var rfl) (ev_var rfl) (by omega) (by omega))) xa_nil)) two) xa_nil)))) four) d6 fun v H7 d' hd n hv e7 d7 => ?_
    refine q v H7 d' ?_ n hv (w3 (wx_trans e4 (wx_trans (wx_of (e5.trans e6)) e7))) d7
    obtain ⟨ds, rfl, _, _, rfl, rfl, _, _, rfl, rfl, _, _, rfl, rfl, _, _, rfl, ⟨ds2, rfl, _, _, rfl, rfl, _, _, rfl, ⟨cj, hcj, rfl⟩, rfl⟩, rfl⟩ := hd
    obtain ⟨cm, rfl⟩ := Int.eq_ofNat_of_zero_le hcj.1
    exact ⟨.bin "equal" (.col cn) (.col cm), rfl, .bin "equal" _ _ (by decide +kernel) (.col cn hcn) (.col cm (by omega)), by show max 1 1 + 1 ≤ _; omega⟩
  have x6 := e5.trans e6
  have d6 := d4.ex x6
  have hnm : ∃ nm : Str, nm ∈ binNames ∧ ((kn ≤ 5 ∧ nm = "equal") ∨ (5 < kn ∧ ([V.str "equal", .str "less", .str "at most", .str "less"] : List V)[kn - 6]? = some (.str nm))) := by
    by_cases h : kn ≤ 5
    · exact ⟨"equal", by decide +kernel, .inl ⟨h, rfl⟩⟩
    · rcases (show kn = 6 ∨ kn = 7 ∨ kn = 8 ∨ kn = 9 by omega) with z | z | z | z <;> subst z
      · exact ⟨"equal", by decide +kernel, .inr ⟨by omega, rfl⟩⟩
      · exact ⟨"less", by decide +kernel, .inr ⟨by omega, rfl⟩⟩
      · exact ⟨"at most", by decide +kernel, .inr ⟨by omega, rfl⟩⟩
      · exact ⟨"less", by decide +kernel, .inr ⟨by omega, rfl⟩⟩
  obtain ⟨nm, hnb, hcase⟩ := hnm
  refine q_asg (v := .str nm) (ev_if (b := decide ((kn : Int) > 5)) (et_test (ev_op (ev_var rfl) ev_c rv_I0)) (fun hb => ?_) fun hb => ?_) fun H7 e7 => ?_
  · have hb2 := of_decide_eq_true hb
    rcases hcase with ⟨h, _⟩ | ⟨h, hix⟩
    · omega
    · exact ev_ixD (i := kn - 6) (eu_tup (ea_cons ev_c (ea_cons ev_c (ea_cons ev_c (ea_cons ev_c ea_nil)))) (by show 4 ≤ 100000; decide)) (ev_is (ev_op (ev_var rfl) ev_c rv_I0) (by rw [show (kn : Int) - 6 = ((kn - 6 : Nat) : Int) by omega])) hix
  · have hb2 := of_decide_eq_false hb
    rcases hcase with ⟨_, rfl⟩ | ⟨h, _⟩
    · exact ev_c
    · omega
  refine qx_asg (K := K) (x_tup (xa_cons (x_pure ev_c (fun _ => .str _) rfl) (xa_cons (x_dv (e1_value (ev_var rfl))) xa_nil)) two) (d6.ex e7) fun vv H8 dv hdv nv hvv e8 d8 => ?_
  obtain ⟨ds, rfl, _, _, rfl, rfl, _, _, rfl, ⟨x, hx, rfl⟩, rfl⟩ := hdv
  have hvc8 := dp_wx (ex_dp (x6.trans e7) hvc) nc (d6.ex e7) e8
  have w8 : ∀ {H' : Hp}, Ex (wo p H8) H' → Ex (wo p H) H' := fun e => w3 (wx_trans e4 (wx_trans (wx_of (x6.trans e7)) (wx_trans e8 e)))
  refine q1_when (edt_test (ez_eq (ez_digit (ev_var rfl) ev_c (by decide) (by decide)) (e1_int (PI := fun j => j = 0) ev_c rfl))) d8 (fun H9 e9 d9 => ?_) fun H9 e9 d9 => ?_
  all_goals
    have hc9 := dp_wx hvc8 nc d8 e9
    have hv9 := dp_wx hvv nv d8 e9
  · refine sx_ret (K := K) (x_tup (xa_cons (x_pure ev_c (fun _ => .str _) rfl) (xa_cons (x_pure (ev_var rfl) (fun _ => .str _) rfl) (xa_cons (x_var rfl hv9 nv d9) (xa_cons (x_var rfl hc9 nc d9) xa_nil)))) four) d9 fun v Ha d' hd n hv ea da => ?_
    refine q v Ha d' ?_ n hv (w8 (wx_trans e9 ea)) da
    obtain ⟨ds, rfl, _, _, rfl, rfl, _, _, rfl, rfl, _, _, rfl, rfl, _, _, rfl, rfl, rfl⟩ := hd
    exact ⟨.bin nm (.cst x) (.col cn), rfl, .bin nm _ _ hnb (.cst x hx) (.col cn hcn), by show max 1 1 + 1 ≤ _; omega⟩
  · refine sx_ret (K := K) (x_tup (xa_cons (x_pure ev_c (fun _ => .str _) rfl) (xa_cons (x_pure (ev_var rfl) (fun _ => .str _) rfl) (xa_cons (x_var rfl hc9 nc d9) (xa_cons (x_var rfl hv9 nv d9) xa_nil)))) four) d9 fun v Ha d' hd n hv ea da => ?_
    refine q v Ha d' ?_ n hv (w8 (wx_trans e9 ea)) da
    obtain ⟨ds, rfl, _, _, rfl, rfl, _, _, rfl, rfl, _, _, rfl, rfl, _, _, rfl, rfl, rfl⟩ := hd
    exact ⟨.bin nm (.col cn) (.cst x), rfl, .bin nm _ _ hnb (.col cn hcn) (.cst x hx), by show max 1 1 + 1 ≤ _; omega⟩
end

--@SPLIT
/-! ### expressions taken apart -/
def Cnd.kids : Cnd → List Cnd
  | .col _ => []
  | .cst _ => []
  | .un _ a => [a]
  | .bin _ a b => [a, b]
def Cnd.hdw : Cnd → Str
  | .col _ => "column"
  | .cst _ => "constant"
  | .un _ _ => "unary"
  | .bin _ _ _ => "binary"
def Cnd.two : Cnd → PyData
  | .col n => .int (n : Int)
  | .cst v => vDc v
  | .un nm _ => .str nm
  | .bin nm _ _ => .str nm
def used : Cnd → List Nat
  | .col n => [n]
  | .cst _ => []
  | .un _ a => used a
  | .bin _ a b => used a ++ used b
def Cnd.sz : Cnd → Nat
  | .col _ => 1
  | .cst _ => 1
  | .un _ a => a.sz + 1
  | .bin _ a b => a.sz + b.sz + 1
def isBin (nm : Str) : Cnd → Bool
  | .bin x _ _ => decide (x = nm)
  | _ => false
def cparts : Cnd → List Cnd
  | .bin nm a b => if nm = "and" then cparts a ++ cparts b else [.bin nm a b]
  | e => [e]
theorem d_is (e : Cnd) : e.d = .tuple (.str e.hdw :: e.two :: e.kids.map Cnd.d) := by cases e <;> rfl
theorem used_kids (e : Cnd) (n : Nat) : n ∈ used e ↔ e = .col n ∨ ∃ c ∈ e.kids, n ∈ used c := by
  cases e with
  | col k => simp [used, Cnd.kids]; exact ⟨fun h => h.symm, fun h => h.symm⟩
  | cst v => simp [used, Cnd.kids]
  | un nm a => simp [used, Cnd.kids]
  | bin nm a b => simp [used, Cnd.kids]
theorem sz_kids (e : Cnd) : e.sz = (e.kids.map Cnd.sz).sum + 1 := by cases e <;> simp [Cnd.sz, Cnd.kids]
theorem sz_pos (e : Cnd) : 1 ≤ e.sz := by rw [sz_kids]; omega
theorem dp_tupD {K : PySem.W.Frag} {H : Hp} {v : V} {ds : List PyData} (h : Dp K H v (.tuple ds)) : ∃ b ys, v = .ref b ∧ SqT K H b ys ∧ DpAll K H ys ds := by
  cases h with
  | tup hS hd => exact ⟨_, _, rfl, hS, hd⟩
theorem dp_strD {K : PySem.W.Frag} {H : Hp} {v : V} {s : Str} (h : Dp K H v (.str s)) : v = .str s := by cases h; rfl
theorem dp_intD {K : PySem.W.Frag} {H : Hp} {v : V} {n : Int} (h : Dp K H v (.int n)) : v = .int n := by cases h; rfl
theorem cx_view {K : PySem.W.Frag} {G : Hp} {v : V} {e : Cnd} (h : Dp K G v e.d) : ∃ b y ys, v = .ref b ∧ SqT K G b (.str e.hdw :: y :: ys) ∧ Dp K G y e.two ∧ DpAll K G ys (e.kids.map Cnd.d) := by
  rw [d_is] at h
  obtain ⟨b, zs, rfl, hS, hds⟩ := dp_tupD h
  cases hds with | cons h1 hds =>
  cases hds with | cons h2 hds =>
  cases h1
  exact ⟨b, _, _, rfl, hS, h2, hds⟩
def isB : Cnd → Bool
  | .bin _ _ _ => true
  | _ => false
def isCol : Cnd → Bool
  | .col _ => true
  | _ => false
def isCst : Cnd → Bool
  | .cst _ => true
  | _ => false
theorem hd_col {e : Cnd} : decide (V.str e.hdw = V.str "column") = isCol e := by
  cases e with
  | col n => show decide (V.str "column" = V.str "column") = true; decide +kernel
  | cst v => show decide (V.str "constant" = V.str "column") = false; decide +kernel
  | un nm a => show decide (V.str "unary" = V.str "column") = false; decide +kernel
  | bin nm a b => show decide (V.str "binary" = V.str "column") = false; decide +kernel
theorem hd_bin {e : Cnd} : decide (V.str e.hdw = V.str "binary") = isB e := by
  cases e with
  | col n => show decide (V.str "column" = V.str "binary") = false; decide +kernel
  | cst v => show decide (V.str "constant" = V.str "binary") = false; decide +kernel
  | un nm a => show decide (V.str "unary" = V.str "binary") = false; decide +kernel
  | bin nm a b => show decide (V.str "binary" = V.str "binary") = true; decide +kernel
theorem hd_cst {e : Cnd} : decide (V.str e.hdw = V.str "constant") = isCst e := by
  cases e with
  | col n => show decide (V.str "column" = V.str "constant") = false; decide +kernel
  | cst v => show decide (V.str "constant" = V.str "constant") = true; decide +kernel
  | un nm a => show decide (V.str "unary" = V.str "constant") = false; decide +kernel
  | bin nm a b => show decide (V.str "binary" = V.str "constant") = false; decide +kernel
section
variable {K : PySem.W.Frag} {w : World} {σ : L2.St} {H : Hp} {ta tb tc te tl : TE} {tr : TA} {D : Ends} {tz : TS} {th tlo : TO} {v : V}
theorem et_isBin {e : Cnd} {nm : Str} {b : Addr} {y : V} {ys : List V} {i : Nat} (h0 : σ[i]? = some (some (.ref b))) (hS : SqT K H b (.str e.hdw :: y :: ys)) {G : Hp} (h2 : Dp K G y e.two) : EvT (tAnd (tTest (tOp rEq (tOp (rIxT K) (tVar i) (tC (.int 0))) (tC (.str "binary")))) (tTest (tOp rEq (tOp (rIxT K) (tVar i) (tC (.int 1))) (tC (.str nm))))) σ H (isBin nm e) := by
  have t0 : EvT (tTest (tOp rEq (tOp (rIxT K) (tVar i) (tC (.int 0))) (tC (.str "binary")))) σ H (isB e) := et_test (ev_is (ev_op (ev_op (ev_var h0) ev_c (rv_ixT hS (atI_nat (j := 0) rfl))) ev_c (rv_eq rfl)) (by rw [hd_bin]))
  cases e with
  | col n => exact et_is (et_and t0 fun h => nomatch h) (show (false && false) = false from rfl)
  | cst n => exact et_is (et_and t0 fun h => nomatch h) (show (false && false) = false from rfl)
  | un x a => exact et_is (et_and t0 fun h => nomatch h) (show (false && false) = false from rfl)
  | bin x a b =>
    cases h2
    refine et_is (et_and t0 fun _ => et_test (ev_op (ev_op (ev_var h0) ev_c (rv_ixT hS (atI_nat (j := 1) rfl))) ev_c (rv_eq rfl))) ?_
    show decide (V.str x = V.str nm) = decide (x = nm)
    rw [Bool.eq_iff_iff, decide_eq_true_eq, decide_eq_true_eq]
    exact ⟨fun h => V.str.inj h, fun h => by rw [h]⟩
theorem et_truL {a : Addr} {xs : List V} (h : Ev te σ H (.ref a)) (hx : SqL K H a xs) : EvT (fun σ H Q => te σ H fun x H' => ∃ k, TruV K x H' k ∧ Q k H') σ H (!xs.isEmpty) := fun H1 e Q q => h H1 e _ fun H2 e2 => ⟨!xs.isEmpty, .inl ⟨xs, ex_l (e.trans e2) hx, rfl⟩, q H2 e2⟩
theorem q_asgE {i : Nat} (h : te σ H fun v H1 => tz D (σ.set i (some v)) H1) : tSeq (tAsg te (gName i)) tz D σ H := h
theorem rv_ixKD {d : Addr} {es : Array DictEntry} {n : Nat} {z : Str} {u : Value} {v : V} (D : KDict K w d es n) (e : PySem.W.nsIn K d z = some (some u)) (r : RelV v u) : RV (rIxD K w) (.ref d) (.str z) H v :=
  fun H1 _ _ q => ⟨d, z, v, rfl, rfl, ⟨es, n, u, D.at_, D.lit, e, r⟩, q H1 (Ex.refl H1)⟩
/-- t[lo:hi], not the whole of it -/
theorem eu_slA {a : Addr} {xs : List V} {lo hi : Option Int} (h : Ev te σ H (.ref a)) (h1 : EvO tlo σ H lo) (h2 : EvO th σ H hi) (hs : SqT K H a xs) (hw : ¬ (HT.sIx xs.length 0 lo = 0 ∧ HT.sIx xs.length xs.length hi = xs.length)) : EvU (tSl (rSlA K) te tlo th) σ H (cutV xs lo hi) := fun H1 e _ q =>
  h H1 e _ fun H2 e2 => h1 H2 (e.trans e2) _ fun H3 e3 => h2 H3 ((e.trans e2).trans e3) _ fun H4 e4 =>
    ⟨a, xs, rfl, ex_t (((e.trans e2).trans e3).trans e4) hs, fun z => (hw z).elim, fun _ p hp => q p _ (fresh_back ((e2.trans e3).trans e4) hp) (((e2.trans e3).trans e4).trans (Ex.new hp)) upd_same⟩
theorem ev_slW {a : Addr} {xs : List V} {lo hi : Option Int} (h : Ev te σ H (.ref a)) (h1 : EvO tlo σ H lo) (h2 : EvO th σ H hi) (hs : SqT K H a xs) (hw : HT.sIx xs.length 0 lo = 0 ∧ HT.sIx xs.length xs.length hi = xs.length) : Ev (tSl (rSlA K) te tlo th) σ H (.ref a) := fun H1 e _ q =>
  h H1 e _ fun H2 e2 => h1 H2 (e.trans e2) _ fun H3 e3 => h2 H3 ((e.trans e2).trans e3) _ fun H4 e4 =>
    ⟨a, xs, rfl, ex_t (((e.trans e2).trans e3).trans e4) hs, fun _ => q H4 ((e2.trans e3).trans e4), fun n => (n hw).elim⟩
theorem q_pop {i : Nat} {l : Addr} {xs : List V} {y : V} (hl : H l = some (.lst (xs ++ [y]))) (ha : Ev ta σ H (.ref l)) (k : ∀ H1, Ex H H1 → tz D (σ.set i (some y)) (upd H1 l (.lst xs))) : tSeq (tAsg (tBM0 K "list" rPop ta) (gName i)) tz D σ H := ha H (Ex.refl H) _ fun H1 e1 =>
  ⟨Or.inl ⟨rfl, _, sq_of (e1 l _ hl)⟩, l, xs ++ [y], y, rfl, rfl, e1 l _ hl, by rw [List.length_append, List.length_singleton, Nat.add_sub_cancel, List.getElem?_append_right (Nat.le_refl _), Nat.sub_self]; rfl, by
    rw [List.dropLast_concat]
    exact k H1 e1⟩
theorem s_extT {l : Addr} {xs zs : List V} (hl : H l = some (.lst xs)) (ha : Ev ta σ H (.ref l)) (h : EvU te σ H zs) (hz : xs.length + zs.length ≤ 100000) (k : ∀ H1, Ex H H1 → D.nx σ (upd H1 l (.lst (xs ++ zs)))) : tDrop (tBM K "list" (rExtT K) ta (tCons te tNil)) D σ H := ha H (Ex.refl H) _ fun H1 e1 =>
  ⟨Or.inl ⟨rfl, _, sq_of (e1 l _ hl)⟩, h H1 e1 _ fun p H2 hp e2 h2 => ⟨l, p, xs, zs, rfl, rfl, e2 l _ (e1 l _ hl), st_of h2, sz_of hz, k H2 (e1.trans e2)⟩⟩
theorem s_extL {l : Addr} {xs zs : List V} (hl : H l = some (.lst xs)) (ha : Ev ta σ H (.ref l)) (h : EvL te σ H zs) (hz : xs.length + zs.length ≤ 100000) (k : ∀ H1, Ex H H1 → D.nx σ (upd H1 l (.lst (xs ++ zs)))) : tDrop (tBM K "list" rExtend ta (tCons te tNil)) D σ H := ha H (Ex.refl H) _ fun H1 e1 =>
  ⟨Or.inl ⟨rfl, _, sq_of (e1 l _ hl)⟩, h H1 e1 _ fun p H2 hp e2 h2 => ⟨l, p, xs, zs, rfl, rfl, e2 l _ (e1 l _ hl), h2, sz_of hz, k H2 (e1.trans e2)⟩⟩
theorem q_dnew {i : Nat} (k : ∀ p, H p = none → tz D (σ.set i (some (.ref p))) (upd H p (.dK []))) : tSeq (tAsg tDNewK (gName i)) tz D σ H := fun p hp => k p hp
theorem s_dputI {d : Addr} {kvs : List (L2.Key × V)} {s : Int} (hv : Ev te σ H v) (hb : Ev tl σ H (.ref d)) (ha : Ev ta σ H (.int s)) (h : H d = some (.dK kvs)) (hz : kvs.length ≤ 100000) (k : ∀ H1, Ex H H1 → D.nx σ (upd H1 d (.dK (putK kvs (Sum.inl s) v)))) : sDPut tl ta te D σ H :=
  hv H (Ex.refl H) _ fun H1 e1 => hb H1 e1 _ fun H2 e2 => ha H2 (e1.trans e2) _ fun H3 e3 => ⟨d, _, rfl, .inl ⟨kvs, Sum.inl s, ((e1.trans e2).trans e3) _ _ h, rfl, Nat.lt_of_le_of_lt hz (by decide), rfl⟩, k H3 ((e1.trans e2).trans e3)⟩
theorem put_keys {kvs : List (L2.Key × V)} {ks : List Int} {s : Int} {v : V} (h : kvs.map (·.1) = ks.map Sum.inl) : ∃ ks' : List Int, (putK kvs (Sum.inl s) v).map (·.1) = ks'.map Sum.inl ∧ ks'.length ≤ ks.length + 1 ∧ ∀ x, x ∈ ks' ↔ x ∈ ks ∨ x = s := by
  unfold putK
  split
  · rename_i ha
    refine ⟨ks, ?_, by omega, fun x => ⟨.inl, fun hx => ?_⟩⟩
    · rw [← h, List.map_map]
      refine List.map_congr_left fun kv _ => ?_
      show (if kv.1 = Sum.inl s then (kv.1, v) else kv).1 = kv.1
      split <;> rfl
    · rcases hx with hx | rfl
      · exact hx
      · obtain ⟨kv, hkv, e⟩ := List.any_eq_true.mp ha
        have e2 : kv.1 = Sum.inl x := of_decide_eq_true e
        have : (Sum.inl x : L2.Key) ∈ ks.map Sum.inl := by rw [← h, ← e2]; exact List.mem_map.mpr ⟨kv, hkv, rfl⟩
        obtain ⟨y, hy, ey⟩ := List.mem_map.mp this
        cases ey
        exact hy
  · refine ⟨ks ++ [s], by rw [List.map_append, h, List.map_append]; rfl, by rw [List.length_append]; exact Nat.le_refl _, fun x => ?_⟩
    rw [List.mem_append, List.mem_singleton]
end
theorem two_nat {K : PySem.W.Frag} {G : Hp} {y : V} {n : Nat} (h : Dp K G y (Cnd.col n).two) : y = .int (n : Int) := dp_intD h
theorem dps_app {K : PySem.W.Frag} {H : Hp} : ∀ {xs ys : List V} {ds es : List PyData}, DpAll K H xs ds → DpAll K H ys es → DpAll K H (xs ++ ys) (ds ++ es)
  | _, _, _, _, .nil, h => h
  | _, _, _, _, .cons a t, h => .cons a (dps_app t h)
theorem dps_unsnoc {K : PySem.W.Frag} {H : Hp} : ∀ {vs : List V} {ds : List PyData} {d : PyData}, DpAll K H vs (ds ++ [d]) → ∃ ws y, vs = ws ++ [y] ∧ DpAll K H ws ds ∧ Dp K H y d
  | _, [], _, .cons h .nil => ⟨[], _, rfl, .nil, h⟩
  | _, _ :: _, _, .cons h t => by
    obtain ⟨ws, y, rfl, h1, h2⟩ := dps_unsnoc t
    exact ⟨_ :: ws, y, rfl, .cons h h1, h2⟩
def sp_parts_of (K : PySem.W.Frag) : Sp := fun vs H Q _ => ∃ (v : V) (e : Cnd) (G : Hp), vs = [v] ∧ Ex G H ∧ Dp K G v e.d ∧ ∀ p H' ys, H p = none → Ex H H' → H' p = some (.tup ys) → DpAll K G ys (e.kids.map Cnd.d) → Q (.ref p) H'
def UsedIs (e : Cnd) (ns : List Int) : Prop := ∀ x : Int, x ∈ ns ↔ ∃ n ∈ used e, x = (n : Int)
def sp_columns_of (K : PySem.W.Frag) : Sp := fun vs H Q _ => ∃ (v : V) (e : Cnd), vs = [v] ∧ Dp K H v e.d ∧ e.sz ≤ 60 ∧ ∀ p H' (ns : List Int), H p = none → Ex H H' → H' p = some (.lst (ns.map V.int)) → ns.Pairwise (· ≤ ·) → UsedIs e ns → ns.length ≤ 60 → Q (.ref p) H'
theorem cut_two {x y : V} {ys : List V} : cutV (x :: y :: ys) (some ((2 : Nat) : Int)) none = ys := by
  unfold cutV
  rw [HT.sIx_nat, HT.sIx_none]
  show List.take (ys.length + 2 - min 2 (ys.length + 2)) (List.drop (min 2 (ys.length + 2)) (x :: y :: ys)) = ys
  rw [Nat.min_eq_left (by omega)]
  show List.take (ys.length + 2 - 2) ys = ys
  exact List.take_of_length_le (by omega)
theorem no_whole {n : Nat} {hi : Option Int} (k : Nat) (h : k + 1 ≤ n) : ¬ (HT.sIx n 0 (some ((k + 1 : Nat) : Int)) = 0 ∧ HT.sIx n n hi = n) := fun z => by
  have := z.1
  rw [HT.sIx_nat] at this
  omega
theorem len_sz : ∀ l : List Cnd, l.length ≤ (l.map Cnd.sz).sum
  | [] => Nat.le_refl _
  | c :: l => by
    have := len_sz l
    have := sz_pos c
    simp only [List.length_cons, List.map_cons, List.sum_cons]
    omega
def ColW (K : PySem.W.Frag) (H : Hp) (v : V) (e : Cnd) (pf pw : Addr) (m : Nat) (σ' : L2.St) (H' : Hp) : Prop := ∃ (pv : Option V) (vs : List V) (st : List Cnd) (kvs : List (L2.Key × V)) (ks : List Int), σ' = [some v, some (.ref pf), some (.ref pw), pv] ∧ Ex H H' ∧ H' pw = some (.lst vs) ∧ DpAll K H vs (st.map Cnd.d) ∧ H' pf = some (.dK kvs) ∧ kvs.map (·.1) = ks.map Sum.inl ∧ ks.length + (st.map Cnd.sz).sum ≤ 60 ∧ (∀ x : Int, (x ∈ ks ∨ ∃ c ∈ st, ∃ n ∈ used c, x = (n : Int)) ↔ ∃ n ∈ used e, x = (n : Int)) ∧ (st.map Cnd.sz).sum ≤ m
section
variable {P : Program} {w : World} {K : PySem.W.Frag} {mg : Str → Option Value} {base : Heap}
theorem ok_parts_of (D : Dn K mg "parts_of" s_parts_of ["expression"]) {p__FIRST_PART : Addr} {es__FIRST_PART : Array DictEntry} {n__FIRST_PART : Nat} (g__FIRST_PART : ∃ u, mg "_FIRST_PART" = some u ∧ RelV (.ref p__FIRST_PART) u) (h__FIRST_PART : KDict K w p__FIRST_PART es__FIRST_PART n__FIRST_PART) (i__FIRST_PART : DInts K p__FIRST_PART [("constant", 2), ("column", 2), ("unary", 2), ("binary", 2), ("ternary", 2), ("choice", 1)]) :
    C8.Cal P w K mg base 1 "parts_of" (sp_parts_of K) [] := by
  refine cal_of D sc_parts_of (fun vs H Q E h => ?_) (fun f cdv A outer s H vs Q E hr h => ?_)
  · obtain ⟨_, _, _, rfl, _⟩ := h
    rfl
  refine ⟨_, (pss_one (ps_ret (pe_slice sl_tupA (pv 0) (po_some (pe_ix ix_kdict (C8.pe_gc rfl g__FIRST_PART) (pe_ix ix_tup (pv 0) pe_int (fun _ _ => rfl)) (fun _ _ => rfl))) po_none))), ?_⟩
  obtain ⟨v, e, G, rfl, g, hd, q⟩ := h
  obtain ⟨b, y, ys, rfl, hS, h2, hds⟩ := cx_view hd
  have hF : ∃ t, PySem.W.nsIn K p__FIRST_PART e.hdw = some (some (.int 2 t)) := by
    cases e with
    | col n => exact i__FIRST_PART ("column", 2) (by simp)
    | cst n => exact i__FIRST_PART ("constant", 2) (by simp)
    | un nm a => exact i__FIRST_PART ("unary", 2) (by simp)
    | bin nm a b => exact i__FIRST_PART ("binary", 2) (by simp)
  obtain ⟨t, hF⟩ := hF
  refine (eu_slA (K := K) (lo := some ((2 : Nat) : Int)) (hi := none) (ev_var rfl) (eo_some (ev_op ev_c (ev_op (ev_var rfl) ev_c (rv_ixT (ex_t g hS) (atI_nat (j := 0) rfl))) (rv_ixKD h__FIRST_PART hF ⟨t, rfl⟩))) eo_none (ex_t g hS) (no_whole 1 (by show 2 ≤ ys.length + 2; omega))) H (Ex.refl H) _ fun p H1 hp e1 h1 => q p H1 ys hp e1 (by rw [h1, cut_two]) hds
theorem ok_columns_of (D : Dn K mg "columns_of" s_columns_of ["expression"]) (c_parts_of : C8.Cal P w K mg base 1 "parts_of" (sp_parts_of K) []) (z_sorted : mg "sorted" = none) :
    C8.Cal P w K mg base 2 "columns_of" (sp_columns_of K) [] := by
  refine cal_of D sc_columns_of (fun vs H Q E h => ?_) (fun f cdv A outer s H vs Q E hr h => ?_)
  · obtain ⟨_, _, rfl, _⟩ := h
    rfl
  refine ⟨_, (pss_cons (ps_set (i := 1) sc_columns_of.nd rfl (.inl rfl) pe_dnewK)
    (pss_cons (ps_set (i := 2) sc_columns_of.nd rfl (.inl rfl) (pe_lst (pa_cons (pv 0) pa_nil)))
    (pss_cons (ps_while PassesOwn.never (pt_truth (pv 2) (by intro _; rfl))
      (pss_cons (ps_set (i := 3) sc_columns_of.nd rfl (.inl rfl) (pe_bm0 PySem.F.plainAttrs_list PySem.F.slot_list_pop PySem.F.type_list_pop mt_pop (pv 2)))
    (pss_cons (ps_if (pt_cmpR op_eq (pe_ix ix_tup (pv 3) pe_int (fun _ _ => rfl)) pe_str (nomark _))
      (pss_one (ps_dput (hu_of hr) (pv 1) (pe_ix ix_tup (pv 3) pe_int (fun _ _ => rfl)) pe_bl rfl))
      pss_nil)
    (pss_one (ps_expr (pe_bm PySem.F.plainAttrs_list PySem.F.slot_list_extend PySem.F.type_list_extend mt_extT (pv 2) (pa_cons (C8.pe_c c_parts_of hr (by decide) (by rfl) (pa_cons (pv 3) pa_nil)) pa_nil)))))))
    (pss_one (ps_ret (pe_callB (call_sortedDI rfl) (by rfl) z_sorted (by decide +kernel) (pa_cons (pv 1) pa_nil))))))), ?_⟩
  obtain ⟨v, e, rfl, hd, hz, q⟩ := h
  refine q_dnew fun pf hpf => ?_
  refine q_asgL (el_lst (ea_cons (ev_var rfl) ea_nil) (by show 1 ≤ 100000; decide)) fun pw H2 hpw e2 h2 => ?_
  have x0 : Ex H (upd H pf (.dK [])) := Ex.new hpf
  have hpfw : pf ≠ pw := fun z => by rw [← z, upd_same] at hpw; cases hpw
  have hpwH : H pw = none := fresh_back x0 hpw
  refine q_while (ColW K H v e pf pw) e.sz ⟨none, [v], [e], [], [], rfl, x0.trans e2, h2, .cons hd .nil, e2 _ _ upd_same, rfl, by simpa using hz, fun x => by simp, by simp⟩ fun m σ' H' hW => ?_
  obtain ⟨pv, vs, st, kvs, ks, rfl, x, hvs, hds, hkv, hks, hsz, hu, hm⟩ := hW
  refine ⟨!vs.isEmpty, et_truL (ev_var rfl) (sq_of hvs), fun hb H1 e1 => ⟨fun σ2 H2 => ∃ m', m' < m ∧ ColW K H v e pf pw m' σ2 H2, fun _ _ h => h, ?_⟩, fun hb H1 e1 => ?_⟩
  · obtain ⟨st0, c, rfl⟩ : ∃ st0 c, st = st0 ++ [c] := by
      rcases List.eq_nil_or_concat st with rfl | ⟨a, b, rfl⟩
      · cases hds
        cases hb
      · exact ⟨a, b, by rw [List.concat_eq_append]⟩
    rw [List.map_append] at hds
    obtain ⟨ws, y, rfl, hds0, hdc⟩ := dps_unsnoc hds
    obtain ⟨b, y2, ys, rfl, hS, h2', hdk⟩ := cx_view hdc
    refine q_pop (e1 _ _ hvs) (ev_var rfl) fun H3 e3 => ?_
    have x3 : Ex H (upd H3 pw (.lst ws)) := Ex.mut (x.trans (e1.trans e3)) hpwH
    have hwl : ws.length = st0.length := by have := dps_len hds0; rw [List.length_map] at this; exact this
    have hsz2 := sz_kids c
    have hpos := sz_pos c
    have hsum : ((st0 ++ [c]).map Cnd.sz).sum = (st0.map Cnd.sz).sum + c.sz := by simp
    have hl0 : st0.length ≤ (st0.map Cnd.sz).sum := len_sz st0
    have hl1 : c.kids.length ≤ (c.kids.map Cnd.sz).sum := len_sz c.kids
    have tail : ∀ {H4 : Hp} {kvs4 : List (L2.Key × V)} {ks4 : List Int}, Ex H H4 → H4 pw = some (.lst ws) → H4 pf = some (.dK kvs4) → kvs4.map (·.1) = ks4.map Sum.inl → ks4.length ≤ ks.length + 1 → (∀ z : Int, (z ∈ ks4 ∨ ∃ c' ∈ st0 ++ c.kids, ∃ n ∈ used c', z = (n : Int)) ↔ ∃ n ∈ used e, z = (n : Int)) →
        tBM K "list" (rExtT K) (tVar 2) (tCons (tCall (sp_parts_of K) [] C8.E0 (tCons (tVar 3) tNil)) tNil) [some v, some (.ref pf), some (.ref pw), some (.ref b)] H4 (fun _ H5 => ∃ m', m' < m ∧ ColW K H v e pf pw m' [some v, some (.ref pf), some (.ref pw), some (.ref b)] H5) := fun {H4 kvs4 ks4} x4 hw4 hf4 hk4 hl4 hu4 => by
      refine ⟨.ref pw, rfl, Or.inl ⟨rfl, _, sq_of hw4⟩, .ref b, rfl, .ref b, c, H, rfl, x4, hdc, fun p H5 ys5 hp5 e5 h5 hd5 => ⟨pw, p, ws, ys5, rfl, rfl, e5 _ _ hw4, st_of h5, sz_of ?_, m - 1, ?_, some (.ref b), ws ++ ys5, st0 ++ c.kids, kvs4, ks4, rfl, Ex.mut (x4.trans e5) hpwH, upd_same, ?_, ?_, hk4, ?_, hu4, ?_⟩⟩
      · have := dps_len hd5
        rw [List.length_map] at this
        omega
      · omega
      · rw [List.map_append]
        exact dps_app hds0 hd5
      · rw [upd_ne hpfw]
        exact e5 _ _ hf4
      · rw [List.map_append, List.sum_append]
        omega
      · rw [List.map_append, List.sum_append]
        omega
    have hpf3 : upd H3 pw (.lst ws) pf = some (.dK kvs) := by rw [upd_ne hpfw]; exact (e1.trans e3) _ _ hkv
    refine q_when (et_test (ev_is (ev_op (ev_op (ev_var rfl) ev_c (rv_ixT (ex_t x3 hS) (atI_nat (j := 0) rfl))) ev_c (rv_eq rfl)) (by rw [hd_col]))) (fun hb4 H4 e4 => ?_) fun hb4 H4 e4 => ?_
    · cases c with
      | cst _ => cases hb4
      | un _ _ => cases hb4
      | bin _ _ _ => cases hb4
      | col n =>
        obtain rfl := two_nat h2'
        obtain ⟨ks', hk', hl', hm'⟩ := put_keys (s := (n : Int)) (v := .bl true) hks
        have hkl : kvs.length = ks.length := by have := congrArg List.length hks; rw [List.length_map, List.length_map] at this; exact this
        refine s_dputI ev_c (ev_var rfl) (ev_op (ev_var rfl) ev_c (rv_ixT (ex_t (x3.trans e4) hS) (atI_nat (j := 1) rfl))) (e4 _ _ hpf3) (by omega) fun H5 e5 => tail (Ex.mut (x3.trans (e4.trans e5)) hpf) (by rw [upd_ne (Ne.symm hpfw)]; exact (e4.trans e5) _ _ upd_same) upd_same hk' hl' fun z => ?_
        rw [← hu z]
        constructor
        · rintro (h | ⟨c', hc', n', hn', rfl⟩)
          · rcases (hm' z).mp h with h | rfl
            · exact .inl h
            · exact .inr ⟨.col n, by simp, n, by simp [used], rfl⟩
          · exact .inr ⟨c', by simp [Cnd.kids] at hc'; simp [hc'], n', hn', rfl⟩
        · rintro (h | ⟨c', hc', n', hn', rfl⟩)
          · exact .inl ((hm' z).mpr (.inl h))
          · rcases List.mem_append.mp hc' with h | h
            · exact .inr ⟨c', List.mem_append.mpr (.inl h), n', hn', rfl⟩
            · rw [List.mem_singleton.mp h] at hn'
              have : n' = n := by simpa [used] using hn'
              exact .inl ((hm' _).mpr (.inr (by rw [this])))
    · refine tail (x3.trans e4) (e4 _ _ upd_same) (e4 _ _ hpf3) hks (Nat.le_succ _) fun z => ?_
      rw [← hu z]
      have hnc : ∀ n, c ≠ .col n := fun n z => by rw [z] at hb4; cases hb4
      constructor
      · rintro (h | ⟨c', hc', n', hn', rfl⟩)
        · exact .inl h
        · rcases List.mem_append.mp hc' with h | h
          · exact .inr ⟨c', List.mem_append.mpr (.inl h), n', hn', rfl⟩
          · exact .inr ⟨c, by simp, n', (used_kids c n').mpr (.inr ⟨c', h, hn'⟩), rfl⟩
      · rintro (h | ⟨c', hc', n', hn', rfl⟩)
        · exact .inl h
        · rcases List.mem_append.mp hc' with h | h
          · exact .inr ⟨c', List.mem_append.mpr (.inl h), n', hn', rfl⟩
          · rw [List.mem_singleton.mp h] at hn'
            rcases (used_kids c n').mp hn' with h | ⟨c2, h2, hn2⟩
            · exact (hnc _ h).elim
            · exact .inr ⟨c2, List.mem_append.mpr (.inr h2), n', hn2, rfl⟩
  · have hv0 : vs = [] := by
      cases vs with
      | nil => rfl
      | cons _ _ => cases hb
    subst hv0
    have hst : st = [] := by have := dps_len hds; rw [List.length_map] at this; exact List.eq_nil_of_length_eq_zero this.symm
    subst hst
    refine ⟨.ref pf, rfl, pf, kvs, ks, rfl, .inl (e1 _ _ hkv), hks, by omega, fun ys p hperm hsort hp => q p _ ys (fresh_back (x.trans e1) hp) ((x.trans e1).trans (Ex.new hp)) upd_same hsort (fun z => ?_) (by rw [hperm.length_eq]; omega)⟩
    rw [hperm.mem_iff, ← hu z]
    simp
end

--@SPLIT
/-! ### moved, joined -/
def shift (m : Nat) : Cnd → Cnd
  | .col n => .col (n - m)
  | .cst v => .cst v
  | .un nm a => .un nm (shift m a)
  | .bin nm a b => .bin nm (shift m a) (shift m b)
def joined : Nat → List Cnd → Cnd
  | 0, _ => .cst (.bl true)
  | _ + 1, [] => .cst (.bl true)
  | _ + 1, [x] => x
  | n + 1, x :: y :: r => .bin "and" (joined n ((x :: y :: r).take ((x :: y :: r).length / 2))) (joined n ((x :: y :: r).drop ((x :: y :: r).length / 2)))
theorem kids_le (e : Cnd) : e.kids.length ≤ 2 := by cases e <;> simp [Cnd.kids]
theorem shift_kids (m : Nat) (e : Cnd) : (shift m e).kids = e.kids.map (shift m) := by cases e <;> rfl
theorem shift_d {m : Nat} {e : Cnd} (h : ∀ n, e ≠ .col n) : (shift m e).d = .tuple (.str e.hdw :: e.two :: e.kids.map fun c => (shift m c).d) := by
  cases e with
  | col n => exact (h n rfl).elim
  | cst v => rfl
  | un nm a => rfl
  | bin nm a b => rfl
def EvPt (R : List V → Prop) (te : TE) (σ : L2.St) (H : Hp) : Prop := ∀ H1, Ex H H1 → ∀ Q : VK, (∀ p H2 ys, H1 p = none → Ex H1 H2 → H2 p = some (.tup ys) → R ys → Q (.ref p) H2) → te σ H1 Q
def EvLt (R : Hp → List V → Prop) (te : TE) (σ : L2.St) (H : Hp) : Prop := ∀ H1, Ex H H1 → ∀ Q : VK, (∀ p H2 ys, H1 p = none → Ex H1 H2 → H2 p = some (.lst ys) → R H2 ys → Q (.ref p) H2) → te σ H1 Q
section
variable {K : PySem.W.Frag} {σ : L2.St} {H : Hp} {ta tb tc te tl : TE} {tr : TA} {D : Ends} {tz tu : TS} {v : V} {R : List V → Prop} {d : PyData} {ds : List PyData}
theorem q_forPt {j : Nat} (h : EvPt R te σ H) (k : ∀ p H1 xs, H p = none → Ex H H1 → H1 p = some (.tup xs) → R xs → ∃ Pv : Nat → L2.St → Hp → Prop, Pv 0 σ H1 ∧ (∀ i σ' H', Pv i σ' H' → SqT K H' p xs) ∧ (∀ i x σ' H', xs[i]? = some x → Pv i σ' H' → tu { D with nx := Pv (i + 1), ct := Pv (i + 1), bk := tz D } (σ'.set j (some x)) H') ∧ ∀ σ' H', Pv xs.length σ' H' → tz D σ' H') :
    tSeq (tFor (iTup K te) (gName j) tu) tz D σ H := h H (Ex.refl H) _ fun p H1 xs hp e h1 hR => by
  obtain ⟨Pv, a, b, c, d⟩ := k p H1 xs hp e h1 hR
  exact ⟨p, rfl, ⟨xs, st_of h1⟩, for_tup (D := { D with nx := tz D }) Pv a (fun i σ' H' _ => b i σ' H') c d⟩
theorem q_forLt {R : Hp → List V → Prop} {j : Nat} (h : EvLt R te σ H) (k : ∀ p H1 xs, H p = none → Ex H H1 → H1 p = some (.lst xs) → R H1 xs → ∃ Pv : Nat → L2.St → Hp → Prop, Pv 0 σ H1 ∧ (∀ i σ' H', Pv i σ' H' → SqL K H' p xs) ∧ (∀ i x σ' H', xs[i]? = some x → Pv i σ' H' → tu { D with nx := Pv (i + 1), ct := Pv (i + 1), bk := tz D } (σ'.set j (some x)) H') ∧ ∀ σ' H', Pv xs.length σ' H' → tz D σ' H') :
    tSeq (tFor (iList K te) (gName j) tu) tz D σ H := h H (Ex.refl H) _ fun p H1 xs hp e h1 hR => by
  obtain ⟨Pv, a, b, c, d⟩ := k p H1 xs hp e h1 hR
  exact ⟨p, rfl, ⟨xs, sq_of h1⟩, for_list (D := { D with nx := tz D }) Pv a (fun i σ' H' _ => b i σ' H') c d⟩
theorem s_appD {l : Addr} {xs : List V} (hl : H l = some (.lst xs)) (ha : Ev ta σ H (.ref l)) (h : EvD K te σ H d) (hz : xs.length < 100000) (k : ∀ y H1, Ex H H1 → Dp K H1 y d → D.nx σ (upd H1 l (.lst (xs ++ [y])))) : tDrop (tBM K "list" rAppend ta (tCons te tNil)) D σ H := ha H (Ex.refl H) _ fun H1 e1 =>
  ⟨Or.inl ⟨rfl, xs, sq_of (e1 l _ hl)⟩, h H1 e1 _ fun y H2 e2 hy => ⟨l, xs, y, rfl, rfl, e2 l _ (e1 l _ hl), sz_lt hz, k y H2 (e1.trans e2) hy⟩⟩
theorem s_retD (h : EvD K te σ H d) (k : ∀ y H1, Ex H H1 → Dp K H1 y d → D.rt y H1) : tRet te D σ H := h H (Ex.refl H) _ k
theorem eu_tupL {a : Addr} {xs : List V} (h : Ev ta σ H (.ref a)) (hx : SqL K H a xs) : EvU (tCB (fun xs H Q => ∃ p ys, xs = [.ref p] ∧ ((SqL K H p ys ∧ ∀ l, H l = none → Q (.ref l) (upd H l (.tup ys))) ∨ (SqT K H p ys ∧ Q (.ref p) H))) (tCons ta tNil)) σ H xs := fun H1 e Q q =>
  h H1 e _ fun H2 e2 => ⟨a, xs, rfl, .inl ⟨ex_l (e.trans e2) hx, fun l hl => q l _ (fresh_back e2 hl) (e2.trans (Ex.new hl)) upd_same⟩⟩
theorem gt4 {p : Addr} {a b c d : V} {i j k l : Nat} (h : SqT K H p [a, b, c, d]) {Q : L2.St → Hp → Prop} (q : Q ((((σ.set i (some a)).set j (some b)).set k (some c)).set l (some d)) H) : gTup K 4 (gCons (gName i) (gCons (gName j) (gCons (gName k) (gCons (gName l) gNil)))) (.ref p) σ H Q :=
  ⟨p, [a, b, c, d], rfl, h, rfl, a, [b, c, d], rfl, b, [c, d], rfl, c, [d], rfl, d, [], rfl, rfl, q⟩
end
theorem dps_get {K : PySem.W.Frag} {H : Hp} : ∀ {ys : List V} {ds : List PyData} {i : Nat} {x : V}, DpAll K H ys ds → ys[i]? = some x → ∃ d, ds[i]? = some d ∧ Dp K H x d
  | _, _, _, _, .nil, h => by simp at h
  | _, _, 0, _, .cons h _, e => by
    cases e
    exact ⟨_, rfl, h⟩
  | _, _, i + 1, _, .cons _ t, e => by
    obtain ⟨d, h1, h2⟩ := dps_get (i := i) t (by simpa using e)
    exact ⟨d, by simpa using h1, h2⟩
theorem take_snoc {α : Type} {L : List α} {i : Nat} {l : α} (h : L[i]? = some l) : L.take (i + 1) = L.take i ++ [l] := by rw [List.take_add_one, h]; rfl
theorem cut_first {x y : V} {ys : List V} : cutV (x :: y :: ys) none (some ((2 : Nat) : Int)) = [x, y] := by
  unfold cutV
  rw [HT.sIx_nat, HT.sIx_none]
  show List.take (min 2 (ys.length + 2) - 0) (x :: y :: ys) = [x, y]
  rw [Nat.min_eq_left (by omega)]
  rfl
theorem noL_two (e : Cnd) : noL e.two = true := by
  cases e with
  | col n => rfl
  | cst v => exact noL_vDc v
  | un nm a => rfl
  | bin nm a b => rfl
theorem noLs_cx : ∀ es : List Cnd, noLs (es.map Cnd.d) = true
  | [] => rfl
  | e :: es => by
    show (noL e.d && noLs (es.map Cnd.d)) = true
    rw [noL_cx, noLs_cx es]
    rfl
theorem dep_pos (e : Cnd) : 1 ≤ e.dep := by cases e <;> simp [Cnd.dep]
theorem dep_kids {e c : Cnd} (h : c ∈ e.kids) : c.dep + 1 ≤ e.dep := by
  cases e with
  | col n => cases h
  | cst v => cases h
  | un nm a => rw [List.mem_singleton.mp h]; exact Nat.le_refl _
  | bin nm a b =>
    have h' : c = a ∨ c = b := by simpa [Cnd.kids] using h
    show c.dep + 1 ≤ max a.dep b.dep + 1
    rcases h' with rfl | rfl <;> omega
theorem noLs_sh (m : Nat) : ∀ es : List Cnd, noLs (es.map fun c => (shift m c).d) = true
  | [] => rfl
  | e :: es => by
    show (noL (shift m e).d && noLs (es.map fun c => (shift m c).d)) = true
    rw [noL_cx, noLs_sh m es]
    rfl
def sp__with_parts (K : PySem.W.Frag) : Sp := fun vs H Q _ => ∃ (v : V) (e : Cnd) (a : Addr) (ws : List V) (ds : List PyData), vs = [v, .ref a] ∧ Dp K H v e.d ∧ SqL K H a ws ∧ DpAll K H ws ds ∧ ds.length = e.kids.length ∧ ∀ v' H', Ex H H' → Dp K H' v' (.tuple (.str e.hdw :: e.two :: ds)) → Q v' H'
def spR_moved : Nat → PySem.W.Frag → Sp
  | 0, _ => fun _ _ _ _ => False
  | n + 1, K => fun vs H Q _ => ∃ (v : V) (e : Cnd) (m : Nat), vs = [v, .int (-(m : Int))] ∧ Dp K H v e.d ∧ e.dep ≤ n + 1 ∧ (∀ k ∈ used e, m ≤ k) ∧ ∀ v' H', Ex H H' → Dp K H' v' (shift m e).d → Q v' H'
def sp_moved (K : PySem.W.Frag) : Sp := spR_moved 8 K
def CndsAt (K : PySem.W.Frag) (H : Hp) (a : Addr) (es : List Cnd) : Prop := ∃ ws, SqL K H a ws ∧ DpAll K H ws (es.map Cnd.d)
theorem CndsAt.ex {K : PySem.W.Frag} {H H' : Hp} {a : Addr} {es : List Cnd} (e : Ex H H') (h : CndsAt K H a es) : CndsAt K H' a es := by
  obtain ⟨ws, h1, h2⟩ := h
  exact ⟨ws, ex_l e h1, ex_dps e h2⟩
def CpW (K : PySem.W.Frag) (G H : Hp) (v : V) (e : Cnd) (pf pw : Addr) (m : Nat) (σ' : L2.St) (H' : Hp) : Prop := ∃ (pv : Option V) (vs : List V) (st : List Cnd) (fs : List V) (dn : List Cnd), σ' = [some v, some (.ref pf), some (.ref pw), pv] ∧ Ex H H' ∧ H' pw = some (.lst vs) ∧ DpAll K G vs (st.map Cnd.d) ∧ H' pf = some (.lst fs) ∧ DpAll K G fs (dn.map Cnd.d) ∧ dn ++ (st.reverse.map cparts).flatten = cparts e ∧ dn.length + (st.map Cnd.sz).sum ≤ 60 ∧ (st.map Cnd.sz).sum ≤ m
def sp_condition_parts (K : PySem.W.Frag) : Sp := fun vs H Q _ => ∃ (v : V) (e : Cnd) (G : Hp), vs = [v] ∧ Ex G H ∧ Dp K G v e.d ∧ e.sz ≤ 60 ∧ ∀ p H' ws, H p = none → Ex H H' → H' p = some (.lst ws) → DpAll K G ws ((cparts e).map Cnd.d) → Q (.ref p) H'
def spR_conjunction : Nat → PySem.W.Frag → Sp
  | 0, _ => fun _ _ _ _ => False
  | n + 1, K => fun vs H Q _ => ∃ (a : Addr) (es : List Cnd), vs = [.ref a] ∧ CndsAt K H a es ∧ es.length ≤ 2 ^ n ∧ es.length ≤ 60 ∧ ∀ v' H', Ex H H' → Dp K H' v' (joined (n + 1) es).d → Q v' H'
def sp_conjunction (K : PySem.W.Frag) : Sp := spR_conjunction 8 K
section
variable {P : Program} {w : World} {K : PySem.W.Frag} {mg : Str → Option Value} {base : Heap}
theorem pt_parts {σ : L2.St} {H G : Hp} {ta : TE} {E : XK} {v : V} {e : Cnd} (ha : Ev ta σ H v) (g : Ex G H) (hd : Dp K G v e.d) : EvPt (fun ys => DpAll K G ys (e.kids.map Cnd.d)) (tCall (sp_parts_of K) [] E (tCons ta tNil)) σ H := fun H1 e1 Q q =>
  ha H1 e1 _ fun H2 e2 => ⟨v, e, G, rfl, g.trans (e1.trans e2), hd, fun p H3 ys hp e3 h3 hds => q p H3 ys (fresh_back e2 hp) (e2.trans e3) h3 hds⟩
theorem ed_moved {σ : L2.St} {H : Hp} {ta tb : TE} {E : XK} {v : V} {e : Cnd} {m n : Nat} (ha : Ev ta σ H v) (hb : Ev tb σ H (.int (-(m : Int)))) (hd : Dp K H v e.d) (hn : e.dep ≤ n + 1) (hu : ∀ k ∈ used e, m ≤ k) : EvD K (tCall (spR_moved (n + 1) K) [] E (tCons ta (tCons tb tNil))) σ H (shift m e).d := fun H1 e1 Q q =>
  ha H1 e1 _ fun H2 e2 => hb H2 (e1.trans e2) _ fun H3 e3 => ⟨v, e, m, rfl, ex_dp ((e1.trans e2).trans e3) hd, hn, hu, fun v' H4 e4 h4 => q v' H4 ((e2.trans e3).trans e4) h4⟩
theorem ed_conj {σ : L2.St} {H : Hp} {ta : TE} {E : XK} {ws : List V} {es : List Cnd} {n : Nat} (ha : EvL ta σ H ws) (hd : DpAll K H ws (es.map Cnd.d)) (h1 : es.length ≤ 2 ^ n) (h2 : es.length ≤ 60) : EvD K (tCall (spR_conjunction (n + 1) K) [] E (tCons ta tNil)) σ H (joined (n + 1) es).d := fun H1 e1 Q q =>
  ha H1 e1 _ fun p H2 hp e2 hl => ⟨p, es, rfl, ⟨ws, sq_of hl, ex_dps (e1.trans e2) hd⟩, h1, h2, fun v' H4 e4 h4 => q v' H4 (e2.trans e4) h4⟩
theorem ok__with_parts (D : Dn K mg "_with_parts" s__with_parts ["expression", "parts"]) (z_tuple : mg "tuple" = none) {p__FIRST_PART : Addr} {es__FIRST_PART : Array DictEntry} {n__FIRST_PART : Nat} (g__FIRST_PART : ∃ u, mg "_FIRST_PART" = some u ∧ RelV (.ref p__FIRST_PART) u) (h__FIRST_PART : KDict K w p__FIRST_PART es__FIRST_PART n__FIRST_PART) (i__FIRST_PART : DInts K p__FIRST_PART [("constant", 2), ("column", 2), ("unary", 2), ("binary", 2), ("ternary", 2), ("choice", 1)]) :
    C8.Cal P w K mg base 1 "_with_parts" (sp__with_parts K) [] := by
  refine cal_of D sc__with_parts (fun vs H Q E h => ?_) (fun f cdv A outer s H vs Q E hr h => ?_)
  · obtain ⟨_, _, _, _, _, rfl, _⟩ := h
    rfl
  refine ⟨_, (pss_one (ps_ret (pe_op op_catA (pe_slice sl_tupA (pv 0) po_none (po_some (pe_ix ix_kdict (C8.pe_gc rfl g__FIRST_PART) (pe_ix ix_tup (pv 0) pe_int (fun _ _ => rfl)) (fun _ _ => rfl)))) (pe_callTy call_tuple_of (by rfl) z_tuple (by decide +kernel) (pa_cons (pv 1) pa_nil))))), ?_⟩
  obtain ⟨v, e, a, ws, ds, rfl, hd, hS, hds, hl, q⟩ := h
  obtain ⟨b, y, ys, rfl, hT, h2, hdk⟩ := cx_view hd
  have hF : ∃ t, PySem.W.nsIn K p__FIRST_PART e.hdw = some (some (.int 2 t)) := by
    cases e with
    | col n => exact i__FIRST_PART ("column", 2) (by simp)
    | cst n => exact i__FIRST_PART ("constant", 2) (by simp)
    | un nm a => exact i__FIRST_PART ("unary", 2) (by simp)
    | bin nm a b => exact i__FIRST_PART ("binary", 2) (by simp)
  obtain ⟨t, hF⟩ := hF
  have hyl := dps_len hdk
  rw [List.length_map] at hyl
  have hwl := dps_len hds
  have part : ∀ H1, Ex H H1 → EvO (tPart (tOp (rIxD K w) (tC (.ref p__FIRST_PART)) (tOp (rIxT K) (tVar 0) (tC (.int 0))))) (start n__with_parts [.ref b, .ref a]) H1 (some ((2 : Nat) : Int)) := fun H1 e1 => eo_some (ev_op ev_c (ev_op (ev_var rfl) ev_c (rv_ixT (ex_t e1 hT) (atI_nat (j := 0) rfl))) (rv_ixKD h__FIRST_PART hF ⟨t, rfl⟩))
  by_cases hk : e.kids.length = 0
  · refine (ev_slW (K := K) (ev_var rfl) eo_none (part H (Ex.refl H)) hT ?_) H (Ex.refl H) _ fun H1 e1 => ?_
    · rw [HT.sIx_none, HT.sIx_nat]
      refine ⟨rfl, ?_⟩
      show min 2 (ys.length + 2) = ys.length + 2
      omega
    · refine (eu_tupL (ev_var rfl) (ex_l e1 hS)) H1 (Ex.refl H1) _ fun p H2 hp e2 hw2 => ⟨b, p, _, ws, rfl, rfl, ex_t (e1.trans e2) hT, st_of hw2, sz_of (by show ys.length + 2 + ws.length ≤ 100000; omega), (fun h => nomatch h), (fun _ _ => q _ H2 (e1.trans e2) ?_), fun _ h => (h (List.eq_nil_of_length_eq_zero (by omega))).elim⟩
      have hd0 : ds = [] := List.eq_nil_of_length_eq_zero (by omega)
      have hk0 : e.kids = [] := List.eq_nil_of_length_eq_zero hk
      have := ex_dp (e1.trans e2) hd
      rw [d_is, hk0] at this
      rw [hd0]
      exact this
  · refine (eu_slA (K := K) (ev_var rfl) eo_none (part H (Ex.refl H)) hT ?_) H (Ex.refl H) _ fun p1 H1 hp1 e1 h1 => ?_
    · rintro ⟨_, h⟩
      rw [HT.sIx_nat] at h
      have h' : min 2 (ys.length + 2) = ys.length + 2 := h
      omega
    · rw [cut_first] at h1
      refine (eu_tupL (ev_var rfl) (ex_l e1 hS)) H1 (Ex.refl H1) _ fun p H2 hp e2 hw2 => ⟨p1, p, _, ws, rfl, rfl, st_of (e2 _ _ h1), st_of hw2, sz_of (by show 2 + ws.length ≤ 100000; have := kids_le e; omega), (fun h => nomatch h), (fun _ h => ?_), fun _ _ r hr => q _ _ ((e1.trans e2).trans (Ex.new hr)) (.tup (st_of upd_same) (.cons (.str _) (.cons (ex_dp ((e1.trans e2).trans (Ex.new hr)) h2) (ex_dps ((e1.trans e2).trans (Ex.new hr)) hds))))⟩
      subst h
      have : ds.length = 0 := hwl.symm
      omega
theorem ok_moved {rn : Nat} (D : Dn K mg "moved" s_moved ["expression", "distance"]) (c__with_parts : C8.Cal P w K mg base 1 "_with_parts" (sp__with_parts K) []) (c_parts_of : C8.Cal P w K mg base 1 "parts_of" (sp_parts_of K) []) (c_moved : C8.Cal P w K mg base (2 + rn) "moved" (spR_moved rn K) []) :
    C8.Cal P w K mg base (2 + rn + 1) "moved" (spR_moved (rn + 1) K) [] := by
  refine cal_of D sc_moved (fun vs H Q E h => ?_) (fun f cdv A outer s H vs Q E hr h => ?_)
  · obtain ⟨_, _, _, rfl, _⟩ := h
    rfl
  refine ⟨_, (pss_cons (ps_if (pt_cmpR op_eq (pe_ix ix_tup (pv 0) pe_int (fun _ _ => rfl)) pe_str (nomark _))
      (pss_one (ps_ret (pe_tup (pa_cons pe_str (pa_cons (pe_op op_add (pe_ix ix_tup (pv 0) pe_int (fun _ _ => rfl)) (pv 1)) pa_nil)))))
      pss_nil)
    (pss_cons (ps_set (i := 2) sc_moved.nd rfl (.inl rfl) (pe_lst pa_nil))
    (pss_cons (ps_for PassesOwn.never rfl (pi_tup (C8.pe_c c_parts_of hr (by omega) (by rfl) (pa_cons (pv 0) pa_nil))) (pg_name (i := 3) sc_moved.nd rfl (.inl rfl))
      (pss_one (ps_expr (pe_bm PySem.F.plainAttrs_list PySem.F.slot_list_append PySem.F.type_list_append mt_append (pv 2) (pa_cons (C8.pe_c c_moved hr (Nat.le_refl _) (by rfl) (pa_cons (pv 3) (pa_cons (pv 1) pa_nil))) pa_nil)))))
    (pss_one (ps_ret (C8.pe_c c__with_parts hr (by omega) (by rfl) (pa_cons (pv 0) (pa_cons (pv 2) pa_nil)))))))), ?_⟩
  obtain ⟨v, e, m, rfl, hd, hdep, hu, q⟩ := h
  obtain ⟨b, y, ys, rfl, hT, h2, hdk⟩ := cx_view hd
  refine q_when (et_test (ev_is (ev_op (ev_op (ev_var rfl) ev_c (rv_ixT hT (atI_nat (j := 0) rfl))) ev_c (rv_eq rfl)) (by rw [hd_col]))) (fun hb H1 e1 => ?_) fun hb H1 e1 => ?_
  · cases e with
    | cst _ => cases hb
    | un _ _ => cases hb
    | bin _ _ _ => cases hb
    | col n =>
      obtain rfl := two_nat h2
      have hmn : m ≤ n := hu n (by simp [used])
      refine (ud_tup (K := K) (ad_cons (ed_val ev_c (.str _)) (ad_cons (ed_val (ev_is (ev_op (ev_op (ev_var rfl) ev_c (rv_ixT (ex_t e1 hT) (atI_nat (j := 1) rfl))) (ev_var rfl) rv_I0) (show V.int ((n : Int) + -(m : Int)) = .int ((n - m : Nat) : Int) by rw [show (n : Int) + -(m : Int) = ((n - m : Nat) : Int) by omega])) (.int _)) ad_nil)) (by show 2 ≤ 100000; decide)) H1 (Ex.refl H1) _ fun p H2 ys2 hp e2 h2 hd2 => q (.ref p) H2 (e1.trans e2) (.tup (st_of h2) hd2)
  · have hnc : ∀ n, e ≠ .col n := fun n z => by rw [z] at hb; cases hb
    refine q_asgL (el_lst ea_nil (by decide)) fun pq H2 hpq e2 hq2 => ?_
    have x2 := e1.trans e2
    have hpqH : H pq = none := fresh_back e1 hpq
    refine q_forPt (pt_parts (ev_var rfl) x2 hd) fun p H3 xs hp e3 h3 hxs => ⟨fun i σ' H' => ∃ (pv : Option V) (ws : List V), σ' = [some (.ref b), some (.int (-(m : Int))), some (.ref pq), pv] ∧ Ex H H' ∧ H' p = some (.tup xs) ∧ H' pq = some (.lst ws) ∧ DpAll K H' ws ((e.kids.take i).map fun c => (shift m c).d), ⟨none, [], rfl, x2.trans e3, h3, e3 _ _ hq2, .nil⟩, fun i σ' H' pv => ?_, fun i x σ' H' hi pv => ?_, fun σ' H' pv => ?_⟩
    · obtain ⟨pv, ws, rfl, x, h, _⟩ := pv
      exact st_of h
    · obtain ⟨pv, ws, rfl, x3, h, hws, hds⟩ := pv
      obtain ⟨dd, hdd, hxd⟩ := dps_get hxs hi
      rw [List.getElem?_map] at hdd
      obtain ⟨c, hc, rfl⟩ := Option.map_eq_some_iff.mp hdd
      have hcm := List.mem_of_getElem? hc
      have hcd : c.dep + 1 ≤ e.dep := dep_kids hcm
      cases rn with
      | zero => have := dep_pos c; omega
      | succ r =>
      have hwl : ws.length ≤ e.kids.length := by
        have := dps_len hds
        rw [List.length_map, List.length_take] at this
        omega
      have hk2 := kids_le e
      refine s_appD hws (ev_var rfl) (ed_moved (n := r) (ev_var rfl) (ev_var rfl) (ex_dp x3 hxd) (by omega) fun k hk => hu k ((used_kids e k).mpr (.inr ⟨c, hcm, hk⟩))) (by omega) fun z H4 e4 hz => ⟨_, ws ++ [z], rfl, Ex.mut (x3.trans e4) hpqH, ?_, upd_same, ?_⟩
      · have hpp : p ≠ pq := fun z => by rw [z, hws] at h; cases h
        rw [upd_ne hpp]
        exact e4 _ _ h
      · rw [take_snoc hc, List.map_append]
        exact dps_snoc (dps_upd (e4 _ _ hws) (noLs_sh m _) (ex_dps e4 hds)) (dp_upd (e4 _ _ hws) (noL_cx _) hz)
    · obtain ⟨pv, ws, rfl, x3, h, hws, hds⟩ := pv
      have hxl := dps_len hxs
      rw [List.length_map] at hxl
      rw [hxl, List.take_length] at hds
      refine ⟨.ref b, rfl, .ref pq, rfl, .ref b, e, pq, ws, _, rfl, ex_dp x3 hd, sq_of hws, hds, by rw [List.length_map], fun v' H4 e4 h4 => q v' H4 (x3.trans e4) ?_⟩
      rw [shift_d hnc]
      exact h4
theorem ok_condition_parts (D : Dn K mg "condition_parts" s_condition_parts ["condition"]) :
    C8.Cal P w K mg base 1 "condition_parts" (sp_condition_parts K) [] := by
  refine cal_of D sc_condition_parts (fun vs H Q E h => ?_) (fun f cdv A outer s H vs Q E hr h => ?_)
  · obtain ⟨_, _, _, rfl, _⟩ := h
    rfl
  refine ⟨_, (pss_cons (ps_set (i := 1) sc_condition_parts.nd rfl (.inl rfl) (pe_lst pa_nil))
    (pss_cons (ps_set (i := 2) sc_condition_parts.nd rfl (.inl rfl) (pe_lst (pa_cons (pv 0) pa_nil)))
    (pss_cons (ps_while PassesOwn.never (pt_truth (pv 2) (by intro _; rfl))
      (pss_cons (ps_set (i := 3) sc_condition_parts.nd rfl (.inl rfl) (pe_bm0 PySem.F.plainAttrs_list PySem.F.slot_list_pop PySem.F.type_list_pop mt_pop (pv 2)))
    (pss_one (ps_if (PW.pt (pw_and (pt_cmpR op_eq (pe_ix ix_tup (pv 3) pe_int (fun _ _ => rfl)) pe_str (nomark _)) (pw_and1 (pt_cmpR op_eq (pe_ix ix_tup (pv 3) pe_int (fun _ _ => rfl)) pe_str (nomark _)))))
      (pss_one (ps_expr (pe_bm PySem.F.plainAttrs_list PySem.F.slot_list_extend PySem.F.type_list_extend mt_extend (pv 2) (pa_cons (pe_lst (pa_cons (pe_ix ix_tup (pv 3) pe_int (fun _ _ => rfl)) (pa_cons (pe_ix ix_tup (pv 3) pe_int (fun _ _ => rfl)) pa_nil))) pa_nil))))
      (pss_one (ps_expr (pe_bm PySem.F.plainAttrs_list PySem.F.slot_list_append PySem.F.type_list_append mt_append (pv 1) (pa_cons (pv 3) pa_nil))))))))
    (pss_one (ps_ret (pv 1)))))), ?_⟩
  obtain ⟨v, e, G, rfl, g, hd, hz, q⟩ := h
  refine q_asgL (el_lst ea_nil (by decide)) fun pf H1 hpf e1 h1 => ?_
  refine q_asgL (el_lst (ea_cons (ev_var rfl) ea_nil) (by show 1 ≤ 100000; decide)) fun pw H2 hpw e2 h2 => ?_
  have hpfw : pf ≠ pw := fun z => by rw [← z, h1] at hpw; cases hpw
  have hpwH : H pw = none := fresh_back e1 hpw
  refine q_while (CpW K G H v e pf pw) e.sz ⟨none, [v], [e], [], [], rfl, e1.trans e2, h2, .cons hd .nil, e2 _ _ h1, .nil, by simp, by simpa using hz, by simp⟩ fun m σ' H' hW => ?_
  obtain ⟨pv, vs, st, fs, dn, rfl, x, hvs, hds, hfs, hdn, hu, hsz, hm⟩ := hW
  refine ⟨!vs.isEmpty, et_truL (ev_var rfl) (sq_of hvs), fun hb H3 e3 => ⟨fun σ2 H2 => ∃ m', m' < m ∧ CpW K G H v e pf pw m' σ2 H2, fun _ _ h => h, ?_⟩, fun hb H3 e3 => ?_⟩
  · obtain ⟨st0, c, rfl⟩ : ∃ st0 c, st = st0 ++ [c] := by
      rcases List.eq_nil_or_concat st with rfl | ⟨a, b, rfl⟩
      · cases hds
        cases hb
      · exact ⟨a, b, by rw [List.concat_eq_append]⟩
    rw [List.map_append] at hds
    obtain ⟨ws, y, rfl, hds0, hdc⟩ := dps_unsnoc hds
    obtain ⟨b, y2, ys, rfl, hS, h2', hdk⟩ := cx_view hdc
    refine q_pop (e3 _ _ hvs) (ev_var rfl) fun H4 e4 => ?_
    have x4 : Ex H (upd H4 pw (.lst ws)) := Ex.mut (x.trans (e3.trans e4)) hpwH
    have hwl : ws.length = st0.length := by have := dps_len hds0; rw [List.length_map] at this; exact this
    have hfl : fs.length = dn.length := by have := dps_len hdn; rw [List.length_map] at this; exact this
    have hsum : ((st0 ++ [c]).map Cnd.sz).sum = (st0.map Cnd.sz).sum + c.sz := by simp
    have hl0 : st0.length ≤ (st0.map Cnd.sz).sum := len_sz st0
    have hpos := sz_pos c
    have hpf4 : upd H4 pw (.lst ws) pf = some (.lst fs) := by rw [upd_ne hpfw]; exact (e3.trans e4) _ _ hfs
    have hu2 : dn ++ (cparts c ++ (st0.reverse.map cparts).flatten) = cparts e := by
      rw [← hu, List.reverse_append]
      rfl
    refine s_if (et_isBin (nm := "and") rfl (ex_t (g.trans x4) hS) h2') (fun hb4 H5 e5 => ?_) fun hb4 H5 e5 => ?_
    · cases c with
      | col _ => cases hb4
      | cst _ => cases hb4
      | un _ _ => cases hb4
      | bin nm a b2 =>
        obtain rfl := of_decide_eq_true hb4
        have hcp : cparts (.bin "and" a b2) = cparts a ++ cparts b2 := if_pos rfl
        cases hdk with | cons ha hdk =>
        cases hdk with | cons hb5 hdk =>
        cases hdk
        have hs3 : (Cnd.bin "and" a b2).sz = a.sz + b2.sz + 1 := rfl
        have x5 := x4.trans e5
        refine s_extL (e5 _ _ upd_same) (ev_var rfl) (el_lst (ea_cons (ev_op (ev_var rfl) ev_c (rv_ixT (ex_t (g.trans x5) hS) (atI_nat (j := 3) rfl))) (ea_cons (ev_op (ev_var rfl) ev_c (rv_ixT (ex_t (g.trans x5) hS) (atI_nat (j := 2) rfl))) ea_nil)) (by show 2 ≤ 100000; decide)) (by show ws.length + 2 ≤ 100000; omega) fun H6 e6 => ⟨m - 1, by omega, some (.ref b), _, st0 ++ [b2, a], fs, dn, rfl, Ex.mut (x5.trans e6) hpwH, upd_same, ?_, ?_, hdn, ?_, ?_, ?_⟩
        · rw [List.map_append]
          exact dps_app hds0 (.cons hb5 (.cons ha .nil))
        · rw [upd_ne hpfw]
          exact (e5.trans e6) _ _ hpf4
        · rw [← hu2, hcp, List.reverse_append]
          simp
        · rw [List.map_append, List.sum_append]
          simp only [List.map_cons, List.map_nil, List.sum_cons, List.sum_nil]
          omega
        · rw [List.map_append, List.sum_append]
          simp only [List.map_cons, List.map_nil, List.sum_cons, List.sum_nil]
          omega
    · have hcp : cparts c = [c] := by
        cases c with
        | col _ => rfl
        | cst _ => rfl
        | un _ _ => rfl
        | bin nm a b2 => exact if_neg (of_decide_eq_false hb4)
      have x5 := x4.trans e5
      refine s_app (v := .ref b) (e5 _ _ hpf4) (ev_var rfl) (ev_var rfl) (by omega) fun H6 e6 => ⟨m - 1, by omega, some (.ref b), ws, st0, fs ++ [.ref b], dn ++ [c], rfl, Ex.mut (x5.trans e6) (fresh_back (Ex.refl H) hpf), ?_, hds0, upd_same, ?_, ?_, ?_, ?_⟩
      · rw [upd_ne (Ne.symm hpfw)]
        exact (e5.trans e6) _ _ upd_same
      · rw [List.map_append]
        exact dps_snoc hdn hdc
      · rw [← hu2, hcp, List.append_assoc]
      · rw [List.length_append, List.length_singleton]
        omega
      · omega
  · have hv0 : vs = [] := by
      cases vs with
      | nil => rfl
      | cons _ _ => cases hb
    subst hv0
    have hst : st = [] := by have := dps_len hds; rw [List.length_map] at this; exact List.eq_nil_of_length_eq_zero this.symm
    subst hst
    have hdn2 : dn = cparts e := by simpa using hu
    subst hdn2
    exact s_ret (ev_var rfl) fun H4 e4 => q pf H4 fs hpf (x.trans (e3.trans e4)) ((e3.trans e4) _ _ hfs) hdn
end

--@SPLIT
/-! ### joined again; sides -/
theorem cutV_take {xs : List V} {k : Nat} : cutV xs none (some (k : Int)) = xs.take k := by
  unfold cutV
  rw [HT.sIx_nat, HT.sIx_none, List.drop_zero, Nat.sub_zero]
  by_cases h : k ≤ xs.length
  · rw [Nat.min_eq_left h]
  · rw [Nat.min_eq_right (by omega), List.take_of_length_le (Nat.le_refl _), List.take_of_length_le (by omega)]
theorem cutV_drop {xs : List V} {k : Nat} : cutV xs (some (k : Int)) none = xs.drop k := by
  unfold cutV
  rw [HT.sIx_nat, HT.sIx_none]
  by_cases h : k ≤ xs.length
  · rw [Nat.min_eq_left h, List.take_of_length_le (by rw [List.length_drop]; omega)]
  · rw [Nat.min_eq_right (by omega), List.drop_eq_nil_of_le (Nat.le_refl _), List.drop_eq_nil_of_le (show xs.length ≤ k by omega)]
    simp
theorem dps_take {K : PySem.W.Frag} : ∀ {ys : List V} {ds : List PyData} {H : Hp} (n : Nat), DpAll K H ys ds → DpAll K H (ys.take n) (ds.take n)
  | _, _, _, 0, _ => by rw [List.take_zero, List.take_zero]; exact .nil
  | _, _, _, _ + 1, .nil => .nil
  | _, _, _, n + 1, .cons h t => .cons h (dps_take n t)
theorem dps_drop {K : PySem.W.Frag} : ∀ {ys : List V} {ds : List PyData} {H : Hp} (n : Nat), DpAll K H ys ds → DpAll K H (ys.drop n) (ds.drop n)
  | _, _, _, 0, h => h
  | _, _, _, _ + 1, .nil => .nil
  | _, _, _, n + 1, .cons _ t => dps_drop n t
def lft (m : Nat) (e : Cnd) : Bool := !(used e).isEmpty && (used e).all fun n => decide (n < m)
def rgt (m : Nat) (e : Cnd) : Bool := !(used e).isEmpty && (used e).all fun n => decide (m ≤ n)
def onlyB (m : Nat) (e : Cnd) : Bool := (used e).all fun n => decide (n < m)
theorem used_nil {e : Cnd} {ns : List Int} (h : UsedIs e ns) : ns.isEmpty = (used e).isEmpty := by
  cases hn : ns with
  | nil =>
    cases hu : used e with
    | nil => rfl
    | cons n r =>
      have := (h (n : Int)).mpr ⟨n, by rw [hu]; exact List.mem_cons_self .., rfl⟩
      rw [hn] at this
      cases this
  | cons x r =>
    obtain ⟨n, hn2, _⟩ := (h x).mp (by rw [hn]; exact List.mem_cons_self ..)
    cases hu : used e with
    | nil => rw [hu] at hn2; cases hn2
    | cons _ _ => rfl
theorem last_lt {e : Cnd} {ns : List Int} {m : Nat} {z : Int} (h : UsedIs e ns) (hs : ns.Pairwise (· ≤ ·)) (hz : ns[ns.length - 1]? = some z) : decide (z < (m : Int)) = onlyB m e := by
  rw [Bool.eq_iff_iff, decide_eq_true_eq]
  unfold onlyB
  rw [List.all_eq_true]
  constructor
  · intro hlt n hn
    obtain ⟨i, hi⟩ := List.mem_iff_getElem?.mp ((h (n : Int)).mpr ⟨n, hn, rfl⟩)
    have hil := (List.getElem?_eq_some_iff.mp hi).1
    have hle : (n : Int) ≤ z := by
      by_cases e : i = ns.length - 1
      · rw [← e, hi] at hz
        cases hz
        exact Int.le_refl _
      · have hj := (List.getElem?_eq_some_iff.mp hz)
        have := List.pairwise_iff_getElem.mp hs i (ns.length - 1) hil hj.1 (by omega)
        rw [hj.2, (List.getElem?_eq_some_iff.mp hi).2] at this
        exact this
    exact decide_eq_true (by omega)
  · intro hall
    obtain ⟨n, hn, rfl⟩ := (h z).mp (List.mem_of_getElem? hz)
    have := of_decide_eq_true (hall n hn)
    omega
theorem first_ge {e : Cnd} {ns : List Int} {m : Nat} {z : Int} (h : UsedIs e ns) (hs : ns.Pairwise (· ≤ ·)) (hz : ns[0]? = some z) : decide (z ≥ (m : Int)) = (used e).all fun n => decide (m ≤ n) := by
  rw [Bool.eq_iff_iff, decide_eq_true_eq, List.all_eq_true]
  constructor
  · intro hge n hn
    obtain ⟨i, hi⟩ := List.mem_iff_getElem?.mp ((h (n : Int)).mpr ⟨n, hn, rfl⟩)
    have hil := (List.getElem?_eq_some_iff.mp hi).1
    have hle : z ≤ (n : Int) := by
      by_cases e : i = 0
      · rw [e, hz] at hi
        cases hi
        exact Int.le_refl _
      · have hj := (List.getElem?_eq_some_iff.mp hz)
        have := List.pairwise_iff_getElem.mp hs 0 i hj.1 hil (by omega)
        rw [hj.2, (List.getElem?_eq_some_iff.mp hi).2] at this
        exact this
    exact decide_eq_true (by omega)
  · intro hall
    obtain ⟨n, hn, rfl⟩ := (h z).mp (List.mem_of_getElem? hz)
    have := of_decide_eq_true (hall n hn)
    omega
theorem atI_end {xs : List V} {z : V} (h : xs[xs.length - 1]? = some z) : atI xs (-1) = some z := by
  rcases List.eq_nil_or_concat xs with rfl | ⟨ys, b, rfl⟩
  · cases h
  · rw [List.concat_eq_append] at h ⊢
    rw [List.length_append, List.length_singleton, Nat.add_sub_cancel, List.getElem?_append_right (Nat.le_refl _), Nat.sub_self] at h
    cases h
    exact atI_last ys _
theorem ev_notT {K : PySem.W.Frag} {σ : L2.St} {H : Hp} {te : TE} {a : Addr} {xs : List V} (h : Ev te σ H (.ref a)) (hx : SqL K H a xs) : Ev (tNotT K te) σ H (.bl (!(!xs.isEmpty))) := fun H1 e Q q => h H1 e _ fun H2 e2 => ⟨!xs.isEmpty, .inl ⟨xs, ex_l (e.trans e2) hx, rfl⟩, q H2 e2⟩
theorem sh_intl (ns : List Int) : SeqAt.shaped (.list (ns.map PyData.int)) = true := by
  have h : ∀ s : List Int, PyData.canLayAll0 (s.map PyData.int) = true ∧ PyData.depthAll (s.map PyData.int) ≤ 1 := by
    intro s
    induction s with
    | nil => exact ⟨rfl, by decide⟩
    | cons n r ih =>
      obtain ⟨h1, h2⟩ := ih
      refine ⟨?_, ?_⟩
      · show (PyData.canLay0 (.int n) && PyData.canLayAll0 (r.map PyData.int)) = true
        rw [h1]
        rfl
      · show max (PyData.depth (.int n)) (PyData.depthAll (r.map PyData.int)) ≤ 1
        have : PyData.depth (.int n) ≤ 1 := by simp [PyData.depth]
        omega
  obtain ⟨h1, h2⟩ := h ns
  show (PyData.canLayAll0 _ && decide (PyData.depthAll _ + 1 ≤ 64)) = true
  rw [h1, decide_eq_true (by omega)]
  rfl
theorem eqv_nil (ns : List Int) : PyData.eqv (.list (ns.map PyData.int)) (.list []) = ns.isEmpty := by cases ns <;> rfl
def sp_uses_only (K : PySem.W.Frag) : Sp := fun vs H Q _ => ∃ (v : V) (e : Cnd) (m : Nat), vs = [v, .int 0, .int (m : Int)] ∧ Dp K H v e.d ∧ e.sz ≤ 60 ∧ ∀ H', Ex H H' → Q (.bl (onlyB m e)) H'
def sp__is_left (K : PySem.W.Frag) : Sp := fun vs H Q _ => ∃ (v : V) (e : Cnd) (m : Nat), vs = [v, .int (m : Int)] ∧ Dp K H v e.d ∧ e.sz ≤ 60 ∧ ∀ H', Ex H H' → Q (.bl (lft m e)) H'
def sp__is_right (K : PySem.W.Frag) : Sp := fun vs H Q _ => ∃ (v : V) (e : Cnd) (m : Nat), vs = [v, .int (m : Int)] ∧ Dp K H v e.d ∧ e.sz ≤ 60 ∧ ∀ H', Ex H H' → Q (.bl (rgt m e)) H'
section
variable {P : Program} {w : World} {K : PySem.W.Frag} {mg : Str → Option Value} {base : Heap}
theorem ec_uses {σ : L2.St} {H : Hp} {ta tb tc : TE} {E : XK} {v : V} {e : Cnd} {m : Nat} (ha : Ev ta σ H v) (hb : Ev tb σ H (.int 0)) (hc : Ev tc σ H (.int (m : Int))) (hd : Dp K H v e.d) (hz : e.sz ≤ 60) : Ev (tCall (sp_uses_only K) [] E (tCons ta (tCons tb (tCons tc tNil)))) σ H (.bl (onlyB m e)) := ev_call (ea_cons ha (ea_cons hb (ea_cons hc ea_nil))) fun H1 e1 Q k E => ⟨v, e, m, rfl, ex_dp e1 hd, hz, k⟩
theorem ec_left {σ : L2.St} {H : Hp} {ta tc : TE} {E : XK} {v : V} {e : Cnd} {m : Nat} (ha : Ev ta σ H v) (hc : Ev tc σ H (.int (m : Int))) (hd : Dp K H v e.d) (hz : e.sz ≤ 60) : Ev (tCall (sp__is_left K) [] E (tCons ta (tCons tc tNil))) σ H (.bl (lft m e)) := ev_call (ea_cons ha (ea_cons hc ea_nil)) fun H1 e1 Q k E => ⟨v, e, m, rfl, ex_dp e1 hd, hz, k⟩
theorem ec_right {σ : L2.St} {H : Hp} {ta tc : TE} {E : XK} {v : V} {e : Cnd} {m : Nat} (ha : Ev ta σ H v) (hc : Ev tc σ H (.int (m : Int))) (hd : Dp K H v e.d) (hz : e.sz ≤ 60) : Ev (tCall (sp__is_right K) [] E (tCons ta (tCons tc tNil))) σ H (.bl (rgt m e)) := ev_call (ea_cons ha (ea_cons hc ea_nil)) fun H1 e1 Q k E => ⟨v, e, m, rfl, ex_dp e1 hd, hz, k⟩
theorem ok_conjunction {rn : Nat} (D : Dn K mg "conjunction" s_conjunction ["conditions"]) (z_len : mg "len" = none) {p__TRUE : Addr} (g__TRUE : ∃ u, mg "_TRUE" = some u ∧ RelV (.ref p__TRUE) u) (h__TRUE : ∀ H : Hp, SqT K H p__TRUE ([.str "constant", .bl true])) (c_conjunction : C8.Cal P w K mg base (1 + rn) "conjunction" (spR_conjunction rn K) []) :
    C8.Cal P w K mg base (1 + rn + 1) "conjunction" (spR_conjunction (rn + 1) K) [] := by
  refine cal_of D sc_conjunction (fun vs H Q E h => ?_) (fun f cdv A outer s H vs Q E hr h => ?_)
  · obtain ⟨_, _, rfl, _⟩ := h
    rfl
  refine ⟨_, (pss_cons (ps_if (pt_not (pt_truth (pv 0) (by intro _; rfl)))
      (pss_one (ps_ret (C8.pe_gc rfl g__TRUE)))
      pss_nil)
    (pss_cons (ps_if (pt_cmpR op_eq (pe_callB call_len_seq (by rfl) z_len PySem.boot_len (pa_cons (pv 0) pa_nil)) pe_int (nomark _))
      (pss_one (ps_ret (pe_ix ix_list (pv 0) pe_int (fun _ _ => rfl))))
      pss_nil)
    (pss_cons (ps_set (i := 1) sc_conjunction.nd rfl (.inl rfl) (pe_op op_fdiv (pe_callB call_len_seq (by rfl) z_len PySem.boot_len (pa_cons (pv 0) pa_nil)) pe_int))
    (pss_one (ps_ret (pe_tup (pa_cons pe_str (pa_cons pe_str (pa_cons (C8.pe_c c_conjunction hr (Nat.le_refl _) (by rfl) (pa_cons (pe_slice sl_list (pv 0) po_none (po_some (pv 1))) pa_nil)) (pa_cons (C8.pe_c c_conjunction hr (Nat.le_refl _) (by rfl) (pa_cons (pe_slice sl_list (pv 0) (po_some (pv 1)) po_none) pa_nil)) pa_nil)))))))))), ?_⟩
  obtain ⟨a, es, rfl, ⟨ws, hS, hds⟩, h1, h2, q⟩ := h
  have hl := dps_len hds
  rw [List.length_map] at hl
  cases es with
  | nil =>
    obtain rfl : ws = [] := List.eq_nil_of_length_eq_zero hl
    refine q_when (b := !(!([] : List V).isEmpty)) (et_not (et_truL (ev_var rfl) hS)) (fun _ H1 e1 => s_ret ev_c fun H2 e2 => q _ H2 (e1.trans e2) (.tup (h__TRUE _) (.cons (.str _) (.cons (.bl true) .nil)))) fun hb => nomatch hb
  | cons c r =>
  cases ws with
  | nil => simp at hl
  | cons y ws =>
  refine q_when (b := !(!(y :: ws).isEmpty)) (et_not (et_truL (ev_var rfl) hS)) (fun hb => nomatch hb) fun _ H1 e1 => ?_
  refine q_when (b := decide (V.int (((y :: ws).length : Nat) : Int) = V.int 1)) (et_test (ev_op (ev_len (ev_var rfl) (ex_l e1 hS)) ev_c (rv_eq rfl))) (fun hb H2 e2 => ?_) fun hb H2 e2 => ?_
  · have hw : ws = [] := by
      have := V.int.inj (of_decide_eq_true hb)
      refine List.eq_nil_of_length_eq_zero ?_
      rw [List.length_cons] at this
      omega
    subst hw
    have hr : r = [] := List.eq_nil_of_length_eq_zero (by have h9 : 1 = r.length + 1 := hl; omega)
    subst hr
    cases hds with | cons hy _ =>
    exact s_ret (v := y) (ev_op (ev_var rfl) ev_c (rv_ixL (i := ((0 : Nat) : Int)) (ex_l (e1.trans e2) hS) (atI_nat rfl))) fun H3 e3 => q _ H3 ((e1.trans e2).trans e3) (ex_dp ((e1.trans e2).trans e3) hy)
  · cases r with
    | nil =>
      exfalso
      have := of_decide_eq_false hb
      rw [hl] at this
      exact this rfl
    | cons c2 r =>
    have hlen : (c :: c2 :: r).length = r.length + 2 := rfl
    refine q_asg (v := .int (((c :: c2 :: r).length / 2 : Nat) : Int)) (ev_is (ev_op (ev_len (ev_var rfl) (ex_l (e1.trans e2) hS)) ev_c (rv_I ⟨by decide, by decide⟩)) (by rw [hl]; rfl)) fun H3 e3 => ?_
    have x3 := (e1.trans e2).trans e3
    cases rn with
    | zero => exfalso; simp at h1
    | succ n =>
    have hp : 2 ^ (n + 1) = 2 * 2 ^ n := by rw [Nat.pow_succ, Nat.mul_comm]
    have d1 := dps_take ((c :: c2 :: r).length / 2) (ex_dps x3 hds)
    have d2 := dps_drop ((c :: c2 :: r).length / 2) (ex_dps x3 hds)
    rw [← List.map_take] at d1
    rw [← List.map_drop] at d2
    refine (ud_tup (K := K) (ad_cons (ed_val ev_c (.str _)) (ad_cons (ed_val ev_c (.str _)) (ad_cons (ed_conj (n := n) (el_sl (ev_var rfl) eo_none (eo_some (ev_var rfl)) (ex_l x3 hS)) (by rw [cutV_take]; exact d1) (by rw [List.length_take]; omega) (by rw [List.length_take]; omega)) (ad_cons (ed_conj (n := n) (el_sl (ev_var rfl) (eo_some (ev_var rfl)) eo_none (ex_l x3 hS)) (by rw [cutV_drop]; exact d2) (by rw [List.length_drop]; omega) (by rw [List.length_drop]; omega)) ad_nil)))) (by show 4 ≤ 100000; decide)) H3 (Ex.refl H3) _ fun p H4 ys2 hp e4 h4 hd2 => q (.ref p) H4 (x3.trans e4) (.tup (st_of h4) hd2)
theorem ok_uses_only (D : Dn K mg "uses_only" s_uses_only ["expression", "low", "high"]) (c_columns_of : C8.Cal P w K mg base 2 "columns_of" (sp_columns_of K) []) :
    C8.Cal P w K mg base 3 "uses_only" (sp_uses_only K) [] := by
  refine cal_of D sc_uses_only (fun vs H Q E h => ?_) (fun f cdv A outer s H vs Q E hr h => ?_)
  · obtain ⟨_, _, _, rfl, _⟩ := h
    rfl
  refine ⟨_, (pss_cons (ps_set (i := 3) sc_uses_only.nd rfl (.inl rfl) (C8.pe_c c_columns_of hr (by decide) (by rfl) (pa_cons (pv 0) pa_nil)))
    (pss_one (ps_ret (pe_or (pe_notT (pv 3)) (pe_one (pe_and (pe_cmpR op_le (pv 1) (pe_ix ix_list (pv 3) pe_int (fun _ _ => rfl)) (nomark _)) (pe_one (pe_cmpR op_lt (pe_ix ix_list (pv 3) (pe_un un_neg pe_int) (fun _ _ => rfl)) (pv 2) (nomark _))))))))), ?_⟩
  obtain ⟨v, e, m, rfl, hd, hz, q⟩ := h
  refine q_asgE ⟨v, rfl, v, e, rfl, hd, hz, fun p H1 ns hp e1 h1 hs hu hl => ?_⟩
  refine s_ret (v := .bl (onlyB m e)) (ev_is (ev_orV (a := !(!(ns.map V.int).isEmpty)) (b := decide ((0 : Int) ≤ ns.getD 0 0) && decide (ns.getD (ns.length - 1) 0 < (m : Int))) (ev_notT (ev_var rfl) (sq_of h1)) fun hb => ?_) ?_) fun H2 e2 => q H2 (e1.trans e2)
  · cases hn : ns with
    | nil => rw [hn] at hb; cases hb
    | cons x r =>
      rw [hn] at h1 hu
      have hx : ∃ n ∈ used e, x = ((n : Nat) : Int) := (hu x).mp (List.mem_cons_self ..)
      obtain ⟨z, hz⟩ : ∃ z, (x :: r)[(x :: r).length - 1]? = some z := ⟨_, List.getElem?_eq_getElem (by simp)⟩
      have hg : (x :: r).getD ((x :: r).length - 1) 0 = z := by rw [List.getD_eq_getElem?_getD, hz]; rfl
      rw [hg]
      refine ev_andV (ev_op (ev_var rfl) (ev_op (ev_var rfl) ev_c (rv_ixL (i := ((0 : Nat) : Int)) (sq_of h1) (atI_nat rfl))) rv_I0) fun _ => ev_op (ev_op (ev_var rfl) (ev_un ev_c ru_neg) (rv_ixL (i := -1) (sq_of h1) (atI_end ?_))) (ev_var rfl) rv_I0
      rw [List.length_map, List.getElem?_map, hz]
      rfl
  · have hue := used_nil hu
    cases hn : ns with
    | nil =>
      rw [hn] at hue
      have h0 : used e = [] := by
        cases h : used e with
        | nil => rfl
        | cons _ _ => rw [h] at hue; cases hue
      unfold onlyB
      rw [h0]
      rfl
    | cons x r =>
      rw [hn] at hu hs
      obtain ⟨n0, hn0, hx0⟩ := (hu x).mp (List.mem_cons_self ..)
      obtain ⟨z, hz⟩ : ∃ z, (x :: r)[(x :: r).length - 1]? = some z := ⟨_, List.getElem?_eq_getElem (by simp)⟩
      have hg : (x :: r).getD ((x :: r).length - 1) 0 = z := by rw [List.getD_eq_getElem?_getD, hz]; rfl
      rw [hg, last_lt hu hs hz, show (x :: r).getD 0 0 = x from rfl, decide_eq_true (by omega)]
      rfl
theorem ok__is_left (D : Dn K mg "_is_left" s__is_left ["expression", "m"]) (c_columns_of : C8.Cal P w K mg base 2 "columns_of" (sp_columns_of K) []) (c_uses_only : C8.Cal P w K mg base 3 "uses_only" (sp_uses_only K) []) :
    C8.Cal P w K mg base 4 "_is_left" (sp__is_left K) [] := by
  refine cal_of D sc__is_left (fun vs H Q E h => ?_) (fun f cdv A outer s H vs Q E hr h => ?_)
  · obtain ⟨_, _, _, rfl, _⟩ := h
    rfl
  refine ⟨_, (pss_one (ps_ret (pe_and (pe_cmpR (op_neD (hu64 hr)) (C8.pe_c c_columns_of hr (by decide) (by rfl) (pa_cons (pv 0) pa_nil)) (pe_lst pa_nil) (nomark _)) (pe_one (C8.pe_c c_uses_only hr (by decide) (by rfl) (pa_cons (pv 0) (pa_cons pe_int (pa_cons (pv 1) pa_nil)))))))), ?_⟩
  obtain ⟨v, e, m, rfl, hd, hz, q⟩ := h
  refine s_ret (v := .bl (lft m e)) (ev_is (ev_andV (a := !(used e).isEmpty) (b := onlyB m e) (fun H1 e1 Q k => ⟨v, rfl, v, e, rfl, ex_dp e1 hd, hz, fun p H2 ns hp e2 h2 hs hu hl => ?_⟩) fun _ => ec_uses (ev_var rfl) ev_c (ev_var rfl) hd hz) rfl) fun H1 e1 => q H1 e1
  refine (ld_lst ad_nil (by decide)) H2 (Ex.refl H2) _ fun p2 H3 ys hp2 e3 h3 hd3 => ⟨.list (ns.map PyData.int), .list [], .lst (sq_of (e3 _ _ h2)) (dp_ints ns), .lst (sq_of h3) hd3, sh_intl ns, by decide, ?_⟩
  rw [eqv_nil, used_nil hu]
  exact k H3 (e2.trans e3)
theorem ok__is_right (D : Dn K mg "_is_right" s__is_right ["expression", "m"]) (c_columns_of : C8.Cal P w K mg base 2 "columns_of" (sp_columns_of K) []) :
    C8.Cal P w K mg base 3 "_is_right" (sp__is_right K) [] := by
  refine cal_of D sc__is_right (fun vs H Q E h => ?_) (fun f cdv A outer s H vs Q E hr h => ?_)
  · obtain ⟨_, _, _, rfl, _⟩ := h
    rfl
  refine ⟨_, (pss_cons (ps_set (i := 2) sc__is_right.nd rfl (.inl rfl) (C8.pe_c c_columns_of hr (by decide) (by rfl) (pa_cons (pv 0) pa_nil)))
    (pss_one (ps_ret (pe_and (pe_cmpR (op_neD (hu64 hr)) (pv 2) (pe_lst pa_nil) (nomark _)) (pe_one (pe_cmpR op_ge (pe_ix ix_list (pv 2) pe_int (fun _ _ => rfl)) (pv 1) (nomark _))))))), ?_⟩
  obtain ⟨v, e, m, rfl, hd, hz, q⟩ := h
  refine q_asgE ⟨v, rfl, v, e, rfl, hd, hz, fun p H1 ns hp e1 h1 hs hu hl => ?_⟩
  refine s_ret (v := .bl (rgt m e)) (ev_is (ev_andV (a := !(used e).isEmpty) (b := decide (ns.getD 0 0 ≥ (m : Int))) (ev_is (ev_neD (ed_val (ev_var rfl) (.lst (sq_of h1) (dp_ints ns))) (ed_lst (ld_lst ad_nil (by decide))) (sh_intl ns) (by decide)) (by rw [eqv_nil, used_nil hu])) fun hb => ?_) ?_) fun H2 e2 => q H2 (e1.trans e2)
  · cases hn : ns with
    | nil =>
      have := used_nil hu
      rw [hn] at this
      rw [← this] at hb
      cases hb
    | cons x r =>
      rw [hn] at h1
      exact ev_op (ev_op (ev_var rfl) ev_c (rv_ixL (i := ((0 : Nat) : Int)) (sq_of h1) (atI_nat rfl))) (ev_var rfl) rv_I0
  · cases hn : ns with
    | nil =>
      have := used_nil hu
      rw [hn] at this
      unfold rgt
      rw [← this]
      rfl
    | cons x r =>
      rw [hn] at hu hs
      rw [show (x :: r).getD 0 0 = x from rfl, first_ge hu hs rfl]
      rfl
end

--@SPLIT
/-! ### keys -/
def hv : Nat → Nat → Nat
  | 0, _ => 0
  | f + 1, n => if 1 < n then 1 + hv f ((n + 1) / 2) else 0
theorem hv_step (f n : Nat) : hv (f + 1) n = if 1 < n then 1 + hv f ((n + 1) / 2) else 0 := rfl
theorem hv_le : ∀ f n, hv f n ≤ f
  | 0, _ => Nat.le_refl _
  | f + 1, n => by
    unfold hv
    split
    · have := hv_le f ((n + 1) / 2)
      omega
    · omega
def keyIn (m : Nat) : Cnd → Option (Cnd × Cnd)
  | .bin nm a b => if nm = "equal" then (if lft m a && rgt m b then some (a, shift m b) else if lft m b && rgt m a then some (b, shift m a) else none) else none
  | _ => none
def pairD (k : Cnd × Cnd) : PyData := .tuple [k.1.d, k.2.d]
def restL (m : Nat) (es : List Cnd) : List Cnd := es.filter fun e => (keyIn m e).isNone
def keysD (m : Nat) (e : Cnd) : PyData := .tuple [.list (((cparts e).filterMap (keyIn m)).map pairD), (joined 8 (restL m (cparts e))).d]
theorem cparts_in : ∀ (e c : Cnd), c ∈ cparts e → c.sz ≤ e.sz ∧ c.dep ≤ e.dep
  | .col _, c, h => by rw [List.mem_singleton.mp h]; exact ⟨Nat.le_refl _, Nat.le_refl _⟩
  | .cst _, c, h => by rw [List.mem_singleton.mp h]; exact ⟨Nat.le_refl _, Nat.le_refl _⟩
  | .un _ _, c, h => by rw [List.mem_singleton.mp h]; exact ⟨Nat.le_refl _, Nat.le_refl _⟩
  | .bin nm a b, c, h => by
    unfold cparts at h
    split at h
    · rcases List.mem_append.mp h with h | h
      · have := cparts_in a c h
        show _ ≤ a.sz + b.sz + 1 ∧ _ ≤ max a.dep b.dep + 1
        omega
      · have := cparts_in b c h
        show _ ≤ a.sz + b.sz + 1 ∧ _ ≤ max a.dep b.dep + 1
        omega
    · rw [List.mem_singleton.mp h]
      exact ⟨Nat.le_refl _, Nat.le_refl _⟩
theorem cparts_len : ∀ e : Cnd, (cparts e).length ≤ e.sz
  | .col _ => Nat.le_refl _
  | .cst _ => Nat.le_refl _
  | .un _ _ => by show 1 ≤ _ + 1; omega
  | .bin nm a b => by
    have h1 := cparts_len a
    have h2 := cparts_len b
    unfold cparts
    split
    · rw [List.length_append]
      show _ ≤ a.sz + b.sz + 1
      omega
    · show 1 ≤ a.sz + b.sz + 1
      omega
theorem rgt_all {m : Nat} {e : Cnd} (h : rgt m e = true) : ∀ k ∈ used e, m ≤ k := fun k hk => by
  unfold rgt at h
  rw [Bool.and_eq_true, List.all_eq_true] at h
  exact of_decide_eq_true (h.2 k hk)
theorem noLs_pairs : ∀ ks : List (Cnd × Cnd), noLs (ks.map pairD) = true
  | [] => rfl
  | k :: ks => by
    show ((noL k.1.d && (noL k.2.d && true)) && noLs (ks.map pairD)) = true
    rw [noL_cx, noL_cx, noLs_pairs ks]
    rfl
theorem noL_pair (k : Cnd × Cnd) : noL (pairD k) = true := by
  show (noL k.1.d && (noL k.2.d && true)) = true
  rw [noL_cx, noL_cx]
  rfl
def KeyR (K : PySem.W.Frag) (H : Hp) (v : V) : Option (Cnd × Cnd) → Prop
  | none => v = .non
  | some k => Dp K H v (pairD k)
def sp_halvings (_ : PySem.W.Frag) : Sp := fun vs H Q _ => ∃ n : Nat, vs = [.int (n : Int)] ∧ ∀ H', Ex H H' → Q (.int (hv 40 n : Nat)) H'
def sp_sort_cost (_ : PySem.W.Frag) : Sp := fun vs H Q _ => ∃ n : Nat, vs = [.int (n : Int)] ∧ n < 2 ^ 100 ∧ ∀ H', Ex H H' → Q (.int (n * hv 40 n : Nat)) H'
def sp__key_in (K : PySem.W.Frag) : Sp := fun vs H Q _ => ∃ (v : V) (e : Cnd) (m : Nat), vs = [v, .int (m : Int)] ∧ Dp K H v e.d ∧ e.sz ≤ 60 ∧ e.dep ≤ 8 ∧ ∀ v' H', Ex H H' → KeyR K H' v' (keyIn m e) → Q v' H'
def sp_keys_of (K : PySem.W.Frag) : Sp := fun vs H Q _ => ∃ (v : V) (e : Cnd) (m : Nat), vs = [v, .int (m : Int)] ∧ Dp K H v e.d ∧ e.sz ≤ 60 ∧ e.dep ≤ 8 ∧ ∀ v' H', Ex H H' → Dp K H' v' (keysD m e) → Q v' H'
section
variable {P : Program} {w : World} {K : PySem.W.Frag} {mg : Str → Option Value} {base : Heap}
theorem lt_parts {σ : L2.St} {H G : Hp} {ta : TE} {E : XK} {v : V} {e : Cnd} (ha : Ev ta σ H v) (g : Ex G H) (hd : Dp K G v e.d) (hz : e.sz ≤ 60) : EvLt (fun _ ys => DpAll K G ys ((cparts e).map Cnd.d)) (tCall (sp_condition_parts K) [] E (tCons ta tNil)) σ H := fun H1 e1 Q q =>
  ha H1 e1 _ fun H2 e2 => ⟨v, e, G, rfl, g.trans (e1.trans e2), hd, hz, fun p H3 ws hp e3 h3 hds => q p H3 ws (fresh_back e2 hp) (e2.trans e3) h3 hds⟩
theorem ed_pair {σ : L2.St} {H : Hp} {ta tb : TE} {v : V} {c d : Cnd} (ha : Ev ta σ H v) (hc : Dp K H v c.d) (hb : EvD K tb σ H d.d) : EvD K (tTup (tCons ta (tCons tb tNil))) σ H (pairD (c, d)) := ed_tupU (ud_tup (ad_cons (ed_val ha hc) (ad_cons hb ad_nil)) (by show 2 ≤ 100000; decide))
theorem ok__key_in (D : Dn K mg "_key_in" s__key_in ["part", "m"]) (c__is_left : C8.Cal P w K mg base 4 "_is_left" (sp__is_left K) []) (c__is_right : C8.Cal P w K mg base 3 "_is_right" (sp__is_right K) []) (c_moved : C8.Cal P w K mg base 10 "moved" (sp_moved K) []) :
    C8.Cal P w K mg base 11 "_key_in" (sp__key_in K) [] := by
  refine cal_of D sc__key_in (fun vs H Q E h => ?_) (fun f cdv A outer s H vs Q E hr h => ?_)
  · obtain ⟨_, _, _, rfl, _⟩ := h
    rfl
  refine ⟨_, (pss_cons (ps_if (PW.pt (pw_or (pt_cmpR op_ne (pe_ix ix_tup (pv 0) pe_int (fun _ _ => rfl)) pe_str (nomark _)) (pw_or1 (pt_cmpR op_ne (pe_ix ix_tup (pv 0) pe_int (fun _ _ => rfl)) pe_str (nomark _)))))
      (pss_one (ps_ret pe_non))
      pss_nil)
    (pss_cons (ps_asg (pv 0) (pg_tup rfl (pgs_cons (pg_name (i := 2) sc__key_in.nd rfl (.inl rfl)) (pgs_cons (pg_name (i := 2) sc__key_in.nd rfl (.inl rfl)) (pgs_cons (pg_name (i := 3) sc__key_in.nd rfl (.inl rfl)) (pgs_cons (pg_name (i := 4) sc__key_in.nd rfl (.inl rfl)) pgs_nil))))))
    (pss_cons (ps_if (PW.pt (pw_and (pt_val (C8.pe_c c__is_left hr (by decide) (by rfl) (pa_cons (pv 3) (pa_cons (pv 1) pa_nil)))) (pw_and1 (pt_val (C8.pe_c c__is_right hr (by decide) (by rfl) (pa_cons (pv 4) (pa_cons (pv 1) pa_nil)))))))
      (pss_one (ps_ret (pe_tup (pa_cons (pv 3) (pa_cons (C8.pe_c c_moved hr (by decide) (by rfl) (pa_cons (pv 4) (pa_cons (pe_un un_neg (pv 1)) pa_nil))) pa_nil)))))
      pss_nil)
    (pss_cons (ps_if (PW.pt (pw_and (pt_val (C8.pe_c c__is_left hr (by decide) (by rfl) (pa_cons (pv 4) (pa_cons (pv 1) pa_nil)))) (pw_and1 (pt_val (C8.pe_c c__is_right hr (by decide) (by rfl) (pa_cons (pv 3) (pa_cons (pv 1) pa_nil)))))))
      (pss_one (ps_ret (pe_tup (pa_cons (pv 4) (pa_cons (C8.pe_c c_moved hr (by decide) (by rfl) (pa_cons (pv 3) (pa_cons (pe_un un_neg (pv 1)) pa_nil))) pa_nil)))))
      pss_nil)
    (pss_one (ps_ret pe_non)))))), ?_⟩
  obtain ⟨v, e, m, rfl, hd, hz, hdep, q⟩ := h
  obtain ⟨b, y, ys, rfl, hS, h2, hdk⟩ := cx_view hd
  have t0 : EvT (tTest (tOp rNe (tOp (rIxT K) (tVar 0) (tC (.int 0))) (tC (.str "binary")))) (start n__key_in [.ref b, .int (m : Int)]) H (!isB e) := et_test (ev_is (ev_op (ev_op (ev_var rfl) ev_c (rv_ixT hS (atI_nat (j := 0) rfl))) ev_c (rv_ne rfl)) (by rw [hd_bin]))
  cases e with
  | col n => exact q_when (b := true || true) (et_or t0 fun h => nomatch h) (fun _ H1 e1 => s_ret ev_c fun H2 e2 => q _ H2 (e1.trans e2) rfl) fun hb => nomatch hb
  | cst n => exact q_when (b := true || true) (et_or t0 fun h => nomatch h) (fun _ H1 e1 => s_ret ev_c fun H2 e2 => q _ H2 (e1.trans e2) rfl) fun hb => nomatch hb
  | un x a => exact q_when (b := true || true) (et_or t0 fun h => nomatch h) (fun _ H1 e1 => s_ret ev_c fun H2 e2 => q _ H2 (e1.trans e2) rfl) fun hb => nomatch hb
  | bin nm a b2 =>
    obtain rfl := dp_strD h2
    cases hdk with | cons ha hdk =>
    cases hdk with | cons hb hdk =>
    cases hdk
    have hz2 : a.sz + b2.sz + 1 ≤ 60 := hz
    have hdp2 : max a.dep b2.dep + 1 ≤ 8 := hdep
    have hki : keyIn m (.bin nm a b2) = if nm = "equal" then (if lft m a && rgt m b2 then some (a, shift m b2) else if lft m b2 && rgt m a then some (b2, shift m a) else none) else none := rfl
    rw [hki] at q
    refine q_when (b := false || !decide (V.str nm = V.str "equal")) (et_or t0 fun _ => et_test (ev_op (ev_op (ev_var rfl) ev_c (rv_ixT hS (atI_nat (j := 1) rfl))) ev_c (rv_ne rfl))) (fun hb1 H1 e1 => ?_) fun hb1 H1 e1 => ?_
    · have hne : ¬ nm = "equal" := fun z => by subst z; simp at hb1
      rw [if_neg hne] at q
      exact s_ret ev_c fun H2 e2 => q _ H2 (e1.trans e2) rfl
    · have heq : nm = "equal" := by
        have h9 : decide (V.str nm = V.str "equal") = true := by
          cases h : decide (V.str nm = V.str "equal") with
          | true => rfl
          | false => rw [h] at hb1; cases hb1
        exact V.str.inj (of_decide_eq_true h9)
      subst heq
      rw [if_pos rfl] at q
      refine q_asgV (ev_var rfl) fun H2 e2 => gt4 (ex_t (e1.trans e2) hS) ?_
      have x2 := e1.trans e2
      refine q_when (b := lft m a && rgt m b2) (et_and (et_B (ec_left (ev_var rfl) (ev_var rfl) (ex_dp x2 ha) (by omega))) fun _ => et_B (ec_right (ev_var rfl) (ev_var rfl) (ex_dp x2 hb) (by omega))) (fun hb3 H3 e3 => ?_) fun hb3 H3 e3 => ?_
      · rw [if_pos hb3] at q
        rw [Bool.and_eq_true] at hb3
        have x3 := x2.trans e3
        exact s_retD (ed_pair (c := a) (ev_var rfl) (ex_dp x3 ha) (ed_moved (n := 7) (ev_var rfl) (ev_un (ev_var rfl) ru_neg) (ex_dp x3 hb) (by omega) (rgt_all hb3.2))) fun z H4 e4 hz4 => q z H4 (x3.trans e4) hz4
      · rw [if_neg (by rw [hb3]; decide)] at q
        have x3 := x2.trans e3
        refine q_when (b := lft m b2 && rgt m a) (et_and (et_B (ec_left (ev_var rfl) (ev_var rfl) (ex_dp x3 hb) (by omega))) fun _ => et_B (ec_right (ev_var rfl) (ev_var rfl) (ex_dp x3 ha) (by omega))) (fun hb4 H4 e4 => ?_) fun hb4 H4 e4 => ?_
        · rw [if_pos hb4] at q
          rw [Bool.and_eq_true] at hb4
          have x4 := x3.trans e4
          exact s_retD (ed_pair (c := b2) (ev_var rfl) (ex_dp x4 hb) (ed_moved (n := 7) (ev_var rfl) (ev_un (ev_var rfl) ru_neg) (ex_dp x4 ha) (by omega) (rgt_all hb4.2))) fun z H5 e5 hz5 => q z H5 (x4.trans e5) hz5
        · rw [if_neg (by rw [hb4]; decide)] at q
          exact s_ret ev_c fun H5 e5 => q _ H5 ((x3.trans e4).trans e5) rfl
theorem ok_keys_of (D : Dn K mg "keys_of" s_keys_of ["condition", "m"]) (c__key_in : C8.Cal P w K mg base 11 "_key_in" (sp__key_in K) []) (c_condition_parts : C8.Cal P w K mg base 1 "condition_parts" (sp_condition_parts K) []) (c_conjunction : C8.Cal P w K mg base 9 "conjunction" (sp_conjunction K) []) :
    C8.Cal P w K mg base 12 "keys_of" (sp_keys_of K) [] := by
  refine cal_of D sc_keys_of (fun vs H Q E h => ?_) (fun f cdv A outer s H vs Q E hr h => ?_)
  · obtain ⟨_, _, _, rfl, _⟩ := h
    rfl
  refine ⟨_, (pss_cons (ps_set (i := 2) sc_keys_of.nd rfl (.inl rfl) (pe_lst pa_nil))
    (pss_cons (ps_set (i := 3) sc_keys_of.nd rfl (.inl rfl) (pe_lst pa_nil))
    (pss_cons (ps_for PassesOwn.never rfl (pi_list (C8.pe_c c_condition_parts hr (by decide) (by rfl) (pa_cons (pv 0) pa_nil))) (pg_name (i := 4) sc_keys_of.nd rfl (.inl rfl))
      (pss_cons (ps_set (i := 5) sc_keys_of.nd rfl (.inl rfl) (C8.pe_c c__key_in hr (by decide) (by rfl) (pa_cons (pv 4) (pa_cons (pv 1) pa_nil))))
    (pss_one (ps_if (pt_cmpR op_isN (pv 5) pe_non (nomark _))
      (pss_one (ps_expr (pe_bm PySem.F.plainAttrs_list PySem.F.slot_list_append PySem.F.type_list_append mt_append (pv 3) (pa_cons (pv 4) pa_nil))))
      (pss_one (ps_expr (pe_bm PySem.F.plainAttrs_list PySem.F.slot_list_append PySem.F.type_list_append mt_append (pv 2) (pa_cons (pv 5) pa_nil))))))))
    (pss_one (ps_ret (pe_tup (pa_cons (pv 2) (pa_cons (C8.pe_c c_conjunction hr (by decide) (by rfl) (pa_cons (pv 3) pa_nil)) pa_nil)))))))), ?_⟩
  obtain ⟨v, e, m, rfl, hd, hz, hdep, q⟩ := h
  refine q_asgL (el_lst ea_nil (by decide)) fun pp H1 hpp e1 h1 => ?_
  refine q_asgL (el_lst ea_nil (by decide)) fun po H2 hpo e2 h2 => ?_
  have hppH : H pp = none := hpp
  have hpoH : H po = none := fresh_back e1 hpo
  have hne : pp ≠ po := fun z => by rw [← z, h1] at hpo; cases hpo
  have x2 := e1.trans e2
  refine q_forLt (lt_parts (ev_var rfl) x2 hd hz) fun p H3 xs hp e3 h3 hxs => ?_
  have hxl := dps_len hxs
  rw [List.length_map] at hxl
  have hcl := cparts_len e
  have hpp3 : p ≠ pp := fun z => by rw [z, e2 _ _ h1] at hp; cases hp
  have hpo3 : p ≠ po := fun z => by rw [z, h2] at hp; cases hp
  refine ⟨fun i σ' H' => ∃ (pv kv : Option V) (ws os : List V), σ' = [some v, some (.int (m : Int)), some (.ref pp), some (.ref po), pv, kv] ∧ Ex H H' ∧ H' p = some (.lst xs) ∧ H' pp = some (.lst ws) ∧ H' po = some (.lst os) ∧ DpAll K H' ws ((((cparts e).take i).filterMap (keyIn m)).map pairD) ∧ DpAll K H os ((restL m ((cparts e).take i)).map Cnd.d) ∧ ws.length ≤ i ∧ os.length ≤ i, ⟨none, none, [], [], rfl, x2.trans e3, h3, (e2.trans e3) _ _ h1, e3 _ _ h2, .nil, .nil, Nat.le_refl _, Nat.le_refl _⟩, fun i σ' H' pv => ?_, fun i x σ' H' hi pv => ?_, fun σ' H' pv => ?_⟩
  · obtain ⟨pv, kv, ws, os, rfl, x, hp', _⟩ := pv
    exact sq_of hp'
  · obtain ⟨pv, kv, ws, os, rfl, x9, hp', hws, hos, hdw, hdo, hl1, hl2⟩ := pv
    obtain ⟨dd, hdd, hxd⟩ := dps_get hxs hi
    rw [List.getElem?_map] at hdd
    obtain ⟨c, hc, rfl⟩ := Option.map_eq_some_iff.mp hdd
    obtain ⟨hcs, hcd⟩ := cparts_in e c (List.mem_of_getElem? hc)
    have hi60 : i < 60 := by have := (List.getElem?_eq_some_iff.mp hc).1; omega
    refine q_asgE ⟨x, rfl, .int (m : Int), rfl, x, c, m, rfl, ex_dp x9 hxd, by omega, by omega, fun kv2 H4 e4 hk => ?_⟩
    have x4 := x9.trans e4
    have hnon : decide (kv2 = .non) = (keyIn m c).isNone := by
      cases hki : keyIn m c with
      | none => rw [hki] at hk; rw [show kv2 = .non from hk]; rfl
      | some k =>
        rw [hki] at hk
        obtain ⟨b, ys, rfl, _⟩ := dp_tupD hk
        rfl
    refine s_if (et_test (ev_is (ev_op (ev_var rfl) ev_c rv_isN) (by rw [hnon]))) (fun hb H5 e5 => ?_) fun hb H5 e5 => ?_
    · have hkn : keyIn m c = none := Option.isNone_iff_eq_none.mp hb
      refine s_app (v := x) ((e4.trans e5) _ _ hos) (ev_var rfl) (ev_var rfl) (by omega) fun H6 e6 => ⟨_, _, ws, os ++ [x], rfl, Ex.mut (x4.trans (e5.trans e6)) hpoH, ?_, ?_, upd_same, ?_, ?_, by omega, by rw [List.length_append, List.length_singleton]; omega⟩
      · rw [upd_ne hpo3]
        exact (e4.trans (e5.trans e6)) _ _ hp'
      · rw [upd_ne hne]
        exact (e4.trans (e5.trans e6)) _ _ hws
      · rw [take_snoc hc, List.filterMap_append]
        have h0 : List.filterMap (keyIn m) [c] = [] := by simp [hkn]
        rw [h0, List.append_nil]
        exact dps_upd ((e4.trans (e5.trans e6)) _ _ hos) (noLs_pairs _) (ex_dps (e4.trans (e5.trans e6)) hdw)
      · rw [take_snoc hc]
        unfold restL
        rw [List.filter_append]
        have h0 : List.filter (fun e => (keyIn m e).isNone) [c] = [c] := by simp [hkn]
        rw [h0, List.map_append]
        exact dps_snoc hdo hxd
    · obtain ⟨k, hks⟩ : ∃ k, keyIn m c = some k := by
        cases h : keyIn m c with
        | none => rw [h] at hb; cases hb
        | some k => exact ⟨k, rfl⟩
      rw [hks] at hk
      refine s_app (v := kv2) ((e4.trans e5) _ _ hws) (ev_var rfl) (ev_var rfl) (by omega) fun H6 e6 => ⟨_, _, ws ++ [kv2], os, rfl, Ex.mut (x4.trans (e5.trans e6)) hppH, ?_, upd_same, ?_, ?_, ?_, by rw [List.length_append, List.length_singleton]; omega, by omega⟩
      · rw [upd_ne hpp3]
        exact (e4.trans (e5.trans e6)) _ _ hp'
      · rw [upd_ne (Ne.symm hne)]
        exact (e4.trans (e5.trans e6)) _ _ hos
      · rw [take_snoc hc, List.filterMap_append]
        have h0 : List.filterMap (keyIn m) [c] = [k] := by simp [hks]
        rw [h0, List.map_append]
        exact dps_snoc (dps_upd ((e4.trans (e5.trans e6)) _ _ hws) (noLs_pairs _) (ex_dps (e4.trans (e5.trans e6)) hdw)) (dp_upd ((e4.trans (e5.trans e6)) _ _ hws) (noL_pair k) (ex_dp (e5.trans e6) hk))
      · rw [take_snoc hc]
        unfold restL
        rw [List.filter_append]
        have h0 : List.filter (fun e => (keyIn m e).isNone) [c] = [] := by simp [hks]
        rw [h0, List.append_nil]
        exact hdo
  · obtain ⟨pv, kv, ws, os, rfl, x9, hp', hws, hos, hdw, hdo, hl1, hl2⟩ := pv
    rw [hxl, List.take_length] at hdw hdo
    have hrl : (restL m (cparts e)).length ≤ 60 := by
      have := List.length_filter_le (fun e => (keyIn m e).isNone) (cparts e)
      unfold restL
      omega
    refine s_retD (d := keysD m e) (ed_tupU (ud_tup (ad_cons (ed_val (ev_var rfl) (.lst (sq_of hws) hdw)) (ad_cons (fun H4 e4 Q k => ⟨.ref po, rfl, po, restL m (cparts e), rfl, ⟨os, sq_of (e4 _ _ hos), ex_dps (x9.trans e4) hdo⟩, by show _ ≤ 128; omega, hrl, fun v' H5 e5 h5 => k v' H5 e5 h5⟩) ad_nil)) (by show 2 ≤ 100000; decide))) fun z H4 e4 hz4 => q z H4 (x9.trans e4) hz4
theorem ok_halvings (D : Dn K mg "halvings" s_halvings ["number"]) (g__MOST_HALVINGS : ∃ u, mg "_MOST_HALVINGS" = some u ∧ RelV (.int (40)) u) :
    C8.Cal P w K mg base 1 "halvings" (sp_halvings K) [] := by
  refine cal_of D sc_halvings (fun vs H Q E h => ?_) (fun f cdv A outer s H vs Q E hr h => ?_)
  · obtain ⟨_, rfl, _⟩ := h
    rfl
  refine ⟨_, (pss_cons (ps_set (i := 1) sc_halvings.nd rfl (.inl rfl) pe_int)
    (pss_cons (ps_while PassesOwn.never (PW.pt (pw_and (pt_cmpR op_gt (pv 0) pe_int (nomark _)) (pw_and1 (pt_cmpR op_lt (pv 1) (C8.pe_gc rfl g__MOST_HALVINGS) (nomark _)))))
      (pss_cons (ps_set (i := 0) sc_halvings.nd rfl (.inl rfl) (pe_op op_fdiv (pe_op op_add (pv 0) pe_int) pe_int))
    (pss_one (ps_aug (i := 1) sc_halvings.nd rfl (.inl rfl) pe_int ip_add))))
    (pss_one (ps_ret (pv 1))))), ?_⟩
  obtain ⟨n, rfl, q⟩ := h
  refine q_asg ev_c fun H1 e1 => ?_
  refine q_while (fun m σ' H' => ∃ n' k : Nat, σ' = [some (.int (n' : Int)), some (.int (k : Int))] ∧ Ex H H' ∧ k + hv (40 - k) n' = hv 40 n ∧ k ≤ 40 ∧ 40 - k ≤ m) 40 ⟨n, 0, rfl, e1, by simp, by omega, by omega⟩ fun mm σ' H' hW => ?_
  obtain ⟨n', k, rfl, x, hk, hk40, hm⟩ := hW
  refine ⟨decide ((n' : Int) > 1) && decide ((k : Int) < 40), et_and (et_test (ev_op (ev_var rfl) ev_c rv_I0)) fun _ => et_test (ev_op (ev_var rfl) ev_c rv_I0), fun hb H2 e2 => ⟨fun σ2 H2 => ∃ m', m' < mm ∧ ∃ n' k : Nat, σ2 = [some (.int (n' : Int)), some (.int (k : Int))] ∧ Ex H H2 ∧ k + hv (40 - k) n' = hv 40 n ∧ k ≤ 40 ∧ 40 - k ≤ m', fun _ _ h => h, ?_⟩, fun hb H2 e2 => ?_⟩
  · rw [Bool.and_eq_true, decide_eq_true_eq, decide_eq_true_eq] at hb
    obtain ⟨hb1, hb2⟩ := hb
    refine q_asg (v := .int (((n' + 1) / 2 : Nat) : Int)) (ev_is (ev_op (ev_op (ev_var rfl) ev_c rv_I0) ev_c (rv_I ⟨by decide, by decide⟩)) (by rw [show ((n' : Int) + 1) / 2 = (((n' + 1) / 2 : Nat) : Int) by omega])) fun H3 e3 => Evl.s_aug rfl ev_c fun H4 e4 => ⟨mm - 1, by omega, (n' + 1) / 2, k + 1, by rw [Int.natCast_add]; rfl, x.trans (e2.trans (e3.trans e4)), ?_, by omega, by omega⟩
    have h40 : 40 - k = (40 - (k + 1)) + 1 := by omega
    rw [h40, hv_step (40 - (k + 1)) n', if_pos (by omega)] at hk
    omega
  · refine s_ret (v := .int (hv 40 n : Nat)) (ev_is (ev_var rfl) ?_) fun H3 e3 => q H3 (x.trans (e2.trans e3))
    have h0 : hv (40 - k) n' = 0 := by
      by_cases hk2 : k < 40
      · have hn : ¬ 1 < n' := fun h => by
          rw [decide_eq_true (show (n' : Int) > 1 by omega), decide_eq_true (show (k : Int) < 40 by omega)] at hb
          cases hb
        rw [show 40 - k = (40 - (k + 1)) + 1 by omega, hv_step (40 - (k + 1)) n', if_neg hn]
      · rw [show 40 - k = 0 by omega]
        rfl
    rw [← hk, h0]
    rfl
theorem ok_sort_cost (D : Dn K mg "sort_cost" s_sort_cost ["number"]) (c_halvings : C8.Cal P w K mg base 1 "halvings" (sp_halvings K) []) :
    C8.Cal P w K mg base 2 "sort_cost" (sp_sort_cost K) [] := by
  refine cal_of D sc_sort_cost (fun vs H Q E h => ?_) (fun f cdv A outer s H vs Q E hr h => ?_)
  · obtain ⟨_, rfl, _⟩ := h
    rfl
  refine ⟨_, (pss_one (ps_ret (pe_op op_mulW (pv 0) (C8.pe_c c_halvings hr (by decide) (by rfl) (pa_cons (pv 0) pa_nil))))), ?_⟩
  obtain ⟨n, rfl, hn, q⟩ := h
  refine s_ret (v := .int (n * hv 40 n : Nat)) (ev_is (ev_op (ev_var rfl) (fun H1 e1 Q k => ⟨_, rfl, n, rfl, fun H2 e2 => k H2 e2⟩) (rv_I (wide_mul (a := 100) (b := 10) (by omega) (by have := hv_le 40 n; omega) (by decide) (by decide) (by decide)))) (by rw [Int.natCast_mul])) fun H1 e1 => q H1 e1
end

--@SPLIT
/-! ### costs; the law's own parts -/
def jc (way : Str) (x y : Nat) : Nat := if way = "loop" then x + x * y else if way = "hash right" then x + 2 * y else if way = "hash left" then 2 * x + y else x * hv 40 x + y * hv 40 y + x + y
def sp_join_cost (_ : PySem.W.Frag) : Sp := fun vs H Q _ => ∃ (way : Str) (x y : Nat), vs = [.str way, .int (x : Int), .int (y : Int)] ∧ x < 2 ^ 60 ∧ y < 2 ^ 60 ∧ ∀ H', Ex H H' → Q (.int (jc way x y : Nat)) H'
def gc (way : Str) (x : Nat) : Nat := if way = "hash" then 2 * x else x * hv 40 x + x
def sp_group_cost (_ : PySem.W.Frag) : Sp := fun vs H Q _ => ∃ (way : Str) (x : Nat), vs = [.str way, .int (x : Int)] ∧ x < 2 ^ 60 ∧ ∀ H', Ex H H' → Q (.int (gc way x : Nat)) H'
def spR__law_parts : Nat → PySem.W.Frag → Sp
  | 0, _ => fun _ _ _ _ => False
  | n + 1, K => fun vs H Q _ => ∃ (v : V) (e : Cnd) (G : Hp), vs = [v] ∧ Ex G H ∧ Dp K G v e.d ∧ e.dep ≤ n + 1 ∧ e.sz ≤ 60 ∧ ∀ p H' ws, H p = none → Ex H H' → H' p = some (.lst ws) → DpAll K G ws ((cparts e).map Cnd.d) → Q (.ref p) H'
def sp__law_parts (K : PySem.W.Frag) : Sp := spR__law_parts 8 K
def spR__law_joined : Nat → PySem.W.Frag → Sp := spR_conjunction
def sp__law_joined (K : PySem.W.Frag) : Sp := spR__law_joined 8 K
def spR__law_used : Nat → PySem.W.Frag → Sp
  | 0, _ => fun _ _ _ _ => False
  | n + 1, K => fun vs H Q _ => ∃ (v : V) (e : Cnd), vs = [v] ∧ Dp K H v e.d ∧ e.dep ≤ n + 1 ∧ e.sz ≤ 60 ∧ ∀ p H', H p = none → Ex H H' → H' p = some (.lst ((used e).map fun n : Nat => V.int (n : Int))) → Q (.ref p) H'
def sp__law_used (K : PySem.W.Frag) : Sp := spR__law_used 8 K
def spR__law_moved : Nat → PySem.W.Frag → Sp
  | 0, _ => fun _ _ _ _ => False
  | n + 1, K => fun vs H Q _ => ∃ (v : V) (e : Cnd) (m : Nat), vs = [v, .int (m : Int)] ∧ Dp K H v e.d ∧ e.dep ≤ n + 1 ∧ (∀ k ∈ used e, m ≤ k) ∧ ∀ v' H', Ex H H' → Dp K H' v' (shift m e).d → Q v' H'
def sp__law_moved (K : PySem.W.Frag) : Sp := spR__law_moved 8 K
def sideI (m : Nat) (e : Cnd) : Int := if lft m e then 1 else if rgt m e then 2 else 0
def sp__law_side (K : PySem.W.Frag) : Sp := fun vs H Q _ => ∃ (v : V) (e : Cnd) (m : Nat), vs = [v, .int (m : Int)] ∧ Dp K H v e.d ∧ e.dep ≤ 8 ∧ e.sz ≤ 60 ∧ ∀ H', Ex H H' → Q (.int (sideI m e)) H'
def sp__law_due (K : PySem.W.Frag) : Sp := sp_keys_of K
def sp__law_halved (_ : PySem.W.Frag) : Sp := fun vs H Q _ => ∃ n : Nat, vs = [.int (n : Int)] ∧ n ≤ 2 ^ 40 ∧ ∀ H', Ex H H' → Q (.int (hv 40 n : Nat)) H'
theorem jc_bound {n : Nat} (h : n < 2 ^ 60) : ((n : Int)).natAbs < 2 ^ 60 := by omega
theorem used_len : ∀ e : Cnd, (used e).length ≤ e.sz
  | .col _ => Nat.le_refl _
  | .cst _ => Nat.zero_le _
  | .un _ a => by have := used_len a; show _ ≤ a.sz + 1; unfold used; omega
  | .bin _ a b => by have := used_len a; have := used_len b; show _ ≤ a.sz + b.sz + 1; unfold used; rw [List.length_append]; omega
section
variable {P : Program} {w : World} {K : PySem.W.Frag} {mg : Str → Option Value} {base : Heap}
theorem ec_sort {σ : L2.St} {H : Hp} {ta : TE} {E : XK} {n : Nat} (ha : Ev ta σ H (.int (n : Int))) (h : n < 2 ^ 100) : Ev (tCall (sp_sort_cost K) [] E (tCons ta tNil)) σ H (.int (n * hv 40 n : Nat)) := ev_call (ea_cons ha ea_nil) fun H1 e1 Q k E => ⟨n, rfl, h, k⟩
theorem ok_join_cost (D : Dn K mg "join_cost" s_join_cost ["way", "x", "y"]) (c_sort_cost : C8.Cal P w K mg base 2 "sort_cost" (sp_sort_cost K) []) :
    C8.Cal P w K mg base 3 "join_cost" (sp_join_cost K) [] := by
  refine cal_of D sc_join_cost (fun vs H Q E h => ?_) (fun f cdv A outer s H vs Q E hr h => ?_)
  · obtain ⟨_, _, _, rfl, _⟩ := h
    rfl
  refine ⟨_, (pss_cons (ps_if (pt_cmpR op_eq (pv 0) pe_str (nomark _))
      (pss_one (ps_ret (pe_op op_add (pv 1) (pe_op op_mulW (pv 1) (pv 2)))))
      pss_nil)
    (pss_cons (ps_if (pt_cmpR op_eq (pv 0) pe_str (nomark _))
      (pss_one (ps_ret (pe_op op_add (pv 1) (pe_op op_mul pe_int (pv 2)))))
      pss_nil)
    (pss_cons (ps_if (pt_cmpR op_eq (pv 0) pe_str (nomark _))
      (pss_one (ps_ret (pe_op op_add (pe_op op_mul pe_int (pv 1)) (pv 2))))
      pss_nil)
    (pss_one (ps_ret (pe_op op_add (pe_op op_add (pe_op op_add (C8.pe_c c_sort_cost hr (by decide) (by rfl) (pa_cons (pv 1) pa_nil)) (C8.pe_c c_sort_cost hr (by decide) (by rfl) (pa_cons (pv 2) pa_nil))) (pv 1)) (pv 2))))))), ?_⟩
  obtain ⟨way, x, y, rfl, hx, hy, q⟩ := h
  have t : ∀ {σ : L2.St} {H0 : Hp} {s : Str}, σ[0]? = some (some (.str way)) → EvT (tTest (tOp rEq (tVar 0) (tC (.str s)))) σ H0 (decide (way = s)) := fun {σ H0 s} h0 => et_is (et_test (ev_op (ev_var h0) ev_c (rv_eq rfl))) (by rw [Bool.eq_iff_iff, decide_eq_true_eq, decide_eq_true_eq]; exact ⟨fun h => V.str.inj h, fun h => by rw [h]⟩)
  unfold jc at q
  refine q_when (t rfl) (fun hb H1 e1 => ?_) fun hb H1 e1 => ?_
  · rw [if_pos (of_decide_eq_true hb)] at q
    exact s_ret (v := .int (x + x * y : Nat)) (ev_is (ev_op (ev_var rfl) (ev_op (ev_var rfl) (ev_var rfl) (rv_I (wide_mul (jc_bound hx) (jc_bound hy) (by decide) (by decide) (by decide)))) rv_I0) (by rw [Int.natCast_add, Int.natCast_mul])) fun H2 e2 => q H2 (e1.trans e2)
  rw [if_neg (of_decide_eq_false hb)] at q
  refine q_when (t rfl) (fun hb2 H2 e2 => ?_) fun hb2 H2 e2 => ?_
  · rw [if_pos (of_decide_eq_true hb2)] at q
    exact s_ret (v := .int (x + 2 * y : Nat)) (ev_is (ev_op (ev_var rfl) (ev_op ev_c (ev_var rfl) (rv_I (.inl ⟨by decide, by decide⟩))) rv_I0) (by rw [Int.natCast_add, Int.natCast_mul]; rfl)) fun H3 e3 => q H3 ((e1.trans e2).trans e3)
  rw [if_neg (of_decide_eq_false hb2)] at q
  refine q_when (t rfl) (fun hb3 H3 e3 => ?_) fun hb3 H3 e3 => ?_
  · rw [if_pos (of_decide_eq_true hb3)] at q
    exact s_ret (v := .int (2 * x + y : Nat)) (ev_is (ev_op (ev_op ev_c (ev_var rfl) (rv_I (.inl ⟨by decide, by decide⟩))) (ev_var rfl) rv_I0) (by rw [Int.natCast_add, Int.natCast_mul]; rfl)) fun H4 e4 => q H4 (((e1.trans e2).trans e3).trans e4)
  rw [if_neg (of_decide_eq_false hb3)] at q
  exact s_ret (v := .int (x * hv 40 x + y * hv 40 y + x + y : Nat)) (ev_is (ev_op (ev_op (ev_op (ec_sort (ev_var rfl) (by omega)) (ec_sort (ev_var rfl) (by omega)) rv_I0) (ev_var rfl) rv_I0) (ev_var rfl) rv_I0) (by rw [Int.natCast_add, Int.natCast_add, Int.natCast_add])) fun H4 e4 => q H4 (((e1.trans e2).trans e3).trans e4)
theorem ok_group_cost (D : Dn K mg "group_cost" s_group_cost ["way", "many"]) (c_sort_cost : C8.Cal P w K mg base 2 "sort_cost" (sp_sort_cost K) []) :
    C8.Cal P w K mg base 3 "group_cost" (sp_group_cost K) [] := by
  refine cal_of D sc_group_cost (fun vs H Q E h => ?_) (fun f cdv A outer s H vs Q E hr h => ?_)
  · obtain ⟨_, _, rfl, _⟩ := h
    rfl
  refine ⟨_, (pss_one (ps_ret (pe_ifExp (pt_cmpR op_eq (pv 0) pe_str (nomark _)) (pe_op op_mul pe_int (pv 1)) (pe_op op_add (C8.pe_c c_sort_cost hr (by decide) (by rfl) (pa_cons (pv 1) pa_nil)) (pv 1))))), ?_⟩
  obtain ⟨way, x, rfl, hx, q⟩ := h
  have t : ∀ {σ : L2.St} {H0 : Hp} {s : Str}, σ[0]? = some (some (.str way)) → EvT (tTest (tOp rEq (tVar 0) (tC (.str s)))) σ H0 (decide (way = s)) := fun {σ H0 s} h0 => et_is (et_test (ev_op (ev_var h0) ev_c (rv_eq rfl))) (by rw [Bool.eq_iff_iff, decide_eq_true_eq, decide_eq_true_eq]; exact ⟨fun h => V.str.inj h, fun h => by rw [h]⟩)
  unfold gc at q
  refine s_ret (v := .int (if way = "hash" then 2 * x else x * hv 40 x + x : Nat)) (ev_if (t rfl) (fun hb => ?_) fun hb => ?_) fun H2 e2 => q H2 e2
  · rw [if_pos (of_decide_eq_true hb)]
    exact ev_is (ev_op ev_c (ev_var rfl) (rv_I (.inl ⟨by decide, by decide⟩))) (by rw [Int.natCast_mul]; rfl)
  · rw [if_neg (of_decide_eq_false hb)]
    exact ev_is (ev_op (ec_sort (ev_var rfl) (by omega)) (ev_var rfl) rv_I0) (by rw [Int.natCast_add])
theorem ok__law_parts {rn : Nat} (D : Dn K mg "_law_parts" s__law_parts ["condition"]) (c__law_parts : C8.Cal P w K mg base (1 + rn) "_law_parts" (spR__law_parts rn K) []) :
    C8.Cal P w K mg base (1 + rn + 1) "_law_parts" (spR__law_parts (rn + 1) K) [] := by
  refine cal_of D sc__law_parts (fun vs H Q E h => ?_) (fun f cdv A outer s H vs Q E hr h => ?_)
  · obtain ⟨_, _, _, rfl, _⟩ := h
    rfl
  refine ⟨_, (pss_cons (ps_if (PW.pt (pw_and (pt_cmpR op_eq (pe_ix ix_tup (pv 0) pe_int (fun _ _ => rfl)) pe_str (nomark _)) (pw_and1 (pt_cmpR op_eq (pe_ix ix_tup (pv 0) pe_int (fun _ _ => rfl)) pe_str (nomark _)))))
      (pss_one (ps_ret (pe_op op_cat (C8.pe_c c__law_parts hr (Nat.le_refl _) (by rfl) (pa_cons (pe_ix ix_tup (pv 0) pe_int (fun _ _ => rfl)) pa_nil)) (C8.pe_c c__law_parts hr (Nat.le_refl _) (by rfl) (pa_cons (pe_ix ix_tup (pv 0) pe_int (fun _ _ => rfl)) pa_nil)))))
      pss_nil)
    (pss_one (ps_ret (pe_lst (pa_cons (pv 0) pa_nil))))), ?_⟩
  obtain ⟨v, e, G, rfl, g, hd, hdep, hz, q⟩ := h
  obtain ⟨b, y, ys, rfl, hS, h2, hdk⟩ := cx_view hd
  refine q_when (et_isBin (nm := "and") rfl (ex_t g hS) h2) (fun hb H1 e1 => ?_) fun hb H1 e1 => ?_
  · cases e with
    | col _ => cases hb
    | cst _ => cases hb
    | un _ _ => cases hb
    | bin nm a b2 =>
      obtain rfl := of_decide_eq_true hb
      have hcp : cparts (.bin "and" a b2) = cparts a ++ cparts b2 := if_pos rfl
      cases hdk with | cons ha hdk =>
      cases hdk with | cons hb5 hdk =>
      cases hdk
      have hz2 : a.sz + b2.sz + 1 ≤ 60 := hz
      have hdp2 : max a.dep b2.dep + 1 ≤ rn + 1 := hdep
      have hpa := dep_pos a
      cases rn with
      | zero => omega
      | succ n =>
      have hla := cparts_len a
      have hlb := cparts_len b2
      refine (fun H2 => ev_op (ev_var rfl) ev_c (rv_ixT (ex_t (g.trans e1) hS) (atI_nat (j := 2) rfl)) H2 : ∀ H2, _) H1 (Ex.refl H1) _ fun H2 e2 => ⟨_, a, G, rfl, g.trans (e1.trans e2), ha, by omega, by omega, fun p1 H3 ws1 hp1 e3 h3 hd3 => ?_⟩
      refine (fun H2 => ev_op (ev_var rfl) ev_c (rv_ixT (ex_t (g.trans (e1.trans (e2.trans e3))) hS) (atI_nat (j := 3) rfl)) H2 : ∀ H2, _) H3 (Ex.refl H3) _ fun H4 e4 => ⟨_, b2, G, rfl, g.trans (e1.trans (e2.trans (e3.trans e4))), hb5, by omega, by omega, fun p2 H5 ws2 hp2 e5 h5 hd5 => ?_⟩
      have hw1 := dps_len hd3
      have hw2 := dps_len hd5
      rw [List.length_map] at hw1 hw2
      have x5 := e1.trans (e2.trans (e3.trans (e4.trans e5)))
      exact ⟨p1, p2, ws1, ws2, rfl, rfl, (e4.trans e5) _ _ h3, h5, sz_of (by omega), fun p hp => q p _ (ws1 ++ ws2) (fresh_back x5 hp) (x5.trans (Ex.new hp)) upd_same (by rw [hcp, List.map_append]; exact dps_app hd3 hd5)⟩
  · have hcp : cparts e = [e] := by
      cases e with
      | col _ => rfl
      | cst _ => rfl
      | un _ _ => rfl
      | bin nm a b2 => exact if_neg (of_decide_eq_false hb)
    refine (el_lst (ea_cons (ev_var rfl) ea_nil) (by show 1 ≤ 100000; decide)) H1 (Ex.refl H1) _ fun p H2 hp e2 h2 => q p H2 _ (fresh_back e1 hp) (e1.trans e2) h2 (by rw [hcp]; exact .cons hd .nil)
end

--@SPLIT
theorem max_side {m : Nat} {e : Cnd} {z : Int} (h1 : z ∈ (used e).map fun n : Nat => (n : Int)) (h2 : ∀ y, y ∈ (used e).map (fun n : Nat => (n : Int)) → y ≤ z) : decide (z < (m : Int)) = onlyB m e := by
  rw [Bool.eq_iff_iff, decide_eq_true_eq]
  unfold onlyB
  rw [List.all_eq_true]
  constructor
  · intro h n hn
    have := h2 _ (List.mem_map.mpr ⟨n, hn, rfl⟩)
    exact decide_eq_true (by omega)
  · intro h
    obtain ⟨n, hn, rfl⟩ := List.mem_map.mp h1
    have := of_decide_eq_true (h n hn)
    omega
theorem min_side {m : Nat} {e : Cnd} {z : Int} (h1 : z ∈ (used e).map fun n : Nat => (n : Int)) (h2 : ∀ y, y ∈ (used e).map (fun n : Nat => (n : Int)) → z ≤ y) : decide (z ≥ (m : Int)) = (used e).all fun n => decide (m ≤ n) := by
  rw [Bool.eq_iff_iff, decide_eq_true_eq, List.all_eq_true]
  constructor
  · intro h n hn
    have := h2 _ (List.mem_map.mpr ⟨n, hn, rfl⟩)
    exact decide_eq_true (by omega)
  · intro h
    obtain ⟨n, hn, rfl⟩ := List.mem_map.mp h1
    have := of_decide_eq_true (h n hn)
    omega
section
variable {K : PySem.W.Frag} {σ : L2.St} {H : Hp} {ta tb tl te : TE} {E : XK}
/-- [f(x) for x in a new tuple]: data -/
theorem ld_lcU {xs : List V} {j : Nat} {vs : List Nat} (f : Nat → PyData) (h : EvU tl σ H xs) (hz : xs.length ≤ 40000) (hn : ∀ i, noL (f i) = true) (hw : ∀ x, wipe ((wipe σ vs).set j (some x)) vs = wipe σ vs)
    (he : ∀ (i : Nat) (x : V) H1, Ex H H1 → xs[i]? = some x → EvD K te ((wipe σ vs).set j (some x)) H1 (f i)) :
    EvLD K (tLc (iTup K tl) (gName j) tYes te vs) σ H ((List.range xs.length).map f) := fun H0 e0 Q q => h H0 e0 _ fun a H1 ha e1 h1 => ⟨a, rfl, ⟨xs, st_of h1⟩, fun D hD =>
  lc_tup (xs := xs) (fun i H' => H1 D = none ∧ Ex H1 H' ∧ ∃ ys, H' D = some (.lst ys) ∧ DpAll K H' ys ((List.range i).map f)) ⟨hD, Ex.new hD, [], upd_same, .nil⟩ (fun i H' _ p => st_of (p.2.1 _ _ h1))
    (fun i x H' hi p => by
      obtain ⟨p1, p2, ys, p3, p4⟩ := p
      refine ⟨hw x, ?_⟩
      show te ((wipe σ vs).set j (some x)) H' fun y H4 => ∃ acc, H4 D = some (.lst acc) ∧ acc.length < sizeLine ∧ _
      refine he i x H' ((e0.trans e1).trans p2) hi H' (Ex.refl H') _ fun y H4 e4 hy => ⟨ys, e4 _ _ p3, sz_lt ?_, p1, Ex.mut (p2.trans e4) p1, ys ++ [y], upd_same, ?_⟩
      · have := dps_len p4
        rw [List.length_map, List.length_range] at this
        have := (List.getElem?_eq_some_iff.mp hi).1
        omega
      · rw [List.range_succ, List.map_append]
        exact dps_snoc (dps_upd (e4 _ _ p3) (noLs_map hn _) (ex_dps e4 p4)) (dp_upd (e4 _ _ p3) (hn i) hy))
    (fun H' p => by
      obtain ⟨p1, p2, ys, p3, p4⟩ := p
      exact q D H' ys (fresh_back e1 p1) (e1.trans p2) p3 p4)⟩
theorem hd_choice (e : Cnd) : decide (V.str e.hdw = V.str "choice") = false := by
  cases e with
  | col n => show decide (V.str "column" = V.str "choice") = false; decide +kernel
  | cst v => show decide (V.str "constant" = V.str "choice") = false; decide +kernel
  | un nm a => show decide (V.str "unary" = V.str "choice") = false; decide +kernel
  | bin nm a b => show decide (V.str "binary" = V.str "choice") = false; decide +kernel
theorem ev_part2 {e : Cnd} {b : Addr} {zs : List V} (ha : Ev ta σ H (.ref b)) (hS : SqT K H b (.str e.hdw :: zs)) : Ev (tOp (rI0 fun i j => V.int (i + j)) (tC (.int 1)) (tCB (fun xs H Q => (∃ i, xs = [.int i] ∧ Q (.int i) H) ∨ ∃ k, xs = [.bl k] ∧ Q (.int (if k = true then 1 else 0)) H) (tCons (tOp rNe (tOp (rIxT K) ta (tC (.int 0))) (tC (.str "choice"))) tNil))) σ H (.int ((1 + 1 : Nat) : Int)) :=
  ev_op (y := .int 1) ev_c (fun H1 e1 Q q => (ev_op (ev_op ha ev_c (rv_ixT hS (atI_nat (j := 0) rfl))) ev_c (rv_ne rfl)) H1 e1 _ fun H2 e2 => .inr ⟨_, rfl, by rw [hd_choice]; exact q H2 e2⟩) rv_I0
theorem sz_kid {e c : Cnd} (h : c ∈ e.kids) : c.sz ≤ e.sz := by
  cases e with
  | col n => cases h
  | cst v => cases h
  | un nm a => rw [List.mem_singleton.mp h]; exact Nat.le_succ _
  | bin nm a b =>
    have h' : c = a ∨ c = b := by simpa [Cnd.kids] using h
    show c.sz ≤ a.sz + b.sz + 1
    rcases h' with rfl | rfl <;> omega
theorem used_flat {e : Cnd} (h : isCol e = false) : (e.kids.map used).flatten = used e := by
  cases e with
  | col n => cases h
  | cst v => rfl
  | un nm a => simp [Cnd.kids, used]
  | bin nm a b => simp [Cnd.kids, used]
theorem kids_used (e : Cnd) (i : Nat) : (((e.kids.take i).map used).flatten).length ≤ e.sz := by
  have h : ∀ l : List Cnd, ((l.map used).flatten).length ≤ (l.map Cnd.sz).sum := by
    intro l
    induction l with
    | nil => exact Nat.le_refl _
    | cons c r ih =>
      have := used_len c
      simp only [List.map_cons, List.flatten_cons, List.length_append, List.sum_cons]
      omega
  have h1 := h (e.kids.take i)
  have h2 : ((e.kids.take i).map Cnd.sz).sum ≤ (e.kids.map Cnd.sz).sum := by
    have : (e.kids.map Cnd.sz).sum = ((e.kids.take i).map Cnd.sz).sum + ((e.kids.drop i).map Cnd.sz).sum := by rw [← List.sum_append, ← List.map_append, List.take_append_drop]
    omega
  have := sz_kids e
  omega
theorem el_catX {l : Addr} {xs ys : List V} (ha : Ev ta σ H (.ref l)) (h1 : H l = some (.lst xs)) (hb : EvL tb σ H ys) (hz : xs.length + ys.length ≤ 100000) : EvL (tOp rCat ta tb) σ H (xs ++ ys) := fun H1 e Q q =>
  ha H1 e _ fun H2 e2 => hb H2 (e.trans e2) _ fun b H3 _ e3 hb3 => ⟨l, b, xs, ys, rfl, rfl, ((e.trans e2).trans e3) _ _ h1, hb3, sz_of hz, fun p hp => q p _ (fresh_back (e2.trans e3) hp) ((e2.trans e3).trans (Ex.new hp)) upd_same⟩
theorem el_used {v : V} {e : Cnd} {n : Nat} (ha : Ev ta σ H v) (hd : Dp K H v e.d) (hn : e.dep ≤ n + 1) (hz : e.sz ≤ 60) : EvL (tCall (spR__law_used (n + 1) K) [] E (tCons ta tNil)) σ H ((used e).map fun n : Nat => V.int (n : Int)) := fun H1 e1 Q q =>
  ha H1 e1 _ fun H2 e2 => ⟨v, e, rfl, ex_dp (e1.trans e2) hd, hn, hz, fun p H3 hp e3 h3 => q p H3 (fresh_back e2 hp) (e2.trans e3) h3⟩
theorem ed_lmoved {v : V} {e : Cnd} {m n : Nat} (ha : Ev ta σ H v) (hb : Ev tb σ H (.int (m : Int))) (hd : Dp K H v e.d) (hn : e.dep ≤ n + 1) (hu : ∀ k ∈ used e, m ≤ k) : EvD K (tCall (spR__law_moved (n + 1) K) [] E (tCons ta (tCons tb tNil))) σ H (shift m e).d := fun H1 e1 Q q =>
  ha H1 e1 _ fun H2 e2 => hb H2 (e1.trans e2) _ fun H3 e3 => ⟨v, e, m, rfl, ex_dp ((e1.trans e2).trans e3) hd, hn, hu, fun v' H4 e4 h4 => q v' H4 ((e2.trans e3).trans e4) h4⟩
theorem ed_ljoin {ws : List V} {es : List Cnd} {n : Nat} (ha : EvL ta σ H ws) (hd : DpAll K H ws (es.map Cnd.d)) (h1 : es.length ≤ 2 ^ n) (h2 : es.length ≤ 60) : EvD K (tCall (spR__law_joined (n + 1) K) [] E (tCons ta tNil)) σ H (joined (n + 1) es).d := ed_conj ha hd h1 h2
end
section
variable {P : Program} {w : World} {K : PySem.W.Frag} {mg : Str → Option Value} {base : Heap}
theorem ok__law_joined {rn : Nat} (D : Dn K mg "_law_joined" s__law_joined ["conditions"]) (z_len : mg "len" = none) (c__law_joined : C8.Cal P w K mg base (1 + rn) "_law_joined" (spR__law_joined rn K) []) :
    C8.Cal P w K mg base (1 + rn + 1) "_law_joined" (spR__law_joined (rn + 1) K) [] := by
  refine cal_of D sc__law_joined (fun vs H Q E h => ?_) (fun f cdv A outer s H vs Q E hr h => ?_)
  · obtain ⟨_, _, rfl, _⟩ := h
    rfl
  refine ⟨_, (pss_cons (ps_if (pt_cmpR op_eq (pe_callB call_len_seq (by rfl) z_len PySem.boot_len (pa_cons (pv 0) pa_nil)) pe_int (nomark _))
      (pss_one (ps_ret (pe_tup (pa_cons pe_str (pa_cons pe_bl pa_nil)))))
      pss_nil)
    (pss_cons (ps_if (pt_cmpR op_eq (pe_callB call_len_seq (by rfl) z_len PySem.boot_len (pa_cons (pv 0) pa_nil)) pe_int (nomark _))
      (pss_one (ps_ret (pe_ix ix_list (pv 0) pe_int (fun _ _ => rfl))))
      pss_nil)
    (pss_cons (ps_set (i := 1) sc__law_joined.nd rfl (.inl rfl) (pe_op op_fdiv (pe_callB call_len_seq (by rfl) z_len PySem.boot_len (pa_cons (pv 0) pa_nil)) pe_int))
    (pss_one (ps_ret (pe_tup (pa_cons pe_str (pa_cons pe_str (pa_cons (C8.pe_c c__law_joined hr (Nat.le_refl _) (by rfl) (pa_cons (pe_slice sl_list (pv 0) po_none (po_some (pv 1))) pa_nil)) (pa_cons (C8.pe_c c__law_joined hr (Nat.le_refl _) (by rfl) (pa_cons (pe_slice sl_list (pv 0) (po_some (pv 1)) po_none) pa_nil)) pa_nil)))))))))), ?_⟩
  obtain ⟨a, es, rfl, ⟨ws, hS, hds⟩, h1, h2, q⟩ := h
  have hl := dps_len hds
  rw [List.length_map] at hl
  refine q_when (b := decide (V.int ((ws.length : Nat) : Int) = V.int 0)) (et_test (ev_op (ev_len (ev_var rfl) hS) ev_c (rv_eq rfl))) (fun hb H1 e1 => ?_) fun hb H1 e1 => ?_
  · have hw : ws = [] := List.eq_nil_of_length_eq_zero (by have := V.int.inj (of_decide_eq_true hb); omega)
    subst hw
    obtain rfl : es = [] := List.eq_nil_of_length_eq_zero hl.symm
    refine s_retD (ed_tupU (ud_tup (ad_cons (ed_val ev_c (.str _)) (ad_cons (ed_val ev_c (.bl true)) ad_nil)) (by show 2 ≤ 100000; decide))) fun z H2 e2 hz => q z H2 (e1.trans e2) hz
  cases es with
  | nil =>
    exfalso
    have := of_decide_eq_false hb
    rw [hl] at this
    exact this rfl
  | cons c r =>
  cases ws with
  | nil => simp at hl
  | cons y ws =>
  refine q_when (b := decide (V.int (((y :: ws).length : Nat) : Int) = V.int 1)) (et_test (ev_op (ev_len (ev_var rfl) (ex_l e1 hS)) ev_c (rv_eq rfl))) (fun hb H2 e2 => ?_) fun hb H2 e2 => ?_
  · have hw : ws = [] := by
      have := V.int.inj (of_decide_eq_true hb)
      refine List.eq_nil_of_length_eq_zero ?_
      rw [List.length_cons] at this
      omega
    subst hw
    have hr : r = [] := List.eq_nil_of_length_eq_zero (by have h9 : 1 = r.length + 1 := hl; omega)
    subst hr
    cases hds with | cons hy _ =>
    exact s_ret (v := y) (ev_op (ev_var rfl) ev_c (rv_ixL (i := ((0 : Nat) : Int)) (ex_l (e1.trans e2) hS) (atI_nat rfl))) fun H3 e3 => q _ H3 ((e1.trans e2).trans e3) (ex_dp ((e1.trans e2).trans e3) hy)
  · cases r with
    | nil =>
      exfalso
      have := of_decide_eq_false hb
      rw [hl] at this
      exact this rfl
    | cons c2 r =>
    have hlen : (c :: c2 :: r).length = r.length + 2 := rfl
    refine q_asg (v := .int (((c :: c2 :: r).length / 2 : Nat) : Int)) (ev_is (ev_op (ev_len (ev_var rfl) (ex_l (e1.trans e2) hS)) ev_c (rv_I ⟨by decide, by decide⟩)) (by rw [hl]; rfl)) fun H3 e3 => ?_
    have x3 := (e1.trans e2).trans e3
    cases rn with
    | zero => exfalso; simp at h1
    | succ n =>
    have hp : 2 ^ (n + 1) = 2 * 2 ^ n := by rw [Nat.pow_succ, Nat.mul_comm]
    have d1 := dps_take ((c :: c2 :: r).length / 2) (ex_dps x3 hds)
    have d2 := dps_drop ((c :: c2 :: r).length / 2) (ex_dps x3 hds)
    rw [← List.map_take] at d1
    rw [← List.map_drop] at d2
    refine (ud_tup (K := K) (ad_cons (ed_val ev_c (.str _)) (ad_cons (ed_val ev_c (.str _)) (ad_cons (ed_ljoin (n := n) (el_sl (ev_var rfl) eo_none (eo_some (ev_var rfl)) (ex_l x3 hS)) (by rw [cutV_take]; exact d1) (by rw [List.length_take]; omega) (by rw [List.length_take]; omega)) (ad_cons (ed_ljoin (n := n) (el_sl (ev_var rfl) (eo_some (ev_var rfl)) eo_none (ex_l x3 hS)) (by rw [cutV_drop]; exact d2) (by rw [List.length_drop]; omega) (by rw [List.length_drop]; omega)) ad_nil)))) (by show 4 ≤ 100000; decide)) H3 (Ex.refl H3) _ fun p H4 ys2 hp e4 h4 hd2 => q (.ref p) H4 (x3.trans e4) (.tup (st_of h4) hd2)
theorem ok__law_used {rn : Nat} (D : Dn K mg "_law_used" s__law_used ["expression"]) (z_int : mg "int" = none) (c__law_used : C8.Cal P w K mg base (1 + rn) "_law_used" (spR__law_used rn K) []) :
    C8.Cal P w K mg base (1 + rn + 1) "_law_used" (spR__law_used (rn + 1) K) [] := by
  refine cal_of D sc__law_used (fun vs H Q E h => ?_) (fun f cdv A outer s H vs Q E hr h => ?_)
  · obtain ⟨_, _, rfl, _⟩ := h
    rfl
  refine ⟨_, (pss_cons (ps_if (pt_cmpR op_eq (pe_ix ix_tup (pv 0) pe_int (fun _ _ => rfl)) pe_str (nomark _))
      (pss_one (ps_ret (pe_lst (pa_cons (pe_ix ix_tup (pv 0) pe_int (fun _ _ => rfl)) pa_nil))))
      pss_nil)
    (pss_cons (ps_if (pt_cmpR op_eq (pe_ix ix_tup (pv 0) pe_int (fun _ _ => rfl)) pe_str (nomark _))
      (pss_one (ps_ret (pe_lst pa_nil)))
      pss_nil)
    (pss_cons (ps_set (i := 1) sc__law_used.nd rfl (.inl rfl) (pe_lst pa_nil))
    (pss_cons (ps_for PassesOwn.never rfl (pi_tup (pe_slice sl_tupA (pv 0) (po_some (pe_op op_add pe_int (pe_callTy call_int1 (by rfl) z_int (by decide +kernel) (pa_cons (pe_cmpR op_ne (pe_ix ix_tup (pv 0) pe_int (fun _ _ => rfl)) pe_str (nomark _)) pa_nil)))) po_none)) (pg_name (i := 2) sc__law_used.nd rfl (.inl rfl))
      (pss_one (ps_set (i := 1) sc__law_used.nd rfl (.inl rfl) (pe_op op_cat (pv 1) (C8.pe_c c__law_used hr (Nat.le_refl _) (by rfl) (pa_cons (pv 2) pa_nil))))))
    (pss_one (ps_ret (pv 1))))))), ?_⟩
  obtain ⟨v, e, rfl, hd, hdep, hz, q⟩ := h
  obtain ⟨b, y, ys, rfl, hS, h2, hdk⟩ := cx_view hd
  refine q_when (et_test (ev_is (ev_op (ev_op (ev_var rfl) ev_c (rv_ixT hS (atI_nat (j := 0) rfl))) ev_c (rv_eq rfl)) (by rw [hd_col]))) (fun hb H1 e1 => ?_) fun hb H1 e1 => ?_
  · cases e with
    | cst _ => cases hb
    | un _ _ => cases hb
    | bin _ _ _ => cases hb
    | col n =>
      obtain rfl := two_nat h2
      exact (el_lst (ea_cons (ev_op (ev_var rfl) ev_c (rv_ixT (ex_t e1 hS) (atI_nat (j := 1) rfl))) ea_nil) (by show 1 ≤ 100000; decide)) H1 (Ex.refl H1) _ fun p H2 hp e2 h2 => q p H2 (fresh_back e1 hp) (e1.trans e2) h2
  refine q_when (et_test (ev_is (ev_op (ev_op (ev_var rfl) ev_c (rv_ixT (ex_t e1 hS) (atI_nat (j := 0) rfl))) ev_c (rv_eq rfl)) (by rw [hd_cst]))) (fun hb2 H2 e2 => ?_) fun hb2 H2 e2 => ?_
  · cases e with
    | col _ => cases hb2
    | un _ _ => cases hb2
    | bin _ _ _ => cases hb2
    | cst n => exact (el_lst ea_nil (by decide)) H2 (Ex.refl H2) _ fun p H3 hp e3 h3 => q p H3 (fresh_back (e1.trans e2) hp) ((e1.trans e2).trans e3) h3
  have x2 := e1.trans e2
  have hyl := dps_len hdk
  rw [List.length_map] at hyl
  refine q_asgL (el_lst ea_nil (by decide)) fun pf H3 hpf e3 h3 => ?_
  have x3 := x2.trans e3
  have hkl := kids_le e
  refine q_forPt (R := fun xs => xs = ys) (fun H4 e4 Q k => (eu_slA (K := K) (lo := some ((1 + 1 : Nat) : Int)) (hi := none) (ev_var rfl) (eo_some (ev_part2 (ev_var rfl) (ex_t x3 hS))) eo_none (ex_t x3 hS) (no_whole 1 (by show 2 ≤ ys.length + 2; omega))) H4 e4 Q fun p H5 hp e5 h5 => k p H5 ys hp e5 (by rw [h5]; exact congrArg (fun z => some (HO.tup z)) (cut_two (x := .str e.hdw) (y := y) (ys := ys))) rfl) fun p H4 xs hp e4 h4 hR => ?_
  subst hR
  refine ⟨fun i σ' H' => ∃ (pv : Option V) (a : Addr), σ' = [some (.ref b), some (.ref a), pv] ∧ Ex H H' ∧ H' p = some (.tup xs) ∧ H a = none ∧ H' a = some (.lst (((e.kids.take i).map used).flatten.map fun n : Nat => V.int (n : Int))), ⟨none, pf, rfl, x3.trans e4, h4, fresh_back x2 hpf, e4 _ _ h3⟩, fun i σ' H' pv => ?_, fun i x σ' H' hi pv => ?_, fun σ' H' pv => ?_⟩
  · obtain ⟨pv, a, rfl, x, hp', _⟩ := pv
    exact st_of hp'
  · obtain ⟨pv, a, rfl, x9, hp', ha0, ha⟩ := pv
    obtain ⟨dd, hdd, hxd⟩ := dps_get hdk hi
    rw [List.getElem?_map] at hdd
    obtain ⟨c, hc, rfl⟩ := Option.map_eq_some_iff.mp hdd
    have hcm := List.mem_of_getElem? hc
    have hcd := dep_kids hcm
    have hcp := dep_pos c
    have hcs : c.sz ≤ 60 := by have := sz_kid hcm; omega
    cases rn with
    | zero => omega
    | succ n =>
    have hul := used_len c
    have hkl2 := kids_used e i
    refine s_asgL (el_catX (ev_var rfl) ha (el_used (n := n) (ev_var rfl) (ex_dp x9 hxd) (by omega) hcs) (by rw [List.length_map, List.length_map]; have := used_len e; omega)) fun r H5 hr e5 h5 => ⟨_, r, rfl, x9.trans e5, e5 _ _ hp', fresh_back x9 hr, ?_⟩
    rw [h5, take_snoc hc, List.map_append, List.flatten_append, List.map_append]
    simp
  · obtain ⟨pv, a, rfl, x9, hp', ha0, ha⟩ := pv
    rw [hyl, List.take_length] at ha
    refine s_ret (v := .ref a) (ev_var rfl) fun H5 e5 => q a H5 ha0 (x9.trans e5) ?_
    rw [e5 _ _ ha, used_flat (by cases e <;> first | rfl | cases hb) ]
theorem ok__law_moved {rn : Nat} (D : Dn K mg "_law_moved" s__law_moved ["expression", "m"]) (z_int : mg "int" = none) (z_tuple : mg "tuple" = none) (c__law_moved : C8.Cal P w K mg base (1 + rn) "_law_moved" (spR__law_moved rn K) []) :
    C8.Cal P w K mg base (1 + rn + 1) "_law_moved" (spR__law_moved (rn + 1) K) [] := by
  refine cal_of D sc__law_moved (fun vs H Q E h => ?_) (fun f cdv A outer s H vs Q E hr h => ?_)
  · obtain ⟨_, _, _, rfl, _⟩ := h
    rfl
  refine ⟨_, (pss_cons (ps_if (pt_cmpR op_eq (pe_ix ix_tup (pv 0) pe_int (fun _ _ => rfl)) pe_str (nomark _))
      (pss_one (ps_ret (pe_tup (pa_cons pe_str (pa_cons (pe_op op_sub (pe_ix ix_tup (pv 0) pe_int (fun _ _ => rfl)) (pv 1)) pa_nil)))))
      pss_nil)
    (pss_cons (ps_if (pt_cmpR op_eq (pe_ix ix_tup (pv 0) pe_int (fun _ _ => rfl)) pe_str (nomark _))
      (pss_one (ps_ret (pv 0)))
      pss_nil)
    (pss_cons (ps_set (i := 2) sc__law_moved.nd rfl (.inl rfl) (pe_op op_add pe_int (pe_callTy call_int1 (by rfl) z_int (by decide +kernel) (pa_cons (pe_cmpR op_ne (pe_ix ix_tup (pv 0) pe_int (fun _ _ => rfl)) pe_str (nomark _)) pa_nil))))
    (pss_one (ps_ret (pe_op op_catA (pe_slice sl_tupA (pv 0) po_none (po_some (pv 2))) (pe_callTy call_tuple_of (by rfl) z_tuple (by decide +kernel) (pa_cons (pe_lc (own := [("part", 3)]) (g := gName 3) (tt := tYes) rfl sc__law_moved.nd (pi_tup (pe_slice sl_tupA (pv 0) (po_some (pv 2)) po_none)) (blkOk_by (N := n__law_moved) (sc := C8.fnScope s__law_moved) (by decide +kernel)) (fun _ _ _ _ _ => pg_name (i := 3) sc__law_moved.nd rfl (Or.inl rfl)) (fun _ _ _ _ _ => pts_nil) (fun _ _ _ _ _ => (C8.pe_c c__law_moved hr (Nat.le_refl _) (by rfl) (pa_cons (pv 3) (pa_cons (pv 1) pa_nil))))) pa_nil)))))))), ?_⟩
  obtain ⟨v, e, m, rfl, hd, hdep, hu, q⟩ := h
  obtain ⟨b, y, ys, rfl, hS, h2, hdk⟩ := cx_view hd
  have hyl := dps_len hdk
  rw [List.length_map] at hyl
  have hkl := kids_le e
  refine q_when (et_test (ev_is (ev_op (ev_op (ev_var rfl) ev_c (rv_ixT hS (atI_nat (j := 0) rfl))) ev_c (rv_eq rfl)) (by rw [hd_col]))) (fun hb H1 e1 => ?_) fun hb H1 e1 => ?_
  · cases e with
    | cst _ => cases hb
    | un _ _ => cases hb
    | bin _ _ _ => cases hb
    | col n =>
      obtain rfl := two_nat h2
      have hmn : m ≤ n := hu n (by simp [used])
      refine (ud_tup (K := K) (ad_cons (ed_val ev_c (.str _)) (ad_cons (ed_val (ev_is (ev_op (ev_op (ev_var rfl) ev_c (rv_ixT (ex_t e1 hS) (atI_nat (j := 1) rfl))) (ev_var rfl) rv_I0) (show V.int ((n : Int) - (m : Int)) = .int ((n - m : Nat) : Int) by rw [show (n : Int) - (m : Int) = ((n - m : Nat) : Int) by omega])) (.int _)) ad_nil)) (by show 2 ≤ 100000; decide)) H1 (Ex.refl H1) _ fun p H2 ys2 hp e2 h2 hd2 => q (.ref p) H2 (e1.trans e2) (.tup (st_of h2) hd2)
  refine q_when (et_test (ev_is (ev_op (ev_op (ev_var rfl) ev_c (rv_ixT (ex_t e1 hS) (atI_nat (j := 0) rfl))) ev_c (rv_eq rfl)) (by rw [hd_cst]))) (fun hb2 H2 e2 => ?_) fun hb2 H2 e2 => ?_
  · cases e with
    | col _ => cases hb2
    | un _ _ => cases hb2
    | bin _ _ _ => cases hb2
    | cst c => exact s_ret (ev_var rfl) fun H3 e3 => q _ H3 ((e1.trans e2).trans e3) (ex_dp ((e1.trans e2).trans e3) hd)
  have hnc : ∀ n, e ≠ .col n := fun n z => by rw [z] at hb; cases hb
  have hk1 : 1 ≤ e.kids.length := by
    cases e with
    | col _ => cases hb
    | cst _ => cases hb2
    | un _ _ => exact Nat.le_refl _
    | bin _ _ _ => exact Nat.le_succ _
  have x2 := e1.trans e2
  refine q_asg (v := .int ((1 + 1 : Nat) : Int)) (ev_part2 (ev_var rfl) (ex_t x2 hS)) fun H3 e3 => ?_
  have x3 := x2.trans e3
  refine (eu_slA (K := K) (lo := none) (hi := some ((1 + 1 : Nat) : Int)) (ev_var rfl) eo_none (eo_some (ev_var rfl)) (ex_t x3 hS) ?_) H3 (Ex.refl H3) _ fun p1 H4 hp1 e4 h4 => ?_
  · rintro ⟨_, h⟩
    rw [HT.sIx_nat] at h
    have h' : min (1 + 1) (ys.length + 2) = ys.length + 2 := h
    omega
  have h4' : H4 p1 = some (.tup [.str e.hdw, y]) := by rw [h4]; exact congrArg (fun z => some (HO.tup z)) (cut_first (x := .str e.hdw) (y := y) (ys := ys))
  have x4 := x3.trans e4
  have hlc := ld_lcU (K := K) (σ := [some (.ref b), some (.int (m : Int)), some (.int ((1 + 1 : Nat) : Int)), none]) (H := H4) (vs := [3]) (j := 3) (te := tCall (spR__law_moved rn K) [] C8.E0 (tCons (tVar 3) (tCons (tVar 1) tNil))) (xs := ys) (fun i => (shift m (e.kids.getD i (.col 0))).d) (tl := tSl (rSlA K) (tVar 0) (tPart (tVar 2)) tNoPart) (by
    have := eu_slA (K := K) (σ := [some (.ref b), some (.int (m : Int)), some (.int ((1 + 1 : Nat) : Int)), none]) (H := H4) (lo := some ((1 + 1 : Nat) : Int)) (hi := none) (te := tVar 0) (tlo := tPart (tVar 2)) (th := tNoPart) (ev_var rfl) (eo_some (ev_var rfl)) eo_none (ex_t x4 hS) (no_whole 1 (by show 2 ≤ ys.length + 2; omega))
    rw [show ((1 + 1 : Nat) : Int) = ((2 : Nat) : Int) from rfl, cut_two] at this
    exact this) (by omega) (fun i => noL_cx _) (fun _ => rfl) fun i x H5 e5 hi => ?_
  · refine (ud_tuple hlc) H4 (Ex.refl H4) _ fun p2 H5 ws hp2 e5 h5 hd5 => ?_
    have hw := dps_len hd5
    rw [List.length_map, List.length_range] at hw
    have hmap : (List.range ys.length).map (fun i => (shift m (e.kids.getD i (.col 0))).d) = e.kids.map fun c => (shift m c).d := by
      rw [hyl]
      apply List.ext_getElem?
      intro i
      rw [List.getElem?_map, List.getElem?_map]
      by_cases h : i < e.kids.length
      · rw [List.getElem?_range h, List.getElem?_eq_getElem h]
        show some (shift m (e.kids.getD i (.col 0))).d = some (shift m e.kids[i]).d
        rw [List.getD_eq_getElem?_getD, List.getElem?_eq_getElem h]
        rfl
      · rw [List.getElem?_eq_none (by rw [List.length_range]; omega), List.getElem?_eq_none (by omega)]
        rfl
    rw [hmap] at hd5
    refine ⟨p1, p2, [.str e.hdw, y], ws, rfl, rfl, st_of (e5 _ _ h4'), st_of h5, sz_of (by show 2 + ws.length ≤ 100000; omega), (fun h => nomatch h), (fun _ h => ?_), fun _ _ r hr => q _ _ ((x4.trans e5).trans (Ex.new hr)) ?_⟩
    · rw [h] at hw
      have h0 : (0 : Nat) = ys.length := hw
      omega
    · rw [shift_d hnc]
      exact .tup (st_of upd_same) (.cons (.str _) (.cons (ex_dp ((x4.trans e5).trans (Ex.new hr)) h2) (ex_dps (Ex.new hr) hd5)))
  · obtain ⟨dd, hdd, hxd⟩ := dps_get hdk hi
    rw [List.getElem?_map] at hdd
    obtain ⟨c, hc, rfl⟩ := Option.map_eq_some_iff.mp hdd
    have hcm := List.mem_of_getElem? hc
    have hcd := dep_kids hcm
    have hcp := dep_pos c
    have hg : e.kids.getD i (.col 0) = c := by rw [List.getD_eq_getElem?_getD, hc]; rfl
    rw [hg]
    cases rn with
    | zero => omega
    | succ n => exact ed_lmoved (n := n) (ev_var rfl) (ev_var rfl) (ex_dp (x4.trans e5) hxd) (by omega) fun k hk => hu k ((used_kids e k).mpr (.inr ⟨c, hcm, hk⟩))
theorem ok__law_side (D : Dn K mg "_law_side" s__law_side ["expression", "m"]) (c__law_used : C8.Cal P w K mg base 9 "_law_used" (sp__law_used K) []) (z_len : mg "len" = none) (z_max : mg "max" = none) (z_min : mg "min" = none) :
    C8.Cal P w K mg base 10 "_law_side" (sp__law_side K) [] := by
  refine cal_of D sc__law_side (fun vs H Q E h => ?_) (fun f cdv A outer s H vs Q E hr h => ?_)
  · obtain ⟨_, _, _, rfl, _⟩ := h
    rfl
  refine ⟨_, (pss_cons (ps_set (i := 2) sc__law_side.nd rfl (.inl rfl) (C8.pe_c c__law_used hr (by decide) (by rfl) (pa_cons (pv 0) pa_nil)))
    (pss_cons (ps_if (pt_cmpR op_eq (pe_callB call_len_seq (by rfl) z_len PySem.boot_len (pa_cons (pv 2) pa_nil)) pe_int (nomark _))
      (pss_one (ps_ret pe_int))
      pss_nil)
    (pss_cons (ps_if (pt_cmpR op_lt (pe_callB (cr_max rfl) (by rfl) z_max (by decide +kernel) (pa_cons (pv 2) pa_nil)) (pv 1) (nomark _))
      (pss_one (ps_ret pe_int))
      pss_nil)
    (pss_one (ps_ret (pe_ifExp (pt_cmpR op_ge (pe_callB (cr_min rfl) (by rfl) z_min (by decide +kernel) (pa_cons (pv 2) pa_nil)) (pv 1) (nomark _)) pe_int pe_int)))))), ?_⟩
  obtain ⟨v, e, m, rfl, hd, hdep, hz, q⟩ := h
  refine q_asgL (el_used (n := 7) (ev_var rfl) hd hdep hz) fun p H1 hp e1 h1 => ?_
  have hl : ((used e).map fun n : Nat => V.int (n : Int)).length = (used e).length := List.length_map ..
  have hi : ((used e).map fun n : Nat => V.int (n : Int)) = ((used e).map fun n : Nat => (n : Int)).map V.int := by rw [List.map_map]; rfl
  have hem : decide (V.int (((used e).length : Nat) : Int) = V.int 0) = (used e).isEmpty := by
    cases used e with
    | nil => rfl
    | cons n r => exact decide_eq_false fun z => by have := V.int.inj z; rw [List.length_cons] at this; omega
  refine q_when (b := (used e).isEmpty) (et_test (ev_is (ev_op (ev_is (ev_len (ev_var rfl) (sq_of h1)) (by rw [hl])) ev_c (rv_eq rfl)) (by rw [hem]))) (fun hb H2 e2 => ?_) fun hb H2 e2 => ?_
  · refine s_ret (v := .int (sideI m e)) (ev_is ev_c ?_) fun H3 e3 => q H3 ((e1.trans e2).trans e3)
    unfold sideI lft rgt
    rw [hb]
    rfl
  have h1' : H1 p = some (.lst (((used e).map fun n : Nat => (n : Int)).map V.int)) := by rw [h1, hi]
  have hpos : 0 < ((used e).map fun n : Nat => (n : Int)).length := by
    rw [List.length_map]
    cases h : used e with
    | nil => rw [h] at hb; cases hb
    | cons _ _ => exact Nat.succ_pos _
  have hlft : lft m e = onlyB m e := by unfold lft onlyB; rw [hb]; rfl
  have hrgt : rgt m e = (used e).all fun n => decide (m ≤ n) := by unfold rgt; rw [hb]; rfl
  refine q_when (b := lft m e) (et_test fun H3 e3 Q k => ⟨.ref p, rfl, p, _, rfl, sq_of ((e2.trans e3) _ _ h1'), hpos, fun z z1 z2 => ⟨_, rfl, z, (m : Int), rfl, rfl, ?_⟩⟩) (fun hb2 H3 e3 => ?_) fun hb2 H3 e3 => ?_
  · show Q (.bl (decide (z < (m : Int)))) H3
    rw [max_side z1 z2, ← hlft]
    exact k H3 (Ex.refl H3)
  · refine s_ret (v := .int (sideI m e)) (ev_is ev_c ?_) fun H4 e4 => q H4 (((e1.trans e2).trans e3).trans e4)
    unfold sideI
    rw [if_pos hb2]
  · refine s_ret (v := .int (sideI m e)) (ev_if (b := rgt m e) (et_test fun H4 e4 Q k => ⟨.ref p, rfl, p, _, rfl, sq_of (((e2.trans e3).trans e4) _ _ h1'), hpos, fun z z1 z2 => ⟨_, rfl, z, (m : Int), rfl, rfl, ?_⟩⟩) (fun hb3 => ev_is ev_c ?_) fun hb3 => ev_is ev_c ?_) fun H4 e4 => q H4 (((e1.trans e2).trans e3).trans e4)
    · show Q (.bl (decide (z ≥ (m : Int)))) H4
      rw [min_side z1 z2, ← hrgt]
      exact k H4 (Ex.refl H4)
    · unfold sideI
      rw [if_neg (by rw [hb2]; decide), if_pos hb3]
    · unfold sideI
      rw [if_neg (by rw [hb2]; decide), if_neg (by rw [hb3]; decide)]
end

--@SPLIT
def sidesOf (m : Nat) : Cnd → Int × Int
  | .bin nm a b => if nm = "equal" then (sideI m a, sideI m b) else (0, 0)
  | _ => (0, 0)
theorem sides_bin (m : Nat) (nm : Str) (a b : Cnd) : sidesOf m (.bin nm a b) = if nm = "equal" then (sideI m a, sideI m b) else (0, 0) := rfl
theorem key_bin (m : Nat) (nm : Str) (a b : Cnd) : keyIn m (.bin nm a b) = if nm = "equal" then (if lft m a && rgt m b then some (a, shift m b) else if lft m b && rgt m a then some (b, shift m a) else none) else none := rfl
theorem lft_rgt {m : Nat} {e : Cnd} (h : lft m e = true) : rgt m e = false := by
  unfold lft at h
  unfold rgt
  cases hu : used e with
  | nil => rfl
  | cons n r =>
    rw [hu] at h
    rw [Bool.and_eq_true, List.all_eq_true] at h
    have := of_decide_eq_true (h.2 n (List.mem_cons_self ..))
    rw [List.all_cons, decide_eq_false (by omega), Bool.false_and, Bool.and_false]
theorem side1 {m : Nat} {e : Cnd} : sideI m e = 1 ↔ lft m e = true := by
  unfold sideI
  split
  · simp [*]
  · split <;> simp [*]
theorem side2 {m : Nat} {e : Cnd} : sideI m e = 2 ↔ rgt m e = true := by
  unfold sideI
  split
  · rename_i h
    simp [lft_rgt h]
  · split <;> simp [*]
theorem key_none {m : Nat} {e : Cnd} (h1 : sidesOf m e ≠ (1, 2)) (h2 : sidesOf m e ≠ (2, 1)) : keyIn m e = none := by
  cases e with
  | col n => rfl
  | cst n => rfl
  | un nm a => rfl
  | bin nm a b =>
    rw [sides_bin] at h1 h2
    rw [key_bin]
    by_cases hnm : nm = "equal"
    · rw [if_pos hnm] at h1 h2
      rw [if_pos hnm]
      rw [if_neg, if_neg]
      · intro h
        rw [Bool.and_eq_true] at h
        exact h2 (by rw [side2.mpr h.2, side1.mpr h.1])
      · intro h
        rw [Bool.and_eq_true] at h
        exact h1 (by rw [side1.mpr h.1, side2.mpr h.2])
    · rw [if_neg hnm]
theorem key_12 {m : Nat} {e : Cnd} (h : sidesOf m e = (1, 2)) : ∃ a b, e = .bin "equal" a b ∧ keyIn m e = some (a, shift m b) ∧ rgt m b = true := by
  cases e with
  | col n => cases h
  | cst n => cases h
  | un nm a => cases h
  | bin nm a b =>
    rw [sides_bin] at h
    by_cases hnm : nm = "equal"
    · rw [if_pos hnm] at h
      subst hnm
      have h1 := side1.mp (congrArg Prod.fst h)
      have h2 := side2.mp (congrArg Prod.snd h)
      refine ⟨a, b, rfl, ?_, h2⟩
      rw [key_bin, if_pos rfl, if_pos (by rw [h1, h2]; rfl)]
    · rw [if_neg hnm] at h
      cases h
theorem key_21 {m : Nat} {e : Cnd} (h : sidesOf m e = (2, 1)) : ∃ a b, e = .bin "equal" a b ∧ keyIn m e = some (b, shift m a) ∧ rgt m a = true := by
  cases e with
  | col n => cases h
  | cst n => cases h
  | un nm a => cases h
  | bin nm a b =>
    rw [sides_bin] at h
    by_cases hnm : nm = "equal"
    · rw [if_pos hnm] at h
      subst hnm
      have h1 := side2.mp (congrArg Prod.fst h)
      have h2 := side1.mp (congrArg Prod.snd h)
      have h3 : lft m a = false := by
        cases h4 : lft m a with
        | false => rfl
        | true => rw [lft_rgt h4] at h1; cases h1
      refine ⟨a, b, rfl, ?_, h1⟩
      rw [key_bin, if_pos rfl, if_neg (by rw [h3]; simp), if_pos (by rw [h1, h2]; rfl)]
    · rw [if_neg hnm] at h
      cases h
theorem eqv_two (i j a b : Int) : PyData.eqv (.tuple [.int i, .int j]) (.tuple [.int a, .int b]) = decide ((i, j) = (a, b)) := by
  show ((i == a) && ((j == b) && true)) = _
  rw [Bool.eq_iff_iff]
  simp
theorem hv_is : ∀ (i f n : Nat), n ≤ 2 ^ i → (∀ j < i, 2 ^ j < n) → i ≤ f → hv f n = i
  | 0, f, n, h1, _, _ => by
    cases f with
    | zero => rfl
    | succ f =>
      rw [hv_step, if_neg (by simpa using h1)]
  | i + 1, f, n, h1, h2, hf => by
    obtain ⟨f', rfl⟩ : ∃ f', f = f' + 1 := ⟨f - 1, by omega⟩
    have h0 : 1 < n := by simpa using h2 0 (by omega)
    have hp : 2 ^ (i + 1) = 2 * 2 ^ i := by rw [Nat.pow_succ, Nat.mul_comm]
    rw [hv_step, if_pos h0, hv_is i f' ((n + 1) / 2) (by omega) (fun j hj => by
      have := h2 (j + 1) (by omega)
      have hpj : 2 ^ (j + 1) = 2 * 2 ^ j := by rw [Nat.pow_succ, Nat.mul_comm]
      omega) (by omega)]
    omega
theorem sh_pair (i j : Int) : SeqAt.shaped (.tuple [.int i, .int j]) = true := by rfl
section
variable {P : Program} {w : World} {K : PySem.W.Frag} {mg : Str → Option Value} {base : Heap}
theorem lt_lparts {σ : L2.St} {H G : Hp} {ta : TE} {E : XK} {v : V} {e : Cnd} (ha : Ev ta σ H v) (g : Ex G H) (hd : Dp K G v e.d) (hdep : e.dep ≤ 8) (hz : e.sz ≤ 60) : EvLt (fun _ ys => DpAll K G ys ((cparts e).map Cnd.d)) (tCall (sp__law_parts K) [] E (tCons ta tNil)) σ H := fun H1 e1 Q q =>
  ha H1 e1 _ fun H2 e2 => ⟨v, e, G, rfl, g.trans (e1.trans e2), hd, hdep, hz, fun p H3 ws hp e3 h3 hds => q p H3 ws (fresh_back e2 hp) (e2.trans e3) h3 hds⟩
theorem ec_side {σ : L2.St} {H : Hp} {ta tc : TE} {E : XK} {v : V} {e : Cnd} {m : Nat} (ha : Ev ta σ H v) (hc : Ev tc σ H (.int (m : Int))) (hd : Dp K H v e.d) (hdep : e.dep ≤ 8) (hz : e.sz ≤ 60) : Ev (tCall (sp__law_side K) [] E (tCons ta (tCons tc tNil))) σ H (.int (sideI m e)) := ev_call (ea_cons ha (ea_cons hc ea_nil)) fun H1 e1 Q k E => ⟨v, e, m, rfl, ex_dp e1 hd, hdep, hz, k⟩
theorem ok__law_halved (D : Dn K mg "_law_halved" s__law_halved ["number"]) (z_range : mg "range" = none) :
    C8.Cal P w K mg base 1 "_law_halved" (sp__law_halved K) [] := by
  refine cal_of D sc__law_halved (fun vs H Q E h => ?_) (fun f cdv A outer s H vs Q E hr h => ?_)
  · obtain ⟨_, rfl, _⟩ := h
    rfl
  refine ⟨_, (pss_cons (ps_set (i := 1) sc__law_halved.nd rfl (.inl rfl) pe_int)
    (pss_cons (ps_set (i := 2) sc__law_halved.nd rfl (.inl rfl) pe_int)
    (pss_cons (ps_for PassesOwn.never rfl (pi_range1 rfl z_range (pa_cons pe_int pa_nil)) (pg_name (i := 3) sc__law_halved.nd rfl (.inl rfl))
      (pss_cons (ps_if (pt_cmpR op_ge (pv 2) (pv 0) (nomark _))
      (pss_one ps_break)
      pss_nil)
    (pss_cons (ps_set (i := 2) sc__law_halved.nd rfl (.inl rfl) (pe_op op_mul pe_int (pv 2)))
    (pss_one (ps_aug (i := 1) sc__law_halved.nd rfl (.inl rfl) pe_int ip_add)))))
    (pss_one (ps_ret (pv 1)))))), ?_⟩
  obtain ⟨n, rfl, hn, q⟩ := h
  refine q_asg ev_c fun H1 e1 => ?_
  refine q_asg ev_c fun H2 e2 => ?_
  refine q_forR1 (n := 60) (ea_cons ev_c ea_nil) ⟨by omega, by omega⟩ (fun i σ' H' => ∃ kv, σ' = [some (.int (n : Int)), some (.int (i : Int)), some (.int ((2 ^ i : Nat) : Int)), kv] ∧ Ex H H' ∧ ∀ j < i, 2 ^ j < n) (fun H3 e3 => ⟨none, rfl, (e1.trans e2).trans e3, fun j h => nomatch h⟩) (fun i σ' H' hi pv => ?_) fun σ' H' pv => ?_
  · obtain ⟨kv, rfl, x, hj⟩ := pv
    refine q_when (b := decide (((2 ^ i : Nat) : Int) ≥ (n : Int))) (et_test (ev_op (ev_var rfl) (ev_var rfl) rv_I0)) (fun hb H3 e3 => ?_) fun hb H3 e3 => ?_
    · have hle : n ≤ 2 ^ i := by have := of_decide_eq_true hb; omega
      have hi40 : i ≤ 40 := by
        by_cases h : i ≤ 40
        · exact h
        · have := hj 40 (by omega)
          omega
      rw [hv_is i 40 n hle hj hi40] at q
      exact s_break (s_ret (ev_var rfl) fun H4 e4 => q H4 (x.trans (e3.trans e4)))
    · have hlt : 2 ^ i < n := by have := of_decide_eq_false hb; omega
      refine q_asg (v := .int ((2 ^ (i + 1) : Nat) : Int)) (ev_is (ev_op ev_c (ev_var rfl) (rv_I (.inl ⟨by decide, by decide⟩))) (by rw [Nat.pow_succ, Nat.mul_comm, Int.natCast_mul]; rfl)) fun H4 e4 => Evl.s_aug rfl ev_c fun H5 e5 => ⟨_, by rw [Int.natCast_add]; rfl, x.trans (e3.trans (e4.trans e5)), fun j h => ?_⟩
      by_cases hji : j = i
      · rw [hji]; exact hlt
      · exact hj j (by omega)
  · obtain ⟨kv, rfl, x, hj⟩ := pv
    exfalso
    have := hj 40 (by decide)
    omega
theorem ok__law_due (D : Dn K mg "_law_due" s__law_due ["condition", "m"]) (c__law_joined : C8.Cal P w K mg base 9 "_law_joined" (sp__law_joined K) []) (c__law_moved : C8.Cal P w K mg base 9 "_law_moved" (sp__law_moved K) []) (c__law_parts : C8.Cal P w K mg base 9 "_law_parts" (sp__law_parts K) []) (c__law_side : C8.Cal P w K mg base 10 "_law_side" (sp__law_side K) []) :
    C8.Cal P w K mg base 11 "_law_due" (sp__law_due K) [] := by
  refine cal_of D sc__law_due (fun vs H Q E h => ?_) (fun f cdv A outer s H vs Q E hr h => ?_)
  · obtain ⟨_, _, _, rfl, _⟩ := h
    rfl
  refine ⟨_, (pss_cons (ps_set (i := 2) sc__law_due.nd rfl (.inl rfl) (pe_lst pa_nil))
    (pss_cons (ps_set (i := 3) sc__law_due.nd rfl (.inl rfl) (pe_lst pa_nil))
    (pss_cons (ps_for PassesOwn.never rfl (pi_list (C8.pe_c c__law_parts hr (by decide) (by rfl) (pa_cons (pv 0) pa_nil))) (pg_name (i := 4) sc__law_due.nd rfl (.inl rfl))
      (pss_cons (ps_set (i := 5) sc__law_due.nd rfl (.inl rfl) (pe_tup (pa_cons pe_int (pa_cons pe_int pa_nil))))
    (Evl.pss_cut (ps_if (PW.pt (pw_and (pt_cmpR op_eq (pe_ix ix_tup (pv 4) pe_int (fun _ _ => rfl)) pe_str (nomark _)) (pw_and1 (pt_cmpR op_eq (pe_ix ix_tup (pv 4) pe_int (fun _ _ => rfl)) pe_str (nomark _)))))
      (pss_one (ps_set (i := 5) sc__law_due.nd rfl (.inl rfl) (pe_tup (pa_cons (C8.pe_c c__law_side hr (by decide) (by rfl) (pa_cons (pe_ix ix_tup (pv 4) pe_int (fun _ _ => rfl)) (pa_cons (pv 1) pa_nil))) (pa_cons (C8.pe_c c__law_side hr (by decide) (by rfl) (pa_cons (pe_ix ix_tup (pv 4) pe_int (fun _ _ => rfl)) (pa_cons (pv 1) pa_nil))) pa_nil)))))
      pss_nil)
    (pss_one (ps_if (pt_cmpR (op_eqD (hu64 hr)) (pv 5) (pe_tup (pa_cons pe_int (pa_cons pe_int pa_nil))) (nomark _))
      (pss_one (ps_expr (pe_bm PySem.F.plainAttrs_list PySem.F.slot_list_append PySem.F.type_list_append mt_append (pv 2) (pa_cons (pe_tup (pa_cons (pe_ix ix_tup (pv 4) pe_int (fun _ _ => rfl)) (pa_cons (C8.pe_c c__law_moved hr (by decide) (by rfl) (pa_cons (pe_ix ix_tup (pv 4) pe_int (fun _ _ => rfl)) (pa_cons (pv 1) pa_nil))) pa_nil))) pa_nil))))
      (pss_one (ps_if (pt_cmpR (op_eqD (hu64 hr)) (pv 5) (pe_tup (pa_cons pe_int (pa_cons pe_int pa_nil))) (nomark _))
      (pss_one (ps_expr (pe_bm PySem.F.plainAttrs_list PySem.F.slot_list_append PySem.F.type_list_append mt_append (pv 2) (pa_cons (pe_tup (pa_cons (pe_ix ix_tup (pv 4) pe_int (fun _ _ => rfl)) (pa_cons (C8.pe_c c__law_moved hr (by decide) (by rfl) (pa_cons (pe_ix ix_tup (pv 4) pe_int (fun _ _ => rfl)) (pa_cons (pv 1) pa_nil))) pa_nil))) pa_nil))))
      (pss_one (ps_expr (pe_bm PySem.F.plainAttrs_list PySem.F.slot_list_append PySem.F.type_list_append mt_append (pv 3) (pa_cons (pv 4) pa_nil)))))))))))
    (pss_one (ps_ret (pe_tup (pa_cons (pv 2) (pa_cons (C8.pe_c c__law_joined hr (by decide) (by rfl) (pa_cons (pv 3) pa_nil)) pa_nil)))))))), ?_⟩
  obtain ⟨v, e, m, rfl, hd, hz, hdep, q⟩ := h
  refine q_asgL (el_lst ea_nil (by decide)) fun pp H1 hpp e1 h1 => ?_
  refine q_asgL (el_lst ea_nil (by decide)) fun po H2 hpo e2 h2 => ?_
  have hppH : H pp = none := hpp
  have hpoH : H po = none := fresh_back e1 hpo
  have hne : pp ≠ po := fun z => by rw [← z, h1] at hpo; cases hpo
  have x2 := e1.trans e2
  refine q_forLt (lt_lparts (ev_var rfl) x2 hd hdep hz) fun p H3 xs hp e3 h3 hxs => ?_
  have hxl := dps_len hxs
  rw [List.length_map] at hxl
  have hcl := cparts_len e
  have hpp3 : p ≠ pp := fun z => by rw [z, e2 _ _ h1] at hp; cases hp
  have hpo3 : p ≠ po := fun z => by rw [z, h2] at hp; cases hp
  refine ⟨fun i σ' H' => ∃ (pv kv : Option V) (ws os : List V), σ' = [some v, some (.int (m : Int)), some (.ref pp), some (.ref po), pv, kv] ∧ Ex H H' ∧ H' p = some (.lst xs) ∧ H' pp = some (.lst ws) ∧ H' po = some (.lst os) ∧ DpAll K H' ws ((((cparts e).take i).filterMap (keyIn m)).map pairD) ∧ DpAll K H' os ((restL m ((cparts e).take i)).map Cnd.d) ∧ ws.length ≤ i ∧ os.length ≤ i, ⟨none, none, [], [], rfl, x2.trans e3, h3, (e2.trans e3) _ _ h1, e3 _ _ h2, .nil, .nil, Nat.le_refl _, Nat.le_refl _⟩, fun i σ' H' pv => ?_, fun i x σ' H' hi pv => ?_, fun σ' H' pv => ?_⟩
  · obtain ⟨pv, kv, ws, os, rfl, x, hp', _⟩ := pv
    exact sq_of hp'
  · obtain ⟨pv, kv, ws, os, rfl, x9, hp', hws, hos, hdw, hdo, hl1, hl2⟩ := pv
    obtain ⟨dd, hdd, hxd⟩ := dps_get hxs hi
    rw [List.getElem?_map] at hdd
    obtain ⟨c, hc, rfl⟩ := Option.map_eq_some_iff.mp hdd
    obtain ⟨hcs, hcd⟩ := cparts_in e c (List.mem_of_getElem? hc)
    have hi60 : i < 60 := by have := (List.getElem?_eq_some_iff.mp hc).1; omega
    obtain ⟨b, y, ys, rfl, hS, h2', hdk⟩ := cx_view hxd
    refine q_asgU (eu_tup (ea_cons ev_c (ea_cons ev_c ea_nil)) (by show 2 ≤ 100000; decide)) fun t0 H4 ht0 e4 h4 => ?_
    refine q_cut (M := fun σ' H' => ∃ t, σ' = [some v, some (.int (m : Int)), some (.ref pp), some (.ref po), some (.ref b), some (.ref t)] ∧ Ex H4 H' ∧ H' t = some (.tup [.int (sidesOf m c).1, .int (sidesOf m c).2])) ?_ fun σ' H5 pw => ?_
    · refine s_when (et_isBin (nm := "equal") rfl (ex_t (x9.trans e4) hS) h2') (fun hb H5 e5 => ?_) fun hb H5 e5 => ⟨t0, rfl, e5, ?_⟩
      · cases c with
        | col _ => cases hb
        | cst _ => cases hb
        | un _ _ => cases hb
        | bin nm a b2 =>
          obtain rfl := of_decide_eq_true hb
          cases hdk with | cons ha hdk =>
          cases hdk with | cons hb5 hdk =>
          cases hdk
          have hs3 : a.sz + b2.sz + 1 ≤ e.sz := hcs
          have hd3 : max a.dep b2.dep + 1 ≤ e.dep := hcd
          have x5 := (x9.trans e4).trans e5
          have hso : sidesOf m (.bin "equal" a b2) = (sideI m a, sideI m b2) := (sides_bin ..).trans (if_pos rfl)
          rw [hso]
          exact s_asgU (eu_tup (ea_cons (ec_side (ev_op (ev_var rfl) ev_c (rv_ixT (ex_t x5 hS) (atI_nat (j := 2) rfl))) (ev_var rfl) (ex_dp x5 ha) (by omega) (by omega)) (ea_cons (ec_side (ev_op (ev_var rfl) ev_c (rv_ixT (ex_t x5 hS) (atI_nat (j := 3) rfl))) (ev_var rfl) (ex_dp x5 hb5) (by omega) (by omega)) ea_nil)) (by show 2 ≤ 100000; decide)) fun t H6 ht e6 h6 => ⟨t, rfl, e5.trans e6, h6⟩
      · have hso : sidesOf m c = (0, 0) := by
          cases c with
          | col _ => rfl
          | cst _ => rfl
          | un _ _ => rfl
          | bin nm a b2 => exact (sides_bin ..).trans (if_neg (of_decide_eq_false hb))
        rw [hso]
        exact e5 _ _ h4
    · obtain ⟨t, rfl, e5, ht⟩ := pw
      have x5 := (x9.trans e4).trans e5
      have tst : ∀ {H6 : Hp} {a c2 : Int}, Ex H5 H6 → EvT (tTest (tOp (rEqD K) (tVar 5) (tTup (tCons (tC (.int a)) (tCons (tC (.int c2)) tNil))))) [some v, some (.int (m : Int)), some (.ref pp), some (.ref po), some (.ref b), some (.ref t)] H6 (decide (sidesOf m c = (a, c2))) := fun {H6 a c2} e6 => et_is (et_test (ev_eqD (ed_val (ev_var rfl) (.tup (st_of (e6 _ _ ht)) (.cons (.int _) (.cons (.int _) .nil)))) (ed_tupU (ud_tup (ad_cons (ed_val ev_c (.int _)) (ad_cons (ed_val ev_c (.int _)) ad_nil)) (by show 2 ≤ 100000; decide))) (sh_pair _ _) (sh_pair _ _))) (by rw [eqv_two])
      have hwp : H5 pp = some (.lst ws) := (e4.trans e5) _ _ hws
      have hop : H5 po = some (.lst os) := (e4.trans e5) _ _ hos
      have hpp5 : H5 p = some (.tup xs) ∨ True := .inr trivial
      have yes : ∀ {H6 : Hp} {te : TE} {k : Cnd × Cnd}, Ex H5 H6 → keyIn m c = some k → EvD K te [some v, some (.int (m : Int)), some (.ref pp), some (.ref po), some (.ref b), some (.ref t)] H6 (pairD k) → tBM K "list" rAppend (tVar 2) (tCons te tNil) [some v, some (.int (m : Int)), some (.ref pp), some (.ref po), some (.ref b), some (.ref t)] H6 (fun _ H' => ∃ (pv kv : Option V) (ws os : List V), [some v, some (.int (m : Int)), some (.ref pp), some (.ref po), some (.ref b), some (.ref t)] = [some v, some (.int (m : Int)), some (.ref pp), some (.ref po), pv, kv] ∧ Ex H H' ∧ H' p = some (.lst xs) ∧ H' pp = some (.lst ws) ∧ H' po = some (.lst os) ∧ DpAll K H' ws ((((cparts e).take (i + 1)).filterMap (keyIn m)).map pairD) ∧ DpAll K H' os ((restL m ((cparts e).take (i + 1))).map Cnd.d) ∧ ws.length ≤ i + 1 ∧ os.length ≤ i + 1) := fun {H6 te k} e6 hks hte => by
        refine s_appD (D := { nx := fun σ2 H' => ∃ (pv kv : Option V) (ws os : List V), [some v, some (.int (m : Int)), some (.ref pp), some (.ref po), some (.ref b), some (.ref t)] = [some v, some (.int (m : Int)), some (.ref pp), some (.ref po), pv, kv] ∧ Ex H H' ∧ H' p = some (.lst xs) ∧ H' pp = some (.lst ws) ∧ H' po = some (.lst os) ∧ DpAll K H' ws ((((cparts e).take (i + 1)).filterMap (keyIn m)).map pairD) ∧ DpAll K H' os ((restL m ((cparts e).take (i + 1))).map Cnd.d) ∧ ws.length ≤ i + 1 ∧ os.length ≤ i + 1, rt := fun _ _ => True }) (e6 _ _ hwp) (ev_var rfl) hte (by omega) fun z H7 e7 hz7 => ⟨_, _, ws ++ [z], os, rfl, Ex.mut (x5.trans (e6.trans e7)) hppH, ?_, upd_same, ?_, ?_, ?_, by rw [List.length_append, List.length_singleton]; omega, by omega⟩
        · rw [upd_ne hpp3]
          exact (e4.trans (e5.trans (e6.trans e7))) _ _ hp'
        · rw [upd_ne (Ne.symm hne)]
          exact (e6.trans e7) _ _ hop
        · rw [take_snoc hc, List.filterMap_append]
          have h0 : List.filterMap (keyIn m) [c] = [k] := by simp [hks]
          rw [h0, List.map_append]
          exact dps_snoc (dps_upd ((e6.trans e7) _ _ hwp) (noLs_pairs _) (ex_dps (e4.trans (e5.trans (e6.trans e7))) hdw)) (dp_upd ((e6.trans e7) _ _ hwp) (noL_pair k) hz7)
        · rw [take_snoc hc]
          unfold restL
          rw [List.filter_append]
          have h0 : List.filter (fun e => (keyIn m e).isNone) [c] = [] := by simp [hks]
          rw [h0, List.append_nil]
          exact dps_upd ((e6.trans e7) _ _ hwp) (noLs_cx _) (ex_dps (e4.trans (e5.trans (e6.trans e7))) hdo)
      refine s_if (tst (Ex.refl H5)) (fun hb H6 e6 => ?_) fun hb H6 e6 => ?_
      · obtain ⟨a, b2, rfl, hki, hr2⟩ := key_12 (of_decide_eq_true hb)
        cases hdk with | cons ha hdk =>
        cases hdk with | cons hb5 hdk =>
        cases hdk
        have hd3 : max a.dep b2.dep + 1 ≤ e.dep := hcd
        have x6 := x5.trans e6
        exact yes e6 hki (ed_pair (c := a) (ev_op (ev_var rfl) ev_c (rv_ixT (ex_t x6 hS) (atI_nat (j := 2) rfl))) (ex_dp x6 ha) (ed_lmoved (n := 7) (ev_op (ev_var rfl) ev_c (rv_ixT (ex_t x6 hS) (atI_nat (j := 3) rfl))) (ev_var rfl) (ex_dp x6 hb5) (by omega) (rgt_all hr2)))
      · refine s_if (tst e6) (fun hb2 H7 e7 => ?_) fun hb2 H7 e7 => ?_
        · obtain ⟨a, b2, rfl, hki, hr2⟩ := key_21 (of_decide_eq_true hb2)
          cases hdk with | cons ha hdk =>
          cases hdk with | cons hb5 hdk =>
          cases hdk
          have hd3 : max a.dep b2.dep + 1 ≤ e.dep := hcd
          have x6 := x5.trans (e6.trans e7)
          exact yes (e6.trans e7) hki (ed_pair (c := b2) (ev_op (ev_var rfl) ev_c (rv_ixT (ex_t x6 hS) (atI_nat (j := 3) rfl))) (ex_dp x6 hb5) (ed_lmoved (n := 7) (ev_op (ev_var rfl) ev_c (rv_ixT (ex_t x6 hS) (atI_nat (j := 2) rfl))) (ev_var rfl) (ex_dp x6 ha) (by omega) (rgt_all hr2)))
        · have hkn : keyIn m c = none := key_none (of_decide_eq_false hb) (of_decide_eq_false hb2)
          refine s_app (v := .ref b) ((e6.trans e7) _ _ hop) (ev_var rfl) (ev_var rfl) (by omega) fun H8 e8 => ⟨_, _, ws, os ++ [.ref b], rfl, Ex.mut (x5.trans (e6.trans (e7.trans e8))) hpoH, ?_, ?_, upd_same, ?_, ?_, by omega, by rw [List.length_append, List.length_singleton]; omega⟩
          · rw [upd_ne hpo3]
            exact (e4.trans (e5.trans (e6.trans (e7.trans e8)))) _ _ hp'
          · rw [upd_ne hne]
            exact (e6.trans (e7.trans e8)) _ _ hwp
          · rw [take_snoc hc, List.filterMap_append]
            have h0 : List.filterMap (keyIn m) [c] = [] := by simp [hkn]
            rw [h0, List.append_nil]
            exact dps_upd ((e6.trans (e7.trans e8)) _ _ hop) (noLs_pairs _) (ex_dps (e4.trans (e5.trans (e6.trans (e7.trans e8)))) hdw)
          · rw [take_snoc hc]
            unfold restL
            rw [List.filter_append]
            have h0 : List.filter (fun e => (keyIn m e).isNone) [c] = [c] := by simp [hkn]
            rw [h0, List.map_append]
            exact dps_snoc (dps_upd ((e6.trans (e7.trans e8)) _ _ hop) (noLs_cx _) (ex_dps (e4.trans (e5.trans (e6.trans (e7.trans e8)))) hdo)) (dp_upd ((e6.trans (e7.trans e8)) _ _ hop) (noL_cx c) (ex_dp (x5.trans (e6.trans (e7.trans e8))) hxd))
  · obtain ⟨pv, kv, ws, os, rfl, x9, hp', hws, hos, hdw, hdo, hl1, hl2⟩ := pv
    rw [hxl, List.take_length] at hdw hdo
    have hrl : (restL m (cparts e)).length ≤ 60 := by
      have := List.length_filter_le (fun e => (keyIn m e).isNone) (cparts e)
      unfold restL
      omega
    refine s_retD (d := keysD m e) (ed_tupU (ud_tup (ad_cons (ed_val (ev_var rfl) (.lst (sq_of hws) hdw)) (ad_cons (fun H4 e4 Q k => ⟨.ref po, rfl, po, restL m (cparts e), rfl, ⟨os, sq_of (e4 _ _ hos), ex_dps e4 hdo⟩, by show _ ≤ 128; omega, hrl, fun v' H5 e5 h5 => k v' H5 e5 h5⟩) ad_nil)) (by show 2 ≤ 100000; decide))) fun z H4 e4 hz4 => q z H4 (x9.trans e4) hz4
end

--@SPLIT
/-! ### how long, how deep -/
def Bd (B D : Nat) (d : PyData) : Prop := bgOk d = true ∧ bgB d ≤ B ∧ d.depth ≤ D
def Bds (B D : Nat) (ds : List PyData) : Prop := bgOks ds = true ∧ bgBs ds ≤ B ∧ PyData.depthAll ds ≤ D
theorem Bd.tup {B D : Nat} {ds : List PyData} (h : Bds B D ds) : Bd (4 + B) (D + 1) (.tuple ds) := ⟨h.1, Nat.add_le_add_left h.2.1 4, Nat.succ_le_succ h.2.2⟩
theorem Bd.lst {B D : Nat} {ds : List PyData} (h : Bds B D ds) : Bd (4 + B) (D + 1) (.list ds) := ⟨h.1, Nat.add_le_add_left h.2.1 4, Nat.succ_le_succ h.2.2⟩
theorem Bds.nil {D : Nat} : Bds 0 D [] := ⟨rfl, Nat.le_refl _, by simp [PyData.depthAll]⟩
theorem Bds.cons {B B' D : Nat} {d : PyData} {ds : List PyData} (h : Bd B D d) (t : Bds B' D ds) : Bds (B + 2 + B') D (d :: ds) := ⟨by show (bgOk d && bgOks ds) = true; rw [h.1, t.1]; rfl, by show bgB d + 2 + bgBs ds ≤ _; have := h.2.1; have := t.2.1; omega, by show max d.depth (PyData.depthAll ds) ≤ D; have := h.2.2; have := t.2.2; omega⟩
theorem Bd.mono {B B' D D' : Nat} {d : PyData} (h : Bd B D d) (h1 : B ≤ B') (h2 : D ≤ D') : Bd B' D' d := ⟨h.1, Nat.le_trans h.2.1 h1, Nat.le_trans h.2.2 h2⟩
theorem Bds.mono {B B' D D' : Nat} {d : List PyData} (h : Bds B D d) (h1 : B ≤ B') (h2 : D ≤ D') : Bds B' D' d := ⟨h.1, Nat.le_trans h.2.1 h1, Nat.le_trans h.2.2 h2⟩
theorem Bd.str {s : Str} {D : Nat} (h : PyData.strOk s = true) (hl : s.length ≤ 10) : Bd 102 D (.str s) := ⟨h, by show 10 * s.length + 2 ≤ 102; omega, by simp [PyData.depth]⟩
theorem Bd.int {i : Int} {D : Nat} (h : i.natAbs < 2 ^ 60) : Bd 13000 D (.int i) := ⟨decide_eq_true (Nat.lt_of_lt_of_le (PySem.Flt.log2_lt_of (by decide) h) (by decide)), Nat.le_refl _, by simp [PyData.depth]⟩
theorem strOk_S {l : List Nat} (h : ∀ c ∈ l, 32 ≤ c ∧ c ≤ 126) : PyData.strOk (SX.S l) = true := by
  unfold PyData.strOk
  rw [Array.all_eq_true']
  intro c hc
  have := h c (by simpa using hc)
  exact decide_eq_true (by omega)
theorem bd_dv {v : V} {D : Nat} (h : DV v) : Bd 13000 D (vDc v) := by
  cases h with
  | non => exact ⟨rfl, Nat.le_refl _, by simp [vDc, PyData.depth]⟩
  | bl b => exact ⟨rfl, Nat.le_refl _, by simp [vDc, PyData.depth]⟩
  | int i hi => exact Bd.int (by omega)
  | str l hl hc => exact Bd.mono (Bd.str (D := D) (strOk_S fun c h => signs_ok c (hc c h)) (by rw [SX.S_len]; omega)) (by decide) (Nat.le_refl _)
theorem bd_un {nm : Str} {D : Nat} (h : nm ∈ unNames) : Bd 102 D (.str nm) := by
  simp only [unNames, List.mem_cons, List.not_mem_nil, or_false] at h
  rcases h with rfl | rfl <;> exact Bd.str (by decide +kernel) (by decide +kernel)
theorem bd_bin {nm : Str} {D : Nat} (h : nm ∈ binNames) : Bd 102 D (.str nm) := by
  simp only [binNames, List.mem_cons, List.not_mem_nil, or_false] at h
  rcases h with rfl | rfl | rfl | rfl | rfl | rfl | rfl <;> exact Bd.str (by decide +kernel) (by decide +kernel)
theorem bd_cx {w : Nat} (hw : w < 2 ^ 60) : ∀ {e : Cnd}, e.ok w → Bd (13400 * e.sz) (e.dep + 1) e.d
  | .col n, .col _ hn => Bd.mono (Bd.tup (D := 1) (Bds.cons (Bd.str (s := "column") (by decide +kernel) (by decide +kernel)) (Bds.cons (Bd.int (by omega)) Bds.nil))) (by show _ ≤ 13400 * 1; decide) (Nat.le_refl _)
  | .cst v, .cst _ hv => Bd.mono (Bd.tup (D := 1) (Bds.cons (Bd.str (s := "constant") (by decide +kernel) (by decide +kernel)) (Bds.cons (bd_dv hv) Bds.nil))) (by show _ ≤ 13400 * 1; decide) (Nat.le_refl _)
  | .un nm a, .un _ _ hn ha => by
    have ih := bd_cx hw ha
    refine Bd.mono (Bd.tup (D := a.dep + 1) (Bds.cons (Bd.str (s := "unary") (by decide +kernel) (by decide +kernel)) (Bds.cons (bd_un hn) (Bds.cons ih Bds.nil)))) ?_ (Nat.le_refl _)
    show _ ≤ 13400 * (a.sz + 1)
    omega
  | .bin nm a b, .bin _ _ _ hn ha hb => by
    have iha := bd_cx hw ha
    have ihb := bd_cx hw hb
    refine Bd.mono (Bd.tup (D := max a.dep b.dep + 1) (Bds.cons (Bd.str (s := "binary") (by decide +kernel) (by decide +kernel)) (Bds.cons (bd_bin hn) (Bds.cons (iha.mono (Nat.le_refl _) (by omega)) (Bds.cons (ihb.mono (Nat.le_refl _) (by omega)) Bds.nil))))) ?_ (Nat.le_refl _)
    show _ ≤ 13400 * (a.sz + b.sz + 1)
    omega
theorem shift_ok {m w : Nat} : ∀ {e : Cnd}, e.ok w → (shift m e).ok w
  | .col n, .col _ hn => .col _ (by omega)
  | .cst v, .cst _ hv => .cst _ hv
  | .un nm a, .un _ _ hn ha => .un _ _ hn (shift_ok ha)
  | .bin nm a b, .bin _ _ _ hn ha hb => .bin _ _ _ hn (shift_ok ha) (shift_ok hb)
theorem shift_sz (m : Nat) : ∀ e : Cnd, (shift m e).sz = e.sz
  | .col n => rfl
  | .cst v => rfl
  | .un nm a => by show (shift m a).sz + 1 = a.sz + 1; rw [shift_sz m a]
  | .bin nm a b => by show (shift m a).sz + (shift m b).sz + 1 = a.sz + b.sz + 1; rw [shift_sz m a, shift_sz m b]
theorem shift_dep (m : Nat) : ∀ e : Cnd, (shift m e).dep = e.dep
  | .col n => rfl
  | .cst v => rfl
  | .un nm a => by show (shift m a).dep + 1 = a.dep + 1; rw [shift_dep m a]
  | .bin nm a b => by show max (shift m a).dep (shift m b).dep + 1 = max a.dep b.dep + 1; rw [shift_dep m a, shift_dep m b]
theorem cparts_ok {w : Nat} : ∀ {e : Cnd}, e.ok w → ∀ c ∈ cparts e, c.ok w
  | .col n, h, c, hc => by rw [List.mem_singleton.mp hc]; exact h
  | .cst v, h, c, hc => by rw [List.mem_singleton.mp hc]; exact h
  | .un nm a, h, c, hc => by rw [List.mem_singleton.mp hc]; exact h
  | .bin nm a b, .bin _ _ _ hn ha hb, c, hc => by
    unfold cparts at hc
    split at hc
    · rcases List.mem_append.mp hc with h | h
      · exact cparts_ok ha c h
      · exact cparts_ok hb c h
    · rw [List.mem_singleton.mp hc]
      exact .bin _ _ _ hn ha hb
theorem cparts_sum : ∀ e : Cnd, ((cparts e).map Cnd.sz).sum ≤ e.sz
  | .col _ => by simp [cparts]
  | .cst _ => by simp [cparts]
  | .un _ _ => by simp [cparts]
  | .bin nm a b => by
    have h1 := cparts_sum a
    have h2 := cparts_sum b
    unfold cparts
    split
    · rw [List.map_append, List.sum_append]
      show _ ≤ a.sz + b.sz + 1
      omega
    · simp
theorem joined_ok {w : Nat} : ∀ (n : Nat) (es : List Cnd), (∀ e ∈ es, e.ok w) → (joined n es).ok w
  | 0, _, _ => .cst _ (.bl true)
  | _ + 1, [], _ => .cst _ (.bl true)
  | _ + 1, [x], h => h x (List.mem_cons_self ..)
  | n + 1, x :: y :: r, h => .bin _ _ _ (by decide +kernel) (joined_ok n _ fun e he => h e (List.mem_of_mem_take he)) (joined_ok n _ fun e he => h e (List.mem_of_mem_drop he))
theorem joined_sz1 : ∀ (n : Nat) (es : List Cnd), es ≠ [] → (joined n es).sz + 1 ≤ (es.map Cnd.sz).sum + es.length
  | _, [], h => absurd rfl h
  | 0, x :: r, _ => by
    have := sz_pos x
    show 1 + 1 ≤ _
    simp only [List.map_cons, List.sum_cons, List.length_cons]
    omega
  | _ + 1, [x], _ => by show x.sz + 1 ≤ _; simp only [List.map_cons, List.map_nil, List.sum_cons, List.sum_nil, List.length_cons, List.length_nil]; omega
  | n + 1, x :: y :: r, _ => by
    have hlen : (x :: y :: r).length = r.length + 2 := rfl
    generalize hes : x :: y :: r = es at hlen
    have hj : joined (n + 1) es = .bin "and" (joined n (es.take (es.length / 2))) (joined n (es.drop (es.length / 2))) := by rw [← hes]; rfl
    have h1 := joined_sz1 n (es.take (es.length / 2)) fun h => by
      have := congrArg List.length h
      rw [List.length_take, List.length_nil] at this
      omega
    have h2 := joined_sz1 n (es.drop (es.length / 2)) fun h => by
      have := congrArg List.length h
      rw [List.length_drop, List.length_nil] at this
      omega
    have hsum : (es.map Cnd.sz).sum = ((es.take (es.length / 2)).map Cnd.sz).sum + ((es.drop (es.length / 2)).map Cnd.sz).sum := by rw [← List.sum_append, ← List.map_append, List.take_append_drop]
    rw [List.length_take] at h1
    rw [List.length_drop] at h2
    rw [hj]
    show (joined n (es.take (es.length / 2))).sz + (joined n (es.drop (es.length / 2))).sz + 1 + 1 ≤ _
    omega
theorem joined_sz (n : Nat) (es : List Cnd) : (joined n es).sz ≤ (es.map Cnd.sz).sum + es.length + 1 := by
  cases es with
  | nil => cases n <;> exact Nat.le_refl _
  | cons x r =>
    have := joined_sz1 n (x :: r) (fun h => nomatch h)
    omega
theorem joined_dep {D : Nat} (hD : 1 ≤ D) : ∀ (n : Nat) (es : List Cnd), (∀ e ∈ es, e.dep ≤ D) → (joined n es).dep ≤ D + n
  | 0, _, _ => by show 1 ≤ _; omega
  | _ + 1, [], _ => by show 1 ≤ _; omega
  | _ + 1, [x], h => by have := h x (List.mem_cons_self ..); show x.dep ≤ _; omega
  | n + 1, x :: y :: r, h => by
    have h1 := joined_dep hD n ((x :: y :: r).take ((x :: y :: r).length / 2)) fun e he => h e (List.mem_of_mem_take he)
    have h2 := joined_dep hD n ((x :: y :: r).drop ((x :: y :: r).length / 2)) fun e he => h e (List.mem_of_mem_drop he)
    show max _ _ + 1 ≤ _
    omega
theorem key_facts {m w : Nat} {c : Cnd} {k : Cnd × Cnd} (h : keyIn m c = some k) (ho : c.ok w) : k.1.ok w ∧ k.2.ok w ∧ k.1.sz + k.2.sz + 1 ≤ c.sz ∧ k.1.dep + 1 ≤ c.dep ∧ k.2.dep + 1 ≤ c.dep := by
  cases c with
  | col n => cases h
  | cst n => cases h
  | un nm a => cases h
  | bin nm a b =>
    cases ho with | bin _ _ _ hn ha hb =>
    rw [key_bin] at h
    by_cases hnm : nm = "equal"
    · rw [if_pos hnm] at h
      split at h
      · cases h
        refine ⟨ha, shift_ok hb, ?_, ?_, ?_⟩
        · show a.sz + (shift m b).sz + 1 ≤ a.sz + b.sz + 1
          rw [shift_sz]
          exact Nat.le_refl _
        · show a.dep + 1 ≤ max a.dep b.dep + 1
          omega
        · show (shift m b).dep + 1 ≤ max a.dep b.dep + 1
          rw [shift_dep]
          omega
      · split at h
        · cases h
          refine ⟨hb, shift_ok ha, ?_, ?_, ?_⟩
          · show b.sz + (shift m a).sz + 1 ≤ a.sz + b.sz + 1
            rw [shift_sz]
            omega
          · show b.dep + 1 ≤ max a.dep b.dep + 1
            omega
          · show (shift m a).dep + 1 ≤ max a.dep b.dep + 1
            rw [shift_dep]
            omega
        · cases h
    · rw [if_neg hnm] at h
      cases h
theorem bd_keys {m w : Nat} (hw : w < 2 ^ 60) : ∀ L : List Cnd, (∀ c ∈ L, c.ok w ∧ c.dep ≤ 8) → Bds (13420 * (L.map Cnd.sz).sum) 10 ((L.filterMap (keyIn m)).map pairD)
  | [], _ => Bds.nil
  | c :: L, h => by
    have ih := bd_keys (m := m) hw L fun c hc => h c (List.mem_cons_of_mem _ hc)
    obtain ⟨ho, hd⟩ := h c (List.mem_cons_self ..)
    rw [List.filterMap_cons, List.map_cons, List.sum_cons]
    cases hk : keyIn m c with
    | none => exact ih.mono (Nat.mul_le_mul_left _ (Nat.le_add_left _ _)) (Nat.le_refl _)
    | some k =>
      obtain ⟨h1, h2, h3, h4, h5⟩ := key_facts hk ho
      have b1 := (bd_cx hw h1).mono (Nat.le_refl _) (show k.1.dep + 1 ≤ 9 by omega)
      have b2 := (bd_cx hw h2).mono (Nat.le_refl _) (show k.2.dep + 1 ≤ 9 by omega)
      exact Bds.mono (Bds.cons (Bd.tup (Bds.cons b1 (Bds.cons b2 Bds.nil))) ih) (by omega) (by omega)
theorem sum_filter (p : Cnd → Bool) : ∀ L : List Cnd, ((L.filter p).map Cnd.sz).sum ≤ (L.map Cnd.sz).sum
  | [] => Nat.le_refl _
  | c :: L => by
    have ih := sum_filter p L
    rw [List.filter_cons]
    split
    · simp only [List.map_cons, List.sum_cons]
      omega
    · simp only [List.map_cons, List.sum_cons]
      omega
theorem bd_keysD {m w : Nat} (hw : w < 2 ^ 60) {e : Cnd} (ho : e.ok w) (hz : e.sz ≤ 60) (hd : e.dep ≤ 8) : Bd 4000000 60 (keysD m e) := by
  have hall : ∀ c ∈ cparts e, c.ok w ∧ c.dep ≤ 8 := fun c hc => ⟨cparts_ok ho c hc, Nat.le_trans (cparts_in e c hc).2 hd⟩
  have b1 := bd_keys (m := m) hw (cparts e) hall
  have hs := cparts_sum e
  have hl := cparts_len e
  have hr : ∀ c ∈ restL m (cparts e), c.ok w ∧ c.dep ≤ 8 := fun c hc => hall c (List.mem_filter.mp hc).1
  have b2 := bd_cx hw (joined_ok (w := w) 8 (restL m (cparts e)) fun c hc => (hr c hc).1)
  have hj := joined_sz 8 (restL m (cparts e))
  have hjd := joined_dep (D := 8) (by decide) 8 (restL m (cparts e)) fun c hc => (hr c hc).2
  have hrl : (restL m (cparts e)).length ≤ 60 := by
    have := List.length_filter_le (fun e => (keyIn m e).isNone) (cparts e)
    unfold restL
    omega
  have hrs : ((restL m (cparts e)).map Cnd.sz).sum ≤ 60 := Nat.le_trans (sum_filter _ _) (Nat.le_trans hs hz)
  exact Bd.mono (Bd.tup (D := 20) (Bds.cons ((Bd.lst b1).mono (Nat.le_refl _) (by decide)) (Bds.cons (b2.mono (Nat.le_refl _) (by omega)) Bds.nil))) (by omega) (by decide)

--@SPLIT
/-! ### the law -/
section
variable {K : PySem.W.Frag} {σ : L2.St} {H : Hp} {p : Addr} {ta tb tc te : TE} {D : Ends} {tz : TS} {PL : List PyData → Prop}
theorem dps_at : ∀ {ys : List V} {ds : List PyData} {H : Hp} {i : Nat} {d : PyData}, DpAll K H ys ds → ds[i]? = some d → ∃ x, ys[i]? = some x ∧ Dp K H x d
  | _, _, _, _, _, .nil, h => by simp at h
  | _, _, _, 0, _, .cons h _, e => by
    cases e
    exact ⟨_, rfl, h⟩
  | _, _, _, i + 1, _, .cons _ t, e => by
    obtain ⟨d, h1, h2⟩ := dps_at (i := i) t (by simpa using e)
    exact ⟨d, by simpa using h1, h2⟩
/-- (a, b, c)[i]: a whole number of data -/
theorem e1_ixX {m : Int} {RI : Int → Prop} (h : EvX K te σ p H (fun d => ∃ ds, d = .tuple ds ∧ PL ds)) (hi : EvD1 tb σ p H (ZP fun j => 0 ≤ j ∧ j < m)) (k : ∀ ds (j : Nat), PL ds → (j : Int) < m → ∃ i : Int, ds[j]? = some (.int i) ∧ RI i) : EvD1 (tOp (rIxT K) te tb) σ p H (ZP RI) := fun H1 e dr Q q =>
  h H1 e dr _ fun v H2 d ⟨ds, ed, hP⟩ n hv e2 d2 => hi H2 (wx_trans e e2) d2 _ fun y H3 ⟨j, ey, hj⟩ e3 d3 => by
    subst ed ey
    obtain ⟨jn, rfl⟩ := Int.eq_ofNat_of_zero_le hj.1
    obtain ⟨b, ys, rfl, hS, hds⟩ := dp_tupD (dp_wx hv n d2 e3)
    obtain ⟨i, hi2, hR⟩ := k ds jn hP hj.2
    obtain ⟨x, hx, hd⟩ := dps_at hds hi2
    cases dp_intD hd
    exact rv_ixT hS (atI_nat hx) H3 (Ex.refl H3) Q fun H4 e4 => q _ H4 ⟨i, rfl, hR⟩ (wx_trans e2 (wx_trans e3 (wx_of e4))) (d3.ex e4)
end
section
variable {K : PySem.W.Frag} {σ : L2.St} {H : Hp} {p : Addr} {ta tb tc te tl : TE} {D : Ends} {tz tu : TS} {PI : Int → Prop} {E : XK}
/-- [f(x) for x in a tuple] -/
theorem el_lcT {a : Addr} {xs : List V} {j : Nat} {vs : List Nat} (f : Nat → V) (h : Ev tl σ H (.ref a)) (hx : SqT K H a xs) (hz : xs.length ≤ 40000) (hw : ∀ x, wipe ((wipe σ vs).set j (some x)) vs = wipe σ vs)
    (he : ∀ (i : Nat) (x : V) (H1 : Hp), Ex H H1 → xs[i]? = some x → Ev te ((wipe σ vs).set j (some x)) H1 (f i)) :
    EvL (tLc (iTup K tl) (gName j) tYes te vs) σ H ((List.range xs.length).map f) := fun H0 e0 Q q => h H0 e0 _ fun H1 e1 => ⟨a, rfl, ⟨xs, ex_t (e0.trans e1) hx⟩, fun D hD =>
  lc_tup (xs := xs) (fun i H' => H1 D = none ∧ Ex H1 H' ∧ H' D = some (.lst ((List.range i).map f))) ⟨hD, Ex.new hD, upd_same⟩ (fun i H' _ p => ex_t ((e0.trans e1).trans p.2.1) hx)
    (fun i x H' hi p => by
      obtain ⟨p1, p2, p3⟩ := p
      refine ⟨hw x, ?_⟩
      show te ((wipe σ vs).set j (some x)) H' fun y H4 => ∃ acc, H4 D = some (.lst acc) ∧ acc.length < sizeLine ∧ _
      refine he i x H' ((e0.trans e1).trans p2) hi H' (Ex.refl H') _ fun H4 e4 => ⟨_, e4 _ _ p3, sz_lt ?_, p1, Ex.mut (p2.trans e4) p1, by rw [upd_same, List.range_succ, List.map_append]; rfl⟩
      have := (List.getElem?_eq_some_iff.mp hi).1
      rw [List.length_map, List.length_range]
      omega)
    (fun H' p => q D H' (fresh_back e1 p.1) (e1.trans p.2.1) p.2.2)⟩
theorem q_forD {j : Nat} (h : EvD1 te σ p H (ZP PI)) (d : Dr p H) (k : ∀ (n : Int) H1, PI n → Ex (wo p H) H1 → Dr p H1 → tSeq (tFor (iRng1 (tCons (tC (.int n)) tNil)) (gName j) tu) tz D σ H1) : tSeq (tFor (iRng1 (tCons te tNil)) (gName j) tu) tz D σ H := h H (wo_le p H) d _ fun v H1 ⟨n, ev, hn⟩ e1 d1 => by
  subst ev
  exact k n H1 hn e1 d1
theorem q_asgLD {i : Nat} {ds : List PyData} (h : EvLD K te σ H ds) (k : ∀ q H1 ys, Ex H H1 → H1 q = some (.lst ys) → DpAll K H1 ys ds → tz D (σ.set i (some (.ref q))) H1) : tSeq (tAsg te (gName i)) tz D σ H := h H (Ex.refl H) _ fun q H1 ys _ e h1 hd => k q H1 ys e h1 hd
theorem ed_keys {v : V} {e : Cnd} {m : Nat} (ha : Ev ta σ H v) (hb : Ev tb σ H (.int (m : Int))) (hd : Dp K H v e.d) (hz : e.sz ≤ 60) (hn : e.dep ≤ 8) : EvD K (tCall (sp_keys_of K) [] E (tCons ta (tCons tb tNil))) σ H (keysD m e) := fun H1 e1 Q q =>
  ha H1 e1 _ fun H2 e2 => hb H2 (e1.trans e2) _ fun H3 e3 => ⟨v, e, m, rfl, ex_dp ((e1.trans e2).trans e3) hd, hz, hn, fun v' H4 e4 h4 => q v' H4 ((e2.trans e3).trans e4) h4⟩
theorem ed_due {v : V} {e : Cnd} {m : Nat} (ha : Ev ta σ H v) (hb : Ev tb σ H (.int (m : Int))) (hd : Dp K H v e.d) (hz : e.sz ≤ 60) (hn : e.dep ≤ 8) : EvD K (tCall (sp__law_due K) [] E (tCons ta (tCons tb tNil))) σ H (keysD m e) := ed_keys ha hb hd hz hn
theorem ec_halv {n : Nat} (ha : Ev ta σ H (.int (n : Int))) : Ev (tCall (sp_halvings K) [] E (tCons ta tNil)) σ H (.int (hv 40 n : Nat)) := ev_call (ea_cons ha ea_nil) fun H1 e1 Q k E => ⟨n, rfl, k⟩
theorem ec_lhalv {n : Nat} (ha : Ev ta σ H (.int (n : Int))) (hn : n ≤ 2 ^ 40) : Ev (tCall (sp__law_halved K) [] E (tCons ta tNil)) σ H (.int (hv 40 n : Nat)) := ev_call (ea_cons ha ea_nil) fun H1 e1 Q k E => ⟨n, rfl, hn, k⟩
theorem ec_join {way : Str} {x y : Nat} (ha : Ev ta σ H (.str way)) (hb : Ev tb σ H (.int (x : Int))) (hc : Ev tc σ H (.int (y : Int))) (h1 : x < 2 ^ 60) (h2 : y < 2 ^ 60) : Ev (tCall (sp_join_cost K) [] E (tCons ta (tCons tb (tCons tc tNil)))) σ H (.int (jc way x y : Nat)) := ev_call (ea_cons ha (ea_cons hb (ea_cons hc ea_nil))) fun H1 e1 Q k E => ⟨way, x, y, rfl, h1, h2, k⟩
theorem ec_group {way : Str} {x : Nat} (ha : Ev ta σ H (.str way)) (hb : Ev tb σ H (.int (x : Int))) (h1 : x < 2 ^ 60) : Ev (tCall (sp_group_cost K) [] E (tCons ta (tCons tb tNil))) σ H (.int (gc way x : Nat)) := ev_call (ea_cons ha (ea_cons hb ea_nil)) fun H1 e1 Q k E => ⟨way, x, rfl, h1, k⟩
end
def waysL : List Str := ["hash right", "hash left", "merge", "loop"]
theorem sz_dep : ∀ e : Cnd, e.sz + 1 ≤ 2 ^ e.dep
  | .col _ => by show 2 ≤ 2 ^ 1; decide
  | .cst _ => by show 2 ≤ 2 ^ 1; decide
  | .un _ a => by
    have := sz_dep a
    show a.sz + 1 + 1 ≤ 2 ^ (a.dep + 1)
    rw [Nat.pow_succ]
    omega
  | .bin _ a b => by
    have h1 := sz_dep a
    have h2 := sz_dep b
    have h3 : 2 ^ a.dep ≤ 2 ^ max a.dep b.dep := Nat.pow_le_pow_right (by decide) (by omega)
    have h4 : 2 ^ b.dep ≤ 2 ^ max a.dep b.dep := Nat.pow_le_pow_right (by decide) (by omega)
    show a.sz + b.sz + 1 + 1 ≤ 2 ^ (max a.dep b.dep + 1)
    rw [Nat.pow_succ]
    omega
theorem keys_ref {K : PySem.W.Frag} {m : Nat} {e : Cnd} : ∀ v H1, Dp K H1 v (keysD m e) → ∃ a, v = .ref a := fun v H1 h => by
  obtain ⟨b, ys, rfl, _⟩ := dp_tupD h
  exact ⟨b, rfl⟩
def EqC (w : Nat) (d : PyData) : Prop := ∃ e : Cnd, d = e.d ∧ e.ok w ∧ e.dep ≤ 3 ∧ e.sz ≤ 5
def sp__law_equal (K : PySem.W.Frag) : Sp := fun vs H Q _ => ∃ (p : Addr) (w : Nat), vs = [.ref p, .int (w : Int)] ∧ Dr p H ∧ 0 < w ∧ w ≤ 1000 ∧ ∀ v' H' d, EqC w d → noL d = true → Dp K H' v' d → Ex (wo p H) H' → Dr p H' → Q v' H'
def sp_law (K : PySem.W.Frag) : Sp := fun vs H Q _ => ∃ (a : Addr) (ns : List Int), vs = [.ref a] ∧ SqL K H a (ns.map V.int) ∧ ns.length ≤ 63 ∧ ∀ H', Q (.bl true) H'
theorem sp_law_of {K : PySem.W.Frag} {H : Hp} {a : Addr} {ns : List Int} (hl : ns.length ≤ 63) (hS : SqL K H a (ns.map V.int)) : sp_law K [.ref a] H (fun v _ => v = .bl true) fun _ _ _ => False :=
  ⟨a, ns, rfl, hS, hl, fun _ => rfl⟩
section
variable {P : Program} {w : World} {K : PySem.W.Frag} {mg : Str → Option Value} {base : Heap}
theorem x_ixS {σ : L2.St} {H : Hp} {p : Addr} {ta tb : TE} {xs : List Str} (ha : EvU ta σ (wo p H) (xs.map V.str)) (hb : EvD1 tb σ p H (ZP fun j => 0 ≤ j ∧ j < (xs.length : Int))) : EvX K (tOp (rIxT K) ta tb) σ p H (fun d => ∃ s ∈ xs, d = .str s) := fun H1 e dr Q q =>
  ha H1 e _ fun a H2 ha2 e2 h2 => hb H2 (e.trans e2) (dr.ex e2) _ fun y H3 ⟨j, ey, hj⟩ e3 d3 => by
    subst ey
    obtain ⟨jn, rfl⟩ := Int.eq_ofNat_of_zero_le hj.1
    have hlt : jn < xs.length := by omega
    have hap : a ≠ p := fun z => by
      obtain ⟨ys, hy⟩ := dr.at
      rw [← z, ha2] at hy
      cases hy
    exact rv_ixT (st_of (e3 _ _ (by rw [wo_ne hap]; exact h2))) (atI_nat (j := jn) (v := .str xs[jn]) (by rw [List.getElem?_map, List.getElem?_eq_getElem hlt]; rfl)) H3 (Ex.refl H3) Q fun H4 e4 => q _ H4 (.str xs[jn]) ⟨_, List.getElem_mem hlt, rfl⟩ rfl (.str _) (wx_trans (wx_of e2) (wx_trans e3 (wx_of e4))) (d3.ex e4)
theorem x_col {σ : L2.St} {H : Hp} {p : Addr} {ta tb : TE} {E : XK} {wd : Nat} (ha : Ev ta σ (wo p H) (.ref p)) (hb : Ev tb σ (wo p H) (.int (wd : Int))) (h0 : 0 < wd) (h1 : wd ≤ 1000) : EvX K (tTup (tCons (tC (.str "column")) (tCons (tCall (sp__law_digit K) [] E (tCons ta (tCons tb tNil))) tNil))) σ p H (fun d => ∃ n : Nat, n < wd ∧ d = (Cnd.col n).d) :=
  x_mono (x_tup (xa_cons (x_pure ev_c (fun _ => .str _) rfl) (xa_cons (x_int (PI := fun j => 0 ≤ j ∧ j < (wd : Int)) (ez_digit ha hb (by omega) (by omega))) xa_nil)) (by
    rintro ds ⟨_, _, rfl, _, _, _, rfl, _, rfl⟩
    show 2 ≤ 100000
    decide)) (by
    rintro d ⟨ds, rfl, _, _, rfl, rfl, _, _, rfl, ⟨j, hj, rfl⟩, rfl⟩
    obtain ⟨jn, rfl⟩ := Int.eq_ofNat_of_zero_le hj.1
    exact ⟨jn, by omega, rfl⟩)
theorem ok__law_equal (D : Dn K mg "_law_equal" s__law_equal ["state", "width"]) (c__law_digit : C8.Cal P w K mg base 1 "_law_digit" (sp__law_digit K) []) :
    C8.Cal P w K mg base 2 "_law_equal" (sp__law_equal K) [] := by
  refine cal_of D sc__law_equal (fun vs H Q E h => ?_) (fun f cdv A outer s H vs Q E hr h => ?_)
  · obtain ⟨_, _, rfl, _⟩ := h
    rfl
  refine ⟨_, (pss_cons (ps_set (i := 2) sc__law_equal.nd rfl (.inl rfl) (pe_tup (pa_cons pe_str (pa_cons (C8.pe_c c__law_digit hr (by decide) (by rfl) (pa_cons (pv 0) (pa_cons (pv 1) pa_nil))) pa_nil))))
    (pss_cons (ps_set (i := 3) sc__law_equal.nd rfl (.inl rfl) (pe_tup (pa_cons pe_str (pa_cons (C8.pe_c c__law_digit hr (by decide) (by rfl) (pa_cons (pv 0) (pa_cons (pv 1) pa_nil))) pa_nil))))
    (Evl.pss_cut (ps_if (pt_cmpR op_eq (C8.pe_c c__law_digit hr (by decide) (by rfl) (pa_cons (pv 0) (pa_cons pe_int pa_nil))) pe_int (nomark _))
      (pss_one (ps_set (i := 2) sc__law_equal.nd rfl (.inl rfl) (pe_tup (pa_cons pe_str (pa_cons pe_str (pa_cons (pv 2) (pa_cons (pe_tup (pa_cons pe_str (pa_cons (C8.pe_c c__law_digit hr (by decide) (by rfl) (pa_cons (pv 0) (pa_cons (pv 1) pa_nil))) pa_nil))) pa_nil)))))))
      pss_nil)
    (Evl.pss_cut (ps_if (pt_cmpR op_eq (C8.pe_c c__law_digit hr (by decide) (by rfl) (pa_cons (pv 0) (pa_cons pe_int pa_nil))) pe_int (nomark _))
      (pss_one (ps_set (i := 3) sc__law_equal.nd rfl (.inl rfl) (pe_tup (pa_cons pe_str (pa_cons pe_int pa_nil)))))
      pss_nil)
    (pss_one (ps_ret (pe_tup (pa_cons pe_str (pa_cons (pe_ix ix_tup (pe_tup (pa_cons pe_str (pa_cons pe_str (pa_cons pe_str pa_nil)))) (C8.pe_c c__law_digit hr (by decide) (by rfl) (pa_cons (pv 0) (pa_cons pe_int pa_nil))) (fun _ _ => rfl)) (pa_cons (pv 2) (pa_cons (pv 3) pa_nil))))))))))), ?_⟩
  obtain ⟨p, wd, rfl, dr, w0, w1, q⟩ := h
  refine qx_asg (x_col (ev_var rfl) (ev_var rfl) w0 w1) dr fun v1 H1 d1' ⟨n1, hn1, hd1⟩ n1' hv1 e1 dr1 => ?_
  subst hd1
  refine qx_asg (x_col (ev_var rfl) (ev_var rfl) w0 w1) dr1 fun v2 H2 d2' ⟨n2, hn2, hd2⟩ n2' hv2 e2 dr2 => ?_
  subst hd2
  have hv1' := dp_wx hv1 n1' dr1 e2
  refine q_cut (M := fun σ' H' => ∃ (v1 : V) (e1 : Cnd), σ' = [some (.ref p), some (.int (wd : Int)), some v1, some v2] ∧ Ex (wo p H2) H' ∧ Dr p H' ∧ Dp K H' v1 e1.d ∧ e1.ok wd ∧ e1.dep ≤ 2 ∧ e1.sz ≤ 3) ?_ fun σ' H3 pw => ?_
  · refine s1_when (edt_test (ez_eq (ez_digit (m := 3) (ev_var rfl) ev_c (by decide) (by decide)) (e1_int (PI := fun j => j = 0) ev_c rfl))) dr2 (fun H4 e4 dr4 => ?_) fun H4 e4 dr4 => ⟨v1, .col n1, rfl, e4, dr4, dp_wx hv1' n1' dr2 e4, .col _ hn1, by show 1 ≤ 2; decide, by show 1 ≤ 3; decide⟩
    have hv4 := dp_wx hv1' n1' dr2 e4
    refine (x_tup (K := K) (xa_cons (x_pure (d := .str "binary") ev_c (fun _ => .str _) rfl) (xa_cons (x_pure (d := .str "add") ev_c (fun _ => .str _) rfl) (xa_cons (x_var (d := (Cnd.col n1).d) rfl hv4 n1' dr4) (xa_cons (x_col (ev_var rfl) (ev_var rfl) w0 w1) xa_nil)))) ?_) H4 (wo_le _ _) dr4 _ fun v H5 d hd nn hv e5 dr5 => ?_
    · rintro ds ⟨_, _, rfl, _, _, _, rfl, _, _, _, rfl, _, _, _, rfl, _, rfl⟩
      show 4 ≤ 100000
      decide
    · obtain ⟨ds, rfl, _, _, rfl, rfl, _, _, rfl, rfl, _, _, rfl, rfl, _, _, rfl, ⟨n3, hn3, rfl⟩, rfl⟩ := hd
      exact ⟨v, .bin "add" (.col n1) (.col n3), rfl, wx_trans e4 e5, dr5, hv, .bin _ _ _ (by decide +kernel) (.col _ hn1) (.col _ hn3), by show 2 ≤ 2; decide, by show 1 + 1 + 1 ≤ 3; decide⟩
  obtain ⟨v1, c1, rfl, e3, dr3, hv1, ok1, dp1, sz1⟩ := pw
  have hv23 := dp_wx hv2 n2' dr2 e3
  refine q_cut (M := fun σ' H' => ∃ (v2 : V) (e2 : Cnd), σ' = [some (.ref p), some (.int (wd : Int)), some v1, some v2] ∧ Ex (wo p H3) H' ∧ Dr p H' ∧ Dp K H' v2 e2.d ∧ e2.ok wd ∧ e2.dep ≤ 1 ∧ e2.sz ≤ 1) ?_ fun σ' H4 pw => ?_
  · refine s1_when (edt_test (ez_eq (ez_digit (m := 6) (ev_var rfl) ev_c (by decide) (by decide)) (e1_int (PI := fun j => j = 0) ev_c rfl))) dr3 (fun H4 e4 dr4 => ?_) fun H4 e4 dr4 => ⟨v2, .col n2, rfl, e4, dr4, dp_wx hv23 n2' dr3 e4, .col _ hn2, by show 1 ≤ 1; decide, by show 1 ≤ 1; decide⟩
    refine (x_tup (K := K) (xa_cons (x_pure (d := .str "constant") ev_c (fun _ => .str _) rfl) (xa_cons (x_pure (d := .int 5) ev_c (fun _ => .int _) rfl) xa_nil)) ?_) H4 (wo_le _ _) dr4 _ fun v H5 d hd nn hv e5 dr5 => ?_
    · rintro ds ⟨_, _, rfl, _, _, _, rfl, _, rfl⟩
      show 2 ≤ 100000
      decide
    · obtain ⟨ds, rfl, _, _, rfl, rfl, _, _, rfl, rfl, rfl⟩ := hd
      exact ⟨v, .cst (.int 5), rfl, wx_trans e4 e5, dr5, hv, .cst _ (.int 5 (by decide)), by decide, by show 1 ≤ 1; decide⟩
  obtain ⟨v2, c2, rfl, e4, dr4, hv2, ok2, dp2, sz2⟩ := pw
  have hv14 := dp_wx hv1 (noL_cx c1) dr3 e4
  refine sx_ret (K := K) (P := EqC wd) (x_mono (x_tup (xa_cons (x_pure (d := .str "binary") ev_c (fun _ => .str _) rfl) (xa_cons (x_ixS (xs := ["equal", "equal", "same"]) (eu_tup (ea_cons ev_c (ea_cons ev_c (ea_cons ev_c ea_nil))) (by show 3 ≤ 100000; decide)) (ez_digit (m := 3) (ev_var rfl) ev_c (by decide) (by decide))) (xa_cons (x_var (d := c1.d) rfl hv14 (noL_cx c1) dr4) (xa_cons (x_var (d := c2.d) rfl hv2 (noL_cx c2) dr4) xa_nil)))) ?_) ?_) dr4 fun v H5 d hd nn hv e5 dr5 => q v H5 d hd nn hv (wx_trans e1 (wx_trans e2 (wx_trans e3 (wx_trans e4 e5)))) dr5
  · rintro ds ⟨_, _, rfl, _, _, _, rfl, _, _, _, rfl, _, _, _, rfl, _, rfl⟩
    show 4 ≤ 100000
    decide
  · rintro d ⟨ds, rfl, _, _, rfl, rfl, _, _, rfl, ⟨s, hs, rfl⟩, _, _, rfl, rfl, _, _, rfl, rfl, rfl⟩
    refine ⟨.bin s c1 c2, rfl, .bin _ _ _ ?_ ok1 ok2, ?_, ?_⟩
    · simp only [List.mem_cons, List.not_mem_nil, or_false] at hs
      rcases hs with rfl | rfl | rfl <;> decide +kernel
    · show max c1.dep c2.dep + 1 ≤ 3
      omega
    · show c1.sz + c2.sz + 1 ≤ 5
      omega
theorem x_leq {σ : L2.St} {H : Hp} {p : Addr} {ta tb : TE} {E : XK} {wd : Nat} (ha : Ev ta σ (wo p H) (.ref p)) (hb : Ev tb σ (wo p H) (.int (wd : Int))) (h0 : 0 < wd) (h1 : wd ≤ 1000) : EvX K (tCall (sp__law_equal K) [] E (tCons ta (tCons tb tNil))) σ p H (EqC wd) := fun H1 e d Q q =>
  ha H1 e _ fun H2 e2 => hb H2 (e.trans e2) _ fun H3 e3 => ⟨p, wd, rfl, d.ex (e2.trans e3), h0, h1, fun v H4 dd hd n hv e4 d4 => q v H4 dd hd n hv (wx_trans (wx_of (e2.trans e3)) e4) d4⟩
theorem ok_law {fa : Addr} {s : Shared} {H : Hp} {a : Addr} {ns : List Int} {cdv : Value} (c__law_cell : C8.Cal P w K mg base 1 "_law_cell" (sp__law_cell K) []) (c__law_condition : C8.Cal P w K mg base 8 "_law_condition" (sp__law_condition K) []) (c__law_digit : C8.Cal P w K mg base 1 "_law_digit" (sp__law_digit K) []) (c__law_due : C8.Cal P w K mg base 11 "_law_due" (sp__law_due K) []) (c__law_equal : C8.Cal P w K mg base 2 "_law_equal" (sp__law_equal K) []) (c__law_halved : C8.Cal P w K mg base 1 "_law_halved" (sp__law_halved K) []) (c__law_is_integer : C8.Cal P w K mg base 1 "_law_is_integer" (sp__law_is_integer K) []) (c__law_state : C8.Cal P w K mg base 1 "_law_state" (sp__law_state K) []) (c_group_cost : C8.Cal P w K mg base 3 "group_cost" (sp_group_cost K) []) (c_halvings : C8.Cal P w K mg base 1 "halvings" (sp_halvings K) []) (c_join_cost : C8.Cal P w K mg base 3 "join_cost" (sp_join_cost K) []) (c_keys_of : C8.Cal P w K mg base 12 "keys_of" (sp_keys_of K) []) (c_sort_cost : C8.Cal P w K mg base 2 "sort_cost" (sp_sort_cost K) []) (z_len : mg "len" = none) (z_max : mg "max" = none) (z_min : mg "min" = none) (z_range : mg "range" = none) (z_repr : mg "repr" = none) {p_WAYS : Addr} (g_WAYS : ∃ u, mg "WAYS" = some u ∧ RelV (.ref p_WAYS) u) (h_WAYS : ∀ H : Hp, SqT K H p_WAYS ([.str "hash right", .str "hash left", .str "merge", .str "loop"])) (nd : base.NoDigits) (h63 : ns.length ≤ 63) (hS : SqL K H a (ns.map V.int))
    (hr : Room 12 (callerA.deeper (envOfC "law" (C8.fnScope s_law) s.heap.objs.size fa cdv))) :
    ∃ t, PSs (cxOf C8.CX0 P w K mg base n_law "law" (C8.fnScope s_law) fa cdv callerA [] s H C8.E0).nox (C8.fnBody s_law) t ∧ t { nx := fun _ _ => V.non = .bl true, rt := fun v _ => v = .bl true } (start n_law [.ref a]) H := by
  refine ⟨_, (pss_cons (ps_if (pt_cmpR (op_neD (hu64 hr)) (C8.pe_gc rfl g_WAYS) (pe_tup (pa_cons pe_str (pa_cons pe_str (pa_cons pe_str (pa_cons pe_str pa_nil))))) (nomark _))
      (pss_one (ps_ret pe_bl))
      pss_nil)
    (pss_cons (ps_for PassesOwn.never rfl (pi_range1 rfl z_range (pa_cons (pe_callB (call_min2 rfl) (by rfl) z_min (by decide +kernel) (pa_cons pe_int (pa_cons (pe_callB (call_max2 rfl) (by rfl) z_max (by decide +kernel) (pa_cons pe_int (pa_cons (pe_callB call_len_seq (by rfl) z_len PySem.boot_len (pa_cons (pv 0) pa_nil)) pa_nil))) pa_nil))) pa_nil)) (pg_name (i := 1) sc_law.nd rfl (.inl rfl))
      (pss_cons (ps_set (i := 2) sc_law.nd rfl (.inl rfl) (C8.pe_c c__law_state hr (by decide) (by rfl) (pa_cons (C8.pe_c c__law_cell hr (by decide) (by rfl) (pa_cons (pv 0) (pa_cons (pv 1) pa_nil))) (pa_cons (pv 1) pa_nil))))
    (pss_cons (ps_set (i := 3) sc_law.nd rfl (.inl rfl) (C8.pe_c c__law_digit hr (by decide) (by rfl) (pa_cons (pv 2) (pa_cons pe_int pa_nil))))
    (pss_cons (ps_set (i := 4) sc_law.nd rfl (.inl rfl) (pe_op op_add (pe_op op_add (pv 3) pe_int) (C8.pe_c c__law_digit hr (by decide) (by rfl) (pa_cons (pv 2) (pa_cons pe_int pa_nil)))))
    (pss_cons (ps_set (i := 5) sc_law.nd rfl (.inl rfl) (C8.pe_c c__law_condition hr (by decide) (by rfl) (pa_cons (pv 2) (pa_cons (pv 4) (pa_cons pe_int pa_nil)))))
    (pss_cons (ps_for PassesOwn.never rfl (pi_range1 rfl z_range (pa_cons (C8.pe_c c__law_digit hr (by decide) (by rfl) (pa_cons (pv 2) (pa_cons pe_int pa_nil))) pa_nil)) (pg_name (i := 6) sc_law.nd rfl (.inl rfl))
      (pss_one (ps_set (i := 5) sc_law.nd rfl (.inl rfl) (pe_tup (pa_cons pe_str (pa_cons pe_str (pa_cons (C8.pe_c c__law_equal hr (by decide) (by rfl) (pa_cons (pv 2) (pa_cons (pv 4) pa_nil))) (pa_cons (pv 5) pa_nil))))))))
    (pss_cons (ps_if (pt_cmpR op_ne (pe_callB (call_reprN rfl (hu64 hr) nd) (by rfl) z_repr (by decide +kernel) (pa_cons (C8.pe_c c_keys_of hr (by decide) (by rfl) (pa_cons (pv 5) (pa_cons (pv 3) pa_nil))) pa_nil)) (pe_callB (call_reprN rfl (hu64 hr) nd) (by rfl) z_repr (by decide +kernel) (pa_cons (C8.pe_c c__law_due hr (by decide) (by rfl) (pa_cons (pv 5) (pa_cons (pv 3) pa_nil))) pa_nil)) (nomark _))
      (pss_one (ps_ret pe_bl))
      pss_nil)
    (pss_cons (ps_set (i := 7) sc_law.nd rfl (.inr rfl) (pe_ix ix_tup (pe_tup (pa_cons (C8.pe_c c__law_digit hr (by decide) (by rfl) (pa_cons (pv 2) (pa_cons pe_int pa_nil))) (pa_cons (C8.pe_c c__law_digit hr (by decide) (by rfl) (pa_cons (pv 2) (pa_cons (pe_op op_pow pe_int pe_int) pa_nil))) (pa_cons (pe_op op_sub (pe_op op_add (pe_op op_pow pe_int pe_int) (C8.pe_c c__law_digit hr (by decide) (by rfl) (pa_cons (pv 2) (pa_cons pe_int pa_nil)))) pe_int) pa_nil)))) (C8.pe_c c__law_digit hr (by decide) (by rfl) (pa_cons (pv 2) (pa_cons pe_int pa_nil))) (fun _ _ => rfl)))
    (pss_cons (ps_set (i := 8) sc_law.nd rfl (.inr rfl) (pe_ix ix_tup (pe_tup (pa_cons (C8.pe_c c__law_digit hr (by decide) (by rfl) (pa_cons (pv 2) (pa_cons pe_int pa_nil))) (pa_cons (C8.pe_c c__law_digit hr (by decide) (by rfl) (pa_cons (pv 2) (pa_cons (pe_op op_pow pe_int pe_int) pa_nil))) (pa_cons (pv 7) pa_nil)))) (C8.pe_c c__law_digit hr (by decide) (by rfl) (pa_cons (pv 2) (pa_cons pe_int pa_nil))) (fun _ _ => rfl)))
    (pss_cons (ps_setLc (i := 9) (own := [("number", 12)]) (g := gName 12) (tt := tYes) rfl sc_law.nd rfl rfl (sw_true rfl rfl rfl (by decide +kernel)) (pi_tup (pe_tup (pa_cons (pv 7) (pa_cons (pv 8) pa_nil)))) (blkOk_by (N := n_law) (sc := C8.fnScope s_law) (by decide +kernel)) (fun _ _ _ _ _ => pg_name (i := 12) sc_law.nd rfl (Or.inl rfl)) (fun _ _ _ _ _ => pts_nil) (fun _ _ _ _ _ => (pe_op op_mulW (pv 12) (pe_callB (call_min2 rfl) (by rfl) z_min (by decide +kernel) (pa_cons pe_int (pa_cons (C8.pe_c c__law_halved hr (by decide) (by rfl) (pa_cons (pv 12) pa_nil)) pa_nil))))))
    (pss_cons (ps_if (PW.pt (pw_or (pt_cmpR op_ne (C8.pe_c c_halvings hr (by decide) (by rfl) (pa_cons (pv 7) pa_nil)) (C8.pe_c c__law_halved hr (by decide) (by rfl) (pa_cons (pv 7) pa_nil)) (nomark _)) (pw_or1 (pt_cmpR (op_neD (hu64 hr)) (pe_lst (pa_cons (C8.pe_c c_sort_cost hr (by decide) (by rfl) (pa_cons (pv 7) pa_nil)) (pa_cons (C8.pe_c c_sort_cost hr (by decide) (by rfl) (pa_cons (pv 8) pa_nil)) pa_nil))) (pv 9) (nomark _)))))
      (pss_one (ps_ret pe_bl))
      pss_nil)
    (pss_cons (ps_set (i := 10) sc_law.nd rfl (.inl rfl) (pe_lst (pa_cons (pe_op op_add (pv 7) (pe_op op_mul pe_int (pv 8))) (pa_cons (pe_op op_add (pe_op op_mul pe_int (pv 7)) (pv 8)) (pa_cons (pe_op op_add (pe_op op_add (pe_op op_add (pe_ix ix_list (pv 9) pe_int (fun _ _ => rfl)) (pe_ix ix_list (pv 9) pe_int (fun _ _ => rfl))) (pv 7)) (pv 8)) (pa_cons (pe_op op_add (pv 7) (pe_op op_mulW (pv 7) (pv 8))) pa_nil))))))
    (pss_cons (ps_setLc (i := 11) (own := [("way", 13)]) (g := gName 13) (tt := tYes) rfl sc_law.nd rfl rfl (sw_true rfl rfl rfl (by decide +kernel)) (pi_tup (C8.pe_gc rfl g_WAYS)) (blkOk_by (N := n_law) (sc := C8.fnScope s_law) (by decide +kernel)) (fun _ _ _ _ _ => pg_name (i := 13) sc_law.nd rfl (Or.inl rfl)) (fun _ _ _ _ _ => pts_nil) (fun _ _ _ _ _ => (C8.pe_c c_join_cost hr (by decide) (by rfl) (pa_cons (pv 13) (pa_cons (pv 7) (pa_cons (pv 8) pa_nil))))))
    (pss_cons (ps_if (PW.pt (pw_or (pt_cmpR (op_neD (hu64 hr)) (pv 11) (pv 10) (nomark _)) (pw_or1 (pt_cmpR (op_neD (hu64 hr)) (pe_lst (pa_cons (C8.pe_c c_group_cost hr (by decide) (by rfl) (pa_cons pe_str (pa_cons (pv 7) pa_nil))) (pa_cons (C8.pe_c c_group_cost hr (by decide) (by rfl) (pa_cons pe_str (pa_cons (pv 7) pa_nil))) pa_nil))) (pe_lst (pa_cons (pe_op op_mul pe_int (pv 7)) (pa_cons (pe_op op_add (pe_ix ix_list (pv 9) pe_int (fun _ _ => rfl)) (pv 7)) pa_nil))) (nomark _)))))
      (pss_one (ps_ret pe_bl))
      pss_nil)
    (pss_one (ps_for PassesOwn.never rfl (pi_list (pv 11)) (pg_name (i := 12) sc_law.nd rfl (.inl rfl))
      (pss_one (ps_if (pt_not (pt_val (C8.pe_c c__law_is_integer hr (by decide) (by rfl) (pa_cons (pv 12) pa_nil))))
      (pss_one (ps_ret pe_bl))
      pss_nil))))))))))))))))))
    (pss_one (ps_ret pe_bl)))), ?_⟩
  have er : ∀ {d : PyData}, SeqAt.shaped d = true → PyData.eqv d d = true := fun h => PySem.SeqAt.eqv_refl _ (SeqAt.canLay_of_shaped h)
  refine q_when (b := !PyData.eqv (.tuple (waysL.map PyData.str)) (.tuple (waysL.map PyData.str))) (et_test (ev_neD (ed_val ev_c (.tup (h_WAYS _) (.cons (.str _) (.cons (.str _) (.cons (.str _) (.cons (.str _) .nil)))))) (ed_tupU (ud_tup (ad_cons (ed_val ev_c (.str _)) (ad_cons (ed_val ev_c (.str _)) (ad_cons (ed_val ev_c (.str _)) (ad_cons (ed_val ev_c (.str _)) ad_nil)))) (by show 4 ≤ 100000; decide))) (by decide +kernel) (by decide +kernel))) (fun hb => by rw [er (by decide +kernel)] at hb; cases hb) fun _ H1 e1 => ?_
  have hm : ∃ many : Int, (if (if (((ns.map V.int).length : Nat) : Int) > 3 then (((ns.map V.int).length : Nat) : Int) else 3) < 10 then (if (((ns.map V.int).length : Nat) : Int) > 3 then (((ns.map V.int).length : Nat) : Int) else 3) else 10) = many ∧ 0 ≤ many ∧ many ≤ 10 := by
    refine ⟨_, rfl, ?_, ?_⟩ <;> (split <;> split <;> omega)
  obtain ⟨many, hmany, hm0, hm10⟩ := hm
  refine q_forR1 (n := many) (ea_cons (ev_is (ev_min2 ev_c (Evl.ev_max2 ev_c (ev_len (ev_var rfl) (ex_l e1 hS)))) (by rw [hmany])) ea_nil) ⟨by omega, by omega⟩ (fun i σ' H' => ∃ (kv sv mv wv cv jv xv yv sov duv tov nuv wyv : Option V), σ' = [some (.ref a), kv, sv, mv, wv, cv, jv, xv, yv, sov, duv, tov, nuv, wyv] ∧ Ex H H') (fun H2 e2 => ⟨_, _, _, _, _, _, _, _, _, _, _, _, _, rfl, e1.trans e2⟩) (fun i σ' Ho hi pv => ?_) fun σ' H' pv => ?_
  · obtain ⟨kv, sv, mv, wv, cv, jv, xv, yv, sov, duv, tov, nuv, wyv, rfl, xo⟩ := pv
    refine q_asgC (ec_state (ec_cell (k := (i : Int)) (ev_var rfl) (ev_var rfl) (ex_l xo hS) (by omega)) (ev_var rfl)) fun ps Ha hps ea da => ?_
    refine qz_asg (PI := fun m => 0 ≤ m ∧ m < 4) (ez_digit (ev_var rfl) ev_c (by decide) (by decide)) da fun mi Hb hmi eb db => ?_
    obtain ⟨m, rfl⟩ := Int.eq_ofNat_of_zero_le hmi.1
    refine qz_asg (PI := fun w => (m : Int) + 1 ≤ w ∧ w ≤ (m : Int) + 3) (ez_op0 (PI := fun j => j = (m : Int) + 1) (ez_op0 (e1_int (PI := fun j => j = (m : Int)) (ev_var rfl) rfl) (e1_int (PI := fun j => j = 1) ev_c rfl) fun i j hi hj => by omega) (ez_digit (m := 3) (ev_var rfl) ev_c (by decide) (by decide)) fun i j hi hj => ⟨by omega, by omega⟩) db fun wi Hc hwi ec dc => ?_
    obtain ⟨wn, rfl⟩ := Int.eq_ofNat_of_zero_le (show 0 ≤ wi by omega)
    refine qx_asg (x_cond (n := 3) (wd := wn) (dp := 2) (ev_var rfl) (ev_var rfl) ev_c (by omega) (by omega) (by decide)) dc fun v0 Hd d0 hd0 hn0 hv0 ed dd => ?_
    obtain ⟨c0, rfl, ok0, dep0⟩ := hd0
    have sz0 : c0.sz ≤ 15 := by
      have h1 := sz_dep c0
      have h2 : 2 ^ c0.dep ≤ 2 ^ 4 := Nat.pow_le_pow_right (by decide) dep0
      have h3 : 2 ^ 4 = 16 := rfl
      omega
    have xd : Ex Ho Hd := wx_back hps ea (wx_trans eb (wx_trans ec ed))
    refine q_forD (PI := fun n => 0 ≤ n ∧ n < 4) (ez_digit (m := 4) (ev_var rfl) ev_c (by decide) (by decide)) dd fun nj He hnj ee de => ?_
    have xe : Ex Ho He := wx_back hps xd ee
    have hv0e := dp_wx hv0 hn0 dd ee
    refine q_forR1 (n := nj) (ea_cons ev_c ea_nil) ⟨by omega, by omega⟩ (fun j σ' H' => ∃ (jv : Option V) (v : V) (c : Cnd), σ' = [some (.ref a), some (.int (i : Int)), some (.ref ps), some (.int (m : Int)), some (.int (wn : Int)), some v, jv, xv, yv, sov, duv, tov, nuv, wyv] ∧ Ex Ho H' ∧ Dr ps H' ∧ Dp K H' v c.d ∧ c.ok wn ∧ c.dep ≤ 4 + j ∧ c.sz ≤ 15 + 6 * j) (fun H2 e2 => ⟨_, v0, c0, rfl, xe.trans e2, de.ex e2, ex_dp e2 hv0e, ok0, by omega, by omega⟩) (fun j σ' H' hj pw => ?_) fun σ' Hf pw => ?_
    · obtain ⟨jv, v, c, rfl, x', dr', hv', ok', dep', sz'⟩ := pw
      refine (x_tup (K := K) (xa_cons (x_pure (d := .str "binary") ev_c (fun _ => .str _) rfl) (xa_cons (x_pure (d := .str "and") ev_c (fun _ => .str _) rfl) (xa_cons (x_leq (wd := wn) (ev_var rfl) (ev_var rfl) (by omega) (by omega)) (xa_cons (x_var (d := c.d) rfl hv' (noL_cx c) dr') xa_nil)))) ?_) H' (wo_le _ _) dr' _ fun v2 H2 d2 hd2 nn hv2 e2 dr2 => ?_
      · rintro ds ⟨_, _, rfl, _, _, _, rfl, _, _, _, rfl, _, _, _, rfl, _, rfl⟩
        show 4 ≤ 100000
        decide
      · obtain ⟨ds, rfl, _, _, rfl, rfl, _, _, rfl, rfl, _, _, rfl, ⟨c2, rfl, ok2, dep2, sz2⟩, _, _, rfl, rfl, rfl⟩ := hd2
        refine ⟨_, v2, .bin "and" c2 c, rfl, wx_back hps x' e2, dr2, hv2, .bin _ _ _ (by decide +kernel) ok2 ok', ?_, ?_⟩
        · show max c2.dep c.dep + 1 ≤ 4 + (j + 1)
          omega
        · show c2.sz + c.sz + 1 ≤ 15 + 6 * (j + 1)
          omega
    · obtain ⟨jv, v, c, rfl, xf, df, hvf, okf, depf, szf⟩ := pw
      have hj3 : nj.toNat ≤ 3 := by omega
      have dep8 : c.dep ≤ 8 := by omega
      have sz60 : c.sz ≤ 60 := by omega
      have bd := bd_keysD (m := m) (show wn < 2 ^ 60 by omega) okf sz60 dep8
      refine q_when (b := !decide (V.str (keysD m c).shown = V.str (keysD m c).shown)) (et_test (ev_op (ev_shownN (ed_keys (ev_var rfl) (ev_var rfl) hvf sz60 dep8) (fun _ => keys_ref) bd.1 bd.2.1 bd.2.2) (ev_shownN (ed_due (ev_var rfl) (ev_var rfl) hvf sz60 dep8) (fun _ => keys_ref) bd.1 bd.2.1 bd.2.2) (rv_ne rfl))) (fun hb => by rw [decide_eq_true rfl] at hb; cases hb) fun _ Hg eg => ?_
      have dg := df.ex eg
      have xg := xf.trans eg
      refine qz_asg (PI := fun x => 0 ≤ x ∧ x ≤ 2 ^ 40) (e1_ixX (m := 3) (PL := fun ds => ∃ x1 x2 x3 : Int, (0 ≤ x1 ∧ x1 ≤ 2 ^ 40) ∧ (0 ≤ x2 ∧ x2 ≤ 2 ^ 40) ∧ (0 ≤ x3 ∧ x3 ≤ 2 ^ 40) ∧ ds = [.int x1, .int x2, .int x3]) (x_mono (x_tup (xa_cons (x_int (PI := fun x => 0 ≤ x ∧ x ≤ 2 ^ 40) (ez_mono (ez_digit (m := 20) (ev_var rfl) ev_c (by decide) (by decide)) fun i h => ⟨h.1, by omega⟩)) (xa_cons (x_int (PI := fun x => 0 ≤ x ∧ x ≤ 2 ^ 40) (ez_mono (ez_digit (m := 1000000000000) (ev_var rfl) (ev_is (ev_op ev_c ev_c (rv_I ⟨by decide, by decide, by decide⟩)) (by decide)) (by decide) (by decide)) fun i h => ⟨h.1, by omega⟩)) (xa_cons (x_int (PI := fun x => 0 ≤ x ∧ x ≤ 2 ^ 40) (ez_op0 (PI := fun x => 131072 ≤ x ∧ x ≤ 131074) (ez_op0 (e1_int (PI := fun j => j = 131072) (ev_is (ev_op ev_c ev_c (rv_I ⟨by decide, by decide, by decide⟩)) (by decide)) rfl) (ez_digit (m := 3) (ev_var rfl) ev_c (by decide) (by decide)) fun i j hi hj => ⟨by omega, by omega⟩) (e1_int (PI := fun j => j = 1) ev_c rfl) fun i j hi hj => ⟨by omega, by omega⟩)) xa_nil))) ?_) ?_) (ez_digit (ev_var rfl) ev_c (by decide) (by decide)) fun ds j h hj => ?_) dg fun xi Hh hxi eh dh => ?_
      · rintro ds ⟨_, _, rfl, _, _, _, rfl, _, _, _, rfl, _, rfl⟩
        show 3 ≤ 100000
        decide
      · rintro d ⟨ds, rfl, _, _, rfl, ⟨x1, h1, rfl⟩, _, _, rfl, ⟨x2, h2, rfl⟩, _, _, rfl, ⟨x3, h3, rfl⟩, rfl⟩
        exact ⟨_, rfl, x1, x2, x3, h1, h2, h3, rfl⟩
      · obtain ⟨x1, x2, x3, h1, h2, h3, rfl⟩ := h
        rcases j with _ | _ | _ | j
        · exact ⟨_, rfl, h1⟩
        · exact ⟨_, rfl, h2⟩
        · exact ⟨_, rfl, h3⟩
        · omega
      obtain ⟨x, rfl⟩ := Int.eq_ofNat_of_zero_le hxi.1
      refine qz_asg (PI := fun x => 0 ≤ x ∧ x ≤ 2 ^ 40) (e1_ixX (m := 3) (PL := fun ds => ∃ x1 x2 x3 : Int, (0 ≤ x1 ∧ x1 ≤ 2 ^ 40) ∧ (0 ≤ x2 ∧ x2 ≤ 2 ^ 40) ∧ (0 ≤ x3 ∧ x3 ≤ 2 ^ 40) ∧ ds = [.int x1, .int x2, .int x3]) (x_mono (x_tup (xa_cons (x_int (PI := fun x => 0 ≤ x ∧ x ≤ 2 ^ 40) (ez_mono (ez_digit (m := 9) (ev_var rfl) ev_c (by decide) (by decide)) fun i h => ⟨h.1, by omega⟩)) (xa_cons (x_int (PI := fun x => 0 ≤ x ∧ x ≤ 2 ^ 40) (ez_mono (ez_digit (m := 1000000000) (ev_var rfl) (ev_is (ev_op ev_c ev_c (rv_I ⟨by decide, by decide, by decide⟩)) (by decide)) (by decide) (by decide)) fun i h => ⟨h.1, by omega⟩)) (xa_cons (x_pure (d := .int (x : Int)) (ev_var rfl) (fun _ => .int _) rfl) xa_nil))) ?_) ?_) (ez_digit (ev_var rfl) ev_c (by decide) (by decide)) fun ds j h hj => ?_) dh fun yi Hi hyi ei di => ?_
      · rintro ds ⟨_, _, rfl, _, _, _, rfl, _, _, _, rfl, _, rfl⟩
        show 3 ≤ 100000
        decide
      · rintro d ⟨ds, rfl, _, _, rfl, ⟨x1, h1, rfl⟩, _, _, rfl, ⟨x2, h2, rfl⟩, _, _, rfl, rfl, rfl⟩
        exact ⟨_, rfl, x1, x2, (x : Int), h1, h2, hxi, rfl⟩
      · obtain ⟨x1, x2, x3, h1, h2, h3, rfl⟩ := h
        rcases j with _ | _ | _ | j
        · exact ⟨_, rfl, h1⟩
        · exact ⟨_, rfl, h2⟩
        · exact ⟨_, rfl, h3⟩
        · omega
      obtain ⟨y, rfl⟩ := Int.eq_ofNat_of_zero_le hyi.1
      have xi : Ex Ho Hi := wx_back hps xg (wx_trans eh ei)
      have hx40 : x ≤ 2 ^ 40 := by omega
      have hy40 : y ≤ 2 ^ 40 := by omega
      have hvx := hv_le 40 x
      have hvy := hv_le 40 y
      have one : ∀ {σ : L2.St} {H0 : Hp} {n : Nat}, n ≤ 2 ^ 40 → σ[12]? = some (some (.int (n : Int))) → Ev (tOp (rI CMulW fun i j => V.int (i * j)) (tVar 12) (tCB (fun xs H Q => ∃ i j, xs = [V.int i, V.int j] ∧ Q (V.int (if j < i then j else i)) H) (tCons (tC (V.int 40)) (tCons (tCall (sp__law_halved K) [] C8.E0 (tCons (tVar 12) tNil)) tNil)))) σ H0 (.int (n * hv 40 n : Nat)) := fun {σ H0 n} hn h0 => by
        have hvn := hv_le 40 n
        refine ev_is (ev_op (ev_var h0) (ev_is (ev_min2 ev_c (ec_lhalv (ev_var h0) hn)) (show V.int (if ((hv 40 n : Nat) : Int) < 40 then ((hv 40 n : Nat) : Int) else 40) = .int (hv 40 n : Nat) by split <;> first | rfl | (congr 1; omega))) (rv_I (wide_mul (a := 60) (b := 10) (by omega) (by omega) (by decide) (by decide) (by decide)))) (by rw [Int.natCast_mul])
      refine q_asgLD (ds := [.int (x * hv 40 x : Nat), .int (y * hv 40 y : Nat)]) (ld_lcU (K := K) (xs := [.int (x : Int), .int (y : Int)]) (fun i => ([PyData.int (x * hv 40 x : Nat), .int (y * hv 40 y : Nat)] : List PyData).getD i .none) (eu_tup (ea_cons (ev_var rfl) (ea_cons (ev_var rfl) ea_nil)) (by show 2 ≤ 100000; decide)) (by show 2 ≤ 40000; decide) (fun i => by rcases i with _ | _ | i <;> rfl) (fun _ => rfl) fun i z H2 e2 hz => ?_) fun psr Hj ys ej hj hdj => ?_
      · rcases i with _ | _ | i
        · cases hz
          exact ed_val (one hx40 rfl) (.int _)
        · cases hz
          exact ed_val (one hy40 rfl) (.int _)
        · cases hz
      obtain rfl : ys = [.int (x * hv 40 x : Nat), .int (y * hv 40 y : Nat)] := by
        cases hdj with | cons h1 hdj =>
        cases hdj with | cons h2 hdj =>
        cases hdj
        rw [dp_intD h1, dp_intD h2]
      have xj := xi.trans ej
      have sh2 : ∀ a b : Int, SeqAt.shaped (.list [.int a, .int b]) = true := fun a b => sh_intl [a, b]
      have sh4 : ∀ a b c d : Int, SeqAt.shaped (.list [.int a, .int b, .int c, .int d]) = true := fun a b c d => sh_intl [a, b, c, d]
      have hx100 : x < 2 ^ 100 := by omega
      have hy100 : y < 2 ^ 100 := by omega
      have hx60 : x < 2 ^ 60 := by omega
      have hy60 : y < 2 ^ 60 := by omega
      refine q_when (b := !decide (V.int (hv 40 x : Nat) = V.int (hv 40 x : Nat)) || !PyData.eqv (.list [.int (x * hv 40 x : Nat), .int (y * hv 40 y : Nat)]) (.list [.int (x * hv 40 x : Nat), .int (y * hv 40 y : Nat)])) (et_or (et_test (ev_op (ec_halv (ev_var rfl)) (ec_lhalv (ev_var rfl) hx40) (rv_ne rfl))) fun _ => et_test (ev_neD (ed_lst (ld_lst (ad_cons (ed_val (ec_sort (ev_var rfl) hx100) (.int _)) (ad_cons (ed_val (ec_sort (ev_var rfl) hy100) (.int _)) ad_nil)) (by show 2 ≤ 100000; decide))) (ed_val (ev_var rfl) (.lst (sq_of hj) (.cons (.int _) (.cons (.int _) .nil)))) (sh2 _ _) (sh2 _ _))) (fun hb => by rw [er (sh2 _ _)] at hb; simp at hb) fun _ Hk ek => ?_
      have hj' := ek _ _ hj
      refine q_asgL (xs := [.int (x + 2 * y : Nat), .int (2 * x + y : Nat), .int (x * hv 40 x + y * hv 40 y + x + y : Nat), .int (x + x * y : Nat)]) (el_lst (ea_cons (ev_is (ev_op (ev_var rfl) (ev_op ev_c (ev_var rfl) (rv_I (.inl ⟨by decide, by decide⟩))) rv_I0) (by rw [Int.natCast_add, Int.natCast_mul]; rfl)) (ea_cons (ev_is (ev_op (ev_op ev_c (ev_var rfl) (rv_I (.inl ⟨by decide, by decide⟩))) (ev_var rfl) rv_I0) (by rw [Int.natCast_add, Int.natCast_mul]; rfl)) (ea_cons (ev_is (ev_op (ev_op (ev_op (ev_op (ev_var rfl) ev_c (rv_ixL (i := ((0 : Nat) : Int)) (sq_of hj') (atI_nat rfl))) (ev_op (ev_var rfl) ev_c (rv_ixL (i := ((1 : Nat) : Int)) (sq_of hj') (atI_nat rfl))) rv_I0) (ev_var rfl) rv_I0) (ev_var rfl) rv_I0) (by rw [Int.natCast_add, Int.natCast_add, Int.natCast_add])) (ea_cons (ev_is (ev_op (ev_var rfl) (ev_op (ev_var rfl) (ev_var rfl) (rv_I (wide_mul (jc_bound hx60) (jc_bound hy60) (by decide) (by decide) (by decide)))) rv_I0) (by rw [Int.natCast_add, Int.natCast_mul])) ea_nil)))) (by show 4 ≤ 100000; decide)) fun pdu Hl hpdu el hl => ?_
      refine q_asgL (xs := (List.range (waysL.map V.str).length).map fun i => V.int (jc (waysL.getD i "") x y : Nat)) (el_lcT (K := K) (fun i => V.int (jc (waysL.getD i "") x y : Nat)) ev_c (h_WAYS _) (by decide) (fun _ => rfl) fun i z H2 e2 hz => ?_) fun pto Hm hpto em hm => ?_
      · have hz2 : (waysL.map V.str)[i]? = some z := hz
        rw [List.getElem?_map] at hz2
        obtain ⟨s, hs, rfl⟩ := Option.map_eq_some_iff.mp hz2
        rw [show waysL.getD i "" = s by rw [List.getD_eq_getElem?_getD, hs]; rfl]
        exact ec_join (ev_var rfl) (ev_var rfl) (ev_var rfl) hx60 hy60
      have hto : ((List.range (waysL.map V.str).length).map fun i => V.int (jc (waysL.getD i "") x y : Nat)) = [.int (x + 2 * y : Nat), .int (2 * x + y : Nat), .int (x * hv 40 x + y * hv 40 y + x + y : Nat), .int (x + x * y : Nat)] := by
        show [V.int (jc "hash right" x y : Nat), .int (jc "hash left" x y : Nat), .int (jc "merge" x y : Nat), .int (jc "loop" x y : Nat)] = _
        have j1 : jc "hash right" x y = x + 2 * y := by unfold jc; rw [if_neg (by decide +kernel), if_pos rfl]
        have j2 : jc "hash left" x y = 2 * x + y := by unfold jc; rw [if_neg (by decide +kernel), if_neg (by decide +kernel), if_pos rfl]
        have j3 : jc "merge" x y = x * hv 40 x + y * hv 40 y + x + y := by unfold jc; rw [if_neg (by decide +kernel), if_neg (by decide +kernel), if_neg (by decide +kernel)]
        have j4 : jc "loop" x y = x + x * y := by unfold jc; rw [if_pos rfl]
        rw [j1, j2, j3, j4]
      rw [hto] at hm
      have g1 : gc "hash" x = 2 * x := by unfold gc; rw [if_pos rfl]
      have g2 : gc "sort" x = x * hv 40 x + x := by unfold gc; rw [if_neg (by decide +kernel)]
      have hjm := (ek.trans (el.trans em)) _ _ hj
      have hlm := em _ _ hl
      refine q_when (b := !PyData.eqv (.list [.int (x + 2 * y : Nat), .int (2 * x + y : Nat), .int (x * hv 40 x + y * hv 40 y + x + y : Nat), .int (x + x * y : Nat)]) (.list [.int (x + 2 * y : Nat), .int (2 * x + y : Nat), .int (x * hv 40 x + y * hv 40 y + x + y : Nat), .int (x + x * y : Nat)]) || !PyData.eqv (.list [.int (2 * x : Nat), .int (x * hv 40 x + x : Nat)]) (.list [.int (2 * x : Nat), .int (x * hv 40 x + x : Nat)])) (et_or (et_test (ev_neD (ed_val (ev_var rfl) (.lst (sq_of hm) (.cons (.int _) (.cons (.int _) (.cons (.int _) (.cons (.int _) .nil)))))) (ed_val (ev_var rfl) (.lst (sq_of hlm) (.cons (.int _) (.cons (.int _) (.cons (.int _) (.cons (.int _) .nil)))))) (sh4 _ _ _ _) (sh4 _ _ _ _))) fun _ => et_test (ev_neD (ed_lst (ld_lst (ad_cons (ed_val (ev_is (ec_group (way := "hash") ev_c (ev_var rfl) hx60) (by rw [g1])) (.int _)) (ad_cons (ed_val (ev_is (ec_group (way := "sort") ev_c (ev_var rfl) hx60) (by rw [g2])) (.int _)) ad_nil)) (by show 2 ≤ 100000; decide))) (ed_lst (ld_lst (ad_cons (ed_val (ev_is (ev_op ev_c (ev_var rfl) (rv_I (.inl ⟨by decide, by decide⟩))) (by rw [Int.natCast_mul]; rfl)) (.int _)) (ad_cons (ed_val (ev_is (ev_op (ev_op (ev_var rfl) ev_c (rv_ixL (i := ((0 : Nat) : Int)) (sq_of hjm) (atI_nat rfl))) (ev_var rfl) rv_I0) (by rw [Int.natCast_add])) (.int _)) ad_nil)) (by show 2 ≤ 100000; decide))) (sh2 _ _) (sh2 _ _))) (fun hb => by rw [er (sh4 _ _ _ _), er (sh2 _ _)] at hb; simp at hb) fun _ Hn en => ?_
      have xn : Ex Ho Hn := xj.trans (ek.trans (el.trans (em.trans en)))
      have hmn := en _ _ hm
      refine s_forLn (ev_var rfl) (sq_of hmn) (fun i2 σ' H' => ∃ nuv : Option V, σ' = [some (.ref a), some (.int (i : Int)), some (.ref ps), some (.int (m : Int)), some (.int (wn : Int)), some v, jv, some (.int (x : Int)), some (.int (y : Int)), some (.ref psr), some (.ref pdu), some (.ref pto), nuv, wyv] ∧ Ex Hn H') (fun H2 e2 => ⟨_, rfl, e2⟩) (fun i2 σ' H' _ pw => ?_) (fun i2 z σ' H' hz pw => ?_) fun σ' H' pw => ?_
      · obtain ⟨nuv, rfl, e9⟩ := pw
        exact sq_of (e9 _ _ hmn)
      · obtain ⟨nuv, rfl, e9⟩ := pw
        obtain ⟨nz, rfl⟩ : ∃ nz : Int, z = .int nz := by
          have := List.mem_of_getElem? hz
          simp only [List.mem_cons, List.not_mem_nil, or_false] at this
          rcases this with rfl | rfl | rfl | rfl <;> exact ⟨_, rfl⟩
        exact s_when (b := !true) (et_not (et_B (ec_isint (ev_var rfl)))) (fun hb => by simp at hb) fun _ H2 e2 => ⟨_, rfl, e9.trans e2⟩
      · obtain ⟨nuv, rfl, e9⟩ := pw
        exact ⟨_, _, _, _, _, _, _, _, _, _, _, _, _, rfl, xo.trans (xn.trans e9)⟩
  · obtain ⟨kv, sv, mv, wv, cv, jv, xv, yv, sov, duv, tov, nuv, wyv, rfl, xo⟩ := pv
    exact s_ret ev_c fun _ _ => rfl
end

theorem all_mk {P : Program} {w : World} {K : PySem.W.Frag} {h : Heap} {mg : Str → Option Value} {fa : Addr} (X : K.In h) (G : h.Ns mainGlobals mg) (hfa : mg "law" = some (.ref fa))
    {f0 : Addr} {od0 an0 : Option Addr} {sl0 : Array (Option Value)} {oc0 kV0 dc0 pm0 cd0 ct0 : Value} (a0 : PySem.W.nsIn K mainGlobals "parts_of" = some (some (.ref f0))) (l0 : K.lookup f0 = some ⟨oc0, od0, .func (PySem.W.fnOf "parts_of" "parts_of" (C8.fnArgs s_parts_of) (C8.fnBody s_parts_of) (C8.fnScope s_parts_of) .none kV0 dc0 pm0 an0 cd0 ct0), sl0⟩) (b0 : PySem.W.codeIn K cd0 "parts_of" = true) (k0 : PySem.W.keepIn K (.ref f0) = true)
    {f1 : Addr} {od1 an1 : Option Addr} {sl1 : Array (Option Value)} {oc1 kV1 dc1 pm1 cd1 ct1 : Value} (a1 : PySem.W.nsIn K mainGlobals "_with_parts" = some (some (.ref f1))) (l1 : K.lookup f1 = some ⟨oc1, od1, .func (PySem.W.fnOf "_with_parts" "_with_parts" (C8.fnArgs s__with_parts) (C8.fnBody s__with_parts) (C8.fnScope s__with_parts) .none kV1 dc1 pm1 an1 cd1 ct1), sl1⟩) (b1 : PySem.W.codeIn K cd1 "_with_parts" = true) (k1 : PySem.W.keepIn K (.ref f1) = true)
    {f2 : Addr} {od2 an2 : Option Addr} {sl2 : Array (Option Value)} {oc2 kV2 dc2 pm2 cd2 ct2 : Value} (a2 : PySem.W.nsIn K mainGlobals "columns_of" = some (some (.ref f2))) (l2 : K.lookup f2 = some ⟨oc2, od2, .func (PySem.W.fnOf "columns_of" "columns_of" (C8.fnArgs s_columns_of) (C8.fnBody s_columns_of) (C8.fnScope s_columns_of) .none kV2 dc2 pm2 an2 cd2 ct2), sl2⟩) (b2 : PySem.W.codeIn K cd2 "columns_of" = true) (k2 : PySem.W.keepIn K (.ref f2) = true)
    {f3 : Addr} {od3 an3 : Option Addr} {sl3 : Array (Option Value)} {oc3 kV3 dc3 pm3 cd3 ct3 : Value} (a3 : PySem.W.nsIn K mainGlobals "moved" = some (some (.ref f3))) (l3 : K.lookup f3 = some ⟨oc3, od3, .func (PySem.W.fnOf "moved" "moved" (C8.fnArgs s_moved) (C8.fnBody s_moved) (C8.fnScope s_moved) .none kV3 dc3 pm3 an3 cd3 ct3), sl3⟩) (b3 : PySem.W.codeIn K cd3 "moved" = true) (k3 : PySem.W.keepIn K (.ref f3) = true)
    {f4 : Addr} {od4 an4 : Option Addr} {sl4 : Array (Option Value)} {oc4 kV4 dc4 pm4 cd4 ct4 : Value} (a4 : PySem.W.nsIn K mainGlobals "condition_parts" = some (some (.ref f4))) (l4 : K.lookup f4 = some ⟨oc4, od4, .func (PySem.W.fnOf "condition_parts" "condition_parts" (C8.fnArgs s_condition_parts) (C8.fnBody s_condition_parts) (C8.fnScope s_condition_parts) .none kV4 dc4 pm4 an4 cd4 ct4), sl4⟩) (b4 : PySem.W.codeIn K cd4 "condition_parts" = true) (k4 : PySem.W.keepIn K (.ref f4) = true)
    {f5 : Addr} {od5 an5 : Option Addr} {sl5 : Array (Option Value)} {oc5 kV5 dc5 pm5 cd5 ct5 : Value} (a5 : PySem.W.nsIn K mainGlobals "conjunction" = some (some (.ref f5))) (l5 : K.lookup f5 = some ⟨oc5, od5, .func (PySem.W.fnOf "conjunction" "conjunction" (C8.fnArgs s_conjunction) (C8.fnBody s_conjunction) (C8.fnScope s_conjunction) .none kV5 dc5 pm5 an5 cd5 ct5), sl5⟩) (b5 : PySem.W.codeIn K cd5 "conjunction" = true) (k5 : PySem.W.keepIn K (.ref f5) = true)
    {f6 : Addr} {od6 an6 : Option Addr} {sl6 : Array (Option Value)} {oc6 kV6 dc6 pm6 cd6 ct6 : Value} (a6 : PySem.W.nsIn K mainGlobals "uses_only" = some (some (.ref f6))) (l6 : K.lookup f6 = some ⟨oc6, od6, .func (PySem.W.fnOf "uses_only" "uses_only" (C8.fnArgs s_uses_only) (C8.fnBody s_uses_only) (C8.fnScope s_uses_only) .none kV6 dc6 pm6 an6 cd6 ct6), sl6⟩) (b6 : PySem.W.codeIn K cd6 "uses_only" = true) (k6 : PySem.W.keepIn K (.ref f6) = true)
    {f7 : Addr} {od7 an7 : Option Addr} {sl7 : Array (Option Value)} {oc7 kV7 dc7 pm7 cd7 ct7 : Value} (a7 : PySem.W.nsIn K mainGlobals "halvings" = some (some (.ref f7))) (l7 : K.lookup f7 = some ⟨oc7, od7, .func (PySem.W.fnOf "halvings" "halvings" (C8.fnArgs s_halvings) (C8.fnBody s_halvings) (C8.fnScope s_halvings) .none kV7 dc7 pm7 an7 cd7 ct7), sl7⟩) (b7 : PySem.W.codeIn K cd7 "halvings" = true) (k7 : PySem.W.keepIn K (.ref f7) = true)
    {f8 : Addr} {od8 an8 : Option Addr} {sl8 : Array (Option Value)} {oc8 kV8 dc8 pm8 cd8 ct8 : Value} (a8 : PySem.W.nsIn K mainGlobals "sort_cost" = some (some (.ref f8))) (l8 : K.lookup f8 = some ⟨oc8, od8, .func (PySem.W.fnOf "sort_cost" "sort_cost" (C8.fnArgs s_sort_cost) (C8.fnBody s_sort_cost) (C8.fnScope s_sort_cost) .none kV8 dc8 pm8 an8 cd8 ct8), sl8⟩) (b8 : PySem.W.codeIn K cd8 "sort_cost" = true) (k8 : PySem.W.keepIn K (.ref f8) = true)
    {f9 : Addr} {od9 an9 : Option Addr} {sl9 : Array (Option Value)} {oc9 kV9 dc9 pm9 cd9 ct9 : Value} (a9 : PySem.W.nsIn K mainGlobals "join_cost" = some (some (.ref f9))) (l9 : K.lookup f9 = some ⟨oc9, od9, .func (PySem.W.fnOf "join_cost" "join_cost" (C8.fnArgs s_join_cost) (C8.fnBody s_join_cost) (C8.fnScope s_join_cost) .none kV9 dc9 pm9 an9 cd9 ct9), sl9⟩) (b9 : PySem.W.codeIn K cd9 "join_cost" = true) (k9 : PySem.W.keepIn K (.ref f9) = true)
    {f10 : Addr} {od10 an10 : Option Addr} {sl10 : Array (Option Value)} {oc10 kV10 dc10 pm10 cd10 ct10 : Value} (a10 : PySem.W.nsIn K mainGlobals "group_cost" = some (some (.ref f10))) (l10 : K.lookup f10 = some ⟨oc10, od10, .func (PySem.W.fnOf "group_cost" "group_cost" (C8.fnArgs s_group_cost) (C8.fnBody s_group_cost) (C8.fnScope s_group_cost) .none kV10 dc10 pm10 an10 cd10 ct10), sl10⟩) (b10 : PySem.W.codeIn K cd10 "group_cost" = true) (k10 : PySem.W.keepIn K (.ref f10) = true)
    {f11 : Addr} {od11 an11 : Option Addr} {sl11 : Array (Option Value)} {oc11 kV11 dc11 pm11 cd11 ct11 : Value} (a11 : PySem.W.nsIn K mainGlobals "_is_left" = some (some (.ref f11))) (l11 : K.lookup f11 = some ⟨oc11, od11, .func (PySem.W.fnOf "_is_left" "_is_left" (C8.fnArgs s__is_left) (C8.fnBody s__is_left) (C8.fnScope s__is_left) .none kV11 dc11 pm11 an11 cd11 ct11), sl11⟩) (b11 : PySem.W.codeIn K cd11 "_is_left" = true) (k11 : PySem.W.keepIn K (.ref f11) = true)
    {f12 : Addr} {od12 an12 : Option Addr} {sl12 : Array (Option Value)} {oc12 kV12 dc12 pm12 cd12 ct12 : Value} (a12 : PySem.W.nsIn K mainGlobals "_is_right" = some (some (.ref f12))) (l12 : K.lookup f12 = some ⟨oc12, od12, .func (PySem.W.fnOf "_is_right" "_is_right" (C8.fnArgs s__is_right) (C8.fnBody s__is_right) (C8.fnScope s__is_right) .none kV12 dc12 pm12 an12 cd12 ct12), sl12⟩) (b12 : PySem.W.codeIn K cd12 "_is_right" = true) (k12 : PySem.W.keepIn K (.ref f12) = true)
    {f13 : Addr} {od13 an13 : Option Addr} {sl13 : Array (Option Value)} {oc13 kV13 dc13 pm13 cd13 ct13 : Value} (a13 : PySem.W.nsIn K mainGlobals "_key_in" = some (some (.ref f13))) (l13 : K.lookup f13 = some ⟨oc13, od13, .func (PySem.W.fnOf "_key_in" "_key_in" (C8.fnArgs s__key_in) (C8.fnBody s__key_in) (C8.fnScope s__key_in) .none kV13 dc13 pm13 an13 cd13 ct13), sl13⟩) (b13 : PySem.W.codeIn K cd13 "_key_in" = true) (k13 : PySem.W.keepIn K (.ref f13) = true)
    {f14 : Addr} {od14 an14 : Option Addr} {sl14 : Array (Option Value)} {oc14 kV14 dc14 pm14 cd14 ct14 : Value} (a14 : PySem.W.nsIn K mainGlobals "keys_of" = some (some (.ref f14))) (l14 : K.lookup f14 = some ⟨oc14, od14, .func (PySem.W.fnOf "keys_of" "keys_of" (C8.fnArgs s_keys_of) (C8.fnBody s_keys_of) (C8.fnScope s_keys_of) .none kV14 dc14 pm14 an14 cd14 ct14), sl14⟩) (b14 : PySem.W.codeIn K cd14 "keys_of" = true) (k14 : PySem.W.keepIn K (.ref f14) = true)
    {f15 : Addr} {od15 an15 : Option Addr} {sl15 : Array (Option Value)} {oc15 kV15 dc15 pm15 cd15 ct15 : Value} (a15 : PySem.W.nsIn K mainGlobals "_law_cell" = some (some (.ref f15))) (l15 : K.lookup f15 = some ⟨oc15, od15, .func (PySem.W.fnOf "_law_cell" "_law_cell" (C8.fnArgs s__law_cell) (C8.fnBody s__law_cell) (C8.fnScope s__law_cell) .none kV15 dc15 pm15 an15 cd15 ct15), sl15⟩) (b15 : PySem.W.codeIn K cd15 "_law_cell" = true) (k15 : PySem.W.keepIn K (.ref f15) = true)
    {f16 : Addr} {od16 an16 : Option Addr} {sl16 : Array (Option Value)} {oc16 kV16 dc16 pm16 cd16 ct16 : Value} (a16 : PySem.W.nsIn K mainGlobals "_law_state" = some (some (.ref f16))) (l16 : K.lookup f16 = some ⟨oc16, od16, .func (PySem.W.fnOf "_law_state" "_law_state" (C8.fnArgs s__law_state) (C8.fnBody s__law_state) (C8.fnScope s__law_state) .none kV16 dc16 pm16 an16 cd16 ct16), sl16⟩) (b16 : PySem.W.codeIn K cd16 "_law_state" = true) (k16 : PySem.W.keepIn K (.ref f16) = true)
    {f17 : Addr} {od17 an17 : Option Addr} {sl17 : Array (Option Value)} {oc17 kV17 dc17 pm17 cd17 ct17 : Value} (a17 : PySem.W.nsIn K mainGlobals "_law_digit" = some (some (.ref f17))) (l17 : K.lookup f17 = some ⟨oc17, od17, .func (PySem.W.fnOf "_law_digit" "_law_digit" (C8.fnArgs s__law_digit) (C8.fnBody s__law_digit) (C8.fnScope s__law_digit) .none kV17 dc17 pm17 an17 cd17 ct17), sl17⟩) (b17 : PySem.W.codeIn K cd17 "_law_digit" = true) (k17 : PySem.W.keepIn K (.ref f17) = true)
    {f18 : Addr} {od18 an18 : Option Addr} {sl18 : Array (Option Value)} {oc18 kV18 dc18 pm18 cd18 ct18 : Value} (a18 : PySem.W.nsIn K mainGlobals "_law_is_integer" = some (some (.ref f18))) (l18 : K.lookup f18 = some ⟨oc18, od18, .func (PySem.W.fnOf "_law_is_integer" "_law_is_integer" (C8.fnArgs s__law_is_integer) (C8.fnBody s__law_is_integer) (C8.fnScope s__law_is_integer) .none kV18 dc18 pm18 an18 cd18 ct18), sl18⟩) (b18 : PySem.W.codeIn K cd18 "_law_is_integer" = true) (k18 : PySem.W.keepIn K (.ref f18) = true)
    {f19 : Addr} {od19 an19 : Option Addr} {sl19 : Array (Option Value)} {oc19 kV19 dc19 pm19 cd19 ct19 : Value} (a19 : PySem.W.nsIn K mainGlobals "_law_text" = some (some (.ref f19))) (l19 : K.lookup f19 = some ⟨oc19, od19, .func (PySem.W.fnOf "_law_text" "_law_text" (C8.fnArgs s__law_text) (C8.fnBody s__law_text) (C8.fnScope s__law_text) .none kV19 dc19 pm19 an19 cd19 ct19), sl19⟩) (b19 : PySem.W.codeIn K cd19 "_law_text" = true) (k19 : PySem.W.keepIn K (.ref f19) = true)
    {f20 : Addr} {od20 an20 : Option Addr} {sl20 : Array (Option Value)} {oc20 kV20 dc20 pm20 cd20 ct20 : Value} (a20 : PySem.W.nsIn K mainGlobals "_law_value" = some (some (.ref f20))) (l20 : K.lookup f20 = some ⟨oc20, od20, .func (PySem.W.fnOf "_law_value" "_law_value" (C8.fnArgs s__law_value) (C8.fnBody s__law_value) (C8.fnScope s__law_value) .none kV20 dc20 pm20 an20 cd20 ct20), sl20⟩) (b20 : PySem.W.codeIn K cd20 "_law_value" = true) (k20 : PySem.W.keepIn K (.ref f20) = true)
    {f21 : Addr} {od21 an21 : Option Addr} {sl21 : Array (Option Value)} {oc21 kV21 dc21 pm21 cd21 ct21 : Value} (a21 : PySem.W.nsIn K mainGlobals "_law_condition" = some (some (.ref f21))) (l21 : K.lookup f21 = some ⟨oc21, od21, .func (PySem.W.fnOf "_law_condition" "_law_condition" (C8.fnArgs s__law_condition) (C8.fnBody s__law_condition) (C8.fnScope s__law_condition) .none kV21 dc21 pm21 an21 cd21 ct21), sl21⟩) (b21 : PySem.W.codeIn K cd21 "_law_condition" = true) (k21 : PySem.W.keepIn K (.ref f21) = true)
    {f22 : Addr} {od22 an22 : Option Addr} {sl22 : Array (Option Value)} {oc22 kV22 dc22 pm22 cd22 ct22 : Value} (a22 : PySem.W.nsIn K mainGlobals "_law_parts" = some (some (.ref f22))) (l22 : K.lookup f22 = some ⟨oc22, od22, .func (PySem.W.fnOf "_law_parts" "_law_parts" (C8.fnArgs s__law_parts) (C8.fnBody s__law_parts) (C8.fnScope s__law_parts) .none kV22 dc22 pm22 an22 cd22 ct22), sl22⟩) (b22 : PySem.W.codeIn K cd22 "_law_parts" = true) (k22 : PySem.W.keepIn K (.ref f22) = true)
    {f23 : Addr} {od23 an23 : Option Addr} {sl23 : Array (Option Value)} {oc23 kV23 dc23 pm23 cd23 ct23 : Value} (a23 : PySem.W.nsIn K mainGlobals "_law_joined" = some (some (.ref f23))) (l23 : K.lookup f23 = some ⟨oc23, od23, .func (PySem.W.fnOf "_law_joined" "_law_joined" (C8.fnArgs s__law_joined) (C8.fnBody s__law_joined) (C8.fnScope s__law_joined) .none kV23 dc23 pm23 an23 cd23 ct23), sl23⟩) (b23 : PySem.W.codeIn K cd23 "_law_joined" = true) (k23 : PySem.W.keepIn K (.ref f23) = true)
    {f24 : Addr} {od24 an24 : Option Addr} {sl24 : Array (Option Value)} {oc24 kV24 dc24 pm24 cd24 ct24 : Value} (a24 : PySem.W.nsIn K mainGlobals "_law_used" = some (some (.ref f24))) (l24 : K.lookup f24 = some ⟨oc24, od24, .func (PySem.W.fnOf "_law_used" "_law_used" (C8.fnArgs s__law_used) (C8.fnBody s__law_used) (C8.fnScope s__law_used) .none kV24 dc24 pm24 an24 cd24 ct24), sl24⟩) (b24 : PySem.W.codeIn K cd24 "_law_used" = true) (k24 : PySem.W.keepIn K (.ref f24) = true)
    {f25 : Addr} {od25 an25 : Option Addr} {sl25 : Array (Option Value)} {oc25 kV25 dc25 pm25 cd25 ct25 : Value} (a25 : PySem.W.nsIn K mainGlobals "_law_moved" = some (some (.ref f25))) (l25 : K.lookup f25 = some ⟨oc25, od25, .func (PySem.W.fnOf "_law_moved" "_law_moved" (C8.fnArgs s__law_moved) (C8.fnBody s__law_moved) (C8.fnScope s__law_moved) .none kV25 dc25 pm25 an25 cd25 ct25), sl25⟩) (b25 : PySem.W.codeIn K cd25 "_law_moved" = true) (k25 : PySem.W.keepIn K (.ref f25) = true)
    {f26 : Addr} {od26 an26 : Option Addr} {sl26 : Array (Option Value)} {oc26 kV26 dc26 pm26 cd26 ct26 : Value} (a26 : PySem.W.nsIn K mainGlobals "_law_side" = some (some (.ref f26))) (l26 : K.lookup f26 = some ⟨oc26, od26, .func (PySem.W.fnOf "_law_side" "_law_side" (C8.fnArgs s__law_side) (C8.fnBody s__law_side) (C8.fnScope s__law_side) .none kV26 dc26 pm26 an26 cd26 ct26), sl26⟩) (b26 : PySem.W.codeIn K cd26 "_law_side" = true) (k26 : PySem.W.keepIn K (.ref f26) = true)
    {f27 : Addr} {od27 an27 : Option Addr} {sl27 : Array (Option Value)} {oc27 kV27 dc27 pm27 cd27 ct27 : Value} (a27 : PySem.W.nsIn K mainGlobals "_law_due" = some (some (.ref f27))) (l27 : K.lookup f27 = some ⟨oc27, od27, .func (PySem.W.fnOf "_law_due" "_law_due" (C8.fnArgs s__law_due) (C8.fnBody s__law_due) (C8.fnScope s__law_due) .none kV27 dc27 pm27 an27 cd27 ct27), sl27⟩) (b27 : PySem.W.codeIn K cd27 "_law_due" = true) (k27 : PySem.W.keepIn K (.ref f27) = true)
    {f28 : Addr} {od28 an28 : Option Addr} {sl28 : Array (Option Value)} {oc28 kV28 dc28 pm28 cd28 ct28 : Value} (a28 : PySem.W.nsIn K mainGlobals "_law_equal" = some (some (.ref f28))) (l28 : K.lookup f28 = some ⟨oc28, od28, .func (PySem.W.fnOf "_law_equal" "_law_equal" (C8.fnArgs s__law_equal) (C8.fnBody s__law_equal) (C8.fnScope s__law_equal) .none kV28 dc28 pm28 an28 cd28 ct28), sl28⟩) (b28 : PySem.W.codeIn K cd28 "_law_equal" = true) (k28 : PySem.W.keepIn K (.ref f28) = true)
    {f29 : Addr} {od29 an29 : Option Addr} {sl29 : Array (Option Value)} {oc29 kV29 dc29 pm29 cd29 ct29 : Value} (a29 : PySem.W.nsIn K mainGlobals "_law_halved" = some (some (.ref f29))) (l29 : K.lookup f29 = some ⟨oc29, od29, .func (PySem.W.fnOf "_law_halved" "_law_halved" (C8.fnArgs s__law_halved) (C8.fnBody s__law_halved) (C8.fnScope s__law_halved) .none kV29 dc29 pm29 an29 cd29 ct29), sl29⟩) (b29 : PySem.W.codeIn K cd29 "_law_halved" = true) (k29 : PySem.W.keepIn K (.ref f29) = true)
    {f30 : Addr} {od30 an30 : Option Addr} {sl30 : Array (Option Value)} {oc30 kV30 dc30 pm30 cd30 ct30 : Value} (a30 : PySem.W.nsIn K mainGlobals "law" = some (some (.ref f30))) (l30 : K.lookup f30 = some ⟨oc30, od30, .func (PySem.W.fnOf "law" "law" (C8.fnArgs s_law) (C8.fnBody s_law) (C8.fnScope s_law) .none kV30 dc30 pm30 an30 cd30 ct30), sl30⟩) (b30 : PySem.W.codeIn K cd30 "law" = true) (k30 : PySem.W.keepIn K (.ref f30) = true)
    (z_bool : PySem.W.nsIn K mainGlobals "bool" = some none)
    (z_int : PySem.W.nsIn K mainGlobals "int" = some none)
    (z_isinstance : PySem.W.nsIn K mainGlobals "isinstance" = some none)
    (z_len : PySem.W.nsIn K mainGlobals "len" = some none)
    (z_max : PySem.W.nsIn K mainGlobals "max" = some none)
    (z_min : PySem.W.nsIn K mainGlobals "min" = some none)
    (z_range : PySem.W.nsIn K mainGlobals "range" = some none)
    (z_repr : PySem.W.nsIn K mainGlobals "repr" = some none)
    (z_sorted : PySem.W.nsIn K mainGlobals "sorted" = some none)
    (z_tuple : PySem.W.nsIn K mainGlobals "tuple" = some none)
    {p_WAYS : Addr} (q_WAYS : PySem.W.nsIn K mainGlobals "WAYS" = some (some (.ref p_WAYS))) (r_WAYS : ∀ H : Hp, SqT K H p_WAYS ([.str "hash right", .str "hash left", .str "merge", .str "loop"]))
    {p__FIRST_PART : Addr} {es__FIRST_PART : Array DictEntry} {n__FIRST_PART : Nat} (q__FIRST_PART : PySem.W.nsIn K mainGlobals "_FIRST_PART" = some (some (.ref p__FIRST_PART))) (ka__FIRST_PART : K.lookup p__FIRST_PART = some ⟨.type "dict", none, .dict es__FIRST_PART n__FIRST_PART, #[]⟩) (kl__FIRST_PART : PySem.W.KeysLit w.params es__FIRST_PART.toList) (ko__FIRST_PART : (p__FIRST_PART == sysModules) = false)
    {tk__FIRST_PART_0 : Tok} (e__FIRST_PART_0 : PySem.W.nsIn K p__FIRST_PART "constant" = some (some (.int 2 tk__FIRST_PART_0)))
    {tk__FIRST_PART_1 : Tok} (e__FIRST_PART_1 : PySem.W.nsIn K p__FIRST_PART "column" = some (some (.int 2 tk__FIRST_PART_1)))
    {tk__FIRST_PART_2 : Tok} (e__FIRST_PART_2 : PySem.W.nsIn K p__FIRST_PART "unary" = some (some (.int 2 tk__FIRST_PART_2)))
    {tk__FIRST_PART_3 : Tok} (e__FIRST_PART_3 : PySem.W.nsIn K p__FIRST_PART "binary" = some (some (.int 2 tk__FIRST_PART_3)))
    {tk__FIRST_PART_4 : Tok} (e__FIRST_PART_4 : PySem.W.nsIn K p__FIRST_PART "ternary" = some (some (.int 2 tk__FIRST_PART_4)))
    {tk__FIRST_PART_5 : Tok} (e__FIRST_PART_5 : PySem.W.nsIn K p__FIRST_PART "choice" = some (some (.int 1 tk__FIRST_PART_5)))
    {t__MOST_HALVINGS : Tok} (q__MOST_HALVINGS : PySem.W.nsIn K mainGlobals "_MOST_HALVINGS" = some (some (.int (40) t__MOST_HALVINGS)))
    {p__TRUE : Addr} (q__TRUE : PySem.W.nsIn K mainGlobals "_TRUE" = some (some (.ref p__TRUE))) (r__TRUE : ∀ H : Hp, SqT K H p__TRUE ([.str "constant", .bl true]))
    : ∃ fd : FuncData, C8.Def K mg "law" s_law fa fd ∧ (∀ (s : Shared) (u : Value), BindsTo s fd ⟨[u], []⟩ [("script", u)]) ∧ ∀ (base : Heap) (s : Shared) (H : Hp) (a : Addr) (ns : List Int) (cdv : Value), K.In base → base.Ns mainGlobals mg → base.NoDigits → ns.length ≤ 63 → SqL K H a (ns.map V.int) → Room 12 (callerA.deeper (envOfC "law" (C8.fnScope s_law) s.heap.objs.size fa cdv)) → ∃ t, PSs (cxOf C8.CX0 P w K mg base n_law "law" (C8.fnScope s_law) fa cdv callerA [] s H C8.E0).nox (C8.fnBody s_law) t ∧ t { nx := fun _ _ => V.non = .bl true, rt := fun v _ => v = .bl true } (start n_law [.ref a]) H := by
  have D_parts_of : Dn K mg "parts_of" s_parts_of ["expression"] := dn_mk l0 b0 k0 (PySem.W.mg_of X G a0) (fun _ _ _ _ _ _ us hl => match us, hl with | [_], _ => rfl)
  have D__with_parts : Dn K mg "_with_parts" s__with_parts ["expression", "parts"] := dn_mk l1 b1 k1 (PySem.W.mg_of X G a1) (fun _ _ _ _ _ _ us hl => match us, hl with | [_, _], _ => rfl)
  have D_columns_of : Dn K mg "columns_of" s_columns_of ["expression"] := dn_mk l2 b2 k2 (PySem.W.mg_of X G a2) (fun _ _ _ _ _ _ us hl => match us, hl with | [_], _ => rfl)
  have D_moved : Dn K mg "moved" s_moved ["expression", "distance"] := dn_mk l3 b3 k3 (PySem.W.mg_of X G a3) (fun _ _ _ _ _ _ us hl => match us, hl with | [_, _], _ => rfl)
  have D_condition_parts : Dn K mg "condition_parts" s_condition_parts ["condition"] := dn_mk l4 b4 k4 (PySem.W.mg_of X G a4) (fun _ _ _ _ _ _ us hl => match us, hl with | [_], _ => rfl)
  have D_conjunction : Dn K mg "conjunction" s_conjunction ["conditions"] := dn_mk l5 b5 k5 (PySem.W.mg_of X G a5) (fun _ _ _ _ _ _ us hl => match us, hl with | [_], _ => rfl)
  have D_uses_only : Dn K mg "uses_only" s_uses_only ["expression", "low", "high"] := dn_mk l6 b6 k6 (PySem.W.mg_of X G a6) (fun _ _ _ _ _ _ us hl => match us, hl with | [_, _, _], _ => rfl)
  have D_halvings : Dn K mg "halvings" s_halvings ["number"] := dn_mk l7 b7 k7 (PySem.W.mg_of X G a7) (fun _ _ _ _ _ _ us hl => match us, hl with | [_], _ => rfl)
  have D_sort_cost : Dn K mg "sort_cost" s_sort_cost ["number"] := dn_mk l8 b8 k8 (PySem.W.mg_of X G a8) (fun _ _ _ _ _ _ us hl => match us, hl with | [_], _ => rfl)
  have D_join_cost : Dn K mg "join_cost" s_join_cost ["way", "x", "y"] := dn_mk l9 b9 k9 (PySem.W.mg_of X G a9) (fun _ _ _ _ _ _ us hl => match us, hl with | [_, _, _], _ => rfl)
  have D_group_cost : Dn K mg "group_cost" s_group_cost ["way", "many"] := dn_mk l10 b10 k10 (PySem.W.mg_of X G a10) (fun _ _ _ _ _ _ us hl => match us, hl with | [_, _], _ => rfl)
  have D__is_left : Dn K mg "_is_left" s__is_left ["expression", "m"] := dn_mk l11 b11 k11 (PySem.W.mg_of X G a11) (fun _ _ _ _ _ _ us hl => match us, hl with | [_, _], _ => rfl)
  have D__is_right : Dn K mg "_is_right" s__is_right ["expression", "m"] := dn_mk l12 b12 k12 (PySem.W.mg_of X G a12) (fun _ _ _ _ _ _ us hl => match us, hl with | [_, _], _ => rfl)
  have D__key_in : Dn K mg "_key_in" s__key_in ["part", "m"] := dn_mk l13 b13 k13 (PySem.W.mg_of X G a13) (fun _ _ _ _ _ _ us hl => match us, hl with | [_, _], _ => rfl)
  have D_keys_of : Dn K mg "keys_of" s_keys_of ["condition", "m"] := dn_mk l14 b14 k14 (PySem.W.mg_of X G a14) (fun _ _ _ _ _ _ us hl => match us, hl with | [_, _], _ => rfl)
  have D__law_cell : Dn K mg "_law_cell" s__law_cell ["script", "k"] := dn_mk l15 b15 k15 (PySem.W.mg_of X G a15) (fun _ _ _ _ _ _ us hl => match us, hl with | [_, _], _ => rfl)
  have D__law_state : Dn K mg "_law_state" s__law_state ["cell", "k"] := dn_mk l16 b16 k16 (PySem.W.mg_of X G a16) (fun _ _ _ _ _ _ us hl => match us, hl with | [_, _], _ => rfl)
  have D__law_digit : Dn K mg "_law_digit" s__law_digit ["state", "many"] := dn_mk l17 b17 k17 (PySem.W.mg_of X G a17) (fun _ _ _ _ _ _ us hl => match us, hl with | [_, _], _ => rfl)
  have D__law_is_integer : Dn K mg "_law_is_integer" s__law_is_integer ["told"] := dn_mk l18 b18 k18 (PySem.W.mg_of X G a18) (fun _ _ _ _ _ _ us hl => match us, hl with | [_], _ => rfl)
  have D__law_text : Dn K mg "_law_text" s__law_text ["state"] := dn_mk l19 b19 k19 (PySem.W.mg_of X G a19) (fun _ _ _ _ _ _ us hl => match us, hl with | [_], _ => rfl)
  have D__law_value : Dn K mg "_law_value" s__law_value ["state"] := dn_mk l20 b20 k20 (PySem.W.mg_of X G a20) (fun _ _ _ _ _ _ us hl => match us, hl with | [_], _ => rfl)
  have D__law_condition : Dn K mg "_law_condition" s__law_condition ["state", "width", "depth"] := dn_mk l21 b21 k21 (PySem.W.mg_of X G a21) (fun _ _ _ _ _ _ us hl => match us, hl with | [_, _, _], _ => rfl)
  have D__law_parts : Dn K mg "_law_parts" s__law_parts ["condition"] := dn_mk l22 b22 k22 (PySem.W.mg_of X G a22) (fun _ _ _ _ _ _ us hl => match us, hl with | [_], _ => rfl)
  have D__law_joined : Dn K mg "_law_joined" s__law_joined ["conditions"] := dn_mk l23 b23 k23 (PySem.W.mg_of X G a23) (fun _ _ _ _ _ _ us hl => match us, hl with | [_], _ => rfl)
  have D__law_used : Dn K mg "_law_used" s__law_used ["expression"] := dn_mk l24 b24 k24 (PySem.W.mg_of X G a24) (fun _ _ _ _ _ _ us hl => match us, hl with | [_], _ => rfl)
  have D__law_moved : Dn K mg "_law_moved" s__law_moved ["expression", "m"] := dn_mk l25 b25 k25 (PySem.W.mg_of X G a25) (fun _ _ _ _ _ _ us hl => match us, hl with | [_, _], _ => rfl)
  have D__law_side : Dn K mg "_law_side" s__law_side ["expression", "m"] := dn_mk l26 b26 k26 (PySem.W.mg_of X G a26) (fun _ _ _ _ _ _ us hl => match us, hl with | [_, _], _ => rfl)
  have D__law_due : Dn K mg "_law_due" s__law_due ["condition", "m"] := dn_mk l27 b27 k27 (PySem.W.mg_of X G a27) (fun _ _ _ _ _ _ us hl => match us, hl with | [_, _], _ => rfl)
  have D__law_equal : Dn K mg "_law_equal" s__law_equal ["state", "width"] := dn_mk l28 b28 k28 (PySem.W.mg_of X G a28) (fun _ _ _ _ _ _ us hl => match us, hl with | [_, _], _ => rfl)
  have D__law_halved : Dn K mg "_law_halved" s__law_halved ["number"] := dn_mk l29 b29 k29 (PySem.W.mg_of X G a29) (fun _ _ _ _ _ _ us hl => match us, hl with | [_], _ => rfl)
  have y_bool : mg "bool" = none := PySem.W.mg_none_of X G z_bool
  have y_int : mg "int" = none := PySem.W.mg_none_of X G z_int
  have y_isinstance : mg "isinstance" = none := PySem.W.mg_none_of X G z_isinstance
  have y_len : mg "len" = none := PySem.W.mg_none_of X G z_len
  have y_max : mg "max" = none := PySem.W.mg_none_of X G z_max
  have y_min : mg "min" = none := PySem.W.mg_none_of X G z_min
  have y_range : mg "range" = none := PySem.W.mg_none_of X G z_range
  have y_repr : mg "repr" = none := PySem.W.mg_none_of X G z_repr
  have y_sorted : mg "sorted" = none := PySem.W.mg_none_of X G z_sorted
  have y_tuple : mg "tuple" = none := PySem.W.mg_none_of X G z_tuple
  have v_WAYS : ∃ u, mg "WAYS" = some u ∧ RelV (.ref p_WAYS) u := ⟨_, PySem.W.mg_of X G q_WAYS, rfl⟩
  have w_WAYS := r_WAYS
  have v__FIRST_PART : ∃ u, mg "_FIRST_PART" = some u ∧ RelV (.ref p__FIRST_PART) u := ⟨_, PySem.W.mg_of X G q__FIRST_PART, rfl⟩
  have w__FIRST_PART : KDict K w p__FIRST_PART es__FIRST_PART n__FIRST_PART := ⟨ka__FIRST_PART, kl__FIRST_PART, ko__FIRST_PART⟩
  have v__MOST_HALVINGS : ∃ u, mg "_MOST_HALVINGS" = some u ∧ RelV (.int (40)) u := ⟨_, PySem.W.mg_of X G q__MOST_HALVINGS, ⟨_, rfl⟩⟩
  have v__TRUE : ∃ u, mg "_TRUE" = some u ∧ RelV (.ref p__TRUE) u := ⟨_, PySem.W.mg_of X G q__TRUE, rfl⟩
  have w__TRUE := r__TRUE
  have e := hfa.symm.trans (PySem.W.mg_of X G a30)
  cases e
  have D_law := def_mk (x := "law") (st := s_law) l30 b30 k30 hfa
  refine ⟨_, D_law, fun s v => .of_eq rfl, fun base s H a ns cdv _ _ nd h63 hS hr => ?_⟩
  have c_parts_of := ok_parts_of (P := P) (w := w) (base := base) D_parts_of v__FIRST_PART w__FIRST_PART (DInts.cons e__FIRST_PART_0 (DInts.cons e__FIRST_PART_1 (DInts.cons e__FIRST_PART_2 (DInts.cons e__FIRST_PART_3 (DInts.cons e__FIRST_PART_4 (DInts.cons e__FIRST_PART_5 DInts.nil)))))) 
  have c__with_parts := ok__with_parts (P := P) (w := w) (base := base) D__with_parts y_tuple v__FIRST_PART w__FIRST_PART (DInts.cons e__FIRST_PART_0 (DInts.cons e__FIRST_PART_1 (DInts.cons e__FIRST_PART_2 (DInts.cons e__FIRST_PART_3 (DInts.cons e__FIRST_PART_4 (DInts.cons e__FIRST_PART_5 DInts.nil)))))) 
  have c_columns_of := ok_columns_of (P := P) (w := w) (base := base) D_columns_of c_parts_of y_sorted 
  have c_moved_0 : C8.Cal P w K mg base 2 "moved" (spR_moved 0 K) [] := cal_no D_moved sc_moved (fun _ _ _ _ h => h.elim)
  have c_moved_1 := ok_moved (P := P) (w := w) (base := base) (rn := 0) D_moved c__with_parts c_parts_of  c_moved_0
  have c_moved_2 := ok_moved (P := P) (w := w) (base := base) (rn := 1) D_moved c__with_parts c_parts_of  c_moved_1
  have c_moved_3 := ok_moved (P := P) (w := w) (base := base) (rn := 2) D_moved c__with_parts c_parts_of  c_moved_2
  have c_moved_4 := ok_moved (P := P) (w := w) (base := base) (rn := 3) D_moved c__with_parts c_parts_of  c_moved_3
  have c_moved_5 := ok_moved (P := P) (w := w) (base := base) (rn := 4) D_moved c__with_parts c_parts_of  c_moved_4
  have c_moved_6 := ok_moved (P := P) (w := w) (base := base) (rn := 5) D_moved c__with_parts c_parts_of  c_moved_5
  have c_moved_7 := ok_moved (P := P) (w := w) (base := base) (rn := 6) D_moved c__with_parts c_parts_of  c_moved_6
  have c_moved_8 := ok_moved (P := P) (w := w) (base := base) (rn := 7) D_moved c__with_parts c_parts_of  c_moved_7
  have c_moved : C8.Cal P w K mg base 10 "moved" (sp_moved K) [] := c_moved_8
  have c_condition_parts := ok_condition_parts (P := P) (w := w) (base := base) D_condition_parts 
  have c_conjunction_0 : C8.Cal P w K mg base 1 "conjunction" (spR_conjunction 0 K) [] := cal_no D_conjunction sc_conjunction (fun _ _ _ _ h => h.elim)
  have c_conjunction_1 := ok_conjunction (P := P) (w := w) (base := base) (rn := 0) D_conjunction y_len v__TRUE w__TRUE  c_conjunction_0
  have c_conjunction_2 := ok_conjunction (P := P) (w := w) (base := base) (rn := 1) D_conjunction y_len v__TRUE w__TRUE  c_conjunction_1
  have c_conjunction_3 := ok_conjunction (P := P) (w := w) (base := base) (rn := 2) D_conjunction y_len v__TRUE w__TRUE  c_conjunction_2
  have c_conjunction_4 := ok_conjunction (P := P) (w := w) (base := base) (rn := 3) D_conjunction y_len v__TRUE w__TRUE  c_conjunction_3
  have c_conjunction_5 := ok_conjunction (P := P) (w := w) (base := base) (rn := 4) D_conjunction y_len v__TRUE w__TRUE  c_conjunction_4
  have c_conjunction_6 := ok_conjunction (P := P) (w := w) (base := base) (rn := 5) D_conjunction y_len v__TRUE w__TRUE  c_conjunction_5
  have c_conjunction_7 := ok_conjunction (P := P) (w := w) (base := base) (rn := 6) D_conjunction y_len v__TRUE w__TRUE  c_conjunction_6
  have c_conjunction_8 := ok_conjunction (P := P) (w := w) (base := base) (rn := 7) D_conjunction y_len v__TRUE w__TRUE  c_conjunction_7
  have c_conjunction : C8.Cal P w K mg base 9 "conjunction" (sp_conjunction K) [] := c_conjunction_8
  have c_uses_only := ok_uses_only (P := P) (w := w) (base := base) D_uses_only c_columns_of 
  have c_halvings := ok_halvings (P := P) (w := w) (base := base) D_halvings v__MOST_HALVINGS 
  have c_sort_cost := ok_sort_cost (P := P) (w := w) (base := base) D_sort_cost c_halvings 
  have c_join_cost := ok_join_cost (P := P) (w := w) (base := base) D_join_cost c_sort_cost 
  have c_group_cost := ok_group_cost (P := P) (w := w) (base := base) D_group_cost c_sort_cost 
  have c__is_left := ok__is_left (P := P) (w := w) (base := base) D__is_left c_columns_of c_uses_only 
  have c__is_right := ok__is_right (P := P) (w := w) (base := base) D__is_right c_columns_of 
  have c__key_in := ok__key_in (P := P) (w := w) (base := base) D__key_in c__is_left c__is_right c_moved 
  have c_keys_of := ok_keys_of (P := P) (w := w) (base := base) D_keys_of c__key_in c_condition_parts c_conjunction 
  have c__law_cell := ok__law_cell (P := P) (w := w) (base := base) D__law_cell y_len 
  have c__law_state := ok__law_state (P := P) (w := w) (base := base) D__law_state y_int 
  have c__law_digit := ok__law_digit (P := P) (w := w) (base := base) D__law_digit y_int 
  have c__law_is_integer := ok__law_is_integer (P := P) (w := w) (base := base) D__law_is_integer y_bool y_int y_isinstance 
  have c__law_text := ok__law_text (P := P) (w := w) (base := base) D__law_text c__law_digit y_range 
  have c__law_value := ok__law_value (P := P) (w := w) (base := base) D__law_value c__law_digit c__law_text 
  have c__law_condition_0 : C8.Cal P w K mg base 4 "_law_condition" (spR__law_condition 0 K) [] := cal_no D__law_condition sc__law_condition (fun _ _ _ _ h => h.elim)
  have c__law_condition_1 := ok__law_condition (P := P) (w := w) (base := base) (rn := 0) D__law_condition c__law_digit c__law_value  c__law_condition_0
  have c__law_condition_2 := ok__law_condition (P := P) (w := w) (base := base) (rn := 1) D__law_condition c__law_digit c__law_value  c__law_condition_1
  have c__law_condition_3 := ok__law_condition (P := P) (w := w) (base := base) (rn := 2) D__law_condition c__law_digit c__law_value  c__law_condition_2
  have c__law_condition_4 := ok__law_condition (P := P) (w := w) (base := base) (rn := 3) D__law_condition c__law_digit c__law_value  c__law_condition_3
  have c__law_condition : C8.Cal P w K mg base 8 "_law_condition" (sp__law_condition K) [] := c__law_condition_4
  have c__law_parts_0 : C8.Cal P w K mg base 1 "_law_parts" (spR__law_parts 0 K) [] := cal_no D__law_parts sc__law_parts (fun _ _ _ _ h => h.elim)
  have c__law_parts_1 := ok__law_parts (P := P) (w := w) (base := base) (rn := 0) D__law_parts  c__law_parts_0
  have c__law_parts_2 := ok__law_parts (P := P) (w := w) (base := base) (rn := 1) D__law_parts  c__law_parts_1
  have c__law_parts_3 := ok__law_parts (P := P) (w := w) (base := base) (rn := 2) D__law_parts  c__law_parts_2
  have c__law_parts_4 := ok__law_parts (P := P) (w := w) (base := base) (rn := 3) D__law_parts  c__law_parts_3
  have c__law_parts_5 := ok__law_parts (P := P) (w := w) (base := base) (rn := 4) D__law_parts  c__law_parts_4
  have c__law_parts_6 := ok__law_parts (P := P) (w := w) (base := base) (rn := 5) D__law_parts  c__law_parts_5
  have c__law_parts_7 := ok__law_parts (P := P) (w := w) (base := base) (rn := 6) D__law_parts  c__law_parts_6
  have c__law_parts_8 := ok__law_parts (P := P) (w := w) (base := base) (rn := 7) D__law_parts  c__law_parts_7
  have c__law_parts : C8.Cal P w K mg base 9 "_law_parts" (sp__law_parts K) [] := c__law_parts_8
  have c__law_joined_0 : C8.Cal P w K mg base 1 "_law_joined" (spR__law_joined 0 K) [] := cal_no D__law_joined sc__law_joined (fun _ _ _ _ h => h.elim)
  have c__law_joined_1 := ok__law_joined (P := P) (w := w) (base := base) (rn := 0) D__law_joined y_len  c__law_joined_0
  have c__law_joined_2 := ok__law_joined (P := P) (w := w) (base := base) (rn := 1) D__law_joined y_len  c__law_joined_1
  have c__law_joined_3 := ok__law_joined (P := P) (w := w) (base := base) (rn := 2) D__law_joined y_len  c__law_joined_2
  have c__law_joined_4 := ok__law_joined (P := P) (w := w) (base := base) (rn := 3) D__law_joined y_len  c__law_joined_3
  have c__law_joined_5 := ok__law_joined (P := P) (w := w) (base := base) (rn := 4) D__law_joined y_len  c__law_joined_4
  have c__law_joined_6 := ok__law_joined (P := P) (w := w) (base := base) (rn := 5) D__law_joined y_len  c__law_joined_5
  have c__law_joined_7 := ok__law_joined (P := P) (w := w) (base := base) (rn := 6) D__law_joined y_len  c__law_joined_6
  have c__law_joined_8 := ok__law_joined (P := P) (w := w) (base := base) (rn := 7) D__law_joined y_len  c__law_joined_7
  have c__law_joined : C8.Cal P w K mg base 9 "_law_joined" (sp__law_joined K) [] := c__law_joined_8
  have c__law_used_0 : C8.Cal P w K mg base 1 "_law_used" (spR__law_used 0 K) [] := cal_no D__law_used sc__law_used (fun _ _ _ _ h => h.elim)
  have c__law_used_1 := ok__law_used (P := P) (w := w) (base := base) (rn := 0) D__law_used y_int  c__law_used_0
  have c__law_used_2 := ok__law_used (P := P) (w := w) (base := base) (rn := 1) D__law_used y_int  c__law_used_1
  have c__law_used_3 := ok__law_used (P := P) (w := w) (base := base) (rn := 2) D__law_used y_int  c__law_used_2
  have c__law_used_4 := ok__law_used (P := P) (w := w) (base := base) (rn := 3) D__law_used y_int  c__law_used_3
  have c__law_used_5 := ok__law_used (P := P) (w := w) (base := base) (rn := 4) D__law_used y_int  c__law_used_4
  have c__law_used_6 := ok__law_used (P := P) (w := w) (base := base) (rn := 5) D__law_used y_int  c__law_used_5
  have c__law_used_7 := ok__law_used (P := P) (w := w) (base := base) (rn := 6) D__law_used y_int  c__law_used_6
  have c__law_used_8 := ok__law_used (P := P) (w := w) (base := base) (rn := 7) D__law_used y_int  c__law_used_7
  have c__law_used : C8.Cal P w K mg base 9 "_law_used" (sp__law_used K) [] := c__law_used_8
  have c__law_moved_0 : C8.Cal P w K mg base 1 "_law_moved" (spR__law_moved 0 K) [] := cal_no D__law_moved sc__law_moved (fun _ _ _ _ h => h.elim)
  have c__law_moved_1 := ok__law_moved (P := P) (w := w) (base := base) (rn := 0) D__law_moved y_int y_tuple  c__law_moved_0
  have c__law_moved_2 := ok__law_moved (P := P) (w := w) (base := base) (rn := 1) D__law_moved y_int y_tuple  c__law_moved_1
  have c__law_moved_3 := ok__law_moved (P := P) (w := w) (base := base) (rn := 2) D__law_moved y_int y_tuple  c__law_moved_2
  have c__law_moved_4 := ok__law_moved (P := P) (w := w) (base := base) (rn := 3) D__law_moved y_int y_tuple  c__law_moved_3
  have c__law_moved_5 := ok__law_moved (P := P) (w := w) (base := base) (rn := 4) D__law_moved y_int y_tuple  c__law_moved_4
  have c__law_moved_6 := ok__law_moved (P := P) (w := w) (base := base) (rn := 5) D__law_moved y_int y_tuple  c__law_moved_5
  have c__law_moved_7 := ok__law_moved (P := P) (w := w) (base := base) (rn := 6) D__law_moved y_int y_tuple  c__law_moved_6
  have c__law_moved_8 := ok__law_moved (P := P) (w := w) (base := base) (rn := 7) D__law_moved y_int y_tuple  c__law_moved_7
  have c__law_moved : C8.Cal P w K mg base 9 "_law_moved" (sp__law_moved K) [] := c__law_moved_8
  have c__law_side := ok__law_side (P := P) (w := w) (base := base) D__law_side c__law_used y_len y_max y_min 
  have c__law_due := ok__law_due (P := P) (w := w) (base := base) D__law_due c__law_joined c__law_moved c__law_parts c__law_side 
  have c__law_equal := ok__law_equal (P := P) (w := w) (base := base) D__law_equal c__law_digit 
  have c__law_halved := ok__law_halved (P := P) (w := w) (base := base) D__law_halved y_range 
  exact ok_law (P := P) (w := w) (base := base)  c__law_cell c__law_condition c__law_digit c__law_due c__law_equal c__law_halved c__law_is_integer c__law_state c_group_cost c_halvings c_join_cost c_keys_of c_sort_cost y_len y_max y_min y_range y_repr v_WAYS w_WAYS nd h63 hS hr
end My
open PySem PySem.W PyProof.Rows
set_option maxHeartbeats 0 in
theorem PySem.Challenge.cw_stylobate_k72_keys_and_costs_holds : PySem.Challenge.rw_stylobate_k72_keys_and_costs.Holds := by
  w_on; o_law; k_head; (case hw => w_witness2)
  k_fill
  refine My.walk_here (l := PySem.Challenge.rw_stylobate_k72_keys_and_costs) (n := 63) (k := 12) rfl (by decide) rfl ⟨rfl, by decide, by decide⟩ (fun w h Y => PySem.W.kIn_of Y) My.sc_law ?F
  case F =>
    intro w mg fa h KX G hmg
    refine' My.all_mk KX G hmg ?a0 ?l0 ?b0 ?k0 ?a1 ?l1 ?b1 ?k1 ?a2 ?l2 ?b2 ?k2 ?a3 ?l3 ?b3 ?k3 ?a4 ?l4 ?b4 ?k4 ?a5 ?l5 ?b5 ?k5 ?a6 ?l6 ?b6 ?k6 ?a7 ?l7 ?b7 ?k7 ?a8 ?l8 ?b8 ?k8 ?a9 ?l9 ?b9 ?k9 ?a10 ?l10 ?b10 ?k10 ?a11 ?l11 ?b11 ?k11 ?a12 ?l12 ?b12 ?k12 ?a13 ?l13 ?b13 ?k13 ?a14 ?l14 ?b14 ?k14 ?a15 ?l15 ?b15 ?k15 ?a16 ?l16 ?b16 ?k16 ?a17 ?l17 ?b17 ?k17 ?a18 ?l18 ?b18 ?k18 ?a19 ?l19 ?b19 ?k19 ?a20 ?l20 ?b20 ?k20 ?a21 ?l21 ?b21 ?k21 ?a22 ?l22 ?b22 ?k22 ?a23 ?l23 ?b23 ?k23 ?a24 ?l24 ?b24 ?k24 ?a25 ?l25 ?b25 ?k25 ?a26 ?l26 ?b26 ?k26 ?a27 ?l27 ?b27 ?k27 ?a28 ?l28 ?b28 ?k28 ?a29 ?l29 ?b29 ?k29 ?a30 ?l30 ?b30 ?k30 ?z_bool ?z_int ?z_isinstance ?z_len ?z_max ?z_min ?z_range ?z_repr ?z_sorted ?z_tuple ?q_WAYS ?r_WAYS ?q__FIRST_PART ?ka__FIRST_PART ?kl__FIRST_PART ?ko__FIRST_PART ?e__FIRST_PART_0 ?e__FIRST_PART_1 ?e__FIRST_PART_2 ?e__FIRST_PART_3 ?e__FIRST_PART_4 ?e__FIRST_PART_5 ?q__MOST_HALVINGS ?q__TRUE ?r__TRUE
    (case a0 => k_is); (case l0 => k_is); (case b0 => k_is); (case k0 => k_is); (case a1 => k_is); (case l1 => k_is); (case b1 => k_is); (case k1 => k_is); (case a2 => k_is); (case l2 => k_is); (case b2 => k_is); (case k2 => k_is); (case a3 => k_is); (case l3 => k_is); (case b3 => k_is); (case k3 => k_is); (case a4 => k_is); (case l4 => k_is); (case b4 => k_is); (case k4 => k_is); (case a5 => k_is); (case l5 => k_is); (case b5 => k_is); (case k5 => k_is); (case a6 => k_is); (case l6 => k_is); (case b6 => k_is); (case k6 => k_is); (case a7 => k_is); (case l7 => k_is); (case b7 => k_is); (case k7 => k_is); (case a8 => k_is); (case l8 => k_is); (case b8 => k_is); (case k8 => k_is); (case a9 => k_is); (case l9 => k_is); (case b9 => k_is); (case k9 => k_is); (case a10 => k_is); (case l10 => k_is); (case b10 => k_is); (case k10 => k_is); (case a11 => k_is); (case l11 => k_is); (case b11 => k_is); (case k11 => k_is); (case a12 => k_is); (case l12 => k_is); (case b12 => k_is); (case k12 => k_is); (case a13 => k_is); (case l13 => k_is); (case b13 => k_is); (case k13 => k_is); (case a14 => k_is); (case l14 => k_is); (case b14 => k_is); (case k14 => k_is); (case a15 => k_is); (case l15 => k_is); (case b15 => k_is); (case k15 => k_is); (case a16 => k_is); (case l16 => k_is); (case b16 => k_is); (case k16 => k_is); (case a17 => k_is); (case l17 => k_is); (case b17 => k_is); (case k17 => k_is); (case a18 => k_is); (case l18 => k_is); (case b18 => k_is); (case k18 => k_is); (case a19 => k_is); (case l19 => k_is); (case b19 => k_is); (case k19 => k_is); (case a20 => k_is); (case l20 => k_is); (case b20 => k_is); (case k20 => k_is); (case a21 => k_is); (case l21 => k_is); (case b21 => k_is); (case k21 => k_is); (case a22 => k_is); (case l22 => k_is); (case b22 => k_is); (case k22 => k_is); (case a23 => k_is); (case l23 => k_is); (case b23 => k_is); (case k23 => k_is); (case a24 => k_is); (case l24 => k_is); (case b24 => k_is); (case k24 => k_is); (case a25 => k_is); (case l25 => k_is); (case b25 => k_is); (case k25 => k_is); (case a26 => k_is); (case l26 => k_is); (case b26 => k_is); (case k26 => k_is); (case a27 => k_is); (case l27 => k_is); (case b27 => k_is); (case k27 => k_is); (case a28 => k_is); (case l28 => k_is); (case b28 => k_is); (case k28 => k_is); (case a29 => k_is); (case l29 => k_is); (case b29 => k_is); (case k29 => k_is); (case a30 => k_is); (case l30 => k_is); (case b30 => k_is); (case k30 => k_is); (case z_bool => k_is); (case z_int => k_is); (case z_isinstance => k_is); (case z_len => k_is); (case z_max => k_is); (case z_min => k_is); (case z_range => k_is); (case z_repr => k_is); (case z_sorted => k_is); (case z_tuple => k_is); (case q_WAYS => k_is); (case q__FIRST_PART => k_is); (case ka__FIRST_PART => k_is); (case e__FIRST_PART_0 => k_is); (case e__FIRST_PART_1 => k_is); (case e__FIRST_PART_2 => k_is); (case e__FIRST_PART_3 => k_is); (case e__FIRST_PART_4 => k_is); (case e__FIRST_PART_5 => k_is); (case q__MOST_HALVINGS => k_is); (case q__TRUE => k_is)
    (case r_WAYS => exact fun _ => .inr ⟨_, _, _, (by k_is), rfl, rfl, by decide, by repeat (first | exact .nil | refine .cons ⟨_, rfl⟩ ?_ | refine .cons rfl ?_)⟩)
    (case kl__FIRST_PART => k_keys)
    (case ko__FIRST_PART => decide)
    (case r__TRUE => exact fun _ => .inr ⟨_, _, _, (by k_is), rfl, rfl, by decide, by repeat (first | exact .nil | refine .cons ⟨_, rfl⟩ ?_ | refine .cons rfl ?_)⟩)

