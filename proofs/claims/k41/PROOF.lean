import PyProof.Rows.All
import Wide.All
import OpenK.AllK
import Wide.FinOn
import HandS.ForMost
import HandS.Codes
import HandS.Evl
import HandS.IsInst
import HandS.Wide
import HandS.Defaults
import HandS.Walk
import HandS.Flow
import HandS.TupAny
import HandS.Zip
import HandS.Property
import HandS.OwnEq
import HandS.Deep
import HandS.WideBits
import HandS.Iter
import HandS.Rev
import HandS.SortKw
import HandS.Keys
import HandS.TupLe
import HandS.Dict
import HandS.DictComp
import HandS.Text
import HandS.StrMore
import HandS.FStr
import HandS.Style
import HandS.More
import HandS.CallLocal
import HandS.Conv
import HandS.Flt
import KE.KEqSeq
import KE.KeyNested
import KE.KDictKeyed
import KE.DataEq
import KE.DataMinMax
import KE.DataMinKey
import PyProof.StrOps2
import PyProof.StrLawsFrom
import KE.RegKIsAll
import KE.SortKeyHeap
import KE.DataFind
import KE.KDictCopyH
import KE.KLam
import HandS.Lambda
import HandS.EndTab
import KE.KNestM
import HandS.Nested
import PySem.Challenge.RW_stylobate_k41_plans_without_a_width
set_option Elab.async false
set_option linter.all false
set_option maxRecDepth 100000
set_option maxHeartbeats 4000000
namespace My
open PySem PySem.Spec PyProof.Rows L2 Evl
/-! ### defs of the text, promises, the end -/
def Dn (K : PySem.W.Frag) (mg : Str → Option Value) (x : Str) (st : Stmt) (ps : List Str) : Prop := ∃ f fd, C8.Def K mg x st f fd ∧ Binds K fd ps []
section
variable {P : Program} {w : World} {K : PySem.W.Frag} {mg : Str → Option Value} {base : Heap}
theorem cal_of {x : Str} {st : Stmt} {N ps : List Str} {k : Nat} {sp : Sp} (D : Dn K mg x st ps) (S : FnScope N ps (C8.fnScope st)) (len : ∀ vs H Q E, sp vs H Q E → vs.length = ps.length)
    (hbody : ∀ (f : Addr) (cdv : Value) (A : Around) (outer : List Env) (s : Shared) (H : Hp) (vs : List V) (Q : VK) (E : XK), Room k (A.deeper (envOfC x (C8.fnScope st) s.heap.objs.size f cdv)) → sp vs H Q E →
      ∃ t, PSs (cxOf C8.CX0 P w K mg base N x (C8.fnScope st) f cdv A outer s H E).nox (C8.fnBody st) t ∧ t { nx := fun _ H' => Q .non H', rt := Q } (start N vs) H) : C8.Cal P w K mg base (k + 1) x sp [] := by
  obtain ⟨f, fd, F, b⟩ := D
  exact C8.cal0 F b .nil S len (hbody f)
theorem def_mk {x : Str} {st : Stmt} {f : Addr} {oc : Value} {od an : Option Addr} {osl : Array (Option Value)} {kV doc pm cdv ct : Value}
    (l : K.lookup f = some ⟨oc, od, .func (PySem.W.fnOf x x (C8.fnArgs st) (C8.fnBody st) (C8.fnScope st) .none kV doc pm an cdv ct), osl⟩)
    (c : PySem.W.codeIn K cdv x = true) (k : PySem.W.keepIn K (.ref f) = true) (m : mg x = some (.ref f)) : C8.Def K mg x st f (PySem.W.fnOf x x (C8.fnArgs st) (C8.fnBody st) (C8.fnScope st) .none kV doc pm an cdv ct) :=
  ⟨⟨oc, od, .none, kV, doc, pm, an, cdv, ct, osl, rfl, l, c⟩, m, k⟩
theorem dn_mk {x : Str} {st : Stmt} {f : Addr} {oc : Value} {od an : Option Addr} {osl : Array (Option Value)} {kV doc pm cdv ct : Value} {ps : List Str}
    (l : K.lookup f = some ⟨oc, od, .func (PySem.W.fnOf x x (C8.fnArgs st) (C8.fnBody st) (C8.fnScope st) .none kV doc pm an cdv ct), osl⟩)
    (c : PySem.W.codeIn K cdv x = true) (k : PySem.W.keepIn K (.ref f) = true) (m : mg x = some (.ref f))
    (h : ∀ (kV doc pm : Value) (an : Option Addr) (cdv ct : Value) (us : List Value), us.length = ps.length → bindArgs (PySem.W.fnOf x x (C8.fnArgs st) (C8.fnBody st) (C8.fnScope st) .none kV doc pm an cdv ct) ⟨us, []⟩ = pure (ps.zip us)) : Dn K mg x st ps :=
  ⟨f, _, def_mk l c k m, C8.Fun.binds (def_mk l c k m).fn rfl h⟩
end
/-! ### x is True, x is False, of any value -/
def rIsT : R2 := fun x y H Q => ∃ b : Bool, y = .bl b ∧ Q (.bl (decide (x = .bl b))) H
def rNotT : R2 := fun x y H Q => ∃ b : Bool, y = .bl b ∧ Q (.bl (!decide (x = .bl b))) H
section
variable {X : Cx}
theorem rel_bl {x : V} {v : Value} {b : Bool} (rx : RelV x v) : PySem.plainIs v (.bool b) = true ∧ (v == .bool b) = decide (x = .bl b) ∨ ∃ n, v = .builtin n := by
  cases x with
  | non => cases (show v = Value.none from rx); exact .inl ⟨rfl, rfl⟩
  | bl c => cases (show v = Value.bool c from rx); exact .inl ⟨rfl, by cases b <;> cases c <;> rfl⟩
  | int i => obtain ⟨t, e⟩ := (show ∃ t, v = Value.int i t from rx); cases e; exact .inl ⟨rfl, rfl⟩
  | str i => obtain ⟨t, e⟩ := (show ∃ t, v = Value.str i t from rx); cases e; exact .inl ⟨rfl, rfl⟩
  | byt i => obtain ⟨t, e⟩ := (show ∃ t, v = Value.bytes i t from rx); cases e; exact .inl ⟨rfl, rfl⟩
  | flt i => obtain ⟨t, e⟩ := (show ∃ t, v = Value.float i t from rx); cases e; exact .inl ⟨rfl, rfl⟩
  | ref a => cases (show v = Value.ref a from rx); exact .inl ⟨rfl, rfl⟩
  | ty n => cases (show v = Value.type n from rx); exact .inl ⟨rfl, rfl⟩
theorem rel_bl' {x : V} {v : Value} {b : Bool} (rx : RelV x v) : PySem.plainIs v (.bool b) = true ∧ (v == .bool b) = decide (x = .bl b) := by
  rcases rel_bl (b := b) rx with h | ⟨n, rfl⟩
  · exact h
  · cases x <;> first | exact nomatch (rx : Value.builtin n = _) | (obtain ⟨t, e⟩ := rx; exact nomatch e)
theorem op_isTF : OpR X (compareOp .Is) rIsT := by
  intro pins s σ H x y v u Q I rx ry h
  obtain ⟨b, rfl, q⟩ := h
  cases (show u = Value.bool b from ry)
  obtain ⟨h1, h2⟩ := rel_bl' (b := b) rx
  exact wpAny_is_plain h1 ⟨.bl _, H, I, rfl, by rw [h2]; exact q⟩
theorem op_notTF : OpR X (compareOp .IsNot) rNotT := by
  intro pins s σ H x y v u Q I rx ry h
  obtain ⟨b, rfl, q⟩ := h
  cases (show u = Value.bool b from ry)
  obtain ⟨h1, h2⟩ := rel_bl' (b := b) rx
  exact wpAny_isNot_plain h1 ⟨.bl _, H, I, rfl, by rw [h2]; exact q⟩
end
/-! ### what evaluates to what: further -/
section
variable {K : PySem.W.Frag} {σ : L2.St} {H H' : Hp} {ta tb te tx : TE} {t u : TT} {x y z v : V} {r : R2}
theorem rv_isT {b : Bool} : RV rIsT x (.bl b) H (.bl (decide (x = .bl b))) := fun H1 _ _ q => ⟨b, rfl, q H1 (Ex.refl H1)⟩
theorem rv_notT {b : Bool} : RV rNotT x (.bl b) H (.bl (!decide (x = .bl b))) := fun H1 _ _ q => ⟨b, rfl, q H1 (Ex.refl H1)⟩
theorem rv_isN : RV (fun x y H Q => y = .non ∧ Q (.bl (decide (x = .non))) H) x .non H (.bl (decide (x = .non))) := fun H1 _ _ q => ⟨rfl, q H1 (Ex.refl H1)⟩
theorem rv_notN : RV (fun x y H Q => y = .non ∧ Q (.bl (!decide (x = .non))) H) x .non H (.bl (!decide (x = .non))) := fun H1 _ _ q => ⟨rfl, q H1 (Ex.refl H1)⟩
theorem ev_int {i : Int} (h : Ev ta σ H (.int i)) : Ev (tCB (fun xs H Q => (∃ i, xs = [.int i] ∧ Q (.int i) H) ∨ ∃ k, xs = [.bl k] ∧ Q (.int (if k then 1 else 0)) H) (tCons ta tNil)) σ H (.int i) :=
  fun H1 e Q q => h H1 e _ fun H2 e2 => .inl ⟨i, rfl, q H2 e2⟩
theorem ev_intB {b : Bool} (h : Ev ta σ H (.bl b)) : Ev (tCB (fun xs H Q => (∃ i, xs = [.int i] ∧ Q (.int i) H) ∨ ∃ k, xs = [.bl k] ∧ Q (.int (if k then 1 else 0)) H) (tCons ta tNil)) σ H (.int (if b then 1 else 0)) :=
  fun H1 e Q q => h H1 e _ fun H2 e2 => .inr ⟨b, rfl, q H2 e2⟩
theorem ev_abs {i : Int} (h : Ev ta σ H (.int i)) : Ev (tCB (fun xs H Q => ∃ i, xs = [.int i] ∧ Q (.int (if i < 0 then -i else i)) H) (tCons ta tNil)) σ H (.int (if i < 0 then -i else i)) :=
  fun H1 e Q q => h H1 e _ fun H2 e2 => ⟨i, rfl, q H2 e2⟩
theorem ev_min2 {i j : Int} (ha : Ev ta σ H (.int i)) (hb : Ev tb σ H (.int j)) : Ev (tCB (fun xs H Q => ∃ i j, xs = [.int i, .int j] ∧ Q (.int (if j < i then j else i)) H) (tCons ta (tCons tb tNil))) σ H (.int (if j < i then j else i)) := fun H1 e Q q =>
  ha H1 e _ fun H2 e2 => hb H2 (e.trans e2) _ fun H3 e3 => ⟨i, j, rfl, q H3 (e2.trans e3)⟩
theorem ev_lenS {s : Str} (h : Ev ta σ H (.str s)) (hz : s.length ≤ 100000) : Ev (tCB (fun xs H Q => ∃ z, xs = [.str z] ∧ z.length ≤ sizeLine ∧ Q (.int z.length) H) (tCons ta tNil)) σ H (.int s.length) :=
  fun H1 e Q q => h H1 e _ fun H2 e2 => ⟨s, rfl, sz_of hz, q H2 e2⟩
/-- isinstance(x, T) of a plain value -/
def tyOf : V → String
  | .non => "NoneType"
  | .bl _ => "bool"
  | .int _ => "int"
  | .str _ => "str"
  | .byt _ => "bytes"
  | .flt _ => "float"
  | _ => "?"
def isTy (x : V) (T : String) : Bool := ((kitB (tyOf x) T).getD false)
theorem ev_isi {T : String} {tn : String} {b : Bool} (ha : Ev ta σ H x) (ht : ∀ H1, TyX K H1 x (.type tn)) (hk : kitB tn T = some b) : Ev (tCB (rIsi K) (tCons ta (tCons (tC (.ty T)) tNil))) σ H (.bl b) :=
  fun H1 e Q q => ha H1 e _ fun H2 e2 => ⟨x, .ty T, .type tn, .type T, b, rfl, .ty T, ht H2, kit_ty hk, q H2 e2⟩
theorem tx_int (i : Int) (H1 : Hp) : TyX K H1 (.int i) (.type "int") := .base (.int i)
theorem tx_bl (i : Bool) (H1 : Hp) : TyX K H1 (.bl i) (.type "bool") := .base (.bl i)
theorem tx_str (i : Str) (H1 : Hp) : TyX K H1 (.str i) (.type "str") := .base (.str i)
theorem tx_non (H1 : Hp) : TyX K H1 .non (.type "NoneType") := .base .non
section
variable {D : Ends} {tz : TS}
/-- if c: x = e, an int: told by the value x has behind it -/
theorem q_ifI {b : Bool} {i : Nat} {p q : Int} (h : EvT t σ H b) (h1 : b = true → Ev te σ H (.int p)) (h0 : σ[i]? = some (some (.int q))) (k : ∀ H1, Ex H H1 → tz D (σ.set i (some (.int (if b = true then p else q)))) H1) : tSeq (tIfS t (tAsg te (gName i)) tNext) tz D σ H := by
  refine q_ifAsg h (fun hb => ?_) (fun hb => ?_) k
  · rw [if_pos hb]
    exact h1 hb
  · rw [hb]
    show σ.set i (some (V.int q)) = σ
    apply List.ext_getElem?
    intro j
    rw [List.getElem?_set]
    split
    · rename_i e
      subst e
      rw [h0]
      have := (List.getElem?_eq_some_iff.mp h0).1
      rw [if_pos this]
    · rfl
end
/-- a promise of one value, all else as it was -/
theorem spv {sp : Sp} {vs : List V} (h : ∀ H1, Ex H H1 → ∀ Q : VK, (∀ H2, Ex H1 H2 → Q z H2) → ∀ E : XK, sp vs H1 Q E) : SpV sp vs H z := h
end
local macro_rules | `(tactic| walk_at "side") => `(tactic| first
  | exact .inr ⟨by decide, by decide⟩
  | exact .inl ⟨by decide, by decide⟩
  | exact .inl ⟨by omega, by omega⟩
  | exact .inr ⟨by omega, by omega⟩
  | exact ⟨by decide, by decide⟩
  | exact ⟨by omega, by omega⟩
  | decide
  | (show (_ : Int) < _; omega)
  | omega)
local macro_rules | `(tactic| walk_at "rv") => `(tactic| first
  | exact rv_I0
  | ((refine' rv_I ?k1); (case k1 => walk_at "side"))
  | exact rv_isT
  | exact rv_notT
  | exact rv_isN
  | exact rv_notN
  | exact rv_eq rfl
  | exact rv_ne rfl)
local macro_rules | `(tactic| walk_at "sq") => `(tactic| first | assumption | exact ex_l (by assumption) (by assumption) | exact sq_of (by assumption))
/-- what a part gives, read off its form -/
local macro_rules | `(tactic| walk_at "ev") => `(tactic| first
  | exact ev_var rfl
  | exact ev_c
  | ((with_reducible refine' ev_op ?k1 ?k2 ?k3); (case k1 => walk_at "ev"); (case k2 => walk_at "ev"); (case k3 => walk_at "rv"))
  | ((with_reducible refine' ev_un ?k1 ?k2); (case k1 => walk_at "ev"); (case k2 => exact ru_neg))
  | ((with_reducible refine' ev_int ?k1); (case k1 => walk_at "ev"))
  | ((with_reducible refine' ev_abs ?k1); (case k1 => walk_at "ev"))
  | ((with_reducible refine' ev_andV ?k1 ?k2); (case k1 => walk_at "ev"); (case k2 => intro _; walk_at "ev"))
  | ((with_reducible refine' ev_orV ?k1 ?k2); (case k1 => walk_at "ev"); (case k2 => intro _; walk_at "ev"))
  | ((with_reducible refine' ev_notV ?k1); (case k1 => walk_at "ev"))
  | ((refine' ev_len ?k1 ?k2); (case k1 => walk_at "ev"); (case k2 => walk_at "sq")))
local macro_rules | `(tactic| walk_at "et") => `(tactic| first
  | ((with_reducible refine' et_or ?k1 ?k2); (case k1 => walk_at "et"); (case k2 => intro _; walk_at "et"))
  | ((with_reducible refine' et_and ?k1 ?k2); (case k1 => walk_at "et"); (case k2 => intro _; walk_at "et"))
  | ((with_reducible refine' et_not ?k1); (case k1 => walk_at "et"))
  | (refine' et_test ?k1; (case k1 => walk_at "ev"))
  | (refine' et_B ?k1; (case k1 => walk_at "ev")))

/-! ### tuples made, tuples read, data compared -/
def SpU (sp : Sp) (vs : List V) (H : Hp) (xs : List V) : Prop := ∀ H1, Ex H H1 → ∀ Q : VK, (∀ p H2, H1 p = none → Ex H1 H2 → H2 p = some (.tup xs) → Q (.ref p) H2) → ∀ E : XK, sp vs H1 Q E
section
variable {K : PySem.W.Frag} {σ : L2.St} {H H' : Hp} {ta tb te : TE} {x y z v : V}
theorem eu_call {sp : Sp} {dvs vs xs : List V} {E : XK} {ta : TA} (h : EvA ta σ H vs) (hs : SpU sp (vs ++ dvs) H xs) : EvU (tCall sp dvs E ta) σ H xs := fun H1 e Q q =>
  h H1 e _ fun H2 e2 => hs H2 (e.trans e2) Q (fun p H3 hp e3 h3 => q p H3 (fresh_back e2 hp) (e2.trans e3) h3) E
theorem ev_lenT {p : Addr} {xs : List V} (ha : Ev ta σ H (.ref p)) (h : SqT K H p xs) : Ev (tCB (fun xs H Q => ∃ p ys, xs = [.ref p] ∧ (SqL K H p ys ∨ SqT K H p ys) ∧ Q (.int ys.length) H) (tCons ta tNil)) σ H (.int (xs.length : Int)) := fun H1 e Q q =>
  ha H1 e _ fun H2 e2 => ⟨p, xs, rfl, Or.inr (ex_t (e.trans e2) h), q H2 e2⟩
theorem eu_divmod {i j : Int} (ha : Ev ta σ H (.int i)) (hb : Ev tb σ H (.int j)) (hc : CDiv i j) :
    EvU (tCB (fun xs H Q => ∃ i j, xs = [.int i, .int j] ∧ CDiv i j ∧ ∀ p, H p = none → Q (.ref p) (upd H p (.tup [.int (i / j), .int (i % j)]))) (tCons ta (tCons tb tNil))) σ H [.int (i / j), .int (i % j)] := fun H1 e Q q =>
  ha H1 e _ fun H2 e2 => hb H2 (e.trans e2) _ fun H3 e3 => ⟨i, j, rfl, hc, fun p hp => q p _ (fresh_back (e2.trans e3) hp) ((e2.trans e3).trans (Ex.new hp)) upd_same⟩
theorem dp_ints : ∀ ns : List Int, DpAll K H (ns.map V.int) (ns.map PyData.int)
  | [] => .nil
  | n :: r => .cons (.int n) (dp_ints r)
theorem eqv_ints : ∀ ns ms : List Int, PyData.eqv (.tuple (ns.map PyData.int)) (.tuple (ms.map PyData.int)) = decide (ns = ms)
  | [], [] => rfl
  | [], _ :: _ => rfl
  | _ :: _, [] => rfl
  | n :: r, m :: t => by
    have ih := eqv_ints r t
    show ((n == m) && PyData.eqv (.tuple (r.map PyData.int)) (.tuple (t.map PyData.int))) = _
    rw [ih, Bool.eq_iff_iff, Bool.and_eq_true, decide_eq_true_eq, decide_eq_true_eq, beq_iff_eq, List.cons.injEq]
theorem dp_tup {p : Addr} {ns : List Int} (h : SqT K H p (ns.map V.int)) : Dp K H (.ref p) (.tuple (ns.map PyData.int)) := .tup h (dp_ints ns)
def shI (n : Nat) : Bool := SeqAt.shaped (.tuple ((List.replicate n 0).map PyData.int))
theorem rv_neT {p q : Addr} {ns ms : List Int} (hp : SqT K H p (ns.map V.int)) (hq : SqT K H q (ms.map V.int)) (s1 : SeqAt.shaped (.tuple (ns.map PyData.int)) = true) (s2 : SeqAt.shaped (.tuple (ms.map PyData.int)) = true) : RV (rNeD K) (.ref p) (.ref q) H (.bl (!decide (ns = ms))) := fun H1 e Q k =>
  ⟨_, _, dp_tup (ex_t e hp), dp_tup (ex_t e hq), s1, s2, by rw [eqv_ints]; exact k H1 (Ex.refl H1)⟩
theorem tx_tup {a : Addr} {xs : List V} (h : H a = some (.tup xs)) : ∀ H1, Ex H H1 → TyX K H1 (.ref a) (.type "tuple") := fun H1 e => .base (.tup (e _ _ h))
theorem ev_isi' {T : String} {tn : String} {b : Bool} (ha : Ev ta σ H x) (ht : ∀ H1, Ex H H1 → TyX K H1 x (.type tn)) (hk : kitB tn T = some b) : Ev (tCB (rIsi K) (tCons ta (tCons (tC (.ty T)) tNil))) σ H (.bl b) :=
  fun H1 e Q q => ha H1 e _ fun H2 e2 => ⟨x, .ty T, .type tn, .type T, b, rfl, .ty T, ht H2 (e.trans e2), kit_ty hk, q H2 e2⟩
theorem ev_chain {r r' : R2} {tc : TE} {b c : Bool} (ha : Ev ta σ H x) (hb : Ev tb σ H y) (hr : RV r x y H (.bl b)) (hc : b = true → Ev tc σ H z) (hr' : b = true → RV r' y z H (.bl c)) : Ev (tChain r r' ta tb tc) σ H (.bl (b && c)) := fun H1 e Q q =>
  ha H1 e _ fun H2 e2 => hb H2 (e.trans e2) _ fun H3 e3 => hr H3 ((e.trans e2).trans e3) _ fun H4 e4 => ⟨b, rfl, by
    cases b with
    | true =>
      show tc σ H4 fun w' H5 => r' y w' H5 Q
      exact hc rfl H4 (((e.trans e2).trans e3).trans e4) _ fun H5 e5 => hr' rfl H5 ((((e.trans e2).trans e3).trans e4).trans e5) Q fun H6 e6 => q H6 ((((e2.trans e3).trans e4).trans e5).trans e6)
    | false =>
      show Q (.bl false) H4
      exact q H4 ((e2.trans e3).trans e4)⟩
/-- a, b = (..): a new tuple unpacked into names -/
theorem gt2 {p : Addr} {i j : Nat} (h : SqT K H p [x, y]) {Q : L2.St → Hp → Prop} (k : Q ((σ.set i (some x)).set j (some y)) H) : gTup K 2 (gCons (gName i) (gCons (gName j) gNil)) (.ref p) σ H Q :=
  ⟨p, [x, y], rfl, h, rfl, x, [y], rfl, y, [], rfl, rfl, k⟩
theorem gt3 {p : Addr} {i j l : Nat} (h : SqT K H p [x, y, z]) {Q : L2.St → Hp → Prop} (k : Q (((σ.set i (some x)).set j (some y)).set l (some z)) H) : gTup K 3 (gCons (gName i) (gCons (gName j) (gCons (gName l) gNil))) (.ref p) σ H Q :=
  ⟨p, [x, y, z], rfl, h, rfl, x, [y, z], rfl, y, [z], rfl, z, [], rfl, rfl, k⟩
end
theorem hu64 {A : Around} {k : Nat} (hr : Room k A) : A.units + 64 < cLine := by
  have := hr.un
  omega
section
variable {K : PySem.W.Frag} {σ : L2.St} {H : Hp} {te : TE} {D : Ends} {tz : TS} {g : TG} {xs : List V}
theorem q_asgG (h : EvU te σ H xs) (k : ∀ p H1, H p = none → Ex H H1 → H1 p = some (.tup xs) → g (.ref p) σ H1 (tz D)) : tSeq (tAsg te g) tz D σ H := h H (Ex.refl H) _ fun p H1 hp e h1 => k p H1 hp e h1
theorem q_asgV {v : V} (h : Ev te σ H v) (k : ∀ H1, Ex H H1 → g v σ H1 (tz D)) : tSeq (tAsg te g) tz D σ H := h H (Ex.refl H) _ fun H1 e => k H1 e
end
/-! ### plain values and their types -/
inductive Pl : V → Prop where
  | non : Pl .non
  | bl (b : Bool) : Pl (.bl b)
  | int (i : Int) : Pl (.int i)
  | str (s : Str) : Pl (.str s)
def tyN : V → String
  | .bl _ => "bool"
  | .int _ => "int"
  | .str _ => "str"
  | _ => "NoneType"
def isInt : V → Bool
  | .int _ => true
  | _ => false
theorem tx_pl {K : PySem.W.Frag} {x : V} (h : Pl x) (H1 : Hp) : TyX K H1 x (.type (tyN x)) := by
  cases h with
  | non => exact .base .non
  | bl b => exact .base (.bl b)
  | int i => exact .base (.int i)
  | str s => exact .base (.str s)
theorem ev_isiP {K : PySem.W.Frag} {σ : L2.St} {H : Hp} {ta : TE} {x : V} {T : String} {b : Bool} (ha : Ev ta σ H x) (hx : Pl x) (hk : kitB (tyN x) T = some b) : Ev (tCB (rIsi K) (tCons ta (tCons (tC (.ty T)) tNil))) σ H (.bl b) :=
  ev_isi ha (tx_pl hx) hk
/-- isinstance(x, int) and not isinstance(x, bool) -/
theorem ev_isInt {K : PySem.W.Frag} {σ : L2.St} {H : Hp} {ta tb : TE} {x : V} (ha : Ev ta σ H x) (hb : Ev tb σ H x) (hx : Pl x) :
    Ev (tAndV (tCB (rIsi K) (tCons ta (tCons (tC (.ty "int")) tNil))) (tNotV (tCB (rIsi K) (tCons tb (tCons (tC (.ty "bool")) tNil))))) σ H (.bl (isInt x)) := by
  cases hx with
  | non => exact ev_is (ev_andV (ev_isiP (b := false) ha .non (by decide +kernel)) fun z => nomatch z) (show V.bl (false && true) = _ from rfl)
  | bl b => exact ev_is (ev_andV (ev_isiP (b := true) ha (.bl b) (by show kitB "bool" "int" = some true; decide +kernel)) fun _ => ev_notV (ev_isiP (b := true) hb (.bl b) (by show kitB "bool" "bool" = some true; decide +kernel))) rfl
  | int i => exact ev_is (ev_andV (ev_isiP (b := true) ha (.int i) (by show kitB "int" "int" = some true; decide +kernel)) fun _ => ev_notV (ev_isiP (b := false) hb (.int i) (by show kitB "int" "bool" = some false; decide +kernel))) rfl
  | str s => exact ev_is (ev_andV (ev_isiP (b := false) ha (.str s) (by show kitB "str" "int" = some false; decide +kernel)) fun z => nomatch z) (show V.bl (false && true) = _ from rfl)

/-! ### the order of tuples that need not be alike behind the first difference -/
section
open PySem.SeqAt PySem.MeetsSeq PySem.MeetsSeq2 PySem.MeetsSeq3
open PySem.AutoSeq1 (wpAny_loadPart')
/-- pairs walked from the left: the first that differ decide; z where none do -/
inductive Lx (A : Around) (s : Shared) (z : Bool) : List (Value × Value) → Bool → Prop
  | nil : Lx A s z [] z
  | eq {y x : Value} {ps : List (Value × Value)} {c : Bool} : EqAt A s y x true → Lx A s z ps c → Lx A s z ((y, x) :: ps) c
  | lt {y x : Value} {ps : List (Value × Value)} {c : Bool} : EqAt A s y x false → Ob.RcOp .Lt A s y x c → Lx A s z ((y, x) :: ps) c
theorem lt_meets (l b : Addr) (us vs : Array Value) (n m : Nat) (dl db : Option Addr) (sl sb : Array (Option Value)) :
    Meets (Builtin.«tuple.__lt__» ⟨[.ref l, .ref b], []⟩)
      (fun A R s => s.heap.get? l = some { cls := .type "tuple", dict := dl, data := .seq us n, slots := sl } ∧ s.heap.get? b = some { cls := .type "tuple", dict := db, data := .seq vs m, slots := sb } ∧
        ∃ c, Lx A.in1 s (decide (us.size < vs.size)) (us.toList.zip vs.toList) c ∧ R (.ok (.ret (.bool c))) s) := by
  refine .of_wp fun prog w A R s h => ?_
  obtain ⟨hp, g, d, tk, os⟩ := s
  obtain ⟨hl, hb, c, hx, h⟩ := h
  have f2 := AutoSeq1.sub_tuple_tuple
  wp_walk using wpAny_loadPart' hl, wpAny_loadPart' hb, wpAny_forIn_list _ (fun ps b s' => b.1 = none ∧ s' = ⟨hp, g, d, tk, os⟩ ∧ ∃ c, Lx A.in1 ⟨hp, g, d, tk, os⟩ (decide (us.size < vs.size)) ps c ∧ R (.ok (.ret (.bool c))) ⟨hp, g, d, tk, os⟩) _
  case turn =>
    rintro ⟨y, x⟩ ps b s' ⟨hb', rfl, c, hz, hR⟩
    cases hz with
    | eq he ht =>
      refine wpAny_bind (he prog w _ _ ?_)
      wp_walk
      exact ⟨rfl, rfl, c, ht, hR⟩
    | lt he hr =>
      refine wpAny_bind (he prog w _ _ ?_)
      have hri := hr prog w
      wp_walk using hri
      exact ⟨_, rfl, hR⟩
  case fin =>
    rintro ⟨b1, b2⟩ s' ⟨hb', rfl, c, hz, hR⟩
    simp only at hb'
    subst hb'
    cases hz
    wp_walk
    exact ⟨_, rfl, by simpa [Builtin.Tuple.tupleCompareSizes] using hR⟩
  case h => exact ⟨rfl, rfl, c, hx, h⟩
theorem lt_tuples {A : Around} {s : Shared} {l b : Addr} {us vs : Array Value} {c : Bool} (hl : s.heap.IsTuple l us) (hb : s.heap.IsTuple b vs) (hu : A.units < cLine) (hx : Lx A.in1 s (decide (us.size < vs.size)) (us.toList.zip vs.toList) c) :
    Ob.RcOp .Lt A s (.ref l) (.ref b) c := by
  intro prog w E Q h
  obtain ⟨⟨k1, dl, da, sl⟩, ho, hc, n, hd⟩ := hl
  obtain ⟨⟨k2, db, da2, sb⟩, ho2, hc2, m, hd2⟩ := hb
  simp only at hc hd hc2 hd2
  subst hc hd hc2 hd2
  exact richCompare_meets_room (op := .Lt) ⟨_, ho, rfl⟩ ⟨_, ho2, rfl⟩ F.slot_tuple_lt F.entry_tuple_lt (F.args_tuple_lt_2 _ _) (lt_meets l b us vs n m dl db sl sb) ⟨ho, ho2, c, hx, ⟨(fun z => nomatch z), h⟩⟩ hu
end
mutual
/-- less, of data -/
def ltD : PyData → PyData → Bool
  | .int a, .int b => decide (a < b)
  | .str x, .str y => decide (x.cps.toList < y.cps.toList)
  | .tuple xs, .tuple ys => ltDs xs ys
  | _, _ => false
def ltDs : List PyData → List PyData → Bool
  | [], [] => false
  | [], _ :: _ => true
  | _ :: _, [] => false
  | x :: xs, y :: ys => if PyData.eqv x y then ltDs xs ys else ltD x y
end
mutual
/-- may be compared by less -/
def ordD : PyData → PyData → Bool
  | .int _, .int _ => true
  | .str _, .str _ => true
  | .tuple xs, .tuple ys => ordDs xs ys
  | _, _ => false
def ordDs : List PyData → List PyData → Bool
  | [], _ => true
  | _ :: _, [] => true
  | x :: xs, y :: ys => if PyData.eqv x y then ordDs xs ys else ordD x y
end
theorem reads_len {h : Heap} : ∀ {ds : List PyData} {us : List Value} {as : List Addr}, ReadsAll h us ds as → us.length = ds.length
  | [], _, _, r => by cases r; rfl
  | _ :: ds, _, _, r => by
    cases r with
    | cons r1 r2 => exact congrArg (· + 1) (reads_len r2)
theorem lt_list {n : Nat} (IH : ∀ (d e : PyData) (A : Around) (s : Shared) (u v : Value) (as bs : List Addr), d.depth ≤ n → Reads s.heap u d as → Reads s.heap v e bs → d.canLay0 = true → e.canLay0 = true → ordD d e = true →
    A.units + d.depth < cLine → Ob.RcOp .Lt A s u v (ltD d e)) (A : Around) (s : Shared) : ∀ (xs ys : List PyData) (us vs : List Value) (as bs : List Addr), PyData.depthAll xs ≤ n → ReadsAll s.heap us xs as → ReadsAll s.heap vs ys bs →
    PyData.canLayAll0 xs = true → PyData.canLayAll0 ys = true → ordDs xs ys = true → A.units + PyData.depthAll xs < cLine → Lx A s (decide (xs.length < ys.length)) (us.zip vs) (ltDs xs ys) := by
  intro xs
  induction xs with
  | nil =>
    intro ys us vs as bs hn r1 r2 c1 c2 ho hu
    cases r1
    cases ys with
    | nil => exact .nil
    | cons y ys =>
      rw [show decide (([] : List PyData).length < (y :: ys).length) = true from decide_eq_true (Nat.zero_lt_succ _)]
      show Lx A s true [] true
      exact .nil
  | cons x xs ih =>
    intro ys us vs as bs hn r1 r2 c1 c2 ho hu
    cases ys with
    | nil =>
      cases r2
      rw [show decide ((x :: xs).length < ([] : List PyData).length) = false from decide_eq_false (Nat.not_lt_zero _), List.zip_nil_right]
      exact .nil
    | cons y ys =>
      have a1 : x.canLay0 = true ∧ PyData.canLayAll0 xs = true := by simpa [PyData.canLayAll0] using c1
      have a2 : y.canLay0 = true ∧ PyData.canLayAll0 ys = true := by simpa [PyData.canLayAll0] using c2
      have hd : A.units + max x.depth (PyData.depthAll xs) < cLine := hu
      have hn' : max x.depth (PyData.depthAll xs) ≤ n := hn
      rw [show decide ((x :: xs).length < (y :: ys).length) = decide (xs.length < ys.length) by simp]
      cases r1 with
      | cons p1 q1 =>
        cases r2 with
        | cons p2 q2 =>
          have he := PySem.SeqAt.eqAt_reads x y A s _ _ _ _ p1 p2 a1.1 a2.1 (by omega)
          by_cases c : PyData.eqv x y = true
          · have o : ordDs xs ys = true := by rw [ordDs, if_pos c] at ho; exact ho
            rw [show ltDs (x :: xs) (y :: ys) = ltDs xs ys by rw [ltDs, if_pos c]]
            rw [c] at he
            exact .eq he (ih ys _ _ _ _ (by omega) q1 q2 a1.2 a2.2 o (by omega))
          · have o : ordD x y = true := by rw [ordDs, if_neg c] at ho; exact ho
            rw [show ltDs (x :: xs) (y :: ys) = ltD x y by rw [ltDs, if_neg c]]
            rw [Bool.not_eq_true] at c
            rw [c] at he
            exact .lt he (IH x y A s _ _ _ _ (by omega) p1 p2 a1.1 a2.1 o (by omega))
theorem lt_reads : ∀ (n : Nat) (d e : PyData) (A : Around) (s : Shared) (u v : Value) (as bs : List Addr), d.depth ≤ n → Reads s.heap u d as → Reads s.heap v e bs → d.canLay0 = true → e.canLay0 = true → ordD d e = true →
    A.units + d.depth < cLine → Ob.RcOp .Lt A s u v (ltD d e) := by
  intro n
  induction n with
  | zero =>
    intro d e A s u v as bs hn r1 r2 c1 c2 ho hu
    cases r1 with
    | int a t =>
      cases r2 with
      | int b t' => rw [ltD]; exact Ob.RcOp.lt_int _ _ _ _
      | _ => simp [ordD] at ho
    | str a t =>
      cases r2 with
      | str b t' => rw [ltD]; exact fun prog w E Q h => lt_str h
      | _ => simp [ordD] at ho
    | tuple => simp [PyData.depth] at hn
    | _ => simp [ordD] at ho
  | succ n ih =>
    intro d e A s u v as bs hn r1 r2 c1 c2 ho hu
    cases r1 with
    | int a t =>
      cases r2 with
      | int b t' => rw [ltD]; exact Ob.RcOp.lt_int _ _ _ _
      | _ => simp [ordD] at ho
    | str a t =>
      cases r2 with
      | str b t' => rw [ltD]; exact fun prog w E Q h => lt_str h
      | _ => simp [ordD] at ho
    | tuple h1 h2 h3 h4 =>
      cases r2 with
      | tuple k1 k2 k3 k4 =>
        rename_i xs _ _ _ _ _ ys
        simp only [PyData.depth] at hn hu
        have l1 := reads_len h4
        have l2 := reads_len k4
        rw [ltD]
        refine lt_tuples ⟨_, h1, h2, _, h3⟩ ⟨_, k1, k2, _, k3⟩ (by omega) ?_
        rw [← Array.length_toList, ← Array.length_toList, l1, l2]
        exact lt_list ih A.in1 s _ _ _ _ _ _ (by omega) h4 k4 (by simpa [PyData.canLay0] using c1) (by simpa [PyData.canLay0] using c2) (by simpa [ordD] using ho) (by show A.units + 1 + _ < _; omega)
      | _ => simp [ordD] at ho
    | _ => simp [ordD] at ho
def rLtD (K : PySem.W.Frag) : R2 := fun x y H Q => ∃ d e, Dp K H x d ∧ Dp K H y e ∧ d.canLay0 = true ∧ e.canLay0 = true ∧ ordD d e = true ∧ d.depth ≤ 60 ∧ Q (.bl (ltD d e)) H
theorem op_ltD {X : Cx} (hu : X.A.units + 64 < cLine) : OpR X (compareOp .Lt) (rLtD X.K) := by
  intro pins s σ H x y v u Q I rx ry h
  obtain ⟨d, e, hd, he, c1, c2, o, dp, q⟩ := h
  obtain ⟨as, r1⟩ := Dp.reads I d x v hd rx
  obtain ⟨bs, r2⟩ := Dp.reads I e y u he ry
  exact lt_reads _ d e X.A s v u as bs (Nat.le_refl _) r1 r2 c1 c2 o (by omega) X.prog X.w _ _ ⟨.bl _, H, I, rfl, q⟩

/-! ### parts that give data -/
section
variable {K : PySem.W.Frag}
mutual
theorem ex_dp {H H' : Hp} (e : Ex H H') : ∀ {v : V} {d : PyData}, Dp K H v d → Dp K H' v d
  | _, _, .non => .non
  | _, _, .bl b => .bl b
  | _, _, .int i => .int i
  | _, _, .str x => .str x
  | _, _, .lst h a => .lst (ex_l e h) (ex_dps e a)
  | _, _, .tup h a => .tup (ex_t e h) (ex_dps e a)
theorem ex_dps {H H' : Hp} (e : Ex H H') : ∀ {vs : List V} {ds : List PyData}, DpAll K H vs ds → DpAll K H' vs ds
  | _, _, .nil => .nil
  | _, _, .cons h t => .cons (ex_dp e h) (ex_dps e t)
end
def EvD (K : PySem.W.Frag) (te : TE) (σ : L2.St) (H : Hp) (d : PyData) : Prop := ∀ H1, Ex H H1 → ∀ Q : VK, (∀ v H2, Ex H1 H2 → Dp K H2 v d → Q v H2) → te σ H1 Q
/-- a new list, a new tuple of data -/
def EvLD (K : PySem.W.Frag) (te : TE) (σ : L2.St) (H : Hp) (ds : List PyData) : Prop := ∀ H1, Ex H H1 → ∀ Q : VK, (∀ p H2 ys, H1 p = none → Ex H1 H2 → H2 p = some (.lst ys) → DpAll K H2 ys ds → Q (.ref p) H2) → te σ H1 Q
def EvUD (K : PySem.W.Frag) (te : TE) (σ : L2.St) (H : Hp) (ds : List PyData) : Prop := ∀ H1, Ex H H1 → ∀ Q : VK, (∀ p H2 ys, H1 p = none → Ex H1 H2 → H2 p = some (.tup ys) → DpAll K H2 ys ds → Q (.ref p) H2) → te σ H1 Q
def EvAD (K : PySem.W.Frag) (ta : TA) (σ : L2.St) (H : Hp) (ds : List PyData) : Prop := ∀ H1, Ex H H1 → ∀ Q : List V → Hp → Prop, (∀ vs H2, Ex H1 H2 → DpAll K H2 vs ds → Q vs H2) → ta σ H1 Q
variable {σ : L2.St} {H H' : Hp} {ta tb te : TE} {tr : TA} {x y z v : V} {d e : PyData} {ds es : List PyData}
theorem ed_val (h : Ev te σ H v) (hd : Dp K H v d) : EvD K te σ H d := fun H1 e Q q => h H1 e _ fun H2 e2 => q v H2 e2 (ex_dp (e.trans e2) hd)
theorem ed_tupU (h : EvUD K te σ H ds) : EvD K te σ H (.tuple ds) := fun H1 e Q q => h H1 e _ fun p H2 ys _ e2 h2 hd => q _ H2 e2 (.tup (st_of h2) hd)
theorem ed_lst (h : EvLD K te σ H ds) : EvD K te σ H (.list ds) := fun H1 e Q q => h H1 e _ fun p H2 ys _ e2 h2 hd => q _ H2 e2 (.lst (sq_of h2) hd)
theorem ad_nil : EvAD K tNil σ H [] := fun H1 _ _ q => q [] H1 (Ex.refl H1) .nil
theorem ad_cons (h : EvD K te σ H d) (hr : EvAD K tr σ H ds) : EvAD K (tCons te tr) σ H (d :: ds) := fun H1 e Q q =>
  h H1 e _ fun v H2 e2 hd => hr H2 (e.trans e2) _ fun vs H3 e3 hds => q (v :: vs) H3 (e2.trans e3) (.cons (ex_dp e3 hd) hds)
theorem dps_len : ∀ {vs : List V} {ds : List PyData} {H : Hp}, DpAll K H vs ds → vs.length = ds.length
  | _, _, _, .nil => rfl
  | _, _, _, .cons _ t => congrArg (· + 1) (dps_len t)
theorem ud_tup (h : EvAD K tr σ H ds) (hl : ds.length ≤ 100000) : EvUD K (tTup tr) σ H ds := fun H1 e Q q =>
  h H1 e _ fun vs H2 e2 hd => ⟨sz_of (by rw [dps_len hd]; exact hl), fun p hp => q p _ vs (fresh_back e2 hp) (e2.trans (Ex.new hp)) upd_same (ex_dps (Ex.new hp) hd)⟩
theorem ld_lst (h : EvAD K tr σ H ds) (hl : ds.length ≤ 100000) : EvLD K (tLst tr) σ H ds := fun H1 e Q q =>
  h H1 e _ fun vs H2 e2 hd => ⟨sz_of (by rw [dps_len hd]; exact hl), fun p hp => q p _ vs (fresh_back e2 hp) (e2.trans (Ex.new hp)) upd_same (ex_dps (Ex.new hp) hd)⟩
def SpD (K : PySem.W.Frag) (sp : Sp) (vs : List V) (H : Hp) (d : PyData) : Prop := ∀ H1, Ex H H1 → ∀ Q : VK, (∀ v H2, Ex H1 H2 → Dp K H2 v d → Q v H2) → ∀ E : XK, sp vs H1 Q E
def SpUD (K : PySem.W.Frag) (sp : Sp) (vs : List V) (H : Hp) (ds : List PyData) : Prop := ∀ H1, Ex H H1 → ∀ Q : VK, (∀ p H2 ys, H1 p = none → Ex H1 H2 → H2 p = some (.tup ys) → DpAll K H2 ys ds → Q (.ref p) H2) → ∀ E : XK, sp vs H1 Q E
theorem ud_call {sp : Sp} {dvs vs : List V} {E : XK} {ta : TA} (h : EvA ta σ H vs) (hs : SpUD K sp (vs ++ dvs) H ds) : EvUD K (tCall sp dvs E ta) σ H ds := fun H1 e Q q =>
  h H1 e _ fun H2 e2 => hs H2 (e.trans e2) Q (fun p H3 ys hp e3 h3 hd => q p H3 ys (fresh_back e2 hp) (e2.trans e3) h3 hd) E
/-- == , != , < of data -/
theorem ev_eqD (ha : EvD K ta σ H d) (hb : EvD K tb σ H e) (s1 : SeqAt.shaped d = true) (s2 : SeqAt.shaped e = true) : Ev (tOp (rEqD K) ta tb) σ H (.bl (PyData.eqv d e)) := fun H1 ex Q q =>
  ha H1 ex _ fun x H2 e2 h2 => hb H2 (ex.trans e2) _ fun y H3 e3 h3 => ⟨d, e, ex_dp e3 h2, h3, s1, s2, q H3 (e2.trans e3)⟩
theorem ev_neD (ha : EvD K ta σ H d) (hb : EvD K tb σ H e) (s1 : SeqAt.shaped d = true) (s2 : SeqAt.shaped e = true) : Ev (tOp (rNeD K) ta tb) σ H (.bl (!PyData.eqv d e)) := fun H1 ex Q q =>
  ha H1 ex _ fun x H2 e2 h2 => hb H2 (ex.trans e2) _ fun y H3 e3 h3 => ⟨d, e, ex_dp e3 h2, h3, s1, s2, q H3 (e2.trans e3)⟩
theorem ev_ltD (ha : EvD K ta σ H d) (hb : EvD K tb σ H e) (s1 : SeqAt.shaped d = true) (s2 : SeqAt.shaped e = true) (o : ordD d e = true) (dp : d.depth ≤ 60) : Ev (tOp (rLtD K) ta tb) σ H (.bl (ltD d e)) := fun H1 ex Q q =>
  ha H1 ex _ fun x H2 e2 h2 => hb H2 (ex.trans e2) _ fun y H3 e3 h3 => ⟨d, e, ex_dp e3 h2, h3, SeqAt.canLay_of_shaped s1, SeqAt.canLay_of_shaped s2, o, dp, q H3 (e2.trans e3)⟩
/-- tuple(a new list) -/
theorem ud_tuple {tl : TE} (h : EvLD K tl σ H ds) : EvUD K (tCB (fun xs H Q => ∃ p ys, xs = [.ref p] ∧ ((SqL K H p ys ∧ ∀ l, H l = none → Q (.ref l) (upd H l (.tup ys))) ∨ (SqT K H p ys ∧ Q (.ref p) H))) (tCons tl tNil)) σ H ds := fun H1 e Q q =>
  h H1 e _ fun p H2 ys _ e2 h2 hd => ⟨p, ys, rfl, .inl ⟨sq_of h2, fun l hl => q l _ ys (fresh_back e2 hl) (e2.trans (Ex.new hl)) upd_same (ex_dps (Ex.new hl) hd)⟩⟩
mutual
/-- no list within -/
def noL : PyData → Bool
  | .list _ => false
  | .tuple xs => noLs xs
  | .dict _ => false
  | .none | .bool _ | .int _ | .str _ => true
def noLs : List PyData → Bool
  | [] => true
  | x :: xs => noL x && noLs xs
end
mutual
theorem dp_upd {H : Hp} {D : Addr} {ys zs : List V} (hD : H D = some (.lst ys)) : ∀ {v : V} {d : PyData}, noL d = true → Dp K H v d → Dp K (upd H D (.lst zs)) v d
  | _, _, _, .non => .non
  | _, _, _, .bl b => .bl b
  | _, _, _, .int i => .int i
  | _, _, _, .str x => .str x
  | _, _, n, .lst h a => by simp [noL] at n
  | _, _, n, .tup h a => by
    refine .tup ?_ (dps_upd hD (by simpa [noL] using n) a)
    rcases h with (h | ⟨o, h⟩) | h
    · exact .inl (.inl (by rw [upd_ne (by intro z; rw [z, hD] at h; cases h)]; exact h))
    · exact .inl (.inr ⟨o, by rw [upd_ne (by intro z; rw [z, hD] at h; cases h)]; exact h⟩)
    · exact .inr h
theorem dps_upd {H : Hp} {D : Addr} {ys zs : List V} (hD : H D = some (.lst ys)) : ∀ {vs : List V} {ds : List PyData}, noLs ds = true → DpAll K H vs ds → DpAll K (upd H D (.lst zs)) vs ds
  | _, _, _, .nil => .nil
  | _, _, n, .cons h t => by
    have n' : (noL _ && noLs _) = true := n
    rw [Bool.and_eq_true] at n'
    exact .cons (dp_upd hD n'.1 h) (dps_upd hD n'.2 t)
end
theorem noLs_map {f : Nat → PyData} (h : ∀ i, noL (f i) = true) : ∀ l : List Nat, noLs (l.map f) = true
  | [] => rfl
  | i :: l => by
    show (noL (f i) && noLs (l.map f)) = true
    rw [h i, noLs_map h l]
    rfl
/-- [f(x) for x in xs] -/
theorem dps_snoc : ∀ {vs : List V} {ds : List PyData} {H : Hp} {v : V} {d : PyData}, DpAll K H vs ds → Dp K H v d → DpAll K H (vs ++ [v]) (ds ++ [d])
  | _, _, _, _, _, .nil, h => .cons h .nil
  | _, _, _, _, _, .cons a t, h => .cons a (dps_snoc t h)
theorem ld_lcL {a : Addr} {xs : List V} {tl : TE} {j : Nat} {vs : List Nat} (f : Nat → PyData) (h : Ev tl σ H (.ref a)) (hx : SqL K H a xs) (hz : xs.length ≤ 40000) (hn : ∀ i, noL (f i) = true) (hw : ∀ x, wipe ((wipe σ vs).set j (some x)) vs = wipe σ vs)
    (he : ∀ (i : Nat) (x : V) H1, Ex H H1 → xs[i]? = some x → EvD K te ((wipe σ vs).set j (some x)) H1 (f i)) :
    EvLD K (tLc (iList K tl) (gName j) tYes te vs) σ H ((List.range xs.length).map f) := fun H0 e0 Q q => h H0 e0 _ fun H1 e1 => ⟨a, rfl, ⟨xs, ex_l (e0.trans e1) hx⟩, fun D hD =>
  lc_list (xs := xs) (fun i H' => H1 D = none ∧ Ex H1 H' ∧ ∃ ys, H' D = some (.lst ys) ∧ DpAll K H' ys ((List.range i).map f)) ⟨hD, Ex.new hD, [], upd_same, .nil⟩ (fun i H' _ p => ex_l ((e0.trans e1).trans p.2.1) hx)
    (fun i x H' hi p => by
      obtain ⟨p1, p2, ys, p3, p4⟩ := p
      refine ⟨hw x, ?_⟩
      show te ((wipe σ vs).set j (some x)) H' fun y H4 => ∃ acc, H4 D = some (.lst acc) ∧ acc.length < sizeLine ∧ _
      refine he i x H' ((e0.trans e1).trans p2) hi H' (Ex.refl H') _ fun y H4 e4 hy => ⟨ys, e4 _ _ p3, sz_lt ?_, p1, Ex.mut (p2.trans e4) p1, ys ++ [y], upd_same, ?_⟩
      · have := dps_len p4
        rw [List.length_map, List.length_range] at this
        have := (List.getElem?_eq_some_iff.mp hi).1
        omega
      · rw [List.range_succ, List.map_append]
        exact dps_snoc (dps_upd (e4 _ _ p3) (noLs_map hn _) (ex_dps e4 p4)) (dp_upd (e4 _ _ p3) (hn i) hy))
    (fun H' p => by
      obtain ⟨p1, p2, ys, p3, p4⟩ := p
      exact q D H' ys (fresh_back e1 p1) (e1.trans p2) p3 p4)⟩
end

/-! ### the law's own def, run where the caller stands: nothing is being shown there -/
section
variable {P : Program} {w : World} {K : PySem.W.Frag} {mg mb : Str → Option Value}
theorem run_here {x : Str} {st : Stmt} {N ps : List Str} {k : Nat} {f : Addr} {fd : FuncData} {A : Around} {outer : List Env} {s : Shared} {H : Hp} {args : Args} {us : List Value} {vs : List V} {Q : VK} {base : Heap}
    (D : C8.Def K mg x st f fd) (S : FnScope N ps (C8.fnScope st)) (room : Room (k + 1) A) (env : Env0 P w K mg base A outer s H) (bi : BindsTo s fd args (ps.zip us)) (rv : Vals vs us) (len : vs.length = ps.length)
    (body : ∀ cdv : Value, Room k (A.deeper (envOfC x (C8.fnScope st) s.heap.objs.size f cdv)) →
      ∃ t, PSs (cxOf C8.CX0 P w K mg base N x (C8.fnScope st) f cdv A outer s H C8.E0).nox (C8.fnBody st) t ∧ t { nx := fun _ H' => Q .non H', rt := Q } (start N vs) H) :
    codeAny (model P w) A (.call (.ref f) args) (CR C8.CX0 outer P w H s Q C8.E0) s := by
  obtain ⟨oc, od, dV, kV, doc, pm, an, cdv, ct, osl, rfl, look, code⟩ := D.fn.ex
  have sub : ∀ b o, base.get? b = some o → s.heap.get? b = some o := fun b o e => (env.bs b o e).1
  have inK := env.mod.kin.keeps sub
  have noLim := env.mod.nolimit.keeps sub
  apply codeAny_call_function room.depth (inK _ _ look) rfl S.co S.gen rfl (PySem.W.codeRec_of inK code)
  apply bi
  apply wpAny_newFunctionEnv_cells S.kind
  · rintro ⟨n, v⟩ hy
    have hp := S.par n (List.of_mem_zip hy).1
    exact hp.imp id fun c => ⟨c, PySem.W.cellsFrom_some _ _ _ (.inl c)⟩
  intro e he s1 made
  subst he
  obtain ⟨t, ht, hq⟩ := body cdv (room.deeper _)
  have inv := inv_start (CX := C8.CX0) (E := C8.E0) (N := N) S room.hd env len rv made
  refine ⟨noLim.keeps made.toInCall.keep, codeAny_func ?_⟩
  refine wpAny_mono (ht.nox.run [] s1 _ H _ inv hq) ?_ fun _ _ z => z
  intro fl s' z
  match fl, z with
  | .ret u, ⟨v, σ', H', J, r, q⟩ => exact ⟨v, H', J.os, J.bare, J.base, J.hok, r, q⟩
  | .next, ⟨σ', H', J, q⟩ => exact ⟨V.non, H', J.os, J.bare, J.base, J.hok, rfl, q⟩
  | .brk, ⟨_, _, _, q⟩ => exact q.elim
  | .cont, ⟨_, _, _, q⟩ => exact q.elim
/-- what the call of the law leaves -/
def Done (s₁ : Shared) (r : Result) (s' : Shared) : Prop := r = .ok (.ret (.bool true)) ∧ OldK s₁.heap s'.heap ∧ s'.os = s₁.os ∧ AllBare s'.gens
theorem here_core {fa a : Addr} {s₁ : Shared} {vs : List Value} (H : Hp) (KX : K.In s₁.heap) (hns : s₁.heap.Ns mainGlobals mg) (hb : s₁.heap.Ns builtinsNs mb) (hbb : ∀ x : Str, x ≠ "__name__" → mb x = bootBuiltins x) (hlim : s₁.heap.NoLimit) (hg : s₁.gens = #[])
    (ha : s₁.heap.get? a = some { cls := .type "list", data := .seq vs.toArray }) (hok : HOk P w H s₁.heap) (only : ∀ b u, H b = some u → b = a ∧ K.lookup a = none ∧ ∃ o ys, u = .frz o (.lst ys))
    (body : ∀ base : Heap, K.In base → base.Ns mainGlobals mg → Env0 P w K mg base callerA [] s₁ H → codeAny (model P w) callerA (.call (.ref fa) ⟨[.ref a], []⟩) (CR C8.CX0 [] P w H s₁ (fun v _ => v = .bl true) C8.E0) s₁) :
    codeAny (model P w) callerA (.call (.ref fa) ⟨[.ref a], []⟩) (Done s₁) s₁ := by
  have free : ∀ {b : Addr} {o : Obj}, s₁.heap.get? b = some o → (b = a → False) → (hidT s₁.heap H).get? b = some o := fun {b o} e n => hidT_get e (by
    cases q : H b with
    | none => rfl
    | some u => exact (n (only b u q).1).elim)
  have dictFree : ∀ {b : Addr} {o : Obj} {es : Array DictEntry} {ep : Nat}, s₁.heap.get? b = some o → o.data = .dict es ep → (hidT s₁.heap H).get? b = some o := fun {b o es ep} e d => free e fun z => by
    rw [z, ha] at e
    cases e
    exact nomatch d
  have ns : ∀ {b : Addr} {m : Str → Option Value}, s₁.heap.Ns b m → (hidT s₁.heap H).Ns b m := by
    rintro b m ⟨o, es, ep, e, d, r⟩
    exact ⟨o, es, ep, dictFree e d, d, r⟩
  have inK : K.In (hidT s₁.heap H) := fun b o e => hidT_get (KX b o e) (by
    cases q : H b with
    | none => rfl
    | some u =>
      obtain ⟨z1, z2, _⟩ := only b u q
      rw [z1, z2] at e
      cases e)
  obtain ⟨mc, l1, l2⟩ := hlim
  have env : Env0 P w K mg (hidT s₁.heap H) callerA [] s₁ H :=
    { frames := rfl, mod := ⟨inK, ns hns, ⟨mb, ns hb, hbb⟩, ⟨mc, ns l1, l2⟩⟩, bs := fun b o e => of_hidT e, bsz := Nat.le_of_eq (hidT_size _ _), funs := trivial, frf := fun b z => (List.not_mem_nil z).elim, hok := hok, bare := .of_eq hg }
  refine codeAny_mono (body _ inK (ns hns) env) ?_
  intro r s' z
  match r, z with
  | .error e, z => exact (show False from z).elim
  | .ok .next, z => exact (show False from z).elim
  | .ok .brk, z => exact (show False from z).elim
  | .ok .cont, z => exact (show False from z).elim
  | .ok (.ret u), ⟨v, H', os, bare, un, hok', rel, q⟩ =>
    have q' : v = .bl true := q
    subst q'
    have eu : u = Value.bool true := rel
    subst eu
    refine ⟨rfl, OldK.of_keep fun b o e => ?_, os, bare⟩
    cases hq : H b with
    | none => exact un.keep b o e hq (fun z => (List.not_mem_nil z).elim) List.not_mem_nil
    | some u =>
      obtain ⟨_, _, o2, ys, rfl⟩ := only b u hq
      obtain ⟨w1, _⟩ := hok b _ hq
      obtain ⟨w2, _⟩ := hok' b _ (un.frzs b o2 _ hq)
      rw [e] at w1
      cases w1
      exact w2
theorem here_call {fa a : Addr} {s₁ : Shared} {vs : List Value} {ns : List Int} (KX : K.In s₁.heap) (hns : s₁.heap.Ns mainGlobals mg) (hb : s₁.heap.Ns builtinsNs mb) (hbb : ∀ x : Str, x ≠ "__name__" → mb x = bootBuiltins x) (hlim : s₁.heap.NoLimit) (hg : s₁.gens = #[])
    (ha : s₁.heap.get? a = some { cls := .type "list", data := .seq vs.toArray }) (hi : IntsAre vs ns) (hl : ns.length ≤ sizeLine)
    (body : ∀ (H : Hp) (base : Heap), K.In base → base.Ns mainGlobals mg → SqL K H a (ns.map V.int) → Env0 P w K mg base callerA [] s₁ H → codeAny (model P w) callerA (.call (.ref fa) ⟨[.ref a], []⟩) (CR C8.CX0 [] P w H s₁ (fun v _ => v = .bl true) C8.E0) s₁) :
    codeAny (model P w) callerA (.call (.ref fa) ⟨[.ref a], []⟩) (Done s₁) s₁ := by
  have rv := vals_ints hi
  cases hk : K.lookup a with
  | some o =>
    have e := (KX a o hk).symm.trans ha
    cases e
    refine here_core (fun _ => none) KX hns hb hbb hlim hg ha (fun b u z => nomatch (z : (none : Option HO) = some u)) (fun b u z => nomatch (z : (none : Option HO) = some u)) fun base i1 i2 i3 => body _ base i1 i2 (.inr ⟨_, vs.toArray, _, hk, rfl, rfl, rfl, ?_, by simpa using rv⟩) i3
    rw [List.size_toArray, hi.length]
    exact hl
  | none =>
    refine here_core (upd (fun _ => none) a (.frz { cls := .type "list", data := .seq vs.toArray } (.lst (ns.map V.int)))) KX hns hb hbb hlim hg ha (fun b u z => ?_) (fun b u z => ?_) fun base i1 i2 i3 => body _ base i1 i2 (.inl (.inr ⟨_, upd_same⟩)) i3
    · by_cases e : b = a
      · subst e
        rw [upd_same] at z
        cases z
        exact ⟨ha, by rw [List.length_map]; exact hl, vs, _, rv, ha⟩
      · rw [upd_ne e] at z
        cases z
    · by_cases e : b = a
      · subst e
        rw [upd_same] at z
        cases z
        exact ⟨rfl, hk, _, _, rfl⟩
      · rw [upd_ne e] at z
        cases z
end
/-- the end of a law whose def shows things -/
theorem walk_here {l : PySem.W.OpenLaw} {n k : Nat} {q : Program} {loose : List Str} {XP : (Str → Option Value) → Heap → Prop} {YP : World → Heap → Prop} {d : DefRec} {K : Params → PySem.W.Frag} {st : Stmt} {N : List Str}
    (hn : l.most = some n) (hn2 : n ≤ sizeLine) (hdf : d.params.defaults = []) (hr : Room (k + 1) callerA) (hY : ∀ (w : World) (h : Heap), YP w h → (K w.params).In h) (S : FnScope N ["script"] (C8.fnScope st))
    (F : ∀ (w : World) (mg : Str → Option Value) (fa : Addr) (h : Heap), (K w.params).In h → h.Ns mainGlobals mg → mg d.name = some (.ref fa) →
      ∃ fd : FuncData, C8.Def (K w.params) mg "law" st fa fd ∧ (∀ (s : Shared) (u : Value), BindsTo s fd ⟨[u], []⟩ [("script", u)]) ∧
        ∀ (base : Heap) (s : Shared) (H : Hp) (a : Addr) (ns : List Int) (cdv : Value), (K w.params).In base → base.Ns mainGlobals mg → ns.length ≤ n → SqL (K w.params) H a (ns.map V.int) →
          Room k (callerA.deeper (envOfC "law" (C8.fnScope st) s.heap.objs.size fa cdv)) →
          ∃ t, PSs (cxOf C8.CX0 l.prog w (K w.params) mg base N "law" (C8.fnScope st) fa cdv callerA [] s H C8.E0).nox (C8.fnBody st) t ∧ t { nx := fun _ _ => V.non = .bl true, rt := fun v _ => v = .bl true } (start N [.ref a]) H) :
    PySem.W.WalkO q loose XP YP l.row.toRowW d [] (fun f vs => PySem.call f vs) := by
  apply Att.attach_call hn hdf
  intro w s₀ s₁ mg mb fa o pm cd doc a vs ns G Y ho hd hcd hmg hobj hints hlen hg
  obtain ⟨fd, D, bi, body⟩ := F w mg fa _ (hY w _ Y) G.T.g hmg
  apply here_call (hY w _ Y) G.T.g G.T.b G.T.builtins G.T.nolimit hg hobj hints (Nat.le_trans hlen hn2)
  intro H base i1 i2 hS env
  exact run_here (us := [.ref a]) (vs := [.ref a]) D S hr env (bi s₁ (.ref a)) (.cons rfl .nil) rfl fun cdv room => body base s₁ H a ns cdv i1 i2 hlen hS room
/-! ### repr -/
def rRepr (K : PySem.W.Frag) : List V → Hp → VK → Prop := fun xs H Q => ∃ a d, xs = [.ref a] ∧ Dp K H (.ref a) d ∧ d.showable = true ∧ d.hasDict = false ∧ d.depth ≤ 60 ∧ d.shown.length ≤ sizeLine ∧ Q (.str d.shown) H
theorem call_repr {X : Cx} (hg : X.A.guards = some []) (hu : X.A.units + 64 < cLine) : CallR X (.builtin "repr") (rRepr X.K) := by
  intro pins s σ H xs us Q I r h
  obtain ⟨a, d, rfl, hd, h1, h2, h3, h4, q⟩ := h
  obtain ⟨u, rfl, ru⟩ := vals1 r
  obtain ⟨as, rd⟩ := Dp.reads I d _ u hd ru
  cases (show u = Value.ref a from ru)
  exact repr_of_reads' rd h1 (fun z => by rw [h2] at z; cases z) hg (by omega) (fun _ _ e => e) (fun h' u tk hk => ⟨.str d.shown, H, I.kept hk, ⟨_, rfl⟩, q⟩) h4
theorem ev_repr {K : PySem.W.Frag} {σ : L2.St} {H : Hp} {ta : TE} {a : Addr} {d : PyData} (ha : Ev ta σ H (.ref a)) (hd : Dp K H (.ref a) d) (hx : ∀ H1, Ex H H1 → Dp K H1 (.ref a) d) (h1 : d.showable = true) (h2 : d.hasDict = false) (h3 : d.depth ≤ 60) (h4 : d.shown.length ≤ sizeLine) :
    Ev (tCB (rRepr K) (tCons ta tNil)) σ H (.str d.shown) := fun H1 e Q q =>
  ha H1 e _ fun H2 e2 => ⟨a, d, rfl, hx H2 (e.trans e2), h1, h2, h3, h4, q H2 e2⟩

/-! ### further loops: reversed(a list), range(n - 1, -1, -1), a new tuple -/
section
variable {K : PySem.W.Frag} {σ : L2.St} {H H' : Hp} {D : Ends} {tz tu : TS} {te tl : TE} {g : TG}
theorem s_break (h : D.bk σ H) : tBreak D σ H := h
theorem q_forRev {a : Addr} {xs : List V} {tr : TA} {j : Nat} (h : EvA tr σ H [.ref a]) (hS : SqL K H a xs) (Pv : Nat → L2.St → Hp → Prop) (h0 : ∀ H1, Ex H H1 → Pv 0 σ H1) (hl : ∀ i σ' H', Pv i σ' H' → SqL K H' a xs)
    (hs : ∀ (i : Nat) x σ' H', i < xs.length → xs[xs.length - 1 - i]? = some x → Pv i σ' H' → tu { D with nx := Pv (i + 1), ct := Pv (i + 1), bk := tz D } (σ'.set j (some x)) H') (hd : ∀ σ' H', Pv xs.length σ' H' → tz D σ' H') : tSeq (tFor (iRev K tr) (gName j) tu) tz D σ H :=
  h H (Ex.refl H) _ fun H1 e => ⟨a, xs, rfl, ex_l e hS, RT.for_Itv (D := { D with nx := tz D }) Pv (h0 H1 e) hl hs hd⟩
theorem s_forDown {tr : TA} {j n : Nat} (h : EvA tr σ H [.int ((n : Int) - 1), .int (-1), .int (-1)]) (hn : n ≤ 100000) (Pv : Nat → L2.St → Hp → Prop) (h0 : ∀ H1, Ex H H1 → Pv 0 σ H1)
    (hs : ∀ (i : Nat) σ' H', i < n → Pv i σ' H' → tu { D with nx := Pv (i + 1), ct := Pv (i + 1), bk := D.nx } (σ'.set j (some (.int (((n - 1 - i : Nat) : Int))))) H') (hd : ∀ σ' H', Pv n σ' H' → D.nx σ' H') : tFor (iRng3 tr) (gName j) tu D σ H := by
  refine h H (Ex.refl H) _ fun H1 e => ⟨(n : Int) - 1, -1, -1, ((n : Int) - 1 - (-1)).toNat, rfl, RgC.neg (by omega) (by omega) (by omega) (by omega), for_rangeC Pv (h0 H1 e) (fun i σ' H' hi p => ?_) fun σ' H' p => hd σ' H' ?_⟩
  · have e0 : (n : Int) - 1 + (i : Nat) * (-1) = ((n - 1 - i : Nat) : Int) := by omega
    show tu { D with nx := Pv (i + 1), ct := Pv (i + 1), bk := D.nx } (σ'.set j (some (.int ((n : Int) - 1 + (i : Nat) * (-1))))) H'
    rw [e0]
    exact hs i σ' H' (by omega) p
  · rw [show ((n : Int) - 1 - (-1)).toNat = n by omega] at p
    exact p
theorem q_forDown {tr : TA} {j n : Nat} (h : EvA tr σ H [.int ((n : Int) - 1), .int (-1), .int (-1)]) (hn : n ≤ 100000) (Pv : Nat → L2.St → Hp → Prop) (h0 : ∀ H1, Ex H H1 → Pv 0 σ H1)
    (hs : ∀ (i : Nat) σ' H', i < n → Pv i σ' H' → tu { D with nx := Pv (i + 1), ct := Pv (i + 1), bk := tz D } (σ'.set j (some (.int (((n - 1 - i : Nat) : Int))))) H') (hd : ∀ σ' H', Pv n σ' H' → tz D σ' H') : tSeq (tFor (iRng3 tr) (gName j) tu) tz D σ H :=
  s_forDown (D := { D with nx := tz D }) h hn Pv h0 hs hd
/-- over a new tuple: the turns' word speaks of what grows out of H1 -/
theorem q_forU {xs : List V} {j : Nat} (h : EvU tl σ H xs) (Pv : Nat → L2.St → Hp → Prop) (h0 : Pv 0 σ H) (hm : ∀ i σ' H1 H2, Pv i σ' H1 → Ex H1 H2 → Pv i σ' H2)
    (hs : ∀ i x σ' H1, xs[i]? = some x → Pv i σ' H1 → ∀ N : L2.St → Hp → Prop, (∀ σ2 H2, Pv (i + 1) σ2 H2 → Ex H1 H2 → N σ2 H2) → tu { D with nx := N, ct := N, bk := tz D } (σ'.set j (some x)) H1) (hd : ∀ σ' H', Pv xs.length σ' H' → tz D σ' H') : tSeq (tFor (iTup K tl) (gName j) tu) tz D σ H :=
  h H (Ex.refl H) _ fun p H1 hp e h1 => ⟨p, rfl, ⟨xs, st_of h1⟩, for_tup (D := { D with nx := tz D }) (fun i σ' H' => Pv i σ' H' ∧ H' p = some (.tup xs)) ⟨hm _ _ _ _ h0 e, h1⟩ (fun i σ' H' _ q => st_of q.2)
    (fun i x σ' H' hx q => hs i x σ' H' hx q.1 _ fun σ2 H2 q2 e2 => ⟨q2, e2 _ _ q.2⟩) fun σ' H' q => hd σ' H' q.1⟩
end

/-! ### dicts of whole numbers, written at the top -/
def DInts (K : PySem.W.Frag) (p : Addr) (l : List (String × Int)) : Prop := ∀ kv ∈ l, ∃ t, PySem.W.nsIn K p (Str.ofString kv.1) = some (some (.int kv.2 t))
theorem DInts.nil {K : PySem.W.Frag} {p : Addr} : DInts K p [] := fun _ h => nomatch h
theorem DInts.cons {K : PySem.W.Frag} {p : Addr} {k : String} {n : Int} {t : Tok} {l : List (String × Int)} (e : PySem.W.nsIn K p (Str.ofString k) = some (some (.int n t))) (h : DInts K p l) : DInts K p ((k, n) :: l) := fun kv hk => by
  rcases List.mem_cons.mp hk with z | z
  · rw [z]; exact ⟨t, e⟩
  · exact h kv z
open PySem.AutoSeq1 in
/-- xs.extend(a tuple) -/
theorem list_extend_tupG (l : Addr) (items : Array Value) (n : Nat) (b : Addr) (o2 : Obj) (items2 : Array Value) (n2 : Nat) (hc : o2.cls = .type "tuple") (hd : o2.data = .seq items2 n2) (hs0 : ¬(!items.isEmpty && Builtin.List.listTooLong (items.size + items2.size)) = true) (hs1 : items.size ≤ sizeLine) (hs2 : items.size + items2.size ≤ sizeLine + 1) :
    Meets (Builtin.«list.extend» ⟨[.ref l, .ref b], []⟩) (fun _ R s => s.heap.get? l = some { cls := .type "list", dict := none, data := .seq items n, slots := #[] } ∧ s.heap.get? b = some o2 ∧ R (.ok (.ret Value.none)) { s with heap := s.heap.update l (Obj.mapSeq fun x => x ++ items2), toks := s.toks }) :=
  .of_wp fun prog w A R s h => by
    obtain ⟨cls, dd, data, sl⟩ := o2
    simp only at hc hd
    subst hc hd
    obtain ⟨hp, g, d, tk, os⟩ := s; obtain ⟨hl, hb, h⟩ := h; have f1 := AutoSeq1.idx_int; have f2 := AutoSeq1.sub_tuple_tuple; have f3 := AutoSeq1.sub_list_list; have f4 := AutoSeq1.sub_tuple_list; have f5 := AutoSeq1.sub_list_tuple
    have hz' : (items ++ items2).size ≤ sizeLine + 1 := by rw [Array.size_append]; exact hs2
    wp_walk using (wpAny_updateSeq hl rfl (hz := hs1) (_hz' := hz')), wpAny_loadPart' hl, wpAny_loadPart' hb; exact ⟨_, rfl, h⟩
def rExtT (K : PySem.W.Frag) : V → List V → Hp → VK → Prop := fun x vs H Q => ∃ l b xs zs, x = .ref l ∧ vs = [.ref b] ∧ H l = some (.lst xs) ∧ SqT K H b zs ∧ xs.length + zs.length ≤ sizeLine ∧ Q .non (upd H l (.lst (xs ++ zs)))
theorem mt_extT {X : L2.Cx} : MtM X "list.extend" (rExtT X.K) := by
  intro pins s σ H x vs v us Q I rx rv h
  obtain ⟨l, b, xs, zs, rfl, rfl, hH, hB, hz, q⟩ := h
  cases rx
  obtain ⟨u, rfl, ru⟩ := rv.one
  cases ru
  obtain ⟨z, its, n, r, hl, e⟩ := I.lstM hH
  obtain ⟨its2, r2, ⟨o2, e2, hc2, n2, hd2⟩, hz2⟩ := I.tuple hB
  have hl2 := r2.length
  have hsz : its.toArray.size + its2.toArray.size ≤ sizeLine := by rw [List.size_toArray, List.size_toArray]; omega
  have hlong : ¬ (!its.toArray.isEmpty && Builtin.List.listTooLong (its.toArray.size + its2.toArray.size)) = true := by
    rw [notLongL hsz, Bool.and_false]
    exact Bool.false_ne_true
  refine call_meets F.slot_list_extend ⟨_, e, rfl⟩ F.entry_list_extend (F.args_list_extend_2 _ _)
    (list_extend_tupG l its.toArray n b o2 its2.toArray n2 hc2 hd2 hlong (by rw [List.size_toArray]; omega) (by omega)) ⟨e, e2, ?_⟩
  refine ⟨.non, _, I.lset (its' := its ++ its2) hH e (by simp) (r.append r2) ?_, rfl, q⟩
  rw [List.length_append]
  omega

/-! ### D.get(key, other) of a dict that is written at the top (texts as keys) -/
def DMiss (K : PySem.W.Frag) (p : Addr) (l : List String) : Prop := ∀ k ∈ l, PySem.W.nsIn K p (Str.ofString k) = some none
theorem DMiss.nil {K : PySem.W.Frag} {p : Addr} : DMiss K p [] := fun _ h => nomatch h
theorem DMiss.cons {K : PySem.W.Frag} {p : Addr} {k : String} {l : List String} (e : PySem.W.nsIn K p (Str.ofString k) = some none) (h : DMiss K p l) : DMiss K p (k :: l) := fun x hx => by
  rcases List.mem_cons.mp hx with z | z
  · rw [z]; exact e
  · exact h x z
def tKGet (K : PySem.W.Frag) (w : World) (td ty tx : TE) : TE := fun σ H Q => td σ H fun x H1 => ∃ p es n, x = .ref p ∧ KDict K w p es n ∧ ty σ H1 fun y H2 => tx σ H2 fun z H3 => ∃ s, y = .str s ∧ ((∃ u v, PySem.W.nsIn K p s = some (some u) ∧ L2.RelV v u ∧ Q v H3) ∨ (PySem.W.nsIn K p s = some none ∧ Q z H3))
theorem pe_kget {X : Cx} {o e f : Expr} {apos cpos : Pos} {td ty tx : TE} (ho : PE X o td) (he : PE X e ty) (hf : PE X f tx) (m : M2 X o "get" apos e f cpos) : PE X (.Call (.Attribute o "get" apos) [e, f] [] cpos) (tKGet X.K X.w td ty tx) := by
  refine ⟨fun pins s σ H Q I h => ?_⟩
  refine wpAny_Call_method m.base m.few m.line PySem.F.plainAttrs_dict PySem.F.slot_dict_get PySem.F.type_dict_get (thn (ho.run pins s σ H _ I h) fun u s1 ⟨x, H1, I1, rx, p, es, n, ex, kd, q1⟩ => ?_)
  subst ex
  obtain rfl : u = Value.ref p := rx
  have hm1 := PySem.W.mapOf_K (prog := X.prog) (w := X.w) I1.kIn kd.at_ kd.lit
  refine ⟨hm1.typeIs, fun b q => ?_, ?_⟩
  · cases q
    exact ⟨_, I1.kIn _ _ kd.at_, rfl⟩
  rw [m.trees]
  refine Calls.callWith_builtin rfl (Calls.evalArgs_plain (Calls.spliced_cons (thn (he.run pins s1 σ H1 _ I1 q1) fun iv s2 ⟨y, H2, I2, ry, q2⟩ =>
    Calls.spliced_cons (thn (hf.run pins s2 σ H2 _ I2 q2) fun fv s3 ⟨z, H3, I3, rz, q3⟩ => Calls.spliced_nil ?_))))
  obtain ⟨k, rfl, q⟩ := q3
  obtain ⟨t, rfl⟩ := (show ∃ t, iv = Value.str k t from ry)
  have hm := PySem.W.mapOf_K (prog := X.prog) (w := X.w) I3.kIn kd.at_ kd.lit
  refine call_meetsIn PySem.F.slot_dict_get hm.typeIs PySem.F.entry_dict_get (PySem.F.args_dict_get_3 _ _ _) (meets_dict_get_default (strKind X.prog X.w) p (strKind_is X.prog X.w k t) kd.low fv) ⟨_, hm, ?_⟩
  rcases q with ⟨u, v, e, ru, q⟩ | ⟨e, q⟩
  · rw [PySem.W.find_K kd.at_ e]
    exact ⟨v, H3, I3.tok _, ru, q⟩
  · rw [PySem.W.find_K kd.at_ e]
    exact ⟨z, H3, I3.tok _, rz, q⟩

def limV (n : Int) : V := if -1000000000000000 ≤ n ∧ n ≤ 1000000000000000 then .int n else .non
def topS (i : Nat) : Stmt := PySem.Challenge.pw_stylobate_k41_plans_without_a_width.main.body.getD i (.Pass ⟨0, 0, 0, 0⟩)
abbrev s_parts_of : Stmt := topS 2
abbrev n_parts_of : List Str := ["expression"]
theorem sc_parts_of : FnScope n_parts_of ["expression"] (C8.fnScope s_parts_of) := C8.fnScope_by (by decide +kernel)
abbrev s_columns_of : Stmt := topS 3
abbrev n_columns_of : List Str := ["expression", "found", "waiting", "part"]
theorem sc_columns_of : FnScope n_columns_of ["expression"] (C8.fnScope s_columns_of) := C8.fnScope_by (by decide +kernel)
abbrev s_inputs_in : Stmt := topS 6
abbrev n_inputs_in : List Str := ["plan", "many"]
theorem sc_inputs_in : FnScope n_inputs_in ["plan"] (C8.fnScope s_inputs_in) := C8.fnScope_by (by decide +kernel)
abbrev s_operators_in : Stmt := topS 7
abbrev n_operators_in : List Str := ["plan", "found", "waiting", "operator"]
theorem sc_operators_in : FnScope n_operators_in ["plan"] (C8.fnScope s_operators_in) := C8.fnScope_by (by decide +kernel)
abbrev s_worked_up : Stmt := topS 8
abbrev n_worked_up : List Str := ["plan", "work", "done", "operator", "made", "_"]
theorem sc_worked_up : FnScope n_worked_up ["plan", "work"] (C8.fnScope s_worked_up) := C8.fnScope_by (by decide +kernel)
abbrev s__operands_in : Stmt := topS 9
abbrev n__operands_in : List Str := ["values", "value"]
theorem sc__operands_in : FnScope n__operands_in ["values"] (C8.fnScope s__operands_in) := C8.fnScope_by (by decide +kernel)
abbrev s__keys_in : Stmt := topS 10
abbrev n__keys_in : List Str := ["keys", "expression", "_"]
theorem sc__keys_in : FnScope n__keys_in ["keys"] (C8.fnScope s__keys_in) := C8.fnScope_by (by decide +kernel)
abbrev s_expressions_in : Stmt := topS 11
abbrev n_expressions_in : List Str := ["plan", "form"]
theorem sc_expressions_in : FnScope n_expressions_in ["plan"] (C8.fnScope s_expressions_in) := C8.fnScope_by (by decide +kernel)
abbrev s__uses_known : Stmt := topS 13
abbrev n__uses_known : List Str := ["operator", "many", "expression", "columns"]
theorem sc__uses_known : FnScope n__uses_known ["operator", "many"] (C8.fnScope s__uses_known) := C8.fnScope_by (by decide +kernel)
abbrev s__leaf_width : Stmt := topS 14
abbrev n__leaf_width : List Str := ["operator", "widths", "_", "width", "rows", "row"]
theorem sc__leaf_width : FnScope n__leaf_width ["operator", "widths"] (C8.fnScope s__leaf_width) := C8.fnScope_by (by decide +kernel)
abbrev s__result_width : Stmt := topS 15
abbrev n__result_width : List Str := ["operator", "inputs", "form"]
theorem sc__result_width : FnScope n__result_width ["operator", "inputs"] (C8.fnScope s__result_width) := C8.fnScope_by (by decide +kernel)
abbrev s__operator_width : Stmt := topS 16
abbrev n__operator_width : List Str := ["operator", "inputs", "widths", "form", "width"]
theorem sc__operator_width : FnScope n__operator_width ["operator", "inputs", "widths"] (C8.fnScope s__operator_width) := C8.fnScope_by (by decide +kernel)
abbrev s_width_of : Stmt := topS 17
abbrev n_width_of : List Str := ["plan", "widths"]
theorem sc_width_of : FnScope n_width_of ["plan", "widths"] (C8.fnScope s_width_of) := C8.fnScope_by (by decide +kernel)
abbrev s__law_numbers : Stmt := topS 19
abbrev n__law_numbers : List Str := ["script", "count", "numbers", "k", "cell"]
theorem sc__law_numbers : FnScope n__law_numbers ["script", "count"] (C8.fnScope s__law_numbers) := C8.fnScope_by (by decide +kernel)
abbrev s__law_source : Stmt := topS 20
abbrev n__law_source : List Str := ["number", "wrong", "width", "k"]
theorem sc__law_source : FnScope n__law_source ["number", "wrong", "width"] (C8.fnScope s__law_source) := C8.fnScope_by (by decide +kernel)
abbrev s__law_column : Stmt := topS 21
abbrev n__law_column : List Str := ["number", "width", "wrong"]
theorem sc__law_column : FnScope n__law_column ["number", "width", "wrong"] (C8.fnScope s__law_column) := C8.fnScope_by (by decide +kernel)
abbrev s__law_operator : Stmt := topS 22
abbrev n__law_operator : List Str := ["plan", "width", "number", "wrong", "rest", "choice", "bad", "one", "good", "kind", "told", "condition"]
theorem sc__law_operator : FnScope n__law_operator ["plan", "width", "number", "wrong"] (C8.fnScope s__law_operator) := C8.fnScope_by (by decide +kernel)
abbrev s_law : Stmt := topS 23
abbrev n_law : List Str := ["script", "numbers", "width", "count", "fault", "place", "first", "plan", "k", "wrong", "number", "told"]
theorem sc_law : FnScope n_law ["script"] (C8.fnScope s_law) := C8.fnScope_by (by decide +kernel)
--@SPLIT
/-! ### a list that is drawn from: its one object may change -/
def wo (p : Addr) (H : Hp) : Hp := fun a => if a = p then none else H a
theorem wo_self (p : Addr) (H : Hp) : wo p H p = none := if_pos rfl
theorem wo_ne {p a : Addr} {H : Hp} (h : a ≠ p) : wo p H a = H a := if_neg h
theorem wo_le (p : Addr) (H : Hp) : Ex (wo p H) H := fun a o h => by
  unfold wo at h
  split at h
  · cases h
  · exact h
theorem wx_of {p : Addr} {H H' : Hp} (e : Ex H H') : Ex (wo p H) H' := (wo_le p H).trans e
theorem wx_trans {p : Addr} {H1 H2 H3 : Hp} (a : Ex (wo p H1) H2) (b : Ex (wo p H2) H3) : Ex (wo p H1) H3 := fun x o h => b x o (by
  have hx : x ≠ p := fun z => by
    rw [z, wo_self] at h
    cases h
  rw [wo_ne hx]
  exact a x o h)
theorem wx_back {p : Addr} {H0 H1 H2 : Hp} (h : H0 p = none) (e : Ex H0 H1) (x : Ex (wo p H1) H2) : Ex H0 H2 := fun a o ha => x a o (by
  have hx : a ≠ p := fun z => by
    rw [z, h] at ha
    cases ha
  rw [wo_ne hx]
  exact e a o ha)
theorem wx_to {p : Addr} {H0 H1 : Hp} (h : H0 p = none) (e : Ex H0 H1) : Ex H0 (wo p H1) := wx_back h e (fun _ _ z => z)
theorem wx_mut {p : Addr} {H1 H2 : Hp} {o : HO} (e : Ex (wo p H1) H2) : Ex (wo p H1) (upd H2 p o) := Ex.mut e (wo_self p H1)
def Dr (p : Addr) (H : Hp) : Prop := ∃ s : Int, 0 ≤ s ∧ H p = some (.lst [.int s])
theorem Dr.ex {p : Addr} {H H' : Hp} (d : Dr p H) (e : Ex H H') : Dr p H' := by
  obtain ⟨s, h0, h⟩ := d
  exact ⟨s, h0, e _ _ h⟩
/-- a value that is drawn: one of those with the word P -/
def EvD1 (te : TE) (σ : L2.St) (p : Addr) (H : Hp) (P : V → Prop) : Prop := ∀ H1, Ex (wo p H) H1 → Dr p H1 → ∀ Q : VK, (∀ v H2, P v → Ex (wo p H1) H2 → Dr p H2 → Q v H2) → te σ H1 Q
def EvDT (tt : TT) (σ : L2.St) (p : Addr) (H : Hp) (P : Bool → Prop) : Prop := ∀ H1, Ex (wo p H) H1 → Dr p H1 → ∀ Q : Bool → Hp → Prop, (∀ b H2, P b → Ex (wo p H1) H2 → Dr p H2 → Q b H2) → tt σ H1 Q
def ZP (P : Int → Prop) : V → Prop := fun v => ∃ i, v = .int i ∧ P i
/-- a value of which a word alone is known, all else as it was -/
def EvN (te : TE) (σ : L2.St) (H : Hp) (P : V → Prop) : Prop := ∀ H1, Ex H H1 → ∀ Q : VK, (∀ v H2, P v → Ex H1 H2 → Q v H2) → te σ H1 Q
/-- a new list to draw from -/
def EvC (te : TE) (σ : L2.St) (H : Hp) : Prop := ∀ H1, Ex H H1 → ∀ Q : VK, (∀ p H2, H1 p = none → Ex H1 H2 → Dr p H2 → Q (.ref p) H2) → te σ H1 Q
def sp__law_cell (K : PySem.W.Frag) : Sp := fun vs H Q _ => ∃ (a : Addr) (ns : List Int) (k : Int), vs = [.ref a, .int k] ∧ SqL K H a (ns.map V.int) ∧ 0 ≤ k ∧ ∀ H', Ex H H' → Q (.int (ns.getD k.toNat 0)) H'
def sp__law_state (K : PySem.W.Frag) : Sp := fun vs H Q _ => ∃ c k : Int, vs = [.int c, .int k] ∧ ∀ p H', H p = none → Ex H H' → Dr p H' → Q (.ref p) H'
def sp__law_digit (K : PySem.W.Frag) : Sp := fun vs H Q _ => ∃ (p : Addr) (m : Int), vs = [.ref p, .int m] ∧ Dr p H ∧ 0 < m ∧ m < 2 ^ 400 ∧ ∀ d H', 0 ≤ d → d < m → Ex (wo p H) H' → Dr p H' → Q (.int d) H'
section
variable {K : PySem.W.Frag} {σ : L2.St} {H H' : Hp} {p : Addr} {ta tb te tx : TE} {t u : TT} {x y z v : V} {r : R2} {P R S : V → Prop} {PI RI SI : Int → Prop} {D : Ends} {tz tu tw : TS} {E : XK}
theorem e1_pure (h : Ev te σ (wo p H) v) (hv : P v) : EvD1 te σ p H P := fun H1 e d Q q => h H1 e Q fun H2 e2 => q v H2 hv (wx_of e2) (d.ex e2)
theorem e1_int {i : Int} (h : Ev te σ (wo p H) (.int i)) (hv : PI i) : EvD1 te σ p H (ZP PI) := e1_pure h ⟨i, rfl, hv⟩
theorem e1_mono (h : EvD1 te σ p H P) (k : ∀ v, P v → R v) : EvD1 te σ p H R := fun H1 e d Q q => h H1 e d Q fun v H2 hv e2 d2 => q v H2 (k v hv) e2 d2
theorem ez_mono (h : EvD1 te σ p H (ZP PI)) (k : ∀ i, PI i → RI i) : EvD1 te σ p H (ZP RI) := e1_mono h fun v ⟨i, e, hi⟩ => ⟨i, e, k i hi⟩
theorem ez_op {C : Int → Int → Prop} {g : Int → Int → Int} (ha : EvD1 ta σ p H (ZP PI)) (hb : EvD1 tb σ p H (ZP RI)) (hc : ∀ i j, PI i → RI j → C i j ∧ SI (g i j)) : EvD1 (tOp (rI C fun i j => .int (g i j)) ta tb) σ p H (ZP SI) := fun H1 e d Q q =>
  ha H1 e d _ fun v H2 ⟨i, ev, hi⟩ e2 d2 => hb H2 (wx_trans e e2) d2 _ fun w H3 ⟨j, ew, hj⟩ e3 d3 => ⟨i, j, ev, ew, (hc i j hi hj).1, q _ H3 ⟨_, rfl, (hc i j hi hj).2⟩ (wx_trans e2 e3) d3⟩
theorem ez_op0 {g : Int → Int → Int} (ha : EvD1 ta σ p H (ZP PI)) (hb : EvD1 tb σ p H (ZP RI)) (hc : ∀ i j, PI i → RI j → SI (g i j)) : EvD1 (tOp (rI0 fun i j => .int (g i j)) ta tb) σ p H (ZP SI) := fun H1 e d Q q =>
  ha H1 e d _ fun v H2 ⟨i, ev, hi⟩ e2 d2 => hb H2 (wx_trans e e2) d2 _ fun w H3 ⟨j, ew, hj⟩ e3 d3 => ⟨i, j, ev, ew, q _ H3 ⟨_, rfl, hc i j hi hj⟩ (wx_trans e2 e3) d3⟩
theorem ez_cmp {g : Int → Int → Bool} (ha : EvD1 ta σ p H (ZP PI)) (hb : EvD1 tb σ p H (ZP RI)) : EvD1 (tOp (rI0 fun i j => .bl (g i j)) ta tb) σ p H (fun v => ∃ b, v = .bl b) := fun H1 e d Q q =>
  ha H1 e d _ fun v H2 ⟨i, ev, hi⟩ e2 d2 => hb H2 (wx_trans e e2) d2 _ fun w H3 ⟨j, ew, hj⟩ e3 d3 => ⟨i, j, ev, ew, q _ H3 ⟨_, rfl⟩ (wx_trans e2 e3) d3⟩
theorem ez_eq (ha : EvD1 ta σ p H (ZP PI)) (hb : EvD1 tb σ p H (ZP RI)) : EvD1 (tOp rEq ta tb) σ p H (fun v => ∃ b, v = .bl b) := fun H1 e d Q q =>
  ha H1 e d _ fun v H2 ⟨i, ev, hi⟩ e2 d2 => hb H2 (wx_trans e e2) d2 _ fun w H3 ⟨j, ew, hj⟩ e3 d3 => by
    subst ev ew
    exact ⟨rfl, q _ H3 ⟨_, rfl⟩ (wx_trans e2 e3) d3⟩
theorem ez_int (h : EvD1 ta σ p H (ZP PI)) : EvD1 (tCB (fun xs H Q => (∃ i, xs = [.int i] ∧ Q (.int i) H) ∨ ∃ k, xs = [.bl k] ∧ Q (.int (if k then 1 else 0)) H) (tCons ta tNil)) σ p H (ZP PI) :=
  fun H1 e d Q q => h H1 e d _ fun v H2 ⟨i, ev, hi⟩ e2 d2 => .inl ⟨i, by rw [ev], q _ H2 ⟨i, rfl, hi⟩ e2 d2⟩
/-- _law_digit(state, m) -/
theorem ez_digit {m : Int} (ha : Ev ta σ (wo p H) (.ref p)) (hb : Ev tb σ (wo p H) (.int m)) (h0 : 0 < m) (h1 : m < 2 ^ 400) : EvD1 (tCall (sp__law_digit K) [] E (tCons ta (tCons tb tNil))) σ p H (ZP fun d => 0 ≤ d ∧ d < m) := fun H1 e d Q q =>
  ha H1 e _ fun H2 e2 => hb H2 (e.trans e2) _ fun H3 e3 => ⟨p, m, rfl, d.ex (e2.trans e3), h0, h1, fun d H4 a b e4 d4 => q _ H4 ⟨d, rfl, a, b⟩ (wx_trans (wx_of (e2.trans e3)) e4) d4⟩
theorem edt_test (h : EvD1 te σ p H (fun v => ∃ b, v = .bl b)) : EvDT (tTest te) σ p H (fun _ => True) := fun H1 e d Q q => h H1 e d _ fun v H2 ⟨b, ev⟩ e2 d2 => ⟨b, ev, q b H2 trivial e2 d2⟩
theorem q1_asg {i : Nat} (h : EvD1 te σ p H P) (d : Dr p H) (k : ∀ v H1, P v → Ex (wo p H) H1 → Dr p H1 → tz D (σ.set i (some v)) H1) : tSeq (tAsg te (gName i)) tz D σ H := h H (wo_le p H) d _ fun v H1 hv e1 d1 => k v H1 hv e1 d1
theorem qz_asg {i : Nat} (h : EvD1 te σ p H (ZP PI)) (d : Dr p H) (k : ∀ (n : Int) H1, PI n → Ex (wo p H) H1 → Dr p H1 → tz D (σ.set i (some (.int n))) H1) : tSeq (tAsg te (gName i)) tz D σ H := q1_asg h d fun v H1 ⟨n, ev, hn⟩ e1 d1 => by
  subst ev
  exact k n H1 hn e1 d1
theorem s1_ret (h : EvD1 te σ p H P) (d : Dr p H) (k : ∀ v H1, P v → Ex (wo p H) H1 → Dr p H1 → D.rt v H1) : tRet te D σ H := h H (wo_le p H) d _ fun v H1 hv e1 d1 => k v H1 hv e1 d1
theorem q1_when (h : EvDT t σ p H (fun _ => True)) (d : Dr p H) (h1 : ∀ H1, Ex (wo p H) H1 → Dr p H1 → tu { D with nx := tz D } σ H1) (h2 : ∀ H1, Ex (wo p H) H1 → Dr p H1 → tz D σ H1) : tSeq (tIfS t tu tNext) tz D σ H := h H (wo_le p H) d _ fun b H1 _ e1 d1 => by
  cases b with
  | true =>
    show tu { D with nx := tz D } σ H1
    exact h1 H1 e1 d1
  | false =>
    show tz D σ H1
    exact h2 H1 e1 d1
/-- _law_cell(script, i), _law_state(cell, k) -/
theorem ec_cell {a : Addr} {ns : List Int} {k : Int} (ha : Ev ta σ H (.ref a)) (hb : Ev tb σ H (.int k)) (hS : SqL K H a (ns.map V.int)) (h0 : 0 ≤ k) : Ev (tCall (sp__law_cell K) [] E (tCons ta (tCons tb tNil))) σ H (.int (ns.getD k.toNat 0)) :=
  ev_call (ea_cons ha (ea_cons hb ea_nil)) fun H1 e Q q E => ⟨a, ns, k, rfl, ex_l e hS, h0, q⟩
theorem ec_state {c k : Int} (ha : Ev ta σ H (.int c)) (hb : Ev tb σ H (.int k)) : EvC (tCall (sp__law_state K) [] E (tCons ta (tCons tb tNil))) σ H := fun H1 e Q q =>
  ha H1 e _ fun H2 e2 => hb H2 (e.trans e2) _ fun H3 e3 => ⟨c, k, rfl, fun p H4 hp e4 d => q p H4 (fresh_back (e2.trans e3) hp) ((e2.trans e3).trans e4) d⟩
theorem q_asgC {i : Nat} (h : EvC te σ H) (k : ∀ p H1, H p = none → Ex H H1 → Dr p H1 → tz D (σ.set i (some (.ref p))) H1) : tSeq (tAsg te (gName i)) tz D σ H := h H (Ex.refl H) _ fun p H1 hp e d => k p H1 hp e d
theorem EvN.mono (e : Ex H H') (h : EvN te σ H P) : EvN te σ H' P := fun H1 a Q q => h H1 (e.trans a) Q q
theorem q_asgN {i : Nat} (h : EvN te σ H P) (k : ∀ v H1, P v → Ex H H1 → tz D (σ.set i (some v)) H1) : tSeq (tAsg te (gName i)) tz D σ H := h H (Ex.refl H) _ fun v H1 hv e => k v H1 hv e
theorem s_appN {l : Addr} {xs : List V} (hl : H l = some (.lst xs)) (ha : Ev ta σ H (.ref l)) (h : EvN te σ H P) (hz : xs.length < 100000) (k : ∀ v H1, P v → Ex H H1 → D.nx σ (upd H1 l (.lst (xs ++ [v])))) :
    tDrop (tBM K "list" rAppend ta (tCons te tNil)) D σ H := ha H (Ex.refl H) _ fun H1 e1 =>
  ⟨Or.inl ⟨rfl, xs, sq_of (e1 l _ hl)⟩, h H1 e1 _ fun v H2 hv e2 => ⟨l, xs, v, rfl, rfl, e2 l _ (e1 l _ hl), sz_lt hz, k v H2 hv (e1.trans e2)⟩⟩
end
section
variable {P : Program} {w : World} {K : PySem.W.Frag} {mg : Str → Option Value} {base : Heap}
end
section
variable {K : PySem.W.Frag} {σ : L2.St} {H : Hp} {p : Addr} {ta tb te : TE} {P : V → Prop} {D : Ends} {tz : TS}
/-- xs[i] = what is drawn -/
theorem q1_setL {l : Addr} {xs : List V} {j : Nat} (hl : wo p H l = some (.lst xs)) (h : EvD1 te σ p H P) (d : Dr p H) (ho : Ev ta σ (wo p H) (.ref l)) (hi : Ev tb σ (wo p H) (.int (j : Int))) (hj : j < xs.length) (k : ∀ v H1, P v → Ex (wo p H) H1 → Dr p H1 → tz D σ (upd H1 l (.lst (xs.set j v)))) :
    tSeq (tAsg te (gSub ta tb rSetL)) tz D σ H := h H (wo_le p H) d _ fun v H1 hv e1 d1 => ho H1 e1 _ fun H2 e2 => hi H2 (e1.trans e2) _ fun H3 e3 =>
  ⟨l, xs, (j : Int), j, rfl, rfl, ((e1.trans e2).trans e3) l _ hl, ixN_nat hj, k v H3 hv ((e1.trans e2).trans e3) (d1.ex (e2.trans e3))⟩
/-- a digit of a list that is new -/
theorem en_digit {m : Int} {E : XK} (ha : EvC ta σ H) (hb : Ev tb σ H (.int m)) (h0 : 0 < m) (h1 : m < 2 ^ 400) : EvN (tCall (sp__law_digit K) [] E (tCons ta (tCons tb tNil))) σ H (ZP fun d => 0 ≤ d ∧ d < m) := fun H1 e Q q =>
  ha H1 e _ fun p H2 hp e2 d2 => hb H2 (e.trans e2) _ fun H3 e3 => ⟨p, m, rfl, d2.ex e3, h0, h1, fun d H4 a b e4 _ => q _ H4 ⟨d, rfl, a, b⟩ (wx_back hp (e2.trans e3) e4)⟩
end
section
variable {K : PySem.W.Frag} {σ : L2.St} {H : Hp} {p : Addr} {te : TE} {t : TT} {P : V → Prop} {D : Ends} {tu : TS}
theorem s1_asg {i : Nat} (h : EvD1 te σ p H P) (d : Dr p H) (k : ∀ v H1, P v → Ex (wo p H) H1 → Dr p H1 → D.nx (σ.set i (some v)) H1) : tAsg te (gName i) D σ H := h H (wo_le p H) d _ fun v H1 hv e1 d1 => k v H1 hv e1 d1
theorem s1_when (h : EvDT t σ p H (fun _ => True)) (d : Dr p H) (h1 : ∀ H1, Ex (wo p H) H1 → Dr p H1 → tu D σ H1) (h2 : ∀ H1, Ex (wo p H) H1 → Dr p H1 → D.nx σ H1) : tIfS t tu tNext D σ H := h H (wo_le p H) d _ fun b H1 _ e1 d1 => by
  cases b with
  | true =>
    show tu D σ H1
    exact h1 H1 e1 d1
  | false =>
    show D.nx σ H1
    exact h2 H1 e1 d1
end

/-! ### lists compared, cut; list as a type -/
theorem cut_take {xs : List V} {m : Nat} (h : m ≤ xs.length) : cutV xs none (some (m : Int)) = xs.take m := by
  unfold cutV
  rw [HT.sIx_none, HT.sIx_nat, List.drop_zero, Nat.sub_zero, Nat.min_eq_left h]
theorem eqv_intsL : ∀ ns ms : List Int, PyData.eqv (.list (ns.map PyData.int)) (.list (ms.map PyData.int)) = decide (ns = ms)
  | [], [] => rfl
  | [], _ :: _ => rfl
  | _ :: _, [] => rfl
  | n :: r, m :: t => by
    have ih := eqv_intsL r t
    show ((n == m) && PyData.eqv (.list (r.map PyData.int)) (.list (t.map PyData.int))) = _
    rw [ih, Bool.eq_iff_iff, Bool.and_eq_true, decide_eq_true_eq, decide_eq_true_eq, beq_iff_eq, List.cons.injEq]
theorem rv_neL {K : PySem.W.Frag} {H : Hp} {p q : Addr} {ns ms : List Int} (hp : SqL K H p (ns.map V.int)) (hq : SqL K H q (ms.map V.int)) : RV (rNeD K) (.ref p) (.ref q) H (.bl (!decide (ns = ms))) := fun H1 e Q k =>
  ⟨_, _, .lst (ex_l e hp) (dp_ints ns), .lst (ex_l e hq) (dp_ints ms), PySem.W.ke_shaped_ints _, PySem.W.ke_shaped_ints _, by rw [eqv_intsL]; exact k H1 (Ex.refl H1)⟩
theorem tx_lst {K : PySem.W.Frag} {H : Hp} {a : Addr} {xs : List V} (h : H a = some (.lst xs)) : ∀ H1, Ex H H1 → TyX K H1 (.ref a) (.type "list") := fun H1 e => .base (.lst (e _ _ h))
theorem given_all (n : Nat) (v : Nat → V) : given n (fun _ => true) v = (List.range n).map v := by
  unfold given
  rw [List.filter_eq_self.mpr (fun _ _ => rfl)]
theorem foldl_take {α β : Type} {f : β → α → β} {l : List α} {i : Nat} {x : α} {b : β} (h : l[i]? = some x) : (l.take (i + 1)).foldl f b = f ((l.take i).foldl f b) x := by
  rw [List.take_add_one, h, List.foldl_append]
  rfl
theorem ix_listK {X : Cx} {K : PySem.W.Frag} (h : X.K = K) : IxR X (rIxL K) := h ▸ ix_list
theorem call_len_seqK {X : Cx} {K : PySem.W.Frag} (h : X.K = K) : CallR X (.builtin "len") (fun xs H Q => ∃ p ys, xs = [V.ref p] ∧ (SqL K H p ys ∨ SqT K H p ys) ∧ Q (V.int ys.length) H) := h ▸ call_len_seq
theorem ix_tupK {X : Cx} {K : PySem.W.Frag} (h : X.K = K) : IxR X (rIxT K) := h ▸ ix_tup

/-! ### lists of objects, each with a word of its own -/
def Al2 {α : Type} (R : Hp → Addr → α → Prop) (H : Hp) (qs : List Addr) (L : List α) : Prop := qs.length = L.length ∧ ∀ (i : Nat) q l, qs[i]? = some q → L[i]? = some l → R H q l
def Lst2 {α : Type} (R : Hp → Addr → α → Prop) (H : Hp) (p : Addr) (L : List α) : Prop := ∃ qs, H p = some (.lst (qs.map V.ref)) ∧ Al2 R H qs L
section
variable {α : Type} {R S : Hp → Addr → α → Prop} {H H' : Hp} {qs : List Addr} {L : List α}
theorem Al2.nil : Al2 R H [] [] := ⟨rfl, fun i q l h => by simp at h⟩
theorem Al2.mono (h : Al2 R H qs L) (k : ∀ q l, l ∈ L → R H q l → S H' q l) : Al2 S H' qs L := ⟨h.1, fun i q l a b => k q l (List.mem_of_getElem? b) (h.2 i q l a b)⟩
theorem Al2.snoc {q : Addr} {l : α} (h : Al2 R H qs L) (hr : R H q l) : Al2 R H (qs ++ [q]) (L ++ [l]) := by
  refine ⟨by rw [List.length_append, List.length_append, h.1, List.length_cons, List.length_cons]; rfl, fun i q' l' a b => ?_⟩
  by_cases hi : i < qs.length
  · rw [List.getElem?_append_left hi] at a
    rw [List.getElem?_append_left (by rw [← h.1]; exact hi)] at b
    exact h.2 i q' l' a b
  · rw [List.getElem?_append_right (by omega)] at a
    rw [List.getElem?_append_right (by rw [← h.1]; omega)] at b
    have e : i - qs.length = 0 := by
      by_cases z : i - qs.length = 0
      · exact z
      · rw [List.getElem?_eq_none (by show 1 ≤ _; omega)] at a; cases a
    rw [e] at a
    rw [← h.1, e] at b
    cases a
    cases b
    exact hr
theorem Al2.get (h : Al2 R H qs L) {i : Nat} (hi : i < L.length) : ∃ q, qs[i]? = some q ∧ R H q L[i] := by
  have hq : i < qs.length := by rw [h.1]; exact hi
  exact ⟨qs[i], List.getElem?_eq_getElem hq, h.2 i _ _ (List.getElem?_eq_getElem hq) (List.getElem?_eq_getElem hi)⟩
end
/-- an object that is new -/
def EvR (R : Hp → Addr → Prop) (te : TE) (σ : L2.St) (H : Hp) : Prop := ∀ H1, Ex H H1 → ∀ Q : VK, (∀ p H2, H1 p = none → Ex H1 H2 → R H2 p → Q (.ref p) H2) → te σ H1 Q
theorem slice_any {a : List Nat} {i j : Nat} : Txt.slice (SX.S a) (some (i : Int)) (some (j : Int)) = SX.S ((a.take j).drop i) := by
  rw [← C8.cutS_slice]
  unfold cutS
  rw [SX.S_len, HT.sIx_nat, HT.sIx_nat]
  refine congrArg SX.S ?_
  show (a.drop (min i a.length)).take (min j a.length - min i a.length) = (a.take j).drop i
  rw [List.drop_take]
  by_cases hi : i ≤ a.length
  · rw [Nat.min_eq_left hi]
    by_cases hj : j ≤ a.length
    · rw [Nat.min_eq_left hj]
    · rw [Nat.min_eq_right (show a.length ≤ j by omega), List.take_of_length_le (by rw [List.length_drop]; omega), List.take_of_length_le (by rw [List.length_drop]; omega)]
  · rw [Nat.min_eq_right (show a.length ≤ i by omega), List.drop_eq_nil_of_le (Nat.le_refl _), List.drop_eq_nil_of_le (by omega)]
    simp
theorem ev_slA {σ : L2.St} {H : Hp} {ta tl th : TE} {l : List Nat} {i j : Nat} (ha : Ev ta σ H (.str (SX.S l))) (hl : Ev tl σ H (.int (i : Int))) (hh : Ev th σ H (.int (j : Int))) (hz : l.length ≤ 100000) : Ev (tSl C8.rSlX ta (tPart tl) (tPart th)) σ H (.str (SX.S ((l.take j).drop i))) := fun H1 e Q q =>
  ha H1 e _ fun H2 e2 => hl H2 (e.trans e2) _ fun H3 e3 => ⟨_, rfl, hh H3 ((e.trans e2).trans e3) _ fun H4 e4 => ⟨_, rfl, SX.S l, rfl, by rw [SX.S_len]; exact sz_of hz, by rw [slice_any]; exact q H4 ((e2.trans e3).trans e4)⟩⟩
theorem getD_S (t : List Nat) (v : Nat) : (SX.S t).cps.getD v 0 = t.getD v 0 := by
  show t.toArray.getD v 0 = t.getD v 0
  rw [Array.getD_eq_getD_getElem?, List.getD_eq_getElem?_getD, List.getElem?_toArray]
/-- the first c at or behind i -/
theorem find3_at {t a m : List Nat} {c i : Nat} (h : t.drop i = a ++ c :: m) (ha : c ∉ a) : Txt.find3 (SX.S t) (SX.S [c]) (i : Int) = ((i + a.length : Nat) : Int) := by
  have hlen : i + (a.length + (m.length + 1)) = t.length := by
    have := congrArg List.length h
    rw [List.length_drop, List.length_append, List.length_cons] at this
    omega
  have hf : fromIndex (SX.S t).length (i : Int) = i := by
    unfold fromIndex
    rw [if_neg (by omega)]
    omega
  have at_ : ∀ v, i ≤ v → t.getD v 0 = (a ++ c :: m).getD (v - i) 0 := fun v hv => by
    rw [← h, List.getD_eq_getElem?_getD, List.getD_eq_getElem?_getD, List.getElem?_drop, show i + (v - i) = v by omega]
  have hc : t.getD (i + a.length) 0 = c := by
    rw [at_ _ (by omega), show i + a.length - i = a.length by omega, List.getD_eq_getElem?_getD, List.getElem?_append_right (Nat.le_refl _), Nat.sub_self]
    rfl
  rcases StrLaws.find3_spec (SX.S t) c (i : Int) with ⟨_, h2⟩ | ⟨k, h1, h2, h3, h4, h5⟩
  · have := h2 (i + a.length) (by rw [hf]; omega) (by rw [SX.S_len]; omega)
    rw [getD_S, hc] at this
    exact absurd rfl this
  · rw [hf] at h2 h5
    rw [getD_S] at h4
    have e1 : ¬ i + a.length < k := fun z => by
      have := h5 (i + a.length) (by omega) z
      rw [getD_S, hc] at this
      exact this rfl
    have e2 : ¬ k < i + a.length := fun z => by
      rw [at_ k h2, List.getD_eq_getElem?_getD, List.getElem?_append_left (by omega), List.getElem?_eq_getElem (by omega)] at h4
      exact ha (by rw [← h4]; exact List.getElem_mem _)
    rw [show k = i + a.length by omega] at h1
    exact h1
theorem at_drop {t r : List Nat} {i : Nat} {c : Nat} (h : t.drop i = c :: r) : t[i]? = some c ∧ i < t.length ∧ t.drop (i + 1) = r := by
  have hi : i < t.length := by
    have := congrArg List.length h
    rw [List.length_drop, List.length_cons] at this
    omega
  rw [List.drop_eq_getElem_cons hi] at h
  have h2 := List.cons.inj h
  exact ⟨by rw [List.getElem?_eq_getElem hi, h2.1], hi, h2.2⟩
theorem drop_nil {t : List Nat} {i : Nat} (h : t.drop i = []) : t.length ≤ i := by
  have := congrArg List.length h
  rw [List.length_drop] at this
  simp at this
  omega
theorem drop_app {t a b : List Nat} {i : Nat} (h : t.drop i = a ++ b) : t.drop (i + a.length) = b := by
  rw [← List.drop_drop, h, List.drop_left]
theorem take1 {t : List Nat} {i : Nat} : (t.take (i + 1)).drop i = (t.drop i).take 1 := by rw [List.drop_take, show i + 1 - i = 1 by omega]
theorem joinL_len (w : List Nat) : ∀ ps : List (List Nat), (ps.map (·.length)).sum ≤ (TL.joinL w ps).length
  | [] => Nat.le_refl _
  | [p] => by
    show p.length + 0 ≤ p.length
    omega
  | p :: q :: r => by
    have := joinL_len w (q :: r)
    show p.length + ((q :: r).map (·.length)).sum ≤ (p ++ (w ++ TL.joinL w (q :: r))).length
    rw [List.length_append, List.length_append]
    omega
theorem ev_joinL {K : PySem.W.Frag} {σ : L2.St} {H : Hp} {ta tb : TE} {w : List Nat} {pcs : List (List Nat)} {p : Addr} (ha : Ev ta σ H (.str (SX.S w))) (hb : Ev tb σ H (.ref p)) (hp : SqL K H p ((pcs.map SX.S).map V.str)) (h1 : (TL.joinL w pcs).length ≤ 100000) (h2 : pcs.length ≤ 100000) (h3 : w.length ≤ 10) :
    Ev (tM1 (fun x xs H Q => ∃ a p, ∃ ys : List Str, x = .str a ∧ xs = [.ref p] ∧ (SqL K H p (ys.map V.str) ∨ SqT K H p (ys.map V.str)) ∧
      (ys.map (·.length)).sum + ys.length * a.length ≤ 16777216 ∧ Q (.str (Txt.join a ys)) H) ta tb) σ H (.str (SX.S (TL.joinL w pcs))) := fun H1 e Q q =>
  ha H1 e _ fun H2 e2 => ⟨⟨_, rfl⟩, hb H2 (e.trans e2) _ fun H3 e3 => ⟨SX.S w, p, pcs.map SX.S, rfl, rfl, .inl (ex_l ((e.trans e2).trans e3) hp), by
    rw [SX.lens, SX.S_len, List.length_map]
    have := joinL_len w pcs
    have : pcs.length * w.length ≤ 100000 * 10 := Nat.mul_le_mul h2 h3
    omega, by rw [SX.join_S]; exact q H3 (e2.trans e3)⟩⟩
/-- return (a new object, ..) -/
theorem s_retUR {R : Hp → Addr → Prop} {te : TE} {tr : TA} {σ : L2.St} {H : Hp} {D : Ends} {vs : List V} (hm : ∀ H H' p, Ex H H' → R H p → R H' p) (h : EvR R te σ H) (hr : ∀ H1, Ex H H1 → EvA tr σ H1 vs) (hl : vs.length ≤ 1000)
    (k : ∀ q p H1, H q = none → Ex H H1 → R H1 p → H1 q = some (.tup (.ref p :: vs)) → D.rt (.ref q) H1) : tRet (tTup (tCons te tr)) D σ H :=
  h H (Ex.refl H) _ fun p H1 hp e1 hR => hr H1 e1 H1 (Ex.refl H1) _ fun H2 e2 => ⟨by rw [List.length_cons]; exact sz_of (by omega), fun q hq => k q p _ (fresh_back (e1.trans e2) hq) ((e1.trans e2).trans (Ex.new hq)) (hm _ _ _ (e2.trans (Ex.new hq)) hR) upd_same⟩
theorem wo_upd (p : Addr) (H : Hp) (o : HO) : wo p (upd H p o) = wo p H := by
  funext a
  unfold wo
  split
  · rfl
  · rename_i h
    exact upd_ne h
theorem wo_mono {p : Addr} {H H' : Hp} (e : Ex H H') : Ex (wo p H) (wo p H') := fun a o h => by
  have hx : a ≠ p := fun z => by rw [z, wo_self] at h; cases h
  rw [wo_ne hx] at h ⊢
  exact e a o h
theorem Lst2.mono {α : Type} {R : Hp → Addr → α → Prop} {H H' : Hp} {p : Addr} {L : List α} (h : Lst2 R H p L) (e : Ex H H') (k : ∀ q l, R H q l → R H' q l) : Lst2 R H' p L := by
  obtain ⟨qs, h1, h2⟩ := h
  exact ⟨qs, e _ _ h1, h2.mono fun q l _ => k q l⟩
/-- [a new object] -/
theorem er_one {R : Hp → Addr → Prop} {te : TE} {σ : L2.St} {H : Hp} (hm : ∀ H H' p, Ex H H' → R H p → R H' p) (h : EvR R te σ H) : EvR (fun H p => ∃ t, H p = some (.lst [.ref t]) ∧ R H t) (tLst (tCons te tNil)) σ H := fun H1 e Q q =>
  h H1 e _ fun t H2 ht e2 hR => ⟨sz_of (by show 1 ≤ 100000; decide), fun p hp => q p _ (fresh_back e2 hp) (e2.trans (Ex.new hp)) ⟨t, upd_same, hm _ _ _ (Ex.new hp) hR⟩⟩

/-! ### the law's numbers -/
def cell0 (ns : List Int) (k : Nat) : Int := if 0 < ns.length then ns.getD (k - k / ns.length * ns.length) 0 else 0
def cell1 (ns : List Int) (k : Nat) : Int := if cell0 ns k < 0 then 1 - 2 * cell0 ns k else cell0 ns k
def cellM (c : Int) (k : Nat) : Int := (((c + 101 * (k : Int) + 13) * 40692 + (k : Int) * (k : Int) * 6271) % 2147483399 + 29 * (k : Int) + 5) * 3935559000370003845 % 18446744073709551533
def cellN (ns : List Int) (k : Nat) : Int := if (ns.length : Int) ≤ (k : Int) ∨ cell1 ns k < 1000000000 then cellM (cell1 ns k) k else cell1 ns k
def lawN (ns : List Int) (c : Nat) : List Int := (List.range c).map (cellN ns)
theorem cell1_nn (ns : List Int) (k : Nat) : 0 ≤ cell1 ns k := by
  unfold cell1
  split <;> omega
theorem cellN_nn (ns : List Int) (k : Nat) : 0 ≤ cellN ns k := by
  unfold cellN
  split
  · unfold cellM
    exact Int.emod_nonneg _ (by decide)
  · exact cell1_nn ns k
theorem lawN_len (ns : List Int) (c : Nat) : (lawN ns c).length = c := by
  unfold lawN
  rw [List.length_map, List.length_range]
theorem lawN_nn {ns : List Int} {c : Nat} : ∀ n ∈ lawN ns c, 0 ≤ n := by
  intro n h
  unfold lawN at h
  obtain ⟨k, _, e⟩ := List.mem_map.mp h
  rw [← e]
  exact cellN_nn ns k
theorem lawN_get {ns : List Int} {c i : Nat} (h : i < c) : (lawN ns c)[i]? = some (cellN ns i) := by
  unfold lawN
  rw [List.getElem?_map, List.getElem?_range h] <;> rfl
/-- the k-th of them, as the law's list of values -/
theorem lawN_at {ns : List Int} {c i : Nat} (h : i < c) : atI ((lawN ns c).map V.int) (i : Int) = some (.int (cellN ns i)) := atI_nat (by
  rw [List.getElem?_map, lawN_get h] <;> rfl)
def sp__law_numbers (K : PySem.W.Frag) : Sp := fun vs H Q _ => ∃ (a : Addr) (ns : List Int) (c : Nat), vs = [.ref a, .int (c : Int)] ∧ SqL K H a (ns.map V.int) ∧ ns.length ≤ 63 ∧ c ≤ 1000 ∧
  ∀ p H', H p = none → Ex H H' → H' p = some (.lst ((lawN ns c).map V.int)) → Q (.ref p) H'
section
variable {P : Program} {w : World} {K : PySem.W.Frag} {mg : Str → Option Value} {base : Heap}
theorem ok__law_numbers (D : Dn K mg "_law_numbers" s__law_numbers ["script", "count"]) (z_int : mg "int" = none) (z_len : mg "len" = none) (z_range : mg "range" = none) :
    C8.Cal P w K mg base 1 "_law_numbers" (sp__law_numbers K) [] := by
  refine cal_of D sc__law_numbers (fun vs H Q E h => ?_) (fun f cdv A outer s H vs Q E hr h => ?_)
  · obtain ⟨_, _, _, rfl, _⟩ := h
    rfl
  refine ⟨_, (pss_cons (ps_set (i := 2) sc__law_numbers.nd rfl (.inl rfl) (pe_lst pa_nil))
    (pss_cons (ps_for PassesOwn.never rfl (pi_range1 rfl z_range (pa_cons (pv 1) pa_nil)) (pg_name (i := 3) sc__law_numbers.nd rfl (.inl rfl))
      (pss_cons (ps_set (i := 4) sc__law_numbers.nd rfl (.inl rfl) pe_int)
    (pss_cons (ps_if (pt_cmpR op_gt (pe_callB call_len_seq (by rfl) z_len PySem.boot_len (pa_cons (pv 0) pa_nil)) pe_int (nomark _))
      (pss_one (ps_set (i := 4) sc__law_numbers.nd rfl (.inl rfl) (pe_callTy call_int1 (by rfl) z_int (by decide +kernel) (pa_cons (pe_ix ix_list (pv 0) (pe_op op_sub (pv 3) (pe_op op_mul (pe_op op_fdiv (pv 3) (pe_callB call_len_seq (by rfl) z_len PySem.boot_len (pa_cons (pv 0) pa_nil))) (pe_callB call_len_seq (by rfl) z_len PySem.boot_len (pa_cons (pv 0) pa_nil)))) (fun _ _ => rfl)) pa_nil))))
      pss_nil)
    (pss_cons (ps_if (pt_cmpR op_lt (pv 4) pe_int (nomark _))
      (pss_one (ps_set (i := 4) sc__law_numbers.nd rfl (.inl rfl) (pe_op op_sub pe_int (pe_op op_mul pe_int (pv 4)))))
      pss_nil)
    (Evl.pss_cut (ps_if (PW.pt (pw_or (pt_cmpR op_ge (pv 3) (pe_callB call_len_seq (by rfl) z_len PySem.boot_len (pa_cons (pv 0) pa_nil)) (nomark _)) (pw_or1 (pt_cmpR op_lt (pv 4) pe_int (nomark _)))))
      (pss_cons (ps_set (i := 4) sc__law_numbers.nd rfl (.inl rfl) (pe_op op_mod (pe_callTy call_int1 (by rfl) z_int (by decide +kernel) (pa_cons (pe_op op_add (pe_op op_mul (pe_op op_add (pe_op op_add (pv 4) (pe_op op_mul pe_int (pv 3))) pe_int) pe_int) (pe_op op_mul (pe_op op_mul (pv 3) (pv 3)) pe_int)) pa_nil)) pe_int))
    (pss_one (ps_set (i := 4) sc__law_numbers.nd rfl (.inl rfl) (pe_op op_mod (pe_callTy call_int1 (by rfl) z_int (by decide +kernel) (pa_cons (pe_op op_mul (pe_op op_add (pe_op op_add (pv 4) (pe_op op_mul pe_int (pv 3))) pe_int) pe_int) pa_nil)) pe_int))))
      pss_nil)
    (pss_one (ps_expr (pe_bm PySem.F.plainAttrs_list PySem.F.slot_list_append PySem.F.type_list_append mt_append (pv 2) (pa_cons (pv 4) pa_nil)))))))))
    (pss_one (ps_ret (pv 2))))), ?_⟩
  obtain ⟨a, ns, c, rfl, hS, h63, hc, q⟩ := h
  have hl : (ns.map V.int).length = ns.length := List.length_map _
  refine q_asgL (el_lst ea_nil (by decide)) fun p H1 hp e1 h1 => ?_
  refine q_forR1 (n := (c : Int)) (ea_cons (ev_var rfl) ea_nil) ⟨by omega, by omega⟩
    (fun i σ H' => ∃ y3 y4, σ = [some (.ref a), some (.int (c : Int)), some (.ref p), y3, y4] ∧ Ex H H' ∧ H' p = some (.lst ((lawN ns i).map V.int)))
    (fun H2 e2 => ⟨none, none, rfl, e1.trans e2, e2 _ _ h1⟩) (fun i σ H2 hi hw => ?_) (fun σ H2 hw => ?_)
  · obtain ⟨y3, y4, rfl, e2, h2⟩ := hw
    have hS2 : SqL K H2 a (ns.map V.int) := ex_l e2 hS
    refine q_asg ev_c fun H3 e3 => ?_
    have hS3 : SqL K H3 a (ns.map V.int) := ex_l e3 hS2
    -- the cell as the script has it
    refine q_ifAsg (v := .int (cell0 ns i)) (b := decide ((0 : Int) < ((ns.map V.int).length : Int))) ?_ (fun hb => ?_) (fun hb => ?_) fun H4 e4 => ?_
    · walk_at "et"
    · have h0 : 0 < ns.length := by
        have := of_decide_eq_true hb
        rw [hl] at this
        omega
      have em : i / ns.length * ns.length ≤ i := Nat.div_mul_le_self i ns.length
      have hlt : i - i / ns.length * ns.length < ns.length := by
        have := Nat.mod_lt i h0
        have := Nat.div_add_mod i ns.length
        rw [Nat.mul_comm] at this
        omega
      have ea : atI (ns.map V.int) ((i : Int) - (i : Int) / ((ns.map V.int).length : Int) * ((ns.map V.int).length : Int)) = some (.int (cell0 ns i)) := by
        rw [hl]
        have e5 : (i : Int) - (i : Int) / (ns.length : Int) * (ns.length : Int) = ((i - i / ns.length * ns.length : Nat) : Int) := by
          rw [Int.ofNat_sub em, Int.natCast_mul, Int.natCast_ediv]
        rw [e5]
        refine atI_nat ?_
        unfold cell0
        rw [if_pos h0, List.getElem?_map, List.getElem?_eq_getElem hlt, List.getD_eq_getElem?_getD, List.getElem?_eq_getElem hlt] <;> rfl
      refine ev_int (ev_op (ev_var rfl) (ev_op (ev_var rfl) (ev_op (ev_op (ev_var rfl) (ev_len (ev_var rfl) hS3) (rv_I ⟨?_, ?_⟩)) (ev_len (ev_var rfl) hS3) (rv_I ?_)) rv_I0) (rv_ixL hS3 ea))
      · rw [hl]; omega
      · rw [hl]; omega
      · rw [hl]; exact .inr ⟨by omega, by omega⟩
    · have h0 : ¬ 0 < ns.length := by
        have := of_decide_eq_false hb
        rw [hl] at this
        omega
      unfold cell0
      rw [if_neg h0]
      rfl
    have hS4 : SqL K H4 a (ns.map V.int) := ex_l e4 hS3
    refine q_ifAsg (v := .int (cell1 ns i)) (b := decide (cell0 ns i < 0)) (by walk_at "et") (fun hb => ?_) (fun hb => ?_) fun H5 e5 => ?_
    · refine ev_is (v := .int (1 - 2 * cell0 ns i)) (by walk_at "ev") ?_
      unfold cell1
      rw [if_pos (of_decide_eq_true hb)]
    · unfold cell1
      rw [if_neg (of_decide_eq_false hb)]
      rfl
    have hS5 : SqL K H5 a (ns.map V.int) := ex_l e5 hS4
    have h5 : H5 p = some (.lst ((lawN ns i).map V.int)) := e5 _ _ (e4 _ _ (e3 _ _ h2))
    have x5 : Ex H H5 := ((e2.trans e3).trans e4).trans e5
    -- the cell mixed
    refine q_cut (M := fun σ H' => σ = [some (.ref a), some (.int (c : Int)), some (.ref p), some (.int (i : Int)), some (.int (cellN ns i))] ∧ Ex H5 H') ?_ ?_
    · refine s_if (b := decide ((((ns.map V.int).length : Nat) : Int) ≤ (i : Int)) || decide (cell1 ns i < 1000000000)) ?_ (fun hb H6 e6 => ?_) (fun hb H6 e6 => ?_)
      · exact et_or (et_test (ev_op (ev_var rfl) (ev_len (ev_var rfl) hS5) rv_I0)) fun _ => et_test (ev_op (ev_var rfl) ev_c rv_I0)
      · have hb' : (ns.length : Int) ≤ (i : Int) ∨ cell1 ns i < 1000000000 := by
          rw [Bool.or_eq_true, decide_eq_true_eq, decide_eq_true_eq, hl] at hb
          exact hb
        refine q_asg (v := .int (((cell1 ns i + 101 * (i : Int) + 13) * 40692 + (i : Int) * (i : Int) * 6271) % 2147483399)) ?_ fun H7 e7 => ?_
        · refine ev_op (ev_int (ev_op (ev_op (ev_op (ev_op (ev_var rfl) (ev_op ev_c (ev_var rfl) (rv_I (.inl ⟨by decide, by decide⟩))) rv_I0) ev_c rv_I0) ev_c (rv_I (.inr ⟨by decide, by decide⟩))) (ev_op (ev_op (ev_var rfl) (ev_var rfl) (rv_I (.inl ⟨by omega, by omega⟩))) ev_c (rv_I (.inr ⟨by decide, by decide⟩))) rv_I0)) ev_c (rv_I (by decide))
        refine s_asg (v := .int (cellN ns i)) ?_ fun H8 e8 => ⟨rfl, (e6.trans e7).trans e8⟩
        refine ev_is (ev_op (ev_int (ev_op (ev_op (ev_op (ev_var rfl) (ev_op ev_c (ev_var rfl) (rv_I (.inl ⟨by decide, by decide⟩))) rv_I0) ev_c rv_I0) ev_c (rv_I (.inr ⟨by decide, by decide⟩)))) ev_c (rv_I (by decide))) ?_
        unfold cellN
        rw [if_pos hb']
        rfl
      · have hb' : ¬ ((ns.length : Int) ≤ (i : Int) ∨ cell1 ns i < 1000000000) := by
          intro z
          rw [Bool.or_eq_false_iff, decide_eq_false_iff_not, decide_eq_false_iff_not, hl] at hb
          rcases z with z | z
          · exact hb.1 z
          · exact hb.2 z
        refine ⟨?_, e6⟩
        unfold cellN
        rw [if_neg hb']
        rfl
    · intro σ' H' hm
      obtain ⟨rfl, x6⟩ := hm
      refine s_app (x6 _ _ h5) (ev_var rfl) (ev_var rfl) (by rw [List.length_map, lawN_len]; omega) fun H7 e7 => ?_
      refine ⟨_, _, rfl, Ex.mut ((x5.trans x6).trans e7) hp, ?_⟩
      rw [upd_same]
      unfold lawN
      rw [List.range_succ, List.map_append, List.map_append]
      rfl
  · obtain ⟨y3, y4, rfl, e2, h2⟩ := hw
    have ec : ((c : Int)).toNat = c := by omega
    rw [ec] at h2
    exact s_ret (ev_var rfl) fun H3 e3 => q p H3 hp (e2.trans e3) (e3 _ _ h2)
end

/-! ### ranks -/
def kr : V → Int
  | .non => 0
  | .bl _ => 1
  | .int _ => 2
  | _ => 3
def payV : V → V
  | .non => .int 0
  | .bl b => .int (if b then 1 else 0)
  | x => x
def rkL (x : V) : List V := [.int (kr x), payV x]
def payD : V → PyData
  | .non => .int 0
  | .bl b => .int (if b then 1 else 0)
  | .int i => .int i
  | .str s => .str s
  | _ => .none
def rkDs (x : V) : List PyData := [.int (kr x), payD x]
def rkD (x : V) : PyData := .tuple (rkDs x)
/-- plain, and its signs are signs -/
inductive Ok : V → Prop where
  | non : Ok .non
  | bl (b : Bool) : Ok (.bl b)
  | int (i : Int) : Ok (.int i)
  | str (s : Str) (h : PyData.strOk s = true ∧ s.length ≤ 10000) : Ok (.str s)
theorem Ok.pl {x : V} (h : Ok x) : Pl x := by cases h <;> constructor
theorem strOk_S {l : List Nat} (h : ∀ c ∈ l, 32 ≤ c ∧ c ≤ 126) : PyData.strOk (SX.S l) = true := by
  unfold PyData.strOk
  rw [Array.all_eq_true']
  intro c hc
  have := h c (by simpa using hc)
  exact decide_eq_true (by omega)
theorem dp_pay {K : PySem.W.Frag} {H : Hp} {x : V} (h : Ok x) : Dp K H (payV x) (payD x) := by
  cases h with
  | non => exact .int 0
  | bl b => exact .int _
  | int i => exact .int i
  | str s _ => exact .str s
theorem dp_rks {K : PySem.W.Frag} {H : Hp} {x : V} (h : Ok x) : DpAll K H (rkL x) (rkDs x) := .cons (.int _) (.cons (dp_pay h) .nil)
theorem dp_rk {K : PySem.W.Frag} {H : Hp} {x : V} {p : Addr} (h : Ok x) (hp : H p = some (.tup (rkL x))) : Dp K H (.ref p) (rkD x) := .tup (st_of hp) (dp_rks h)
theorem lay_rk {x : V} (h : Ok x) : (rkD x).canLay0 = true := by
  cases h with
  | non => rfl
  | bl b => rfl
  | int i => rfl
  | str s hs =>
    show (true && (PyData.strOk s && true)) = true
    rw [hs.1]
    rfl
theorem dep_rk {x : V} (h : Ok x) : (rkD x).depth = 1 := by cases h <;> rfl
theorem shaped_rk {x : V} (h : Ok x) : SeqAt.shaped (rkD x) = true := by
  unfold SeqAt.shaped
  rw [lay_rk h, dep_rk h]
  rfl
theorem noL_rk {x : V} (h : Ok x) : noL (rkD x) = true := by cases h <;> rfl
theorem ord_rk {x y : V} (hx : Ok x) (hy : Ok y) : ordD (rkD x) (rkD y) = true := by
  have step : ∀ (a b : Int) (p q : PyData), (a = b → ordD p q = true) → ordD (.tuple [.int a, p]) (.tuple [.int b, q]) = true := by
    intro a b p q h
    rw [ordD, ordDs]
    split
    · rename_i e
      rw [ordDs]
      split
      · rfl
      · exact h (beq_iff_eq.mp (show (a == b) = true from e))
    · rfl
  refine step _ _ _ _ fun e => ?_
  cases hx <;> cases hy <;> first | rfl | (simp [kr] at e)
theorem lays_rk : ∀ {xs : List V}, (∀ x ∈ xs, Ok x) → PyData.canLayAll0 (xs.map rkD) = true
  | [], _ => rfl
  | x :: xs, h => by
    show ((rkD x).canLay0 && PyData.canLayAll0 (xs.map rkD)) = true
    rw [lay_rk (h x (List.mem_cons_self ..)), lays_rk fun y hy => h y (List.mem_cons_of_mem _ hy)]
    rfl
theorem deps_rk : ∀ {xs : List V}, (∀ x ∈ xs, Ok x) → PyData.depthAll (xs.map rkD) ≤ 1
  | [], _ => by show 0 ≤ 1; decide
  | x :: xs, h => by
    show max (rkD x).depth (PyData.depthAll (xs.map rkD)) ≤ 1
    rw [dep_rk (h x (List.mem_cons_self ..))]
    have := deps_rk fun y hy => h y (List.mem_cons_of_mem _ hy)
    omega
theorem shaped_row {xs : List V} (h : ∀ x ∈ xs, Ok x) : SeqAt.shaped (.tuple (xs.map rkD)) = true := by
  have hd := deps_rk h
  show (PyData.canLayAll0 (xs.map rkD) && decide (PyData.depthAll (xs.map rkD) + 1 ≤ 64)) = true
  rw [lays_rk h, decide_eq_true (by omega)]
  rfl
theorem ords_rk : ∀ {xs ys : List V}, (∀ x ∈ xs, Ok x) → (∀ y ∈ ys, Ok y) → ordDs (xs.map rkD) (ys.map rkD) = true
  | [], _, _, _ => by rw [List.map_nil, ordDs]
  | _ :: _, [], _, _ => rfl
  | x :: xs, y :: ys, h1, h2 => by
    rw [List.map_cons, List.map_cons, ordDs]
    split
    · exact ords_rk (fun z hz => h1 z (List.mem_cons_of_mem _ hz)) (fun z hz => h2 z (List.mem_cons_of_mem _ hz))
    · exact ord_rk (h1 x (List.mem_cons_self ..)) (h2 y (List.mem_cons_self ..))
def sp_kind_rank (K : PySem.W.Frag) : Sp := fun vs H Q _ => ∃ x : V, vs = [x] ∧ Ok x ∧ ∀ H', Ex H H' → Q (.int (kr x)) H'
def sp_is_integer (K : PySem.W.Frag) : Sp := fun vs H Q _ => ∃ x : V, vs = [x] ∧ Pl x ∧ ∀ H', Ex H H' → Q (.bl (isInt x)) H'
def sp__law_is_integer (K : PySem.W.Frag) : Sp := fun vs H Q _ => ∃ x : V, vs = [x] ∧ Pl x ∧ ∀ H', Ex H H' → Q (.bl (isInt x)) H'
def sp_same (K : PySem.W.Frag) : Sp := fun vs H Q _ => ∃ x y : V, vs = [x, y] ∧ Ok x ∧ Ok y ∧ ∀ H', Ex H H' → Q (.bl (PyData.eqv (rkD x) (rkD y))) H'
def sp_before (K : PySem.W.Frag) : Sp := fun vs H Q _ => ∃ x y : V, vs = [x, y] ∧ Ok x ∧ Ok y ∧ ∀ H', Ex H H' → Q (.bl (ltD (rkD x) (rkD y))) H'
def sp_rank (K : PySem.W.Frag) : Sp := fun vs H Q _ => ∃ x : V, vs = [x] ∧ Ok x ∧ ∀ p H', H p = none → Ex H H' → H' p = some (.tup (rkL x)) → Q (.ref p) H'
def sp__law_rank (K : PySem.W.Frag) : Sp := fun vs H Q _ => ∃ x : V, vs = [x] ∧ Ok x ∧ ∀ p H', H p = none → Ex H H' → H' p = some (.tup (rkL x)) → Q (.ref p) H'
section
variable {P : Program} {w : World} {K : PySem.W.Frag} {mg : Str → Option Value} {base : Heap}
section
variable {σ : L2.St} {H : Hp} {ta tb tc : TE} {E : XK} {x y : V}
theorem ec_isint0 (ha : Ev ta σ H x) (h : Pl x) : Ev (tCall (sp_is_integer K) [] E (tCons ta tNil)) σ H (.bl (isInt x)) := ev_call (ea_cons ha ea_nil) fun H1 e Q q E => ⟨x, rfl, h, q⟩
theorem ec_isint (ha : Ev ta σ H x) (h : Pl x) : Ev (tCall (sp__law_is_integer K) [] E (tCons ta tNil)) σ H (.bl (isInt x)) := ev_call (ea_cons ha ea_nil) fun H1 e Q q E => ⟨x, rfl, h, q⟩
theorem ec_same (ha : Ev ta σ H x) (hb : Ev tb σ H y) (h1 : Ok x) (h2 : Ok y) : Ev (tCall (sp_same K) [] E (tCons ta (tCons tb tNil))) σ H (.bl (PyData.eqv (rkD x) (rkD y))) := ev_call (ea_cons ha (ea_cons hb ea_nil)) fun H1 e Q q E => ⟨x, y, rfl, h1, h2, q⟩
theorem ec_before (ha : Ev ta σ H x) (hb : Ev tb σ H y) (h1 : Ok x) (h2 : Ok y) : Ev (tCall (sp_before K) [] E (tCons ta (tCons tb tNil))) σ H (.bl (ltD (rkD x) (rkD y))) := ev_call (ea_cons ha (ea_cons hb ea_nil)) fun H1 e Q q E => ⟨x, y, rfl, h1, h2, q⟩
theorem ec_kr (ha : Ev ta σ H x) (h : Ok x) : Ev (tCall (sp_kind_rank K) [] E (tCons ta tNil)) σ H (.int (kr x)) := ev_call (ea_cons ha ea_nil) fun H1 e Q q E => ⟨x, rfl, h, q⟩
theorem ec_rank (ha : Ev ta σ H x) (h : Ok x) : EvU (tCall (sp_rank K) [] E (tCons ta tNil)) σ H (rkL x) := eu_call (ea_cons ha ea_nil) fun H1 e Q q E => ⟨x, rfl, h, q⟩
theorem ec_lrank (ha : Ev ta σ H x) (h : Ok x) : EvU (tCall (sp__law_rank K) [] E (tCons ta tNil)) σ H (rkL x) := eu_call (ea_cons ha ea_nil) fun H1 e Q q E => ⟨x, rfl, h, q⟩
theorem ud_rk (h : EvU ta σ H (rkL x)) (hx : Ok x) : EvUD K ta σ H (rkDs x) := fun H1 e Q q => h H1 e _ fun p H2 hp e2 h2 => q p H2 _ hp e2 h2 (dp_rks hx)
theorem ed_rk (h : EvU ta σ H (rkL x)) (hx : Ok x) : EvD K ta σ H (rkD x) := ed_tupU (ud_rk h hx)
end
end

--@SPLIT
def unNames : List Str := ["not", "is null", "negate", "length"]
def binNames : List Str := ["and", "or", "equal", "less", "at most", "same", "coalesce", "add", "join", "least"]
def bdV : V → Prop
  | .int i => -1152921504606846976 ≤ i ∧ i ≤ 1152921504606846976
  | _ => True

theorem cal_no {P : Program} {w : World} {K : PySem.W.Frag} {mg : Str → Option Value} {base : Heap} {x : Str} {st : Stmt} {N ps : List Str} {k : Nat} {sp : Sp} (D : Dn K mg x st ps) (S : FnScope N ps (C8.fnScope st)) (no : ∀ vs H Q E, sp vs H Q E → False) : C8.Cal P w K mg base (k + 1) x sp [] :=
  cal_of D S (fun vs H Q E h => (no vs H Q E h).elim) fun f cdv A outer s H vs Q E hr h => (no vs H Q E h).elim
/-! ### conditions: what they are as data -/
inductive Cnd where
  | col (n : Nat)
  | cst (v : V)
  | un (nm : Str) (a : Cnd)
  | bin (nm : Str) (a b : Cnd)
def vDc : V → PyData
  | .bl b => .bool b
  | .int i => .int i
  | .str s => .str s
  | _ => .none
theorem dp_vDc {K : PySem.W.Frag} {H : Hp} {x : V} (h : Pl x) : Dp K H x (vDc x) := by
  cases h with
  | non => exact .non
  | bl b => exact .bl b
  | int i => exact .int i
  | str s => exact .str s
theorem vDc_is {K : PySem.W.Frag} {H : Hp} {v x : V} (h : Pl x) (hd : Dp K H v (vDc x)) : v = x := by cases h <;> cases hd <;> rfl
def Cnd.d : Cnd → PyData
  | .col n => .tuple [.str "column", .int (n : Int)]
  | .cst v => .tuple [.str "constant", vDc v]
  | .un nm a => .tuple [.str "unary", .str nm, a.d]
  | .bin nm a b => .tuple [.str "binary", .str nm, a.d, b.d]
def Cnd.dep : Cnd → Nat
  | .col _ => 1
  | .cst _ => 1
  | .un _ a => a.dep + 1
  | .bin _ a b => max a.dep b.dep + 1
/-- over w columns, of these names -/
inductive Cnd.ok (w : Nat) : Cnd → Prop where
  | col (n : Nat) (h : n < w) : Cnd.ok w (.col n)
  | cst (v : V) (h : Ok v ∧ bdV v) : Cnd.ok w (.cst v)
  | un (nm : Str) (a : Cnd) (h : nm ∈ unNames) (ha : a.ok w) : Cnd.ok w (.un nm a)
  | bin (nm : Str) (a b : Cnd) (h : nm ∈ binNames) (ha : a.ok w) (hb : b.ok w) : Cnd.ok w (.bin nm a b)
theorem noL_vDc (v : V) : noL (vDc v) = true := by cases v <;> rfl
theorem noL_cx : ∀ e : Cnd, noL e.d = true
  | .col _ => rfl
  | .cst v => by
    show (true && (noL (vDc v) && true)) = true
    rw [noL_vDc]
    rfl
  | .un _ a => by
    show (true && (true && (noL a.d && true))) = true
    rw [noL_cx a]
    rfl
  | .bin _ a b => by
    show (true && (true && (noL a.d && (noL b.d && true)))) = true
    rw [noL_cx a, noL_cx b]
    rfl

--@SPLIT
/-! ### a def whose code object is told; a key lambda -/
def DnC (K : PySem.W.Frag) (mg : Str → Option Value) (x : Str) (st : Stmt) (ps : List Str) (cd : Value) : Prop := ∃ f fd, C8.Def K mg x st f fd ∧ Binds K fd ps [] ∧ fd.code = cd
section
variable {P : Program} {w : World} {K : PySem.W.Frag} {mg : Str → Option Value} {base : Heap}
theorem dnC_mk {x : Str} {st : Stmt} {f : Addr} {oc : Value} {od an : Option Addr} {osl : Array (Option Value)} {kV doc pm cdv ct : Value} {ps : List Str}
    (l : K.lookup f = some ⟨oc, od, .func (PySem.W.fnOf x x (C8.fnArgs st) (C8.fnBody st) (C8.fnScope st) .none kV doc pm an cdv ct), osl⟩)
    (c : PySem.W.codeIn K cdv x = true) (k : PySem.W.keepIn K (.ref f) = true) (m : mg x = some (.ref f))
    (h : ∀ (kV doc pm : Value) (an : Option Addr) (cdv ct : Value) (us : List Value), us.length = ps.length → bindArgs (PySem.W.fnOf x x (C8.fnArgs st) (C8.fnBody st) (C8.fnScope st) .none kV doc pm an cdv ct) ⟨us, []⟩ = pure (ps.zip us)) : DnC K mg x st ps cdv :=
  ⟨f, _, def_mk l c k m, C8.Fun.binds (def_mk l c k m).fn rfl h, rfl⟩
theorem cal_cd {x : Str} {st : Stmt} {N ps : List Str} {k : Nat} {sp : Sp} {cd : Value} (D : DnC K mg x st ps cd) (S : FnScope N ps (C8.fnScope st)) (len : ∀ vs H Q E, sp vs H Q E → vs.length = ps.length)
    (hbody : ∀ (f : Addr) (A : Around) (outer : List Env) (s : Shared) (H : Hp) (vs : List V) (Q : VK) (E : XK), Room k (A.deeper (envOfC x (C8.fnScope st) s.heap.objs.size f cd)) → sp vs H Q E →
      ∃ t, PSs (cxOf C8.CX0 P w K mg base N x (C8.fnScope st) f cd A outer s H E).nox (C8.fnBody st) t ∧ t { nx := fun _ H' => Q .non H', rt := Q } (start N vs) H) : C8.Cal P w K mg base (k + 1) x sp [] := by
  obtain ⟨f, fd, F, b, hc⟩ := D
  obtain ⟨oc, od, dV, kV, doc, pm, an, cdv, ct, osl, rfl, lk, hcd⟩ := F.fn.ex
  obtain rfl : cdv = cd := hc
  exact ⟨f, _, ps, [], fn_of lk hcd S len (fun A outer s H vs Q E hr hsp => let ⟨t, h, q⟩ := hbody f A outer s H vs Q E hr hsp; ⟨t, h.nox, q⟩), F.mgf, F.kp, b, .nil⟩
end
/-! ### the table of a def's code; the heap without tables -/
def tabOf (K : PySem.W.Frag) (x : Str) : Addr := match PySem.W.nsIn K mainGlobals x with
  | some (some (.ref f)) => match K.lookup f with
    | some ⟨_, _, .func fd, _⟩ => match fd.code with
      | .ref c => match K.lookup c with
        | some ⟨_, _, .fields vs, _⟩ => match vs.getD 11 .none with
          | .ref P => P
          | _ => 0
        | _ => 0
      | _ => 0
    | _ => 0
  | _ => 0
def noT (H : Hp) : Hp := fun a => match H a with
  | some (.tbl _) => none
  | o => o
theorem noT_at {H : Hp} {a : Addr} {o : HO} (h : H a = some o) (n : ∀ ps, o ≠ .tbl ps) : noT H a = some o := by
  unfold noT
  rw [h]
  cases o <;> first | rfl | exact absurd rfl (n _)
theorem noT_le (H : Hp) : Ex (noT H) H := fun a o h => by
  unfold noT at h
  split at h
  · cases h
  · exact h
theorem noT_no {H : Hp} {a : Addr} {ps : Array Value} : noT H a ≠ some (.tbl ps) := fun h => by
  unfold noT at h
  split at h
  · cases h
  · rename_i n
    exact n ps h
theorem ex_noT {H H' : Hp} (e : LamX.ExtN H H') : Ex (noT H) H' := fun a o h => e a o (noT_le _ _ _ h) fun ps z => noT_no (z ▸ h)
theorem noT_mono {H H' : Hp} (e : Ex (noT H) H') : Ex (noT H) (noT H') := fun a o h => noT_at (e a o h) fun ps z => noT_no (z ▸ h)
theorem noT_trans {H1 H2 H3 : Hp} (a : Ex (noT H1) H2) (b : Ex (noT H2) H3) : Ex (noT H1) H3 := (noT_mono a).trans b
section
variable {K : PySem.W.Frag} {H : Hp}
theorem rd_noT {a : Addr} {u : HO} (h : Rd H a u) (n : ∀ ps, u ≠ .tbl ps) : Rd (noT H) a u := h.imp (fun h => noT_at h n) fun ⟨o, h⟩ => ⟨o, noT_at h fun ps z => nomatch z⟩
theorem sq_noT {a : Addr} {xs : List V} (h : SqL K H a xs) : SqL K (noT H) a xs := h.imp (fun h => rd_noT h fun ps z => nomatch z) id
theorem st_noT {a : Addr} {xs : List V} (h : SqT K H a xs) : SqT K (noT H) a xs := h.imp (fun h => rd_noT h fun ps z => nomatch z) id
mutual
theorem dp_noT : ∀ {v : V} {d : PyData}, Dp K H v d → Dp K (noT H) v d
  | _, _, .non => .non
  | _, _, .bl b => .bl b
  | _, _, .int i => .int i
  | _, _, .str x => .str x
  | _, _, .lst h a => .lst (sq_noT h) (dps_noT a)
  | _, _, .tup h a => .tup (st_noT h) (dps_noT a)
theorem dps_noT : ∀ {vs : List V} {ds : List PyData}, DpAll K H vs ds → DpAll K (noT H) vs ds
  | _, _, .nil => .nil
  | _, _, .cons h t => .cons (dp_noT h) (dps_noT t)
end
end

/-! ### a lambda that captures one name, handed to a def that calls it: the cell is tracked while that def runs (imports: HandS.Nested) -/
def ExO (c : Addr) (o : Obj) : HO := .ext fun h => h.get? c = some o
def ClO (f c' : Addr) (q : Str) (params : Arguments) (body : Expr) (scope : Scope) (cl : List (Str × Addr)) : HO := .ext fun h => ∃ pm ctv, h.get? f = some (PySem.W.kla_obj "<lambda>" q params body scope cl pm c' ctv)
theorem exO_ok {P : Program} {w : World} {H : Hp} {h : Heap} {c : Addr} {o : Obj} (e : h.get? c = some o) : ObjOk P w H h c (ExO c o) := ⟨e, ⟨_, e⟩, fun _ _ a k => k _ a⟩
theorem exO_at {P : Program} {w : World} {H : Hp} {h : Heap} {c : Addr} {o : Obj} (hok : HOk P w H h) (e : H c = some (ExO c o)) : h.get? c = some o := (hok c _ e).1
theorem clO_ok {P : Program} {w : World} {H : Hp} {h : Heap} {f c' : Addr} {q : Str} {params : Arguments} {body : Expr} {scope : Scope} {cl : List (Str × Addr)} {pm ctv : Value} (e : h.get? f = some (PySem.W.kla_obj "<lambda>" q params body scope cl pm c' ctv)) : ObjOk P w H h f (ClO f c' q params body scope cl) :=
  ⟨⟨pm, ctv, e⟩, ⟨_, e⟩, fun h1 h2 ⟨pm, ctv, e⟩ k => ⟨pm, ctv, k _ e⟩⟩
theorem wo_n {H : Hp} {c b : Addr} (h : H b = none) : wo c H b = none := by
  by_cases e : b = c
  · rw [e]; exact wo_self _ _
  · rw [wo_ne e]; exact h
section
variable {P : Program} {w : World} {K : PySem.W.Frag} {mg : Str → Option Value} {base : Heap} {H : Hp} {c : Addr} {o : Obj} {A : Around} {outer : List Env} {s : Shared}
theorem hok_wo {h : Heap} (hok : HOk P w H h) (hc : H c = some (ExO c o)) : HOk P w (wo c H) h := fun a u e => by
  have ne : a ≠ c := fun z => by rw [z, wo_self] at e; cases e
  rw [wo_ne ne] at e
  refine (hok a u e).stay (fun b v _ q => q) (fun b q => ?_) fun b xs q => ?_
  · rw [wo_ne fun z => by rw [z, hc] at q; cases q]; exact q
  · rw [wo_ne fun z => by rw [z, hc] at q; cases q]; exact q
theorem hok_up {h : Heap} (hok : HOk P w H h) (hn : H c = none) (e : h.get? c = some o) : HOk P w (upd H c (ExO c o)) h := fun a u ea => by
  by_cases z : a = c
  · subst z
    rw [upd_same] at ea
    cases ea
    exact exO_ok e
  · rw [upd_ne z] at ea
    exact (hok a u ea).stay (fun b v _ q => q) (fun b q => by rw [upd_ne (ne_of_none q hn)]; exact q) fun b xs q => by rw [upd_ne (ne_of_none q hn)]; exact q
theorem env_wo (e : Env0 P w K mg base A outer s H) (hc : H c = some (ExO c o)) : Env0 P w K mg base A outer s (wo c H) :=
  ⟨e.frames, e.mod, fun b ob q => ⟨(e.bs b ob q).1, wo_n (e.bs b ob q).2⟩, e.bsz, e.funs, fun b q => wo_n (e.frf b q), hok_wo e.hok hc, e.bare⟩
/-- what ran while the cell was not tracked -/
theorem ce_re {Q : VK} {u : Value} {s' : Shared} (e : Env0 P w K mg base A outer s H) (hc : H c = some (ExO c o)) (h : CE outer P w (wo c H) s (fun v H' => Q v (upd H' c (ExO c o))) u s') : CE outer P w H s Q u s' := by
  obtain ⟨v, H', os, bare, un, hok, r, q⟩ := h
  have hg := exO_at e.hok hc
  have nf : c ∉ frs outer := fun z => by have := e.frf c z; rw [hc] at this; cases this
  have g' := un.keep c o hg (wo_self _ _) nf List.not_mem_nil
  have n' := un.free c o hg (wo_self _ _) List.not_mem_nil
  have ne : ∀ {b : Addr} {x : HO}, H b = some x → (∀ y, x ≠ ExO c y) → b ≠ c := fun {b x} hb hx z => by
    rw [z, hc] at hb
    exact hx o (Option.some.inj hb).symm
  refine ⟨v, upd H' c (ExO c o), os, bare, ⟨fun b ob e1 hn => un.keep b ob e1 (wo_n hn), fun b ob e1 hn => un.slot b ob e1 (wo_n hn), fun b ob e1 hn hx => ?_, un.there, fun b xs hb => ?_, fun b ob x hb => ?_, fun b ps hb => ?_⟩, hok_up hok n' g', r, q⟩
  · rw [upd_ne fun z => by rw [z, hc] at hn; cases hn]
    exact un.free b ob e1 (wo_n hn) hx
  · have z := ne hb fun y z => nomatch z
    rw [upd_ne z]
    exact un.tups b xs ((wo_ne z).trans hb)
  · have z := ne hb fun y z => nomatch z
    rw [upd_ne z]
    exact un.frzs b ob x ((wo_ne z).trans hb)
  · have z := ne hb fun y z => nomatch z
    rw [upd_ne z]
    exact un.tbls b ps ((wo_ne z).trans hb)
theorem env_up (e : Env0 P w K mg base A outer s H) (hn : H c = none) (hg : s.heap.get? c = some o) (hb : base.get? c = none) (nf : c ∉ frs outer) : Env0 P w K mg base A outer s (upd H c (ExO c o)) :=
  ⟨e.frames, e.mod, fun b ob q => ⟨(e.bs b ob q).1, by rw [upd_ne fun z => by rw [z, hb] at q; cases q]; exact (e.bs b ob q).2⟩, e.bsz, e.funs, fun b q => by rw [upd_ne fun z => nf (by rw [← z]; exact q)]; exact e.frf b q, hok_up e.hok hn hg, e.bare⟩
/-- what ran while the cell was tracked, and is so still -/
theorem ce_un {Q : VK} {u : Value} {s' : Shared} (hn : H c = none) (nf : c ∉ frs outer) (hg : s.heap.get? c = some o) (h : CE outer P w (upd H c (ExO c o)) s (fun v H' => H' c = some (ExO c o) ∧ Q v (wo c H')) u s') : CE outer P w H s Q u s' := by
  obtain ⟨v, H', os, bare, un, hok, r, hc, q⟩ := h
  have g' := exO_at hok hc
  have ne : ∀ {b : Addr} {x : HO}, H b = some x → b ≠ c := fun hb => ne_of_none hb hn
  refine ⟨v, wo c H', os, bare, ⟨fun b ob e1 h0 hf hx => ?_, fun b ob e1 h0 hf hx => ?_, fun b ob e1 h0 hx => ?_, un.there, fun b xs hb => ?_, fun b ob x hb => ?_, fun b ps hb => ?_⟩, hok_wo hok hc, r, q⟩
  · by_cases z : b = c
    · subst z
      rw [hg] at e1
      rw [← e1]
      exact g'
    · exact un.keep b ob e1 ((upd_ne z).trans h0) hf hx
  · have z : b ≠ c := fun z => nf (by rw [← z]; exact hf)
    exact un.slot b ob e1 ((upd_ne z).trans h0) hf hx
  · by_cases z : b = c
    · rw [z]; exact wo_self _ _
    · exact wo_n (un.free b ob e1 ((upd_ne z).trans h0) hx)
  · rw [wo_ne (ne hb)]
    exact un.tups b xs ((upd_ne (ne hb)).trans hb)
  · rw [wo_ne (ne hb)]
    exact un.frzs b ob x ((upd_ne (ne hb)).trans hb)
  · obtain ⟨more, z⟩ := un.tbls b ps ((upd_ne (ne hb)).trans hb)
    exact ⟨more, by rw [wo_ne (ne hb)]; exact z⟩
end
/-! ### what can be called: f, from the heap H on -/
structure CallH (P : Program) (w : World) (K : PySem.W.Frag) (mg : Str → Option Value) (base : Heap) (k : Nat) (H : Hp) (f : Addr) (sp : Sp) : Prop where
  fn : ∀ (H1 : Hp) (h : Heap), Ex H H1 → HOk P w H1 h → PySem.W.FnAt f h
  run : ∀ (A : Around) (outer : List Env) (s : Shared) (H1 : Hp) (us : List Value) (vs : List V) (Q : VK), Ex H H1 → Room k A → Env0 P w K mg base A outer s H1 → Vals vs us → sp vs H1 Q C8.E0 → codeAny (model P w) A (.call (.ref f) ⟨us, []⟩) (CR C8.CX0 outer P w H1 s Q C8.E0) s
theorem CallH.ex {P : Program} {w : World} {K : PySem.W.Frag} {mg : Str → Option Value} {base : Heap} {k : Nat} {H H' : Hp} {f : Addr} {sp : Sp} (c : CallH P w K mg base k H f sp) (e : Ex H H') : CallH P w K mg base k H' f sp := ⟨fun H1 h e1 => c.fn H1 h (e.trans e1), fun A outer s H1 us vs Q e1 => c.run A outer s H1 us vs Q (e.trans e1)⟩
def tCallC (P : Program) (w : World) (K : PySem.W.Frag) (mg : Str → Option Value) (base : Heap) (i k : Nat) (t : TA) : TE := fun σ H Q => ∃ f sp, σ[i]? = some (some (.ref f)) ∧ CallH P w K mg base k H f sp ∧ t σ H fun vs H1 => Ex H H1 ∧ sp vs H1 Q C8.E0
theorem pe_callC {X : Cx} {x : Str} {p pos : Pos} {e : Expr} {es : List Expr} {t : TA} {i k : Nat} (hr : Room k X.A) (hN : X.N[i]? = some x) (hv : Vis X.env.scope x) (ha : PA X (e :: es) t)
    (hd : (x == ("__debug__" : Str)) = false := by decide) (hcd : (x == ("__classdict__" : Str)) = false := by decide)
    (he : starEach (e :: es) X.env = (false, eval e X.env) :: starEach es X.env := by rfl) (hpl : (backTo pos (starEach es X.env)).any (·.1) = false := by rfl) : PE X (.Call (.Name x p) (e :: es) [] pos) (tCallC X.prog X.w X.K X.mg X.base i k t) := by
  refine ⟨fun pins s σ H Q I h => ?_⟩
  obtain ⟨f, sp, hs, C, ht⟩ := h
  refine wpAny_Call_Name_kw (thn ((pe_var (pos := p) hN hv hd hcd).run pins s σ H (fun v H1 => v = .ref f ∧ H1 = H) I ⟨.ref f, hs, rfl, rfl⟩) fun u s1 ⟨v, H1, I1, r1, q1⟩ => ?_)
  obtain ⟨ev, eH⟩ := q1
  subst ev
  rw [eH] at I1
  obtain rfl : u = Value.ref f := r1
  refine PySem.W.callWith_F (first := []) (C.fn H _ (Ex.refl H) I1.hok) (thn (ha.run pos pins s1 σ H _ I1 ht) fun us s2 ⟨vs, H2, I2, r, ex, q⟩ => ⟨C.fn H2 _ ex I2.hok, ?_⟩) he hpl
  show wpAny _ _ (call (.ref f) us) _ _ _
  refine wpAny_call (codeAny_mono (C.run X.A X.stack s2 H2 us vs Q ex hr I2.env0 r q) fun r s' hq => ?_)
  cases r with
  | error e => exact False.elim hq
  | ok fl =>
    cases fl with
    | ret u => exact I2.after hq
    | next => exact False.elim hq
    | brk => exact False.elim hq
    | cont => exact False.elim hq
theorem pe_callCK {X : Cx} {P : Program} {w : World} {K : PySem.W.Frag} {mg : Str → Option Value} {base : Heap} {x : Str} {p pos : Pos} {e : Expr} {es : List Expr} {t : TA} {i k : Nat} (h1 : X.prog = P) (h2 : X.w = w) (h3 : X.K = K) (h4 : X.mg = mg) (h5 : X.base = base) (hr : Room k X.A) (hN : X.N[i]? = some x) (ha : PA X (e :: es) t) (hv : Vis X.env.scope x := by first | exact Or.inl rfl | exact Or.inr (Or.inl rfl) | exact Or.inr (Or.inr rfl))
    (hd : (x == ("__debug__" : Str)) = false := by decide) (hcd : (x == ("__classdict__" : Str)) = false := by decide)
    (he : starEach (e :: es) X.env = (false, eval e X.env) :: starEach es X.env := by rfl) (hpl : (backTo pos (starEach es X.env)).any (·.1) = false := by rfl) : PE X (.Call (.Name x p) (e :: es) [] pos) (tCallC P w K mg base i k t) := by
  subst h1 h2 h3 h4 h5
  exact pe_callC hr hN hv ha hd hcd he hpl
/-! ### such a lambda is called -/
section
variable {P : Program} {w : World} {K : PySem.W.Frag} {mg : Str → Option Value} {base : Heap}
theorem lam_runF {F : NdefX.NF} {bodyE : Expr} {pm ctv : Value} {N ps fr : List Str} {k : Nat} {f : Addr} {A : Around} {outer : List Env} {s : Shared} {H : Hp} {us : List Value} {vs : List V} {ws : List (Option V)} {Q : VK}
    (hf : s.heap.get? f = some (PySem.W.kla_obj "<lambda>" F.qual F.params bodyE F.scope F.cl pm F.c ctv)) (hc : s.heap.CodeRec (.ref F.c) F.qual) (S : NdefX.NScope N ps fr F.scope) (room : Room (k + 1) A) (env : Env0 P w K mg base A outer s H)
    (bi : bindArgs (PySem.W.kla_fn "<lambda>" F.qual F.params bodyE F.scope F.cl pm (.ref F.c) ctv) ⟨us, []⟩ = pure (ps.zip us)) (rv : Vals vs us) (len : vs.length = ps.length) (C : NdefX.CellsAt F.cl fr ws s.heap H)
    (body : Room k (A.deeper (NdefX.envF F f s.heap.objs.size)) → ∃ t, PE (NdefX.ncx C8.CX0 P w K mg base N F f A outer s H C8.E0).nox bodyE t ∧ t (NdefX.startF N vs ws) H Q) :
    codeAny (model P w) A (.call (.ref f) ⟨us, []⟩) (CR C8.CX0 outer P w H s Q C8.E0) s := by
  have lim : s.heap.NoLimit := env.mod.nolimit.keeps fun b o e => (env.bs b o e).1
  refine PySem.W.kla_callFunE room.depth hf rfl S.co S.gen rfl hc ?_
  rw [bi]
  refine wpAny_pure (wpAny_newFunctionEnv S.nocell (fun ⟨n, _⟩ hy => S.par n (List.of_mem_zip hy).1) (fun h₁ hns hsb => ⟨lim.fresh _ hsb, ?_⟩) S.kind)
  have kp : ∀ b o, s.heap.get? b = some o → h₁.get? b = some o := fun b o e => hsb.extBut b o (Nat.ne_of_lt (Heap.lt_size e)) (Heap.get?_push_of_some _ e)
  obtain ⟨t, ht, hq⟩ := body (room.deeper _)
  have I : Inv (NdefX.ncx C8.CX0 P w K mg base N F f A outer s H C8.E0) [] (NdefX.startF N vs ws) H { s with heap := h₁, toks := s.toks + (ps.zip us).length } := NdefX.inv_startN S room.hd env len rv C hns kp
  refine PySem.W.kla_codeExpr ?_
  refine wpAny_mono (ht.nox.run [] _ (NdefX.startF N vs ws) H _ I hq) ?_ fun _ _ z => z
  intro u s' ⟨v, H', J, r, q⟩
  exact ⟨v, H', J.os, J.bare, J.base, J.hok, r, q⟩
theorem cell_look {cl : List (Str × Addr)} {y z : Str} {c b : Addr} (hcl : cl = [(y, c)]) (h : cl.lookup z = some b) : z = y ∧ b = c := by
  subst hcl
  by_cases e : z = y
  · subst e
    have : ([(z, c)] : List (Str × Addr)).lookup z = some c := by simp [List.lookup]
    rw [this] at h
    exact ⟨rfl, (Option.some.inj h).symm⟩
  · have e' : (z == y) = false := beq_eq_false_iff_ne.mpr e
    simp [List.lookup, e'] at h
/-- one captured name: y, of value x -/
theorem callH_lam {f c' c : Addr} {q y : Str} {params : Arguments} {bodyE : Expr} {scope : Scope} {N ps : List Str} {k : Nat} {H : Hp} {o : Obj} {u : Value} {x : V} {sp : Sp}
    (h1 : H f = some (ClO f c' q params bodyE scope [(y, c)])) (h2 : H c' = some (LamX.CodeO c' q)) (h3 : H c = some (ExO c o)) (ho : o.data = .cell (some u)) (ru : RelV x u) (S : NdefX.NScope N ps [y] scope)
    (bind : ∀ (q : Str) (cl : List (Str × Addr)) (pm cv ctv : Value) (us : List Value), us.length = ps.length → bindArgs (PySem.W.kla_fn "<lambda>" q params bodyE scope cl pm cv ctv) ⟨us, []⟩ = pure (ps.zip us))
    (len : ∀ vs H1 Q, sp vs H1 Q C8.E0 → vs.length = ps.length)
    (body : ∀ (A : Around) (outer : List Env) (s : Shared) (H1 : Hp) (vs : List V) (Q : VK), Ex H H1 → Room k (A.deeper (NdefX.envF ⟨"<lambda>", q, params, [], scope, [(y, c)], c'⟩ f s.heap.objs.size)) → sp vs H1 Q C8.E0 →
      ∃ t, PE (NdefX.ncx C8.CX0 P w K mg base N ⟨"<lambda>", q, params, [], scope, [(y, c)], c'⟩ f A outer s (wo c H1) C8.E0).nox bodyE t ∧ t (NdefX.startF N vs [some x]) (wo c H1) fun v H' => Q v (upd H' c (ExO c o))) : CallH P w K mg base (k + 1) H f sp := by
  refine ⟨fun H1 h e hok => ?_, fun A outer s H1 us vs Q e hr env rv hsp => ?_⟩
  · obtain ⟨pm, ctv, z⟩ := (show ObjOk P w H1 h f (ClO f c' q params bodyE scope [(y, c)]) from hok f _ (e _ _ h1)).1
    exact ⟨_, _, _, _, z⟩
  · have hc1 := e _ _ h3
    obtain ⟨pm, ctv, z⟩ := (show ObjOk P w H1 s.heap f (ClO f c' q params bodyE scope [(y, c)]) from env.hok f _ (e _ _ h1)).1
    have hcd := NdefX.codeO_at env.hok (e _ _ h2)
    have hl := len _ _ _ hsp
    have hg := exO_at env.hok hc1
    have cells : NdefX.CellsAt [(y, c)] [y] [some x] s.heap (wo c H1) := by
      refine ⟨rfl, fun a b hb => ?_, fun a a' b h1 h2 => (cell_look rfl h1).1.trans (cell_look rfl h2).1.symm, fun i a ha => ?_⟩
      · obtain ⟨rfl, rfl⟩ := cell_look rfl hb
        exact ⟨wo_self _ _, _, o, hg, ho⟩
      · cases i with
        | zero =>
          cases ha
          refine ⟨c, by simp [List.lookup], fun v hv => ?_⟩
          cases hv
          exact ⟨u, ru, o, hg, ho⟩
        | succ i => simp at ha
    have run := lam_runF (F := ⟨"<lambda>", q, params, [], scope, [(y, c)], c'⟩) (bodyE := bodyE) (k := k) (Q := fun v H' => Q v (upd H' c (ExO c o))) z hcd S hr (env_wo env hc1) (bind _ _ _ _ _ us (by rw [← rv.length]; exact hl)) rv hl cells fun rm => body A outer s H1 vs Q e rm hsp
    refine codeAny_mono run fun r s' hq => ?_
    cases r with
    | error e => exact False.elim hq
    | ok fl =>
      cases fl with
      | ret u => exact ce_re env hc1 hq
      | next => exact False.elim hq
      | brk => exact False.elim hq
      | cont => exact False.elim hq
end

--@SPLIT
/-! ### a lambda that captures one name is made, and handed to a def by its name -/
def tLambF (P : Addr) (q : Str) (params : Arguments) (body : Expr) (scope : Scope) (cl : List (Str × Addr)) : TE := fun σ H Q => LamX.TabS H P q ∧ ∀ f c' H1, H f = none → LamX.ExtN H H1 → (∀ b o, b ≠ P → H b = some o → H1 b = some o) → LamX.TabS H1 P q → H1 f = some (ClO f c' q params body scope cl) → H1 c' = some (LamX.CodeO c' q) → Q (.ref f) H1
theorem pe_lambF {X : Cx} {c P : Addr} {params : Arguments} {body : Expr} {scope : Scope} {cl : List (Str × Addr)} {pos : Pos} (TB : LamX.TabB X.base X.mg c P) (hcode : X.env.code = .ref c) (hcl : cloFrom X.env.cells scope.names [] = cl) (hfree : ∀ y ∈ scope.names, y.2 = .free → X.env.scope.names.lookup y.1 = some .cell ∨ X.env.scope.names.lookup y.1 = some .free) (hdef : defaultsOf params X.env = ([], []) := by rfl) :
    PE X (.Lambda params body scope pos) (tLambF P (X.env.qual ++ "<lambda>") params body scope cl) := by
  refine ⟨fun pins s σ H Q I h => ?_⟩
  obtain ⟨⟨ps, hP, ht, ha⟩, k⟩ := h
  have hfr : ∀ y ∈ scope.names, y.2 = .free → ∃ c, X.env.cells.lookup y.1 = some c := fun y hy e => (hfree y hy e).elim (fun z => I.ok.has _ (.inl z)) fun z => I.ok.has _ (.inr z)
  refine PySem.W.kla_eval hdef ?_
  have bP : s.heap.BuiltinsAt X.mg P := TB.bm.keeps I.bk
  have hP' : s.heap.get? P = some { cls := .none, data := .fields ps } := I.hok P _ hP
  have end_ : ∀ {H2 : Hp} {h2 : Heap} {t2 : Nat} {c' : Addr} {pm ctv : Value}, Inv X pins σ H2 { s with heap := h2, toks := t2 } → LamX.ExtN H H2 → (∀ b o, b ≠ P → H b = some o → H2 b = some o) → LamX.TabS H2 P (X.env.qual ++ "<lambda>") → H2 c' = some (LamX.CodeO c' (X.env.qual ++ "<lambda>")) → H h2.objs.size = none →
      ∃ (x : V) (H' : Hp), Inv X pins σ H' { s with heap := h2.push (PySem.W.kla_obj "<lambda>" (X.env.qual ++ "<lambda>") params body scope cl pm c' ctv), toks := t2 } ∧ L2.RelV x (.ref h2.objs.size) ∧ Q x H' := fun {H2 h2 t2 c' pm ctv} J e1 e2 e3 e4 n0 => by
    have nF : H2 h2.objs.size = none := J.hok.fresh (Nat.le_refl _)
    have hat := Heap.get?_push_size h2 (o := PySem.W.kla_obj "<lambda>" (X.env.qual ++ "<lambda>") params body scope cl pm c' ctv) rfl
    have up : ∀ b o, H2 b = some o → upd H2 h2.objs.size (ClO h2.objs.size c' (X.env.qual ++ "<lambda>") params body scope cl) b = some o := fun b o e => by rw [upd_ne (fun z => by rw [z, nF] at e; cases e)]; exact e
    exact ⟨.ref h2.objs.size, _, J.laid (t' := t2) (a := h2.objs.size) (o := ClO h2.objs.size c' (X.env.qual ++ "<lambda>") params body scope cl) (fun _ _ q => Heap.get?_push_of_some _ q) (Nat.le_refl _) (clO_ok hat), rfl, k _ c' _ n0 (e1.trans (.of up)) (fun b o hb e => up b o (e2 b o hb e)) (e3.ext up) upd_same (up _ _ e4)⟩
  cases hc : codeAmong pos ps.toList with
  | none =>
    refine PySem.W.kla_makeFunction (closure_ok hfr) I.ok.glob (I.mod.glob.keeps I.bk) hcode (TB.code.keeps I.bk) hP' ht hc TB.gP bP fun c' ctv h' tk hx hge hlt hrec htb => ?_
    rw [hcl]
    obtain ⟨c2, oc, vs, t, e2, hoc, hd, hv⟩ := hrec
    cases e2
    have J := LamX.inv_table (t' := tk) (q := X.env.qual ++ "<lambda>") (c := c') (more := #[rawInt pos.line, rawInt pos.col, .ref c']) I hP hx htb hge ⟨oc, vs, t, hoc, hd, hv⟩
    have nC : H c' = none := I.hok.fresh hge
    have nPc : P ≠ c' := fun z => by rw [← z, hP] at nC; cases nC
    have other : ∀ b o, b ≠ P → H b = some o → upd (upd H P (.tbl (ps ++ #[rawInt pos.line, rawInt pos.col, .ref c']))) c' (LamX.CodeO c' (X.env.qual ++ "<lambda>")) b = some o := fun b o hb e => by
      rw [upd_ne (fun z => by rw [z, nC] at e; cases e), upd_ne hb]; exact e
    have hE : LamX.ExtN H (upd (upd H P (.tbl (ps ++ #[rawInt pos.line, rawInt pos.col, .ref c']))) c' (LamX.CodeO c' (X.env.qual ++ "<lambda>"))) := fun b o e n => other b o (fun z => by rw [z, hP] at e; exact n ps (Option.some.inj e).symm) e
    have eL : (ps ++ #[rawInt pos.line, rawInt pos.col, .ref c']).toList = ps.toList ++ [rawInt pos.line, rawInt pos.col, .ref c'] := by simp
    have hT : LamX.TabS (upd (upd H P (.tbl (ps ++ #[rawInt pos.line, rawInt pos.col, .ref c']))) c' (LamX.CodeO c' (X.env.qual ++ "<lambda>"))) P (X.env.qual ++ "<lambda>") := by
      refine ⟨_, by rw [upd_ne nPc, upd_same], by rw [eL]; exact PySem.TriplesOk_snoc _ _ _ _ ht, fun p' cv hcv => ?_⟩
      rw [eL] at hcv
      rcases LamX.among_app _ ht hcv with z | z
      · obtain ⟨c0, e1, e2⟩ := ha p' cv z
        exact ⟨c0, e1, hE _ _ e2 LamX.codeO_ne⟩
      · exact ⟨c', z, upd_same⟩
    exact end_ J hE other hT upd_same (I.hok.fresh (Nat.le_trans hge (Nat.le_of_lt hlt)))
  | some cv =>
    obtain ⟨c', e, hco⟩ := ha pos cv hc
    subst e
    refine PySem.W.kla_makeFunctionHit (closure_ok hfr) I.ok.glob (I.mod.glob.keeps I.bk) hcode (TB.code.keeps I.bk) hP' ht hc bP fun ctv h' tk hx hsz => ?_
    rw [hcl]
    have J : Inv X pins σ H { s with heap := h', toks := tk } := I.kept hx
    exact end_ J (LamX.ExtN.refl H) (fun b o _ e => e) ⟨ps, hP, ht, ha⟩ hco (J.hok.fresh (Nat.le_refl _))
/-- g(.., a lambda that captures y, ..): while g runs, y's cell is tracked -/
def cellAt (cells : List (Str × Addr)) (y : Str) : Addr := (cells.lookup y).getD 0
def tCallL (cells : List (Str × Addr)) (y : Str) (j : Nat) (sp : Sp) (t : TA) : TE := fun σ H Q => ∃ x, σ[j]? = some (some x) ∧ t σ H fun vs H1 => ∀ (o : Obj) (u : Value), H1 (cellAt cells y) = none → o.data = .cell (some u) → L2.RelV x u →
  sp vs (upd H1 (cellAt cells y) (ExO (cellAt cells y) o)) (fun v H' => H' (cellAt cells y) = some (ExO (cellAt cells y) o) ∧ Q v (wo (cellAt cells y) H')) C8.E0
theorem pe_cLam {X : Cx} {g y : Str} {j k l : Nat} {sp : Sp} {p pos : Pos} {e : Expr} {es : List Expr} {t : TA} (c : C8.Cal X.prog X.w X.K X.mg X.base k g sp []) (hr : Room l X.A) (hk : k ≤ l) (hg : Gl X g) (hN : X.N[j]? = some y) (hv : X.env.scope.names.lookup y = some .cell) (hfn : X.fn y = true) (ha : PA X (e :: es) t)
    (hdb : (g == ("__debug__" : Str)) = false := by decide) (he : starEach (e :: es) X.env = (false, eval e X.env) :: starEach es X.env := by rfl) (hpl : (backTo pos (starEach es X.env)).any (·.1) = false := by rfl) :
    PE X (.Call (.Name g p) (e :: es) [] pos) (tCallL X.env.cells y j sp t) := by
  refine ⟨fun pins s σ H Q I h => ?_⟩
  obtain ⟨x, hx, ht⟩ := h
  obtain ⟨f, fd, ps, ds, F, hm, kp, b, d⟩ := c.ex
  refine wpAny_Call_Name_kw (ld_glob I hg hm ?_ hdb)
  refine PySem.W.callWith_K (h₀ := X.base) I.ok.mod.kin kp (thn (ha.run pos pins s σ H _ I ht) fun us s1 ⟨vs, H1, I1, r, q⟩ => ⟨I1.kIn, ?_⟩) he hpl
  obtain ⟨m, hn, hl⟩ := I1.loc
  obtain ⟨u, ru, lk⟩ := hl j y x hN hx (.inr (.inl hv))
  rcases lk with ⟨z, _⟩ | ⟨_, a, hca, ob, hob, hd⟩
  · have z' : X.env.scope.names.lookup y = some .local := z
    rw [hv] at z'
    cases z'
  have ea : cellAt X.env.cells y = a := by unfold cellAt; rw [hca]; rfl
  have hn1 := I1.freeC y a hca
  have hge := I1.ok.cab y a hfn hca
  have hb0 : X.base.get? a = none := Heap.get?_none_of_le (Nat.le_trans I1.ok.bsz hge)
  have nfo : a ∉ frs X.outer := fun z => by
    obtain ⟨_, o, ho, _⟩ := I1.ok.funs.mem z
    exact Nat.lt_irrefl _ (Nat.lt_of_lt_of_le (Heap.lt_size ho) hge)
  have nf : a ∉ frs X.stack := fun z => by
    rcases I1.ok.stk with w | ⟨w, w2⟩
    · rw [w] at z; exact nfo z
    · rw [w] at z
      have z2 : a ∈ (X.env :: X.outer).filterMap (·.frame) := z
      rw [List.filterMap_cons_some w2] at z2
      rcases List.mem_cons.mp z2 with z3 | z3
      · obtain ⟨o2, es2, ep2, e2, d2, _⟩ := hn
        rw [← z3, hob] at e2
        cases e2
        rw [hd] at d2
        cases d2
      · exact nfo z3
  have q2 := q ob u (by rw [ea]; exact hn1) hd ru
  rw [ea] at q2
  have ds0 : ds = [] := by cases d; rfl
  subst ds0
  have hlen := F.len _ _ _ _ q2
  refine wpAny_call (codeAny_mono (F.run X.A X.stack s1 (upd H1 a (ExO a ob)) ⟨us, []⟩ us vs _ _ (hr.mono hk) (env_up I1.env0 hn1 hob hb0 nf) ?_ r q2) fun r s' hq => ?_)
  · have hb := b s1 us I1.kIn (by rw [List.append_nil, ← r.length]; exact hlen)
    rw [List.append_nil] at hb
    exact hb
  · cases r with
    | error e => exact False.elim hq
    | ok fl =>
      cases fl with
      | ret u => exact I1.after (ce_un hn1 nf hob hq)
      | next => exact False.elim hq
      | brk => exact False.elim hq
      | cont => exact False.elim hq

--@SPLIT
/-! ### expressions taken apart -/
def Cnd.kids : Cnd → List Cnd
  | .col _ => []
  | .cst _ => []
  | .un _ a => [a]
  | .bin _ a b => [a, b]
def Cnd.hdw : Cnd → Str
  | .col _ => "column"
  | .cst _ => "constant"
  | .un _ _ => "unary"
  | .bin _ _ _ => "binary"
def Cnd.two : Cnd → PyData
  | .col n => .int (n : Int)
  | .cst v => vDc v
  | .un nm _ => .str nm
  | .bin nm _ _ => .str nm
def used : Cnd → List Nat
  | .col n => [n]
  | .cst _ => []
  | .un _ a => used a
  | .bin _ a b => used a ++ used b
def Cnd.sz : Cnd → Nat
  | .col _ => 1
  | .cst _ => 1
  | .un _ a => a.sz + 1
  | .bin _ a b => a.sz + b.sz + 1
def isBin (nm : Str) : Cnd → Bool
  | .bin x _ _ => decide (x = nm)
  | _ => false
def cparts : Cnd → List Cnd
  | .bin nm a b => if nm = "and" then cparts a ++ cparts b else [.bin nm a b]
  | e => [e]
theorem d_is (e : Cnd) : e.d = .tuple (.str e.hdw :: e.two :: e.kids.map Cnd.d) := by cases e <;> rfl
theorem used_kids (e : Cnd) (n : Nat) : n ∈ used e ↔ e = .col n ∨ ∃ c ∈ e.kids, n ∈ used c := by
  cases e with
  | col k => simp [used, Cnd.kids]; exact ⟨fun h => h.symm, fun h => h.symm⟩
  | cst v => simp [used, Cnd.kids]
  | un nm a => simp [used, Cnd.kids]
  | bin nm a b => simp [used, Cnd.kids]
theorem sz_kids (e : Cnd) : e.sz = (e.kids.map Cnd.sz).sum + 1 := by cases e <;> simp [Cnd.sz, Cnd.kids]
theorem sz_pos (e : Cnd) : 1 ≤ e.sz := by rw [sz_kids]; omega
theorem dp_tupD {K : PySem.W.Frag} {H : Hp} {v : V} {ds : List PyData} (h : Dp K H v (.tuple ds)) : ∃ b ys, v = .ref b ∧ SqT K H b ys ∧ DpAll K H ys ds := by
  cases h with
  | tup hS hd => exact ⟨_, _, rfl, hS, hd⟩
theorem dp_strD {K : PySem.W.Frag} {H : Hp} {v : V} {s : Str} (h : Dp K H v (.str s)) : v = .str s := by cases h; rfl
theorem dp_intD {K : PySem.W.Frag} {H : Hp} {v : V} {n : Int} (h : Dp K H v (.int n)) : v = .int n := by cases h; rfl
theorem cx_view {K : PySem.W.Frag} {G : Hp} {v : V} {e : Cnd} (h : Dp K G v e.d) : ∃ b y ys, v = .ref b ∧ SqT K G b (.str e.hdw :: y :: ys) ∧ Dp K G y e.two ∧ DpAll K G ys (e.kids.map Cnd.d) := by
  rw [d_is] at h
  obtain ⟨b, zs, rfl, hS, hds⟩ := dp_tupD h
  cases hds with | cons h1 hds =>
  cases hds with | cons h2 hds =>
  cases h1
  exact ⟨b, _, _, rfl, hS, h2, hds⟩
def isB : Cnd → Bool
  | .bin _ _ _ => true
  | _ => false
def isCol : Cnd → Bool
  | .col _ => true
  | _ => false
def isCst : Cnd → Bool
  | .cst _ => true
  | _ => false
theorem hd_col {e : Cnd} : decide (V.str e.hdw = V.str "column") = isCol e := by
  cases e with
  | col n => show decide (V.str "column" = V.str "column") = true; decide +kernel
  | cst v => show decide (V.str "constant" = V.str "column") = false; decide +kernel
  | un nm a => show decide (V.str "unary" = V.str "column") = false; decide +kernel
  | bin nm a b => show decide (V.str "binary" = V.str "column") = false; decide +kernel
theorem hd_bin {e : Cnd} : decide (V.str e.hdw = V.str "binary") = isB e := by
  cases e with
  | col n => show decide (V.str "column" = V.str "binary") = false; decide +kernel
  | cst v => show decide (V.str "constant" = V.str "binary") = false; decide +kernel
  | un nm a => show decide (V.str "unary" = V.str "binary") = false; decide +kernel
  | bin nm a b => show decide (V.str "binary" = V.str "binary") = true; decide +kernel
theorem hd_cst {e : Cnd} : decide (V.str e.hdw = V.str "constant") = isCst e := by
  cases e with
  | col n => show decide (V.str "column" = V.str "constant") = false; decide +kernel
  | cst v => show decide (V.str "constant" = V.str "constant") = true; decide +kernel
  | un nm a => show decide (V.str "unary" = V.str "constant") = false; decide +kernel
  | bin nm a b => show decide (V.str "binary" = V.str "constant") = false; decide +kernel
section
variable {K : PySem.W.Frag} {w : World} {σ : L2.St} {H : Hp} {ta tb tc te tl : TE} {tr : TA} {D : Ends} {tz : TS} {th tlo : TO} {v : V}
theorem et_isBin {e : Cnd} {nm : Str} {b : Addr} {y : V} {ys : List V} {i : Nat} (h0 : σ[i]? = some (some (.ref b))) (hS : SqT K H b (.str e.hdw :: y :: ys)) {G : Hp} (h2 : Dp K G y e.two) : EvT (tAnd (tTest (tOp rEq (tOp (rIxT K) (tVar i) (tC (.int 0))) (tC (.str "binary")))) (tTest (tOp rEq (tOp (rIxT K) (tVar i) (tC (.int 1))) (tC (.str nm))))) σ H (isBin nm e) := by
  have t0 : EvT (tTest (tOp rEq (tOp (rIxT K) (tVar i) (tC (.int 0))) (tC (.str "binary")))) σ H (isB e) := et_test (ev_is (ev_op (ev_op (ev_var h0) ev_c (rv_ixT hS (atI_nat (j := 0) rfl))) ev_c (rv_eq rfl)) (by rw [hd_bin]))
  cases e with
  | col n => exact et_is (et_and t0 fun h => nomatch h) (show (false && false) = false from rfl)
  | cst n => exact et_is (et_and t0 fun h => nomatch h) (show (false && false) = false from rfl)
  | un x a => exact et_is (et_and t0 fun h => nomatch h) (show (false && false) = false from rfl)
  | bin x a b =>
    cases h2
    refine et_is (et_and t0 fun _ => et_test (ev_op (ev_op (ev_var h0) ev_c (rv_ixT hS (atI_nat (j := 1) rfl))) ev_c (rv_eq rfl))) ?_
    show decide (V.str x = V.str nm) = decide (x = nm)
    rw [Bool.eq_iff_iff, decide_eq_true_eq, decide_eq_true_eq]
    exact ⟨fun h => V.str.inj h, fun h => by rw [h]⟩
theorem et_truL {a : Addr} {xs : List V} (h : Ev te σ H (.ref a)) (hx : SqL K H a xs) : EvT (fun σ H Q => te σ H fun x H' => ∃ k, TruV K x H' k ∧ Q k H') σ H (!xs.isEmpty) := fun H1 e Q q => h H1 e _ fun H2 e2 => ⟨!xs.isEmpty, .inl ⟨xs, ex_l (e.trans e2) hx, rfl⟩, q H2 e2⟩
theorem q_asgE {i : Nat} (h : te σ H fun v H1 => tz D (σ.set i (some v)) H1) : tSeq (tAsg te (gName i)) tz D σ H := h
theorem rv_ixKD {d : Addr} {es : Array DictEntry} {n : Nat} {z : Str} {u : Value} {v : V} (D : KDict K w d es n) (e : PySem.W.nsIn K d z = some (some u)) (r : RelV v u) : RV (rIxD K w) (.ref d) (.str z) H v :=
  fun H1 _ _ q => ⟨d, z, v, rfl, rfl, ⟨es, n, u, D.at_, D.lit, e, r⟩, q H1 (Ex.refl H1)⟩
/-- t[lo:hi], not the whole of it -/
theorem eu_slA {a : Addr} {xs : List V} {lo hi : Option Int} (h : Ev te σ H (.ref a)) (h1 : EvO tlo σ H lo) (h2 : EvO th σ H hi) (hs : SqT K H a xs) (hw : ¬ (HT.sIx xs.length 0 lo = 0 ∧ HT.sIx xs.length xs.length hi = xs.length)) : EvU (tSl (rSlA K) te tlo th) σ H (cutV xs lo hi) := fun H1 e _ q =>
  h H1 e _ fun H2 e2 => h1 H2 (e.trans e2) _ fun H3 e3 => h2 H3 ((e.trans e2).trans e3) _ fun H4 e4 =>
    ⟨a, xs, rfl, ex_t (((e.trans e2).trans e3).trans e4) hs, fun z => (hw z).elim, fun _ p hp => q p _ (fresh_back ((e2.trans e3).trans e4) hp) (((e2.trans e3).trans e4).trans (Ex.new hp)) upd_same⟩
theorem ev_slW {a : Addr} {xs : List V} {lo hi : Option Int} (h : Ev te σ H (.ref a)) (h1 : EvO tlo σ H lo) (h2 : EvO th σ H hi) (hs : SqT K H a xs) (hw : HT.sIx xs.length 0 lo = 0 ∧ HT.sIx xs.length xs.length hi = xs.length) : Ev (tSl (rSlA K) te tlo th) σ H (.ref a) := fun H1 e _ q =>
  h H1 e _ fun H2 e2 => h1 H2 (e.trans e2) _ fun H3 e3 => h2 H3 ((e.trans e2).trans e3) _ fun H4 e4 =>
    ⟨a, xs, rfl, ex_t (((e.trans e2).trans e3).trans e4) hs, fun _ => q H4 ((e2.trans e3).trans e4), fun n => (n hw).elim⟩
theorem q_pop {i : Nat} {l : Addr} {xs : List V} {y : V} (hl : H l = some (.lst (xs ++ [y]))) (ha : Ev ta σ H (.ref l)) (k : ∀ H1, Ex H H1 → tz D (σ.set i (some y)) (upd H1 l (.lst xs))) : tSeq (tAsg (tBM0 K "list" rPop ta) (gName i)) tz D σ H := ha H (Ex.refl H) _ fun H1 e1 =>
  ⟨Or.inl ⟨rfl, _, sq_of (e1 l _ hl)⟩, l, xs ++ [y], y, rfl, rfl, e1 l _ hl, by rw [List.length_append, List.length_singleton, Nat.add_sub_cancel, List.getElem?_append_right (Nat.le_refl _), Nat.sub_self]; rfl, by
    rw [List.dropLast_concat]
    exact k H1 e1⟩
theorem s_extT {l : Addr} {xs zs : List V} (hl : H l = some (.lst xs)) (ha : Ev ta σ H (.ref l)) (h : EvU te σ H zs) (hz : xs.length + zs.length ≤ 100000) (k : ∀ H1, Ex H H1 → D.nx σ (upd H1 l (.lst (xs ++ zs)))) : tDrop (tBM K "list" (rExtT K) ta (tCons te tNil)) D σ H := ha H (Ex.refl H) _ fun H1 e1 =>
  ⟨Or.inl ⟨rfl, _, sq_of (e1 l _ hl)⟩, h H1 e1 _ fun p H2 hp e2 h2 => ⟨l, p, xs, zs, rfl, rfl, e2 l _ (e1 l _ hl), st_of h2, sz_of hz, k H2 (e1.trans e2)⟩⟩
theorem s_extL {l : Addr} {xs zs : List V} (hl : H l = some (.lst xs)) (ha : Ev ta σ H (.ref l)) (h : EvL te σ H zs) (hz : xs.length + zs.length ≤ 100000) (k : ∀ H1, Ex H H1 → D.nx σ (upd H1 l (.lst (xs ++ zs)))) : tDrop (tBM K "list" rExtend ta (tCons te tNil)) D σ H := ha H (Ex.refl H) _ fun H1 e1 =>
  ⟨Or.inl ⟨rfl, _, sq_of (e1 l _ hl)⟩, h H1 e1 _ fun p H2 hp e2 h2 => ⟨l, p, xs, zs, rfl, rfl, e2 l _ (e1 l _ hl), h2, sz_of hz, k H2 (e1.trans e2)⟩⟩
theorem q_dnew {i : Nat} (k : ∀ p, H p = none → tz D (σ.set i (some (.ref p))) (upd H p (.dK []))) : tSeq (tAsg tDNewK (gName i)) tz D σ H := fun p hp => k p hp
theorem s_dputI {d : Addr} {kvs : List (L2.Key × V)} {s : Int} (hv : Ev te σ H v) (hb : Ev tl σ H (.ref d)) (ha : Ev ta σ H (.int s)) (h : H d = some (.dK kvs)) (hz : kvs.length ≤ 100000) (k : ∀ H1, Ex H H1 → D.nx σ (upd H1 d (.dK (putK kvs (Sum.inl s) v)))) : sDPut tl ta te D σ H :=
  hv H (Ex.refl H) _ fun H1 e1 => hb H1 e1 _ fun H2 e2 => ha H2 (e1.trans e2) _ fun H3 e3 => ⟨d, _, rfl, .inl ⟨kvs, Sum.inl s, ((e1.trans e2).trans e3) _ _ h, rfl, Nat.lt_of_le_of_lt hz (by decide), rfl⟩, k H3 ((e1.trans e2).trans e3)⟩
theorem put_keys {kvs : List (L2.Key × V)} {ks : List Int} {s : Int} {v : V} (h : kvs.map (·.1) = ks.map Sum.inl) : ∃ ks' : List Int, (putK kvs (Sum.inl s) v).map (·.1) = ks'.map Sum.inl ∧ ks'.length ≤ ks.length + 1 ∧ ∀ x, x ∈ ks' ↔ x ∈ ks ∨ x = s := by
  unfold putK
  split
  · rename_i ha
    refine ⟨ks, ?_, by omega, fun x => ⟨.inl, fun hx => ?_⟩⟩
    · rw [← h, List.map_map]
      refine List.map_congr_left fun kv _ => ?_
      show (if kv.1 = Sum.inl s then (kv.1, v) else kv).1 = kv.1
      split <;> rfl
    · rcases hx with hx | rfl
      · exact hx
      · obtain ⟨kv, hkv, e⟩ := List.any_eq_true.mp ha
        have e2 : kv.1 = Sum.inl x := of_decide_eq_true e
        have : (Sum.inl x : L2.Key) ∈ ks.map Sum.inl := by rw [← h, ← e2]; exact List.mem_map.mpr ⟨kv, hkv, rfl⟩
        obtain ⟨y, hy, ey⟩ := List.mem_map.mp this
        cases ey
        exact hy
  · refine ⟨ks ++ [s], by rw [List.map_append, h, List.map_append]; rfl, by rw [List.length_append]; exact Nat.le_refl _, fun x => ?_⟩
    rw [List.mem_append, List.mem_singleton]
end
theorem two_nat {K : PySem.W.Frag} {G : Hp} {y : V} {n : Nat} (h : Dp K G y (Cnd.col n).two) : y = .int (n : Int) := dp_intD h
theorem dps_app {K : PySem.W.Frag} {H : Hp} : ∀ {xs ys : List V} {ds es : List PyData}, DpAll K H xs ds → DpAll K H ys es → DpAll K H (xs ++ ys) (ds ++ es)
  | _, _, _, _, .nil, h => h
  | _, _, _, _, .cons a t, h => .cons a (dps_app t h)
theorem dps_unsnoc {K : PySem.W.Frag} {H : Hp} : ∀ {vs : List V} {ds : List PyData} {d : PyData}, DpAll K H vs (ds ++ [d]) → ∃ ws y, vs = ws ++ [y] ∧ DpAll K H ws ds ∧ Dp K H y d
  | _, [], _, .cons h .nil => ⟨[], _, rfl, .nil, h⟩
  | _, _ :: _, _, .cons h t => by
    obtain ⟨ws, y, rfl, h1, h2⟩ := dps_unsnoc t
    exact ⟨_ :: ws, y, rfl, .cons h h1, h2⟩
def sp_parts_of (K : PySem.W.Frag) : Sp := fun vs H Q _ => ∃ (v : V) (e : Cnd) (G : Hp), vs = [v] ∧ Ex G H ∧ Dp K G v e.d ∧ ∀ p H' ys, H p = none → Ex H H' → H' p = some (.tup ys) → DpAll K G ys (e.kids.map Cnd.d) → Q (.ref p) H'
def UsedIs (e : Cnd) (ns : List Int) : Prop := ∀ x : Int, x ∈ ns ↔ ∃ n ∈ used e, x = (n : Int)
def sp_columns_of (K : PySem.W.Frag) : Sp := fun vs H Q _ => ∃ (v : V) (e : Cnd), vs = [v] ∧ Dp K H v e.d ∧ e.sz ≤ 60 ∧ ∀ p H' (ns : List Int), H p = none → Ex H H' → H' p = some (.lst (ns.map V.int)) → ns.Pairwise (· ≤ ·) → UsedIs e ns → ns.length ≤ 60 → Q (.ref p) H'
theorem cut_two {x y : V} {ys : List V} : cutV (x :: y :: ys) (some ((2 : Nat) : Int)) none = ys := by
  unfold cutV
  rw [HT.sIx_nat, HT.sIx_none]
  show List.take (ys.length + 2 - min 2 (ys.length + 2)) (List.drop (min 2 (ys.length + 2)) (x :: y :: ys)) = ys
  rw [Nat.min_eq_left (by omega)]
  show List.take (ys.length + 2 - 2) ys = ys
  exact List.take_of_length_le (by omega)
theorem no_whole {n : Nat} {hi : Option Int} (k : Nat) (h : k + 1 ≤ n) : ¬ (HT.sIx n 0 (some ((k + 1 : Nat) : Int)) = 0 ∧ HT.sIx n n hi = n) := fun z => by
  have := z.1
  rw [HT.sIx_nat] at this
  omega
theorem len_sz : ∀ l : List Cnd, l.length ≤ (l.map Cnd.sz).sum
  | [] => Nat.le_refl _
  | c :: l => by
    have := len_sz l
    have := sz_pos c
    simp only [List.length_cons, List.map_cons, List.sum_cons]
    omega
def ColW (K : PySem.W.Frag) (H : Hp) (v : V) (e : Cnd) (pf pw : Addr) (m : Nat) (σ' : L2.St) (H' : Hp) : Prop := ∃ (pv : Option V) (vs : List V) (st : List Cnd) (kvs : List (L2.Key × V)) (ks : List Int), σ' = [some v, some (.ref pf), some (.ref pw), pv] ∧ Ex H H' ∧ H' pw = some (.lst vs) ∧ DpAll K H vs (st.map Cnd.d) ∧ H' pf = some (.dK kvs) ∧ kvs.map (·.1) = ks.map Sum.inl ∧ ks.length + (st.map Cnd.sz).sum ≤ 60 ∧ (∀ x : Int, (x ∈ ks ∨ ∃ c ∈ st, ∃ n ∈ used c, x = (n : Int)) ↔ ∃ n ∈ used e, x = (n : Int)) ∧ (st.map Cnd.sz).sum ≤ m
section
variable {P : Program} {w : World} {K : PySem.W.Frag} {mg : Str → Option Value} {base : Heap}
theorem ok_parts_of (D : Dn K mg "parts_of" s_parts_of ["expression"]) {p__FIRST_PART : Addr} {es__FIRST_PART : Array DictEntry} {n__FIRST_PART : Nat} (g__FIRST_PART : ∃ u, mg "_FIRST_PART" = some u ∧ RelV (.ref p__FIRST_PART) u) (h__FIRST_PART : KDict K w p__FIRST_PART es__FIRST_PART n__FIRST_PART) (i__FIRST_PART : DInts K p__FIRST_PART [("constant", 2), ("column", 2), ("unary", 2), ("binary", 2), ("ternary", 2), ("choice", 1)]) :
    C8.Cal P w K mg base 1 "parts_of" (sp_parts_of K) [] := by
  refine cal_of D sc_parts_of (fun vs H Q E h => ?_) (fun f cdv A outer s H vs Q E hr h => ?_)
  · obtain ⟨_, _, _, rfl, _⟩ := h
    rfl
  refine ⟨_, (pss_one (ps_ret (pe_slice sl_tupA (pv 0) (po_some (pe_ix ix_kdict (C8.pe_gc rfl g__FIRST_PART) (pe_ix ix_tup (pv 0) pe_int (fun _ _ => rfl)) (fun _ _ => rfl))) po_none))), ?_⟩
  obtain ⟨v, e, G, rfl, g, hd, q⟩ := h
  obtain ⟨b, y, ys, rfl, hS, h2, hds⟩ := cx_view hd
  have hF : ∃ t, PySem.W.nsIn K p__FIRST_PART e.hdw = some (some (.int 2 t)) := by
    cases e with
    | col n => exact i__FIRST_PART ("column", 2) (by simp)
    | cst n => exact i__FIRST_PART ("constant", 2) (by simp)
    | un nm a => exact i__FIRST_PART ("unary", 2) (by simp)
    | bin nm a b => exact i__FIRST_PART ("binary", 2) (by simp)
  obtain ⟨t, hF⟩ := hF
  refine (eu_slA (K := K) (lo := some ((2 : Nat) : Int)) (hi := none) (ev_var rfl) (eo_some (ev_op ev_c (ev_op (ev_var rfl) ev_c (rv_ixT (ex_t g hS) (atI_nat (j := 0) rfl))) (rv_ixKD h__FIRST_PART hF ⟨t, rfl⟩))) eo_none (ex_t g hS) (no_whole 1 (by show 2 ≤ ys.length + 2; omega))) H (Ex.refl H) _ fun p H1 hp e1 h1 => q p H1 ys hp e1 (by rw [h1, cut_two]) hds
theorem ok_columns_of (D : Dn K mg "columns_of" s_columns_of ["expression"]) (c_parts_of : C8.Cal P w K mg base 1 "parts_of" (sp_parts_of K) []) (z_sorted : mg "sorted" = none) :
    C8.Cal P w K mg base 2 "columns_of" (sp_columns_of K) [] := by
  refine cal_of D sc_columns_of (fun vs H Q E h => ?_) (fun f cdv A outer s H vs Q E hr h => ?_)
  · obtain ⟨_, _, rfl, _⟩ := h
    rfl
  refine ⟨_, (pss_cons (ps_set (i := 1) sc_columns_of.nd rfl (.inl rfl) pe_dnewK)
    (pss_cons (ps_set (i := 2) sc_columns_of.nd rfl (.inl rfl) (pe_lst (pa_cons (pv 0) pa_nil)))
    (pss_cons (ps_while PassesOwn.never (pt_truth (pv 2) (by intro _; rfl))
      (pss_cons (ps_set (i := 3) sc_columns_of.nd rfl (.inl rfl) (pe_bm0 PySem.F.plainAttrs_list PySem.F.slot_list_pop PySem.F.type_list_pop mt_pop (pv 2)))
    (pss_cons (ps_if (pt_cmpR op_eq (pe_ix ix_tup (pv 3) pe_int (fun _ _ => rfl)) pe_str (nomark _))
      (pss_one (ps_dput (hu_of hr) (pv 1) (pe_ix ix_tup (pv 3) pe_int (fun _ _ => rfl)) pe_bl rfl))
      pss_nil)
    (pss_one (ps_expr (pe_bm PySem.F.plainAttrs_list PySem.F.slot_list_extend PySem.F.type_list_extend mt_extT (pv 2) (pa_cons (C8.pe_c c_parts_of hr (by decide) (by rfl) (pa_cons (pv 3) pa_nil)) pa_nil)))))))
    (pss_one (ps_ret (pe_callB (call_sortedDI rfl) (by rfl) z_sorted (by decide +kernel) (pa_cons (pv 1) pa_nil))))))), ?_⟩
  obtain ⟨v, e, rfl, hd, hz, q⟩ := h
  refine q_dnew fun pf hpf => ?_
  refine q_asgL (el_lst (ea_cons (ev_var rfl) ea_nil) (by show 1 ≤ 100000; decide)) fun pw H2 hpw e2 h2 => ?_
  have x0 : Ex H (upd H pf (.dK [])) := Ex.new hpf
  have hpfw : pf ≠ pw := fun z => by rw [← z, upd_same] at hpw; cases hpw
  have hpwH : H pw = none := fresh_back x0 hpw
  refine q_while (ColW K H v e pf pw) e.sz ⟨none, [v], [e], [], [], rfl, x0.trans e2, h2, .cons hd .nil, e2 _ _ upd_same, rfl, by simpa using hz, fun x => by simp, by simp⟩ fun m σ' H' hW => ?_
  obtain ⟨pv, vs, st, kvs, ks, rfl, x, hvs, hds, hkv, hks, hsz, hu, hm⟩ := hW
  refine ⟨!vs.isEmpty, et_truL (ev_var rfl) (sq_of hvs), fun hb H1 e1 => ⟨fun σ2 H2 => ∃ m', m' < m ∧ ColW K H v e pf pw m' σ2 H2, fun _ _ h => h, ?_⟩, fun hb H1 e1 => ?_⟩
  · obtain ⟨st0, c, rfl⟩ : ∃ st0 c, st = st0 ++ [c] := by
      rcases List.eq_nil_or_concat st with rfl | ⟨a, b, rfl⟩
      · cases hds
        cases hb
      · exact ⟨a, b, by rw [List.concat_eq_append]⟩
    rw [List.map_append] at hds
    obtain ⟨ws, y, rfl, hds0, hdc⟩ := dps_unsnoc hds
    obtain ⟨b, y2, ys, rfl, hS, h2', hdk⟩ := cx_view hdc
    refine q_pop (e1 _ _ hvs) (ev_var rfl) fun H3 e3 => ?_
    have x3 : Ex H (upd H3 pw (.lst ws)) := Ex.mut (x.trans (e1.trans e3)) hpwH
    have hwl : ws.length = st0.length := by have := dps_len hds0; rw [List.length_map] at this; exact this
    have hsz2 := sz_kids c
    have hpos := sz_pos c
    have hsum : ((st0 ++ [c]).map Cnd.sz).sum = (st0.map Cnd.sz).sum + c.sz := by simp
    have hl0 : st0.length ≤ (st0.map Cnd.sz).sum := len_sz st0
    have hl1 : c.kids.length ≤ (c.kids.map Cnd.sz).sum := len_sz c.kids
    have tail : ∀ {H4 : Hp} {kvs4 : List (L2.Key × V)} {ks4 : List Int}, Ex H H4 → H4 pw = some (.lst ws) → H4 pf = some (.dK kvs4) → kvs4.map (·.1) = ks4.map Sum.inl → ks4.length ≤ ks.length + 1 → (∀ z : Int, (z ∈ ks4 ∨ ∃ c' ∈ st0 ++ c.kids, ∃ n ∈ used c', z = (n : Int)) ↔ ∃ n ∈ used e, z = (n : Int)) →
        tBM K "list" (rExtT K) (tVar 2) (tCons (tCall (sp_parts_of K) [] C8.E0 (tCons (tVar 3) tNil)) tNil) [some v, some (.ref pf), some (.ref pw), some (.ref b)] H4 (fun _ H5 => ∃ m', m' < m ∧ ColW K H v e pf pw m' [some v, some (.ref pf), some (.ref pw), some (.ref b)] H5) := fun {H4 kvs4 ks4} x4 hw4 hf4 hk4 hl4 hu4 => by
      refine ⟨.ref pw, rfl, Or.inl ⟨rfl, _, sq_of hw4⟩, .ref b, rfl, .ref b, c, H, rfl, x4, hdc, fun p H5 ys5 hp5 e5 h5 hd5 => ⟨pw, p, ws, ys5, rfl, rfl, e5 _ _ hw4, st_of h5, sz_of ?_, m - 1, ?_, some (.ref b), ws ++ ys5, st0 ++ c.kids, kvs4, ks4, rfl, Ex.mut (x4.trans e5) hpwH, upd_same, ?_, ?_, hk4, ?_, hu4, ?_⟩⟩
      · have := dps_len hd5
        rw [List.length_map] at this
        omega
      · omega
      · rw [List.map_append]
        exact dps_app hds0 hd5
      · rw [upd_ne hpfw]
        exact e5 _ _ hf4
      · rw [List.map_append, List.sum_append]
        omega
      · rw [List.map_append, List.sum_append]
        omega
    have hpf3 : upd H3 pw (.lst ws) pf = some (.dK kvs) := by rw [upd_ne hpfw]; exact (e1.trans e3) _ _ hkv
    refine q_when (et_test (ev_is (ev_op (ev_op (ev_var rfl) ev_c (rv_ixT (ex_t x3 hS) (atI_nat (j := 0) rfl))) ev_c (rv_eq rfl)) (by rw [hd_col]))) (fun hb4 H4 e4 => ?_) fun hb4 H4 e4 => ?_
    · cases c with
      | cst _ => cases hb4
      | un _ _ => cases hb4
      | bin _ _ _ => cases hb4
      | col n =>
        obtain rfl := two_nat h2'
        obtain ⟨ks', hk', hl', hm'⟩ := put_keys (s := (n : Int)) (v := .bl true) hks
        have hkl : kvs.length = ks.length := by have := congrArg List.length hks; rw [List.length_map, List.length_map] at this; exact this
        refine s_dputI ev_c (ev_var rfl) (ev_op (ev_var rfl) ev_c (rv_ixT (ex_t (x3.trans e4) hS) (atI_nat (j := 1) rfl))) (e4 _ _ hpf3) (by omega) fun H5 e5 => tail (Ex.mut (x3.trans (e4.trans e5)) hpf) (by rw [upd_ne (Ne.symm hpfw)]; exact (e4.trans e5) _ _ upd_same) upd_same hk' hl' fun z => ?_
        rw [← hu z]
        constructor
        · rintro (h | ⟨c', hc', n', hn', rfl⟩)
          · rcases (hm' z).mp h with h | rfl
            · exact .inl h
            · exact .inr ⟨.col n, by simp, n, by simp [used], rfl⟩
          · exact .inr ⟨c', by simp [Cnd.kids] at hc'; simp [hc'], n', hn', rfl⟩
        · rintro (h | ⟨c', hc', n', hn', rfl⟩)
          · exact .inl ((hm' z).mpr (.inl h))
          · rcases List.mem_append.mp hc' with h | h
            · exact .inr ⟨c', List.mem_append.mpr (.inl h), n', hn', rfl⟩
            · rw [List.mem_singleton.mp h] at hn'
              have : n' = n := by simpa [used] using hn'
              exact .inl ((hm' _).mpr (.inr (by rw [this])))
    · refine tail (x3.trans e4) (e4 _ _ upd_same) (e4 _ _ hpf3) hks (Nat.le_succ _) fun z => ?_
      rw [← hu z]
      have hnc : ∀ n, c ≠ .col n := fun n z => by rw [z] at hb4; cases hb4
      constructor
      · rintro (h | ⟨c', hc', n', hn', rfl⟩)
        · exact .inl h
        · rcases List.mem_append.mp hc' with h | h
          · exact .inr ⟨c', List.mem_append.mpr (.inl h), n', hn', rfl⟩
          · exact .inr ⟨c, by simp, n', (used_kids c n').mpr (.inr ⟨c', h, hn'⟩), rfl⟩
      · rintro (h | ⟨c', hc', n', hn', rfl⟩)
        · exact .inl h
        · rcases List.mem_append.mp hc' with h | h
          · exact .inr ⟨c', List.mem_append.mpr (.inl h), n', hn', rfl⟩
          · rw [List.mem_singleton.mp h] at hn'
            rcases (used_kids c n').mp hn' with h | ⟨c2, h2, hn2⟩
            · exact (hnc _ h).elim
            · exact .inr ⟨c2, List.mem_append.mpr (.inr h2), n', hn2, rfl⟩
  · have hv0 : vs = [] := by
      cases vs with
      | nil => rfl
      | cons _ _ => cases hb
    subst hv0
    have hst : st = [] := by have := dps_len hds; rw [List.length_map] at this; exact List.eq_nil_of_length_eq_zero this.symm
    subst hst
    refine ⟨.ref pf, rfl, pf, kvs, ks, rfl, .inl (e1 _ _ hkv), hks, by omega, fun ys p hperm hsort hp => q p _ ys (fresh_back (x.trans e1) hp) ((x.trans e1).trans (Ex.new hp)) upd_same hsort (fun z => ?_) (by rw [hperm.length_eq]; omega)⟩
    rw [hperm.mem_iff, ← hu z]
    simp
end

--@SPLIT
/-! ### plans as data -/
structure Vl where
  nm : Str
  e : Option Cnd
  tl : List PyData
def Vl.d (v : Vl) : PyData := .tuple (.str v.nm :: (match v.e with | none => .none | some c => c.d) :: v.tl)
structure Ky where
  e : Cnd
  b : Bool
def Ky.d (k : Ky) : PyData := .tuple [k.e.d, .bool k.b]
inductive Pln where
  | table (n : Nat)
  | rows (w : Nat) (ls : List Nat)
  | filter (e : Cnd) (p : Pln)
  | project (es : List Cnd) (p : Pln)
  | group (ks : List Cnd) (vs : List Vl) (p : Pln)
  | window (es : List Cnd) (ks : List Ky) (fs : List Vl) (p : Pln)
  | top (ks : List Ky) (p : Pln)
  | union (p q : Pln)
  | join (kd : Str) (told : Nat) (c : Cnd) (p q : Pln)
def zerosD (l : Nat) : PyData := .tuple (List.replicate l (.int 0))
def Pln.form : Pln → Str
  | .table _ => "table"
  | .rows _ _ => "rows"
  | .filter _ _ => "filter"
  | .project _ _ => "project"
  | .group _ _ _ => "group"
  | .window _ _ _ _ => "window"
  | .top _ _ => "top"
  | .union _ _ => "union"
  | .join _ _ _ _ _ => "join"
def Pln.mid : Pln → List PyData
  | .table n => [.int (n : Int)]
  | .rows w ls => [.int (w : Int), .tuple (ls.map zerosD)]
  | .filter e _ => [e.d]
  | .project es _ => [.tuple (es.map Cnd.d)]
  | .group ks vs _ => [.tuple (ks.map Cnd.d), .tuple (vs.map Vl.d)]
  | .window es ks fs _ => [.tuple (es.map Cnd.d), .tuple (ks.map Ky.d), .tuple (fs.map Vl.d)]
  | .top ks _ => [.tuple (ks.map Ky.d), .int 0, .none]
  | .union _ _ => []
  | .join kd told c _ _ => [.str kd, .int (told : Int), c.d]
def Pln.kids : Pln → List Pln
  | .table _ => []
  | .rows _ _ => []
  | .filter _ p => [p]
  | .project _ p => [p]
  | .group _ _ p => [p]
  | .window _ _ _ p => [p]
  | .top _ p => [p]
  | .union p q => [p, q]
  | .join _ _ _ p q => [p, q]
def Pln.d : Pln → PyData
  | .table n => .tuple (.str (Pln.table n).form :: (Pln.table n).mid)
  | .rows w ls => .tuple (.str (Pln.rows w ls).form :: (Pln.rows w ls).mid)
  | .filter e p => .tuple (.str (Pln.filter e p).form :: ((Pln.filter e p).mid ++ [p.d]))
  | .project es p => .tuple (.str (Pln.project es p).form :: ((Pln.project es p).mid ++ [p.d]))
  | .group ks vs p => .tuple (.str (Pln.group ks vs p).form :: ((Pln.group ks vs p).mid ++ [p.d]))
  | .window es ks fs p => .tuple (.str (Pln.window es ks fs p).form :: ((Pln.window es ks fs p).mid ++ [p.d]))
  | .top ks p => .tuple (.str (Pln.top ks p).form :: ((Pln.top ks p).mid ++ [p.d]))
  | .union p q => .tuple (.str (Pln.union p q).form :: ((Pln.union p q).mid ++ [p.d, q.d]))
  | .join kd told c p q => .tuple (.str (Pln.join kd told c p q).form :: ((Pln.join kd told c p q).mid ++ [p.d, q.d]))
theorem pd_is (p : Pln) : p.d = .tuple (.str p.form :: (p.mid ++ p.kids.map Pln.d)) := by
  cases p <;> first | rfl | (simp only [Pln.d, Pln.kids, List.map_nil, List.append_nil])
def Pln.pre : Pln → List Pln
  | .table n => [.table n]
  | .rows w ls => [.rows w ls]
  | .filter e p => .filter e p :: p.pre
  | .project es p => .project es p :: p.pre
  | .group ks vs p => .group ks vs p :: p.pre
  | .window es ks fs p => .window es ks fs p :: p.pre
  | .top ks p => .top ks p :: p.pre
  | .union p q => .union p q :: (p.pre ++ q.pre)
  | .join kd told c p q => .join kd told c p q :: (p.pre ++ q.pre)
theorem pre_is (p : Pln) : p.pre = p :: p.kids.flatMap Pln.pre := by cases p <;> simp [Pln.pre, Pln.kids]
theorem pre_pos (p : Pln) : 1 ≤ p.pre.length := by rw [pre_is]; simp
/-- worked up: f of each operator and what its inputs gave -/
def Pln.fold (φ : Pln → List V → V) : Pln → V
  | .table n => φ (.table n) []
  | .rows w ls => φ (.rows w ls) []
  | .filter e p => φ (.filter e p) [p.fold φ]
  | .project es p => φ (.project es p) [p.fold φ]
  | .group ks vs p => φ (.group ks vs p) [p.fold φ]
  | .window es ks fs p => φ (.window es ks fs p) [p.fold φ]
  | .top ks p => φ (.top ks p) [p.fold φ]
  | .union p q => φ (.union p q) [p.fold φ, q.fold φ]
  | .join kd told c p q => φ (.join kd told c p q) [p.fold φ, q.fold φ]
theorem fold_is (φ : Pln → List V → V) (p : Pln) : p.fold φ = φ p (p.kids.map (Pln.fold φ)) := by cases p <;> rfl
/-- what is left when the first ones of the list of operators are gone -/
def nxt : List Pln → List Pln
  | [] => []
  | o :: r => o.kids ++ r
def nxts (p : Pln) : Nat → List Pln
  | 0 => [p]
  | k + 1 => nxt (nxts p k)
theorem nxt_pre (F : List Pln) : (nxt F).flatMap Pln.pre = (F.flatMap Pln.pre).drop 1 := by
  cases F with
  | nil => rfl
  | cons o r =>
    show (o.kids ++ r).flatMap Pln.pre = (o.pre ++ r.flatMap Pln.pre).drop 1
    rw [pre_is, List.flatMap_append]
    rfl
theorem nxts_pre (p : Pln) : ∀ k, (nxts p k).flatMap Pln.pre = p.pre.drop k
  | 0 => by
    show p.pre ++ [] = _
    rw [List.append_nil, List.drop_zero]
  | k + 1 => by
    rw [nxts, nxt_pre, nxts_pre p k, List.drop_drop, Nat.add_comm]
theorem nxts_at {p : Pln} {k : Nat} {o : Pln} (h : p.pre[k]? = some o) : ∃ r, nxts p k = o :: r := by
  have e := nxts_pre p k
  have hd : p.pre.drop k = o :: p.pre.drop (k + 1) := by rw [List.drop_eq_getElem_cons (List.getElem?_eq_some_iff.mp h).1, (List.getElem?_eq_some_iff.mp h).2]
  rw [hd] at e
  cases hF : nxts p k with
  | nil => rw [hF] at e; cases e
  | cons q r =>
    rw [hF] at e
    have e2 : q.pre ++ r.flatMap Pln.pre = o :: p.pre.drop (k + 1) := e
    rw [pre_is] at e2
    have z := (List.cons.inj e2).1
    exact ⟨r, by rw [← z]⟩
theorem nxts_end (p : Pln) : nxts p p.pre.length = [] := by
  have e := nxts_pre p p.pre.length
  rw [List.drop_length] at e
  cases h : nxts p p.pre.length with
  | nil => rfl
  | cons q r =>
    rw [h] at e
    have e2 : q.pre ++ r.flatMap Pln.pre = [] := e
    rw [pre_is] at e2
    cases e2
theorem dps_split {K : PySem.W.Frag} {H : Hp} : ∀ {ds es : List PyData} {vs : List V}, DpAll K H vs (ds ++ es) → ∃ xs ys, vs = xs ++ ys ∧ DpAll K H xs ds ∧ DpAll K H ys es
  | [], _, _, h => ⟨[], _, rfl, .nil, h⟩
  | _ :: _, _, _, .cons h t => by
    obtain ⟨xs, ys, rfl, h1, h2⟩ := dps_split t
    exact ⟨_ :: xs, ys, rfl, .cons h h1, h2⟩
theorem dps_rev {K : PySem.W.Frag} {H : Hp} : ∀ {ds : List PyData} {vs : List V}, DpAll K H vs ds → DpAll K H vs.reverse ds.reverse
  | [], _, .nil => .nil
  | _ :: _, _, .cons h t => by
    rw [List.reverse_cons, List.reverse_cons]
    exact dps_app (dps_rev t) (.cons h .nil)
theorem pln_view {K : PySem.W.Frag} {G : Hp} {v : V} {p : Pln} (h : Dp K G v p.d) : ∃ b ms ks, v = .ref b ∧ SqT K G b (.str p.form :: (ms ++ ks)) ∧ DpAll K G ms p.mid ∧ DpAll K G ks (p.kids.map Pln.d) := by
  rw [pd_is] at h
  obtain ⟨b, zs, rfl, hS, hds⟩ := dp_tupD h
  cases hds with | cons h1 hds =>
  cases h1
  obtain ⟨ms, ks, rfl, a, c⟩ := dps_split hds
  exact ⟨b, ms, ks, rfl, hS, a, c⟩

--@SPLIT
/-! ### the program: the operators of a plan, a plan worked up -/
def sp_inputs_in (K : PySem.W.Frag) : Sp := fun vs H Q _ => ∃ (v : V) (p : Pln) (G : Hp), vs = [v] ∧ Ex G H ∧ Dp K G v p.d ∧ ∀ q H' ys, H q = none → Ex H H' → H' q = some (.lst ys) → DpAll K G ys (p.kids.map Pln.d) → Q (.ref q) H'
def sp_operators_in (K : PySem.W.Frag) : Sp := fun vs H Q _ => ∃ (v : V) (p : Pln) (G : Hp), vs = [v] ∧ Ex G H ∧ Dp K G v p.d ∧ p.pre.length ≤ 200 ∧ ∀ q H' ys, H q = none → Ex H H' → H' q = some (.lst ys) → DpAll K G ys (p.pre.map Pln.d) → Q (.ref q) H'
/-- what is done with each operator -/
def spWork (K : PySem.W.Frag) (okw : Pln → List V → Prop) (φ : Pln → List V → V) : Sp := fun vs H Q _ => ∃ (v : V) (m : Addr) (o : Pln) (ins : List V), vs = [v, .ref m] ∧ Dp K H v o.d ∧ H m = some (.lst ins) ∧ okw o ins ∧ ∀ H', Ex H H' → Q (φ o ins) H'
def sp_worked_up (P : Program) (w : World) (K : PySem.W.Frag) (mg : Str → Option Value) (base : Heap) : Sp := fun vs H Q _ => ∃ (v : V) (f : Addr) (p : Pln) (okw : Pln → List V → Prop) (φ : Pln → List V → V), vs = [v, .ref f] ∧ Dp K H v p.d ∧ p.pre.length ≤ 200 ∧ CallH P w K mg base 30 H f (spWork K okw φ) ∧ (∀ o ∈ p.pre, okw o (o.kids.map (Pln.fold φ))) ∧ ∀ H', Ex H H' → Q (p.fold φ) H'
def manyOf (p : Pln) : Nat := p.kids.length
section
variable {K : PySem.W.Frag} {w : World} {σ : L2.St} {H : Hp} {ta tb tc te tl : TE} {t : TT} {tu tz : TS} {D : Ends} {E : XK} {th tlo : TO}
theorem cutV_drop {xs : List V} {k : Nat} : cutV xs (some (k : Int)) none = xs.drop k := by
  unfold cutV
  rw [HT.sIx_nat, HT.sIx_none]
  by_cases h : k ≤ xs.length
  · rw [Nat.min_eq_left h, List.take_of_length_le (by rw [List.length_drop]; omega)]
  · rw [Nat.min_eq_right (by omega), List.drop_eq_nil_of_le (Nat.le_refl _), List.drop_eq_nil_of_le (show xs.length ≤ k by omega)]
    simp
theorem el_listU {xs : List V} (ha : EvU ta σ H xs) : EvL (tCB (rListS K) (tCons ta tNil)) σ H xs := fun H1 e Q q =>
  ha H1 e _ fun p H2 _ e2 h2 => ⟨p, xs, rfl, Or.inr (st_of h2), fun l hl => q l _ (fresh_back e2 hl) (e2.trans (Ex.new hl)) upd_same⟩
theorem ev_kget {p : Addr} {es : Array DictEntry} {n : Nat} {s : Str} {i : Int} {u : Tok} (D : KDict K w p es n) (ha : Ev ta σ H (.ref p)) (hb : Ev tb σ H (.str s)) (hc : Ev tc σ H (.int i)) {r : Int} (h : (∃ t, PySem.W.nsIn K p s = some (some (.int r t))) ∨ (PySem.W.nsIn K p s = some none ∧ r = i)) : Ev (tKGet K w ta tb tc) σ H (.int r) := fun H1 e Q q =>
  ha H1 e _ fun H2 e2 => ⟨p, es, n, rfl, D, hb H2 (e.trans e2) _ fun H3 e3 => hc H3 ((e.trans e2).trans e3) _ fun H4 e4 => ⟨s, rfl, by
    have x := (e2.trans e3).trans e4
    rcases h with ⟨t, h⟩ | ⟨h, rfl⟩
    · exact .inl ⟨_, .int r, h, ⟨t, rfl⟩, q H4 x⟩
    · exact .inr ⟨h, q H4 x⟩⟩⟩
end
section
variable {P : Program} {w : World} {K : PySem.W.Frag} {mg : Str → Option Value} {base : Heap}
theorem ok_inputs_in (D : Dn K mg "inputs_in" s_inputs_in ["plan"]) (z_len : mg "len" = none) (z_list : mg "list" = none) {p__MANY_INPUTS : Addr} {es__MANY_INPUTS : Array DictEntry} {n__MANY_INPUTS : Nat} (g__MANY_INPUTS : ∃ u, mg "_MANY_INPUTS" = some u ∧ RelV (.ref p__MANY_INPUTS) u) (h__MANY_INPUTS : KDict K w p__MANY_INPUTS es__MANY_INPUTS n__MANY_INPUTS) (i__MANY_INPUTS : DInts K p__MANY_INPUTS [("table", 0), ("scan", 0), ("rows", 0), ("join", 2), ("union", 2)]) (j__MANY_INPUTS : DMiss K p__MANY_INPUTS ["filter", "project", "group", "window", "top"]) :
    C8.Cal P w K mg base 1 "inputs_in" (sp_inputs_in K) [] := by
  refine cal_of D sc_inputs_in (fun vs H Q E h => ?_) (fun f cdv A outer s H vs Q E hr h => ?_)
  · obtain ⟨_, _, _, rfl, _⟩ := h
    rfl
  refine ⟨_, (pss_cons (ps_set (i := 1) sc_inputs_in.nd rfl (.inl rfl) (pe_kget (C8.pe_gc rfl g__MANY_INPUTS) (pe_ix ix_tup (pv 0) pe_int (fun _ _ => rfl)) pe_int ⟨by rfl, by rfl, by rfl, by rfl⟩))
    (pss_one (ps_ret (pe_callTy call_list_of (by rfl) z_list (by decide +kernel) (pa_cons (pe_slice sl_tupA (pv 0) (po_some (pe_op op_sub (pe_callB call_len_seq (by rfl) z_len PySem.boot_len (pa_cons (pv 0) pa_nil)) (pv 1))) po_none) pa_nil))))), ?_⟩
  obtain ⟨v, p, G, rfl, g, hd, q⟩ := h
  obtain ⟨b, ms, ks, rfl, hS, h1, h2⟩ := pln_view hd
  have hm : (∃ t, PySem.W.nsIn K p__MANY_INPUTS p.form = some (some (.int (p.kids.length : Int) t))) ∨ (PySem.W.nsIn K p__MANY_INPUTS p.form = some none ∧ (p.kids.length : Int) = 1) := by
    cases p with
    | table n => exact .inl (i__MANY_INPUTS ("table", 0) (by simp))
    | rows w ls => exact .inl (i__MANY_INPUTS ("rows", 0) (by simp))
    | union p q => exact .inl (i__MANY_INPUTS ("union", 2) (by simp))
    | join kd told c p q => exact .inl (i__MANY_INPUTS ("join", 2) (by simp))
    | filter e p => exact .inr ⟨j__MANY_INPUTS "filter" (by simp), rfl⟩
    | project e p => exact .inr ⟨j__MANY_INPUTS "project" (by simp), rfl⟩
    | group e f p => exact .inr ⟨j__MANY_INPUTS "group" (by simp), rfl⟩
    | window e f k p => exact .inr ⟨j__MANY_INPUTS "window" (by simp), rfl⟩
    | top e p => exact .inr ⟨j__MANY_INPUTS "top" (by simp), rfl⟩
  have hkl : ks.length = p.kids.length := by have := dps_len h2; rw [List.length_map] at this; exact this
  refine q_asg (v := .int (p.kids.length : Int)) (ev_kget (u := 0) h__MANY_INPUTS ev_c (ev_op (ev_var rfl) ev_c (rv_ixT (ex_t g hS) (atI_nat (j := 0) rfl))) ev_c hm) fun H1 e1 => ?_
  have hcut : cutV (.str p.form :: (ms ++ ks)) (some ((ms.length + 1 : Nat) : Int)) none = ks := by
    rw [cutV_drop]
    show (ms ++ ks).drop ms.length = ks
    rw [List.drop_left' rfl]
  have hu := eu_slA (K := K) (σ := [some (.ref b), some (.int (p.kids.length : Int))]) (te := tVar 0) (tlo := tPart (tOp (rI0 fun i j => .int (i - j)) (tCB (rLenS K) (tCons (tVar 0) tNil)) (tVar 1))) (th := tNoPart) (lo := some ((ms.length + 1 : Nat) : Int)) (hi := none) (H := H1) (ev_var rfl) (eo_some (ev_is (ev_op (ev_lenT (ev_var rfl) (ex_t (g.trans e1) hS)) (ev_var rfl) rv_I0) (by rw [List.length_cons, List.length_append, hkl]; congr 1; omega))) eo_none (ex_t (g.trans e1) hS) (no_whole ms.length (by rw [List.length_cons, List.length_append]; omega))
  rw [hcut] at hu
  exact s_retL (el_listU hu) fun r H2 hr e2 h => q r H2 ks (fresh_back e1 hr) (e1.trans e2) h h2
end

--@SPLIT
/-! ### the operators of a plan; a plan worked up -/
def EvLt (R : Hp → List V → Prop) (te : TE) (σ : L2.St) (H : Hp) : Prop := ∀ H1, Ex H H1 → ∀ Q : VK, (∀ p H2 ys, H1 p = none → Ex H1 H2 → H2 p = some (.lst ys) → R H2 ys → Q (.ref p) H2) → te σ H1 Q
theorem q_forLt {K : PySem.W.Frag} {σ : L2.St} {H : Hp} {te : TE} {D : Ends} {tz tu : TS} {R : Hp → List V → Prop} {j : Nat} (h : EvLt R te σ H) (k : ∀ p H1 xs, H p = none → Ex H H1 → H1 p = some (.lst xs) → R H1 xs → ∃ Pv : Nat → L2.St → Hp → Prop, Pv 0 σ H1 ∧ (∀ i σ' H', Pv i σ' H' → SqL K H' p xs) ∧ (∀ i x σ' H', xs[i]? = some x → Pv i σ' H' → tu { D with nx := Pv (i + 1), ct := Pv (i + 1), bk := tz D } (σ'.set j (some x)) H') ∧ ∀ σ' H', Pv xs.length σ' H' → tz D σ' H') :
    tSeq (tFor (iList K te) (gName j) tu) tz D σ H := h H (Ex.refl H) _ fun p H1 xs hp e h1 hR => by
  obtain ⟨Pv, a, b, c, d⟩ := k p H1 xs hp e h1 hR
  exact ⟨p, rfl, ⟨xs, sq_of h1⟩, for_list (D := { D with nx := tz D }) Pv a (fun i σ' H' _ => b i σ' H') c d⟩
theorem lt_inputs {K : PySem.W.Frag} {σ : L2.St} {H G : Hp} {ta : TE} {E : XK} {v : V} {p : Pln} (ha : Ev ta σ H v) (g : Ex G H) (hd : Dp K G v p.d) : EvLt (fun _ ys => DpAll K G ys (p.kids.map Pln.d)) (tCall (sp_inputs_in K) [] E (tCons ta tNil)) σ H := fun H1 e1 Q q =>
  ha H1 e1 _ fun H2 e2 => ⟨v, p, G, rfl, (g.trans e1).trans e2, hd, fun l H3 ys hl e3 h3 h => q l H3 ys (fresh_back e2 hl) (e2.trans e3) h3 h⟩
theorem len_pre : ∀ l : List Pln, l.length ≤ (l.flatMap Pln.pre).length
  | [] => Nat.le_refl _
  | c :: l => by
    have := len_pre l
    have := pre_pos c
    simp only [List.length_cons, List.flatMap_cons, List.length_append]
    omega
theorem pk_le (p : Pln) : p.kids.length ≤ 2 := by cases p <;> simp [Pln.kids]
def OpW (K : PySem.W.Frag) (G H : Hp) (v : V) (p : Pln) (pf pw : Addr) (m : Nat) (σ' : L2.St) (H' : Hp) : Prop := ∃ (pv : Option V) (vs fs : List V) (st fl : List Pln), σ' = [some v, some (.ref pf), some (.ref pw), pv] ∧ Ex H H' ∧ H' pw = some (.lst vs) ∧ DpAll K G vs (st.map Pln.d) ∧ H' pf = some (.lst fs) ∧ DpAll K G fs (fl.map Pln.d) ∧ fl ++ st.reverse.flatMap Pln.pre = p.pre ∧ (st.reverse.flatMap Pln.pre).length ≤ m
theorem dps_get {K : PySem.W.Frag} {H : Hp} : ∀ {ys : List V} {ds : List PyData} {i : Nat} {x : V}, DpAll K H ys ds → ys[i]? = some x → ∃ d, ds[i]? = some d ∧ Dp K H x d
  | _, _, _, _, .nil, h => by simp at h
  | _, _, 0, _, .cons h _, e => by
    cases e
    exact ⟨_, rfl, h⟩
  | _, _, i + 1, _, .cons _ t, e => by
    obtain ⟨d, h1, h2⟩ := dps_get (i := i) t (by simpa using e)
    exact ⟨d, by simpa using h1, h2⟩
theorem take_snoc {α : Type} {L : List α} {i : Nat} {l : α} (h : L[i]? = some l) : L.take (i + 1) = L.take i ++ [l] := by rw [List.take_add_one, h]; rfl
theorem q_forRevLt {K : PySem.W.Frag} {σ : L2.St} {H : Hp} {te : TE} {D : Ends} {tz tu : TS} {R : Hp → List V → Prop} {j : Nat} (h : EvLt R te σ H) (k : ∀ p H1 xs, H p = none → Ex H H1 → H1 p = some (.lst xs) → R H1 xs → ∃ Pv : Nat → L2.St → Hp → Prop, Pv 0 σ H1 ∧ (∀ i σ' H', Pv i σ' H' → SqL K H' p xs) ∧ (∀ (i : Nat) x σ' H', i < xs.length → xs[xs.length - 1 - i]? = some x → Pv i σ' H' → tu { D with nx := Pv (i + 1), ct := Pv (i + 1), bk := tz D } (σ'.set j (some x)) H') ∧ ∀ σ' H', Pv xs.length σ' H' → tz D σ' H') :
    tSeq (tFor (iRev K (tCons te tNil)) (gName j) tu) tz D σ H := h H (Ex.refl H) _ fun p H1 xs hp e h1 hR => by
  obtain ⟨Pv, a, b, c, d⟩ := k p H1 xs hp e h1 hR
  exact ⟨p, xs, rfl, sq_of h1, RT.for_Itv (D := { D with nx := tz D }) Pv a b c d⟩
theorem lt_operators {K : PySem.W.Frag} {σ : L2.St} {H : Hp} {ta : TE} {E : XK} {v : V} {p : Pln} {G : Hp} (ha : Ev ta σ H v) (g : Ex G H) (hd : Dp K G v p.d) (hz : p.pre.length ≤ 200) : EvLt (fun _ ys => DpAll K G ys (p.pre.map Pln.d)) (tCall (sp_operators_in K) [] E (tCons ta tNil)) σ H := fun H1 e1 Q q =>
  ha H1 e1 _ fun H2 e2 => ⟨v, p, G, rfl, (g.trans e1).trans e2, hd, hz, fun l H3 ys hl e3 h3 h => q l H3 ys (fresh_back e2 hl) (e2.trans e3) h3 h⟩
/-- what is done: the last is the first of F -/
def dn (φ : Pln → List V → V) (F : List Pln) : List V := (F.map (Pln.fold φ)).reverse
theorem dn_cons (φ : Pln → List V → V) (c : Pln) (F : List Pln) : dn φ (c :: F) = dn φ F ++ [c.fold φ] := by
  unfold dn
  rw [List.map_cons, List.reverse_cons]
theorem dn_len (φ : Pln → List V → V) (F : List Pln) : (dn φ F).length = F.length := by unfold dn; rw [List.length_reverse, List.length_map]
theorem nxts_len (p : Pln) (k : Nat) : (nxts p k).length ≤ p.pre.length := by
  have := len_pre (nxts p k)
  rw [nxts_pre, List.length_drop] at this
  omega
/-- what worked_up keeps -/
def WkW (H : Hp) (a f pd : Addr) (ys : List V) (p : Pln) (φ : Pln → List V → V) (v : V) (i : Nat) (σ' : L2.St) (H' : Hp) : Prop := ∃ (x1 x2 x3 : Option V), σ' = [some v, some (.ref f), some (.ref pd), x1, x2, x3] ∧ Ex H H' ∧ H' pd = some (.lst (dn φ (nxts p (p.pre.length - i)))) ∧ H' a = some (.lst ys)
def InW (H : Hp) (a l f pd pm : Addr) (ys zs : List V) (o : Pln) (r : List Pln) (φ : Pln → List V → V) (v y : V) (i : Nat) (σ' : L2.St) (H' : Hp) : Prop := ∃ (x3 : Option V), σ' = [some v, some (.ref f), some (.ref pd), some y, some (.ref pm), x3] ∧ Ex H H' ∧ H' pd = some (.lst (dn φ (o.kids.drop i ++ r))) ∧ H' pm = some (.lst ((o.kids.take i).map (Pln.fold φ))) ∧ H' a = some (.lst ys) ∧ H' l = some (.lst zs)
section
variable {P : Program} {w : World} {K : PySem.W.Frag} {mg : Str → Option Value} {base : Heap}
theorem ok_operators_in (D : Dn K mg "operators_in" s_operators_in ["plan"]) (c_inputs_in : C8.Cal P w K mg base 1 "inputs_in" (sp_inputs_in K) []) :
    C8.Cal P w K mg base 2 "operators_in" (sp_operators_in K) [] := by
  refine cal_of D sc_operators_in (fun vs H Q E h => ?_) (fun f cdv A outer s H vs Q E hr h => ?_)
  · obtain ⟨_, _, _, rfl, _⟩ := h
    rfl
  refine ⟨_, (pss_cons (ps_set (i := 1) sc_operators_in.nd rfl (.inl rfl) (pe_lst pa_nil))
    (pss_cons (ps_set (i := 2) sc_operators_in.nd rfl (.inl rfl) (pe_lst (pa_cons (pv 0) pa_nil)))
    (pss_cons (ps_while PassesOwn.never (pt_truth (pv 2) (by intro _; rfl))
      (pss_cons (ps_set (i := 3) sc_operators_in.nd rfl (.inl rfl) (pe_bm0 PySem.F.plainAttrs_list PySem.F.slot_list_pop PySem.F.type_list_pop mt_pop (pv 2)))
    (pss_cons (ps_expr (pe_bm PySem.F.plainAttrs_list PySem.F.slot_list_append PySem.F.type_list_append mt_append (pv 1) (pa_cons (pv 3) pa_nil)))
    (pss_one (ps_expr (pe_bm PySem.F.plainAttrs_list PySem.F.slot_list_extend PySem.F.type_list_extend mt_extend (pv 2) (pa_cons (pe_revL (C8.pe_c c_inputs_in hr (by decide) (by rfl) (pa_cons (pv 3) pa_nil))) pa_nil)))))))
    (pss_one (ps_ret (pv 1)))))), ?_⟩
  obtain ⟨v, p, G, rfl, g, hd, hz, q⟩ := h
  refine q_asgL (el_lst ea_nil (by show 0 ≤ 100000; decide)) fun pf H1 hpf e1 h1 => ?_
  refine q_asgL (el_lst (ea_cons (ev_var rfl) ea_nil) (by show 1 ≤ 100000; decide)) fun pw H2 hpw e2 h2 => ?_
  have hpfw : pf ≠ pw := fun z => by rw [← z, h1] at hpw; cases hpw
  have hpwH : H pw = none := fresh_back e1 hpw
  refine q_while (OpW K G H v p pf pw) p.pre.length ⟨none, [v], [], [p], [], rfl, e1.trans e2, h2, .cons hd .nil, e2 _ _ h1, .nil, by simp, by simp⟩ fun m σ' H' hW => ?_
  obtain ⟨pv, vs, fs, st, fl, rfl, x, hvs, hds, hfs, hfd, hpre, hm⟩ := hW
  refine ⟨!vs.isEmpty, et_truL (ev_var rfl) (sq_of hvs), fun hb H3 e3 => ⟨fun σ2 H2 => ∃ m', m' < m ∧ OpW K G H v p pf pw m' σ2 H2, fun _ _ h => h, ?_⟩, fun hb H3 e3 => ?_⟩
  · obtain ⟨st0, c, rfl⟩ : ∃ st0 c, st = st0 ++ [c] := by
      rcases List.eq_nil_or_concat st with rfl | ⟨a, b, rfl⟩
      · cases hds
        cases hb
      · exact ⟨a, b, by rw [List.concat_eq_append]⟩
    rw [List.map_append] at hds
    obtain ⟨ws, y, rfl, hds0, hdc⟩ := dps_unsnoc hds
    refine q_pop (e3 _ _ hvs) (ev_var rfl) fun H4 e4 => ?_
    have hrev : (st0 ++ [c]).reverse.flatMap Pln.pre = c :: (c.kids ++ st0.reverse).flatMap Pln.pre := by
      rw [List.reverse_append, List.reverse_singleton, List.singleton_append, List.flatMap_cons, pre_is c, List.flatMap_append]
      rfl
    rw [hrev] at hpre hm
    have hlen := congrArg List.length hpre
    rw [List.length_append, List.length_cons, List.flatMap_append, List.length_append] at hlen
    rw [List.length_cons] at hm
    have l1 := len_pre c.kids
    have l2 := len_pre st0.reverse
    rw [List.length_reverse] at l2
    have hfl : fs.length = fl.length := by have := dps_len hfd; rw [List.length_map] at this; exact this
    have hwl : ws.length = st0.length := by have := dps_len hds0; rw [List.length_map] at this; exact this
    have x4 : Ex H (upd H4 pw (.lst ws)) := Ex.mut (x.trans (e3.trans e4)) hpwH
    have hpf4 : upd H4 pw (.lst ws) pf = some (.lst fs) := by rw [upd_ne hpfw]; exact (e3.trans e4) _ _ hfs
    have hpfH : H pf = none := hpf
    refine q_app hpf4 (ev_var rfl) (ev_var rfl) (by omega) fun H5 e5 => ?_
    have x5 : Ex H (upd H5 pf (.lst (fs ++ [y]))) := Ex.mut (x4.trans e5) hpfH
    have hw5 : upd H5 pf (.lst (fs ++ [y])) pw = some (.lst ws) := by rw [upd_ne (Ne.symm hpfw)]; exact e5 _ _ upd_same
    refine ⟨.ref pw, rfl, Or.inl ⟨rfl, _, sq_of hw5⟩, y, rfl, y, c, G, rfl, g.trans x5, hdc, fun q1 H6 ys hq e6 h6 hd6 => ⟨q1, ys, rfl, sq_of h6, fun p7 hp7 => ⟨pw, p7, ws, ys.reverse, rfl, rfl, ?_, upd_same, sz_of ?_, m - 1, ?_, some y, ws ++ ys.reverse, fs ++ [y], st0 ++ c.kids.reverse, fl ++ [c], rfl, Ex.mut (x5.trans (e6.trans (Ex.new hp7))) hpwH, upd_same, ?_, ?_, ?_, ?_, ?_⟩⟩⟩
    · exact (e6.trans (Ex.new hp7)) _ _ hw5
    · have := dps_len hd6
      rw [List.length_map] at this
      rw [List.length_reverse]
      omega
    · omega
    · rw [List.map_append, List.map_reverse]
      exact dps_app hds0 (dps_rev hd6)
    · rw [upd_ne hpfw]
      exact (e6.trans (Ex.new hp7)) _ _ upd_same
    · rw [List.map_append]
      exact dps_app hfd (.cons hdc .nil)
    · rw [← hpre, List.reverse_append, List.reverse_reverse, List.append_assoc]
      rfl
    · rw [List.reverse_append, List.reverse_reverse]
      omega
  · have hv0 : vs = [] := by
      cases vs with
      | nil => rfl
      | cons _ _ => cases hb
    subst hv0
    have hst : st = [] := by have := dps_len hds; rw [List.length_map] at this; exact List.eq_nil_of_length_eq_zero this.symm
    subst hst
    have hfl : fl = p.pre := by rw [← hpre]; simp
    subst hfl
    exact ⟨.ref pf, rfl, q pf _ fs hpf (x.trans e3) (e3 _ _ hfs) hfd⟩
theorem ok_worked_up (D : Dn K mg "worked_up" s_worked_up ["plan", "work"]) (c_inputs_in : C8.Cal P w K mg base 1 "inputs_in" (sp_inputs_in K) []) (c_operators_in : C8.Cal P w K mg base 2 "operators_in" (sp_operators_in K) []) (z_reversed : mg "reversed" = none) :
    C8.Cal P w K mg base 31 "worked_up" (sp_worked_up P w K mg base) [] := by
  refine cal_of D sc_worked_up (fun vs H Q E h => ?_) (fun f cdv A outer s H vs Q E hr h => ?_)
  · obtain ⟨_, _, _, _, _, rfl, _⟩ := h
    rfl
  refine ⟨_, (pss_cons (ps_set (i := 2) sc_worked_up.nd rfl (.inl rfl) (pe_lst pa_nil))
    (pss_cons (ps_for PassesOwn.never rfl (pi_reversed (by rfl) z_reversed (pa_cons (C8.pe_c c_operators_in hr (by decide) (by rfl) (pa_cons (pv 0) pa_nil)) pa_nil)) (pg_name (i := 3) sc_worked_up.nd rfl (.inl rfl))
      (pss_cons (ps_set (i := 4) sc_worked_up.nd rfl (.inl rfl) (pe_lst pa_nil))
    (pss_cons (ps_for PassesOwn.never rfl (pi_list (C8.pe_c c_inputs_in hr (by decide) (by rfl) (pa_cons (pv 3) pa_nil))) (pg_name (i := 5) sc_worked_up.nd rfl (.inl rfl))
      (pss_one (ps_expr (pe_bm PySem.F.plainAttrs_list PySem.F.slot_list_append PySem.F.type_list_append mt_append (pv 4) (pa_cons (pe_bm0 PySem.F.plainAttrs_list PySem.F.slot_list_pop PySem.F.type_list_pop mt_pop (pv 2)) pa_nil)))))
    (pss_one (ps_expr (pe_bm PySem.F.plainAttrs_list PySem.F.slot_list_append PySem.F.type_list_append mt_append (pv 2) (pa_cons (pe_callC (i := 1) hr rfl (Or.inl rfl) (pa_cons (pv 3) (pa_cons (pv 4) pa_nil))) pa_nil)))))))
    (pss_one (ps_ret (pe_bm0 PySem.F.plainAttrs_list PySem.F.slot_list_pop PySem.F.type_list_pop mt_pop (pv 2)))))), ?_⟩
  obtain ⟨v, f, p, okw, φ, rfl, hd, hz, C, hok, q⟩ := h
  refine q_asgL (el_lst ea_nil (by show 0 ≤ 100000; decide)) fun pd H1 hpd e1 h1 => ?_
  refine q_forRevLt (lt_operators (ev_var rfl) e1 hd hz) fun a H2 ys ha e2 h2 hds => ?_
  have hyl : ys.length = p.pre.length := by have := dps_len hds; rw [List.length_map] at this; exact this
  have hpa : pd ≠ a := fun z => by rw [← z, h1] at ha; cases ha
  have haH : H a = none := fresh_back e1 ha
  refine ⟨WkW H a f pd ys p φ v, ⟨none, none, none, rfl, e1.trans e2, ?_, h2⟩, fun i σ' H' p => ?_, fun i y σ' H' hi hy hW => ?_, fun σ' H' hW => ?_⟩
  · rw [Nat.sub_zero, nxts_end]
    exact e2 _ _ h1
  · obtain ⟨x1, x2, x3, rfl, x, hdn, hA⟩ := p
    exact sq_of hA
  · obtain ⟨x1, x2, x3, rfl, x, hdn, hA⟩ := hW
    rw [hyl] at hi hy
    obtain ⟨d, hdd, hdy⟩ := dps_get hds hy
    rw [List.getElem?_map] at hdd
    obtain ⟨o, ho, rfl⟩ := Option.map_eq_some_iff.mp hdd
    obtain ⟨r, hr⟩ := nxts_at ho
    have hn : nxts p (p.pre.length - i) = o.kids ++ r := by
      rw [show p.pre.length - i = (p.pre.length - 1 - i) + 1 by omega]
      show nxt (nxts p (p.pre.length - 1 - i)) = _
      rw [hr]
      rfl
    have hnl := nxts_len p (p.pre.length - i)
    rw [hn] at hdn hnl
    rw [List.length_append] at hnl
    have hom : o ∈ p.pre := List.mem_of_getElem? ho
    refine q_asgL (el_lst ea_nil (by show 0 ≤ 100000; decide)) fun pm H3 hpm e3 h3 => ?_
    have hpmd : pm ≠ pd := fun z => by rw [z, hdn] at hpm; cases hpm
    have hpma : pm ≠ a := fun z => by rw [z, hA] at hpm; cases hpm
    have hpmH : H pm = none := fresh_back x hpm
    refine q_forLt (lt_inputs (ev_var rfl) (x.trans e3) hdy) fun l H4 zs hl e4 h4 hzs => ?_
    have hzl : zs.length = o.kids.length := by have := dps_len hzs; rw [List.length_map] at this; exact this
    have hlm : l ≠ pm := fun z => by rw [z, h3] at hl; cases hl
    have hld : l ≠ pd := fun z => by rw [z, e3 _ _ hdn] at hl; cases hl
    refine ⟨InW H a l f pd pm ys zs o r φ v y, ⟨x3, rfl, (x.trans e3).trans e4, (e3.trans e4) _ _ hdn, e4 _ _ h3, (e3.trans e4) _ _ hA, h4⟩, fun i σ' H' hp => ?_, fun j z σ' H' hz hp => ?_, fun σ' H' hp => ?_⟩
    · obtain ⟨x3, rfl, x, hdn, hm, hA, hZ⟩ := hp
      exact sq_of hZ
    · obtain ⟨x3, rfl, x, hdn, hm, hA, hZ⟩ := hp
      have hj : j < o.kids.length := by rw [← hzl]; exact (List.getElem?_eq_some_iff.mp hz).1
      obtain ⟨c, hc⟩ : ∃ c, o.kids[j]? = some c := ⟨o.kids[j], List.getElem?_eq_getElem hj⟩
      have hcd : o.kids.drop j = c :: o.kids.drop (j + 1) := by rw [List.drop_eq_getElem_cons hj, (List.getElem?_eq_some_iff.mp hc).2]
      rw [hcd, List.cons_append, dn_cons] at hdn
      refine ⟨.ref pm, rfl, Or.inl ⟨rfl, _, sq_of hm⟩, .ref pd, rfl, Or.inl ⟨rfl, _, sq_of hdn⟩, pd, _, c.fold φ, rfl, rfl, hdn, by rw [List.length_append, List.length_singleton, Nat.add_sub_cancel, List.getElem?_append_right (Nat.le_refl _), Nat.sub_self]; rfl, ?_⟩
      rw [List.dropLast_concat]
      refine ⟨pm, _, c.fold φ, rfl, rfl, (by rw [upd_ne hpmd]; exact hm), sz_lt ?_, some z, rfl, ?_, ?_, ?_, ?_, ?_⟩
      · rw [List.length_map, List.length_take]
        omega
      · exact Ex.mut (Ex.mut x hpd) hpmH
      · rw [upd_ne (Ne.symm hpmd), upd_same]
      · rw [upd_same, take_snoc hc, List.map_append]
        rfl
      · rw [upd_ne (Ne.symm hpma), upd_ne (Ne.symm hpa)]
        exact hA
      · rw [upd_ne hlm, upd_ne hld]
        exact hZ
    · obtain ⟨x3, rfl, x, hdn, hm, hA, hZ⟩ := hp
      rw [hzl, List.drop_length, List.nil_append] at hdn
      rw [hzl, List.take_length] at hm
      refine ⟨.ref pd, rfl, Or.inl ⟨rfl, _, sq_of hdn⟩, f, spWork K okw φ, rfl, C.ex x, y, rfl, .ref pm, rfl, Ex.refl _, y, pm, o, _, rfl, ex_dp x hdy, hm, hok o hom, fun H5 e5 => ⟨pd, _, _, rfl, rfl, e5 _ _ hdn, sz_lt ?_, some y, some (.ref pm), x3, rfl, ?_, ?_, ?_⟩⟩
      · rw [dn_len]
        omega
      · exact Ex.mut (x.trans e5) hpd
      · rw [upd_same, show p.pre.length - (i + 1) = p.pre.length - 1 - i by omega, hr, dn_cons, fold_is φ o]
      · rw [upd_ne (Ne.symm hpa)]
        exact e5 _ _ hA
  · obtain ⟨x1, x2, x3, rfl, x, hdn, hA⟩ := hW
    rw [hyl, Nat.sub_self] at hdn
    have e0 : dn φ (nxts p 0) = [p.fold φ] := rfl
    rw [e0] at hdn
    exact ⟨.ref pd, rfl, Or.inl ⟨rfl, _, sq_of hdn⟩, pd, [p.fold φ], p.fold φ, rfl, rfl, hdn, rfl, q _ (Ex.mut x hpd)⟩
end

--@SPLIT
theorem given_filter (xs : List V) (f : V → Bool) : (given xs.length (fun i => f (xs.getD i .non)) fun i => xs.getD i .non) = xs.filter f := by
  unfold given
  have h : ∀ (n : Nat), n ≤ xs.length → (((List.range n).filter fun i => f (xs.getD i .non)).map fun i => xs.getD i .non) = (xs.take n).filter f := by
    intro n
    induction n with
    | zero => intro _; rfl
    | succ n ih =>
      intro hn
      have hx : xs[n]? = some xs[n] := List.getElem?_eq_getElem (by omega)
      rw [List.range_succ, List.filter_append, List.map_append, ih (by omega), List.take_add_one, hx, List.filter_append]
      show _ ++ (([n].filter fun i => f (xs.getD i .non)).map _) = _ ++ [xs[n]].filter f
      have hg : xs.getD n .non = xs[n] := by rw [List.getD_eq_getElem?_getD, hx]; rfl
      rw [List.filter_cons, List.filter_cons, hg]
      cases f xs[n]
      · rfl
      · show _ ++ [xs.getD n .non] = _ ++ [xs[n]]
        rw [hg]
  have := h xs.length (Nat.le_refl _)
  rw [List.take_length] at this
  exact this

/-! ### the expressions of an operator -/
def Pln.exprs : Pln → List Cnd
  | .table _ => []
  | .rows _ _ => []
  | .filter e _ => [e]
  | .project es _ => es
  | .group ks vs _ => ks ++ vs.filterMap Vl.e
  | .window es ks fs _ => es ++ ks.map Ky.e ++ fs.filterMap Vl.e
  | .top ks _ => ks.map Ky.e
  | .union _ _ => []
  | .join _ _ c _ _ => [c]
def Pln.big : Pln → Nat
  | .table _ => 0
  | .rows _ ls => ls.length
  | .filter _ _ => 0
  | .project es _ => es.length
  | .group ks vs _ => ks.length + vs.length
  | .window es ks fs _ => es.length + ks.length + fs.length
  | .top ks _ => ks.length
  | .union _ _ => 0
  | .join _ _ _ _ _ => 0
def optD : Option Cnd → PyData
  | none => .none
  | some c => c.d
theorem vl_d (v : Vl) : v.d = .tuple (.str v.nm :: optD v.e :: v.tl) := by
  unfold Vl.d optD
  cases v.e <;> rfl
theorem optD_non {K : PySem.W.Frag} {G : Hp} {y : V} {e : Option Cnd} (h : Dp K G y (optD e)) : decide (y ≠ V.non) = e.isSome := by
  cases e with
  | none => cases h; rfl
  | some c =>
    obtain ⟨b, z, zs, rfl, _⟩ := cx_view (show Dp K G y c.d from h)
    rfl
theorem optD_some {K : PySem.W.Frag} {G : Hp} {y : V} {c : Cnd} (h : Dp K G y (optD (some c))) : Dp K G y c.d := h
theorem dps_consD {K : PySem.W.Frag} {G : Hp} {zs : List V} {d : PyData} {ds : List PyData} (h : DpAll K G zs (d :: ds)) : ∃ y ys, zs = y :: ys ∧ Dp K G y d ∧ DpAll K G ys ds := by
  cases h with | cons a b => exact ⟨_, _, rfl, a, b⟩
/-- the second parts of a list of tuples -/
theorem vl_seconds {K : PySem.W.Frag} {G : Hp} : ∀ {xs : List V} {vs : List Vl}, DpAll K G xs (vs.map Vl.d) → ∃ ws : List V, ws.length = xs.length ∧ (∀ (i : Nat) (x : V), xs[i]? = some x → ∃ b u zs, x = .ref b ∧ SqT K G b (u :: ws.getD i .non :: zs)) ∧ DpAll K G (ws.filter fun y => decide (y ≠ V.non)) ((vs.filterMap Vl.e).map Cnd.d)
  | [], [], _ => ⟨[], rfl, fun i x h => by simp at h, .nil⟩
  | x :: xs, v :: vs, .cons h t => by
    obtain ⟨ws, h1, h2, h3⟩ := vl_seconds t
    rw [vl_d] at h
    obtain ⟨b, zs, rfl, hS, hds⟩ := dp_tupD h
    obtain ⟨u, zs, rfl, ha, hds⟩ := dps_consD hds
    obtain ⟨y, zs, rfl, hb, hds⟩ := dps_consD hds
    refine ⟨y :: ws, by rw [List.length_cons, List.length_cons, h1], fun i x hx => ?_, ?_⟩
    · cases i with
      | zero => cases hx; exact ⟨b, u, zs, rfl, hS⟩
      | succ i => exact h2 i x hx
    · have e := optD_non hb
      cases hv : v.e with
      | none =>
        rw [hv] at e
        rw [List.filter_cons, if_neg (by rw [e]; decide), List.filterMap_cons_none hv]
        exact h3
      | some c =>
        rw [hv] at e hb
        rw [List.filter_cons, if_pos (by rw [e]; rfl), List.filterMap_cons_some hv]
        exact .cons hb h3
theorem ky_firsts {K : PySem.W.Frag} {G : Hp} : ∀ {xs : List V} {ks : List Ky}, DpAll K G xs (ks.map Ky.d) → ∃ ws : List V, ws.length = xs.length ∧ (∀ (i : Nat) (x : V), xs[i]? = some x → ∃ b u, x = .ref b ∧ SqT K G b [ws.getD i .non, u]) ∧ DpAll K G ws ((ks.map Ky.e).map Cnd.d)
  | [], [], _ => ⟨[], rfl, fun i x h => by simp at h, .nil⟩
  | x :: xs, k :: ks, .cons h t => by
    obtain ⟨ws, h1, h2, h3⟩ := ky_firsts t
    obtain ⟨b, zs, rfl, hS, hds⟩ := dp_tupD (show Dp K G x (.tuple [k.e.d, .bool k.b]) from h)
    obtain ⟨y, zs, rfl, ha, hds⟩ := dps_consD hds
    obtain ⟨u, zs, rfl, hb, hds⟩ := dps_consD hds
    cases hds
    refine ⟨y :: ws, by rw [List.length_cons, List.length_cons, h1], fun i x hx => ?_, .cons ha h3⟩
    cases i with
    | zero => cases hx; exact ⟨b, u, rfl, hS⟩
    | succ i => exact h2 i x hx
def sp__operands_in (K : PySem.W.Frag) : Sp := fun vs H Q _ => ∃ (v : V) (L : List Vl) (G : Hp), vs = [v] ∧ Ex G H ∧ Dp K G v (.tuple (L.map Vl.d)) ∧ L.length ≤ 100 ∧ ∀ q H' ys, H q = none → Ex H H' → H' q = some (.lst ys) → DpAll K G ys ((L.filterMap Vl.e).map Cnd.d) → Q (.ref q) H'
def sp__keys_in (K : PySem.W.Frag) : Sp := fun vs H Q _ => ∃ (v : V) (L : List Ky) (G : Hp), vs = [v] ∧ Ex G H ∧ Dp K G v (.tuple (L.map Ky.d)) ∧ L.length ≤ 100 ∧ ∀ q H' ys, H q = none → Ex H H' → H' q = some (.lst ys) → DpAll K G ys ((L.map Ky.e).map Cnd.d) → Q (.ref q) H'
def sp_expressions_in (K : PySem.W.Frag) : Sp := fun vs H Q _ => ∃ (v : V) (o : Pln) (G : Hp), vs = [v] ∧ Ex G H ∧ Dp K G v o.d ∧ o.big ≤ 100 ∧ ∀ q H' ys, H q = none → Ex H H' → H' q = some (.lst ys) → DpAll K G ys (o.exprs.map Cnd.d) → Q (.ref q) H'
section
variable {K : PySem.W.Frag} {w : World} {σ : L2.St} {H G H0 : Hp} {ta tb tc te tl : TE} {t : TT} {tu tz tw : TS} {D : Ends} {E : XK}
theorem el_lcT {a : Addr} {xs : List V} {j : Nat} {vs : List Nat} (f : Nat → V) (h : Ev tl σ H (.ref a)) (hx : SqT K H a xs) (hz : xs.length ≤ 40000) (hw : ∀ x, wipe ((wipe σ vs).set j (some x)) vs = wipe σ vs)
    (he : ∀ (i : Nat) (x : V) (H1 : Hp), Ex H H1 → xs[i]? = some x → Ev te ((wipe σ vs).set j (some x)) H1 (f i)) :
    EvL (tLc (iTup K tl) (gName j) tYes te vs) σ H ((List.range xs.length).map f) := fun H0 e0 Q q => h H0 e0 _ fun H1 e1 => ⟨a, rfl, ⟨xs, ex_t (e0.trans e1) hx⟩, fun D hD =>
  lc_tup (xs := xs) (fun i H' => H1 D = none ∧ Ex H1 H' ∧ H' D = some (.lst ((List.range i).map f))) ⟨hD, Ex.new hD, upd_same⟩ (fun i H' _ p => ex_t ((e0.trans e1).trans p.2.1) hx)
    (fun i x H' hi p => by
      obtain ⟨p1, p2, p3⟩ := p
      refine ⟨hw x, ?_⟩
      show te ((wipe σ vs).set j (some x)) H' fun y H4 => ∃ acc, H4 D = some (.lst acc) ∧ acc.length < sizeLine ∧ _
      refine he i x H' ((e0.trans e1).trans p2) hi H' (Ex.refl H') _ fun H4 e4 => ⟨_, e4 _ _ p3, sz_lt ?_, p1, Ex.mut (p2.trans e4) p1, by rw [upd_same, List.range_succ, List.map_append]; rfl⟩
      have := (List.getElem?_eq_some_iff.mp hi).1
      rw [List.length_map, List.length_range]
      omega)
    (fun H' p => q D H' (fresh_back e1 p.1) (e1.trans p.2.1) p.2.2)⟩
theorem el_lcTF {a : Addr} {xs : List V} {j : Nat} {vs : List Nat} (f : Nat → Bool) (v : Nat → V) (h : Ev tl σ H (.ref a)) (hx : SqT K H a xs) (hz : xs.length ≤ 40000) (hw : ∀ x, wipe ((wipe σ vs).set j (some x)) vs = wipe σ vs)
    (ht : ∀ (i : Nat) (x : V) H1, Ex H H1 → xs[i]? = some x → EvT t ((wipe σ vs).set j (some x)) H1 (f i)) (he : ∀ (i : Nat) (x : V) H1, Ex H H1 → xs[i]? = some x → f i = true → Ev te ((wipe σ vs).set j (some x)) H1 (v i)) :
    EvL (tLc (iTup K tl) (gName j) t te vs) σ H (given xs.length f v) := fun H0 e Q q => h H0 e _ fun H1 e1 => ⟨a, rfl, ⟨xs, ex_t (e.trans e1) hx⟩, fun Dl hD =>
  lc_tup (xs := xs) (Cw H1 f v Dl) ⟨hD, Ex.new hD, upd_same⟩ (fun i H' _ p => ex_t ((e.trans e1).trans p.2.1) hx) (fun i x H' hi p => ⟨hw x, cw_turn p (by have := (List.getElem?_eq_some_iff.mp hi).1; omega) (ht i x H1 (e.trans e1) hi) (fun hf => he i x H1 (e.trans e1) hi hf)⟩)
    (fun H' p => q Dl H' (fresh_back e1 p.1) (e1.trans p.2.1) p.2.2)⟩
/-- [x for x, y in a tuple of pairs] -/
theorem el_lcPT {a : Addr} {xs : List V} {i j : Nat} {vs : List Nat} (f : Nat → V) (h : Ev tl σ H (.ref a)) (hx : SqT K H a xs) (hz : xs.length ≤ 40000) (hw : ∀ u v, wipe (((wipe σ vs).set i (some u)).set j (some v)) vs = wipe σ vs) (hv : ∀ u v H1, Ev te (((wipe σ vs).set i (some u)).set j (some v)) H1 u)
    (he : ∀ (n : Nat) (x : V), xs[n]? = some x → ∃ tt u, x = .ref tt ∧ SqT K H tt [f n, u]) : EvL (tLc (iTup K tl) (gTup K 2 (gCons (gName i) (gCons (gName j) gNil))) tYes te vs) σ H ((List.range xs.length).map f) := fun H0 e0 Q q => h H0 e0 _ fun H1 e1 => ⟨a, rfl, ⟨xs, ex_t (e0.trans e1) hx⟩, fun D hD =>
  lc_tup (xs := xs) (fun i H' => H1 D = none ∧ Ex H1 H' ∧ H' D = some (.lst ((List.range i).map f))) ⟨hD, Ex.new hD, upd_same⟩ (fun i H' _ p => ex_t ((e0.trans e1).trans p.2.1) hx)
    (fun n x H' hi p => by
      obtain ⟨p1, p2, p3⟩ := p
      obtain ⟨tt, u, rfl, hT⟩ := he n x hi
      refine gt2 (ex_t ((e0.trans e1).trans p2) hT) ⟨hw _ _, ?_⟩
      show te (((wipe σ vs).set i (some (f n))).set j (some u)) H' fun y H4 => ∃ acc, H4 D = some (.lst acc) ∧ acc.length < sizeLine ∧ _
      refine hv _ _ H' H' (Ex.refl H') _ fun H4 e4 => ⟨_, e4 _ _ p3, sz_lt ?_, p1, Ex.mut (p2.trans e4) p1, by rw [upd_same, List.range_succ, List.map_append]; rfl⟩
      have := (List.getElem?_eq_some_iff.mp hi).1
      rw [List.length_map, List.length_range]
      omega)
    (fun H' p => q D H' (fresh_back e1 p.1) (e1.trans p.2.1) p.2.2)⟩
theorem rv_isnt {v : V} : RV (fun x y H Q => y = V.non ∧ Q (V.bl !decide (x = V.non)) H) v .non H (.bl !decide (v = V.non)) := fun H1 _ Q q => ⟨rfl, q H1 (Ex.refl H1)⟩
theorem range_getD (ws : List V) : (List.range ws.length).map (fun i => ws.getD i .non) = ws := by
  refine List.ext_getElem (by simp) fun i h1 h2 => ?_
  rw [List.getElem_map, List.getElem_range, List.getD_eq_getElem?_getD, List.getElem?_eq_getElem h2]
  rfl
theorem q_noX (h : ∀ H, EvT t σ H false) (k : ∀ H1, Ex H0 H1 → tz D σ H1) : ∀ H1, Ex H0 H1 → tSeq (tIfS t tu tNext) tz D σ H1 := fun H1 e1 => q_when (h H1) (fun z => nomatch z) fun _ H2 e2 => k H2 (e1.trans e2)
theorem q_yesX (h : ∀ H, EvT t σ H true) (k : ∀ H1, Ex H0 H1 → tu { D with nx := tz D } σ H1) : ∀ H1, Ex H0 H1 → tSeq (tIfS t tu tNext) tz D σ H1 := fun H1 e1 => q_when (h H1) (fun _ H2 e2 => k H2 (e1.trans e2)) fun z => nomatch z
theorem et_form {i : Nat} {f g : Str} {b : Bool} (h0 : σ[i]? = some (some (.str f))) (h : decide (V.str f = V.str g) = b) : ∀ H, EvT (tTest (tOp rEq (tVar i) (tC (.str g)))) σ H b := fun H => et_test (ev_is (ev_op (ev_var h0) ev_c (rv_eq rfl)) (by rw [h]))
theorem lt_operands {v : V} {L : List Vl} (ha : Ev ta σ H v) (g : Ex G H) (hd : Dp K G v (.tuple (L.map Vl.d))) (hl : L.length ≤ 100) : EvLt (fun _ ys => DpAll K G ys ((L.filterMap Vl.e).map Cnd.d)) (tCall (sp__operands_in K) [] E (tCons ta tNil)) σ H := fun H1 e1 Q q =>
  ha H1 e1 _ fun H2 e2 => ⟨v, L, G, rfl, (g.trans e1).trans e2, hd, hl, fun l H3 ys hl e3 h3 h => q l H3 ys (fresh_back e2 hl) (e2.trans e3) h3 h⟩
theorem lt_keys {v : V} {L : List Ky} (ha : Ev ta σ H v) (g : Ex G H) (hd : Dp K G v (.tuple (L.map Ky.d))) (hl : L.length ≤ 100) : EvLt (fun _ ys => DpAll K G ys ((L.map Ky.e).map Cnd.d)) (tCall (sp__keys_in K) [] E (tCons ta tNil)) σ H := fun H1 e1 Q q =>
  ha H1 e1 _ fun H2 e2 => ⟨v, L, G, rfl, (g.trans e1).trans e2, hd, hl, fun l H3 ys hl e3 h3 h => q l H3 ys (fresh_back e2 hl) (e2.trans e3) h3 h⟩
theorem lt_listT {p : Addr} {ys : List V} {ds : List PyData} (ha : Ev ta σ H (.ref p)) (g : Ex G H) (h : SqT K G p ys) (hd : DpAll K G ys ds) : EvLt (fun _ ys => DpAll K G ys ds) (tCB (rListS K) (tCons ta tNil)) σ H := fun H1 e Q q =>
  ha H1 e _ fun H2 e2 => ⟨p, ys, rfl, Or.inr (ex_t (g.trans (e.trans e2)) h), fun l hl => q l _ ys (fresh_back e2 hl) (e2.trans (Ex.new hl)) upd_same hd⟩
theorem lt_cat {ds es : List PyData} (ha : EvLt (fun _ ys => DpAll K G ys ds) ta σ H) (hb : EvLt (fun _ ys => DpAll K G ys es) tb σ H) (hl : ds.length + es.length ≤ 1000) : EvLt (fun _ ys => DpAll K G ys (ds ++ es)) (tOp rCat ta tb) σ H := fun H1 e1 Q q =>
  ha H1 e1 _ fun a H2 xs hpa e2 h2 h => hb H2 (e1.trans e2) _ fun b H3 ys hpb e3 h3 h' => by
    have l1 := dps_len h
    have l2 := dps_len h'
    exact ⟨a, b, xs, ys, rfl, rfl, e3 _ _ h2, h3, sz_of (by rw [l1, l2]; omega), fun l hl => q l _ _ (fresh_back (e2.trans e3) hl) ((e2.trans e3).trans (Ex.new hl)) upd_same (dps_app h h')⟩
theorem s_retLt {R : Hp → List V → Prop} (h : EvLt R te σ H) (k : ∀ p H1 ys, H p = none → Ex H H1 → H1 p = some (.lst ys) → R H1 ys → D.rt (.ref p) H1) : tRet te D σ H := h H (Ex.refl H) _ k
end
section
variable {P : Program} {w : World} {K : PySem.W.Frag} {mg : Str → Option Value} {base : Heap}
theorem ok__operands_in (D : Dn K mg "_operands_in" s__operands_in ["values"]) :
    C8.Cal P w K mg base 1 "_operands_in" (sp__operands_in K) [] := by
  refine cal_of D sc__operands_in (fun vs H Q E h => ?_) (fun f cdv A outer s H vs Q E hr h => ?_)
  · obtain ⟨_, _, _, rfl, _⟩ := h
    rfl
  refine ⟨_, (pss_one (ps_ret (pe_lc (own := [("value", 1)]) (g := gName 1) rfl sc__operands_in.nd (pi_tup (pv 0)) (blkOk_by (N := n__operands_in) (sc := C8.fnScope s__operands_in) (by decide +kernel)) (fun _ _ _ _ _ => pg_name (i := 1) sc__operands_in.nd rfl (Or.inl rfl)) (fun _ _ _ _ _ => (pts_one (pt_cmpR op_notN (pe_ix (ix_tupK (K := K) rfl) (pv 1) pe_int (fun _ _ => rfl)) pe_non (nomark _)))) (fun _ _ _ _ _ => (pe_ix (ix_tupK (K := K) rfl) (pv 1) pe_int (fun _ _ => rfl)))))), ?_⟩
  obtain ⟨v, L, G, rfl, g, hd, hl, q⟩ := h
  obtain ⟨b, xs, rfl, hS, hds⟩ := dp_tupD hd
  obtain ⟨ws, h1, h2, h3⟩ := vl_seconds hds
  have hxl : xs.length = L.length := by have := dps_len hds; rw [List.length_map] at this; exact this
  refine s_retL (xs := ws.filter fun y => decide (y ≠ V.non)) ?_ fun r H2 hr e2 h => q r H2 _ hr e2 h h3
  rw [← given_filter, h1]
  refine el_lcTF _ _ (ev_var rfl) (ex_t g hS) (by omega) (fun _ => rfl) (fun i x H1 e1 hx => ?_) (fun i x H1 e1 hx _ => ?_)
  · obtain ⟨b, u, zs, rfl, hT⟩ := h2 i x hx
    exact et_is (et_test (ev_op (ev_op (ev_var rfl) ev_c (rv_ixT (ex_t (g.trans e1) hT) (atI_nat (j := 1) rfl))) ev_c rv_isnt)) (by rw [decide_not])
  · obtain ⟨b, u, zs, rfl, hT⟩ := h2 i x hx
    exact ev_op (ev_var rfl) ev_c (rv_ixT (ex_t (g.trans e1) hT) (atI_nat (j := 1) rfl))
theorem ok__keys_in (D : Dn K mg "_keys_in" s__keys_in ["keys"]) :
    C8.Cal P w K mg base 1 "_keys_in" (sp__keys_in K) [] := by
  refine cal_of D sc__keys_in (fun vs H Q E h => ?_) (fun f cdv A outer s H vs Q E hr h => ?_)
  · obtain ⟨_, _, _, rfl, _⟩ := h
    rfl
  refine ⟨_, (pss_one (ps_ret (pe_lc (own := [("expression", 1), ("_", 2)]) (g := gTup K 2 (gCons (gName 1) (gCons (gName 2) gNil))) (tt := tYes) rfl sc__keys_in.nd (pi_tup (pv 0)) (blkOk_by (N := n__keys_in) (sc := C8.fnScope s__keys_in) (by decide +kernel)) (fun _ _ _ _ _ => pg_tup rfl (pgs_cons (pg_name (i := 1) sc__keys_in.nd rfl (Or.inl rfl)) (pgs_cons (pg_name (i := 2) sc__keys_in.nd rfl (Or.inl rfl)) pgs_nil))) (fun _ _ _ _ _ => pts_nil) (fun _ _ _ _ _ => (pv 1))))), ?_⟩
  obtain ⟨v, L, G, rfl, g, hd, hl, q⟩ := h
  obtain ⟨b, xs, rfl, hS, hds⟩ := dp_tupD hd
  obtain ⟨ws, h1, h2, h3⟩ := ky_firsts hds
  have hxl : xs.length = L.length := by have := dps_len hds; rw [List.length_map] at this; exact this
  refine s_retL (xs := ws) ?_ fun r H2 hr e2 h => q r H2 _ hr e2 h h3
  rw [← range_getD ws, h1]
  exact el_lcPT _ (ev_var rfl) (ex_t g hS) (by omega) (fun _ _ => rfl) (fun _ _ _ => ev_var rfl) fun n x hx => by
    obtain ⟨b, u, rfl, hT⟩ := h2 n x hx
    exact ⟨b, u, rfl, ex_t g hT⟩
theorem ok_expressions_in (D : Dn K mg "expressions_in" s_expressions_in ["plan"]) (c__keys_in : C8.Cal P w K mg base 1 "_keys_in" (sp__keys_in K) []) (c__operands_in : C8.Cal P w K mg base 1 "_operands_in" (sp__operands_in K) []) (z_list : mg "list" = none) :
    C8.Cal P w K mg base 2 "expressions_in" (sp_expressions_in K) [] := by
  refine cal_of D sc_expressions_in (fun vs H Q E h => ?_) (fun f cdv A outer s H vs Q E hr h => ?_)
  · obtain ⟨_, _, _, rfl, _⟩ := h
    rfl
  refine ⟨_, (pss_cons (ps_set (i := 1) sc_expressions_in.nd rfl (.inl rfl) (pe_ix ix_tup (pv 0) pe_int (fun _ _ => rfl)))
    (pss_cons (ps_if (pt_cmpR op_eq (pv 1) pe_str (nomark _))
      (pss_one (ps_ret (pe_lst (pa_cons (pe_ix ix_tup (pv 0) pe_int (fun _ _ => rfl)) pa_nil))))
      pss_nil)
    (pss_cons (ps_if (pt_cmpR op_eq (pv 1) pe_str (nomark _))
      (pss_one (ps_ret (pe_callTy call_list_of (by rfl) z_list (by decide +kernel) (pa_cons (pe_ix ix_tup (pv 0) pe_int (fun _ _ => rfl)) pa_nil))))
      pss_nil)
    (pss_cons (ps_if (pt_cmpR op_eq (pv 1) pe_str (nomark _))
      (pss_one (ps_ret (pe_lst (pa_cons (pe_ix ix_tup (pv 0) pe_int (fun _ _ => rfl)) pa_nil))))
      pss_nil)
    (pss_cons (ps_if (pt_cmpR op_eq (pv 1) pe_str (nomark _))
      (pss_one (ps_ret (pe_op op_cat (pe_callTy call_list_of (by rfl) z_list (by decide +kernel) (pa_cons (pe_ix ix_tup (pv 0) pe_int (fun _ _ => rfl)) pa_nil)) (C8.pe_c c__operands_in hr (by decide) (by rfl) (pa_cons (pe_ix ix_tup (pv 0) pe_int (fun _ _ => rfl)) pa_nil)))))
      pss_nil)
    (pss_cons (ps_if (pt_cmpR op_eq (pv 1) pe_str (nomark _))
      (pss_one (ps_ret (pe_op op_cat (pe_op op_cat (pe_callTy call_list_of (by rfl) z_list (by decide +kernel) (pa_cons (pe_ix ix_tup (pv 0) pe_int (fun _ _ => rfl)) pa_nil)) (C8.pe_c c__keys_in hr (by decide) (by rfl) (pa_cons (pe_ix ix_tup (pv 0) pe_int (fun _ _ => rfl)) pa_nil))) (C8.pe_c c__operands_in hr (by decide) (by rfl) (pa_cons (pe_ix ix_tup (pv 0) pe_int (fun _ _ => rfl)) pa_nil)))))
      pss_nil)
    (pss_cons (ps_if (pt_cmpR op_eq (pv 1) pe_str (nomark _))
      (pss_one (ps_ret (C8.pe_c c__keys_in hr (by decide) (by rfl) (pa_cons (pe_ix ix_tup (pv 0) pe_int (fun _ _ => rfl)) pa_nil))))
      pss_nil)
    (pss_one (ps_ret (pe_lst pa_nil)))))))))), ?_⟩
  obtain ⟨v, o, G, rfl, g, hd, hb, q⟩ := h
  obtain ⟨b, ms, ks, rfl, hS, h1, h2⟩ := pln_view hd
  refine q_asg (v := .str o.form) (ev_op (ev_var rfl) ev_c (rv_ixT (ex_t g hS) (atI_nat (j := 0) rfl))) fun H1 e1 => ?_
  cases o with
  | table n =>
    refine q_noX (et_form rfl (show decide (V.str ("table" : Str) = V.str "filter") = false by decide +kernel)) (fun H1 e1 => ?_) H1 e1
    refine q_noX (et_form rfl (show decide (V.str ("table" : Str) = V.str "project") = false by decide +kernel)) (fun H1 e1 => ?_) H1 e1
    refine q_noX (et_form rfl (show decide (V.str ("table" : Str) = V.str "join") = false by decide +kernel)) (fun H1 e1 => ?_) H1 e1
    refine q_noX (et_form rfl (show decide (V.str ("table" : Str) = V.str "group") = false by decide +kernel)) (fun H1 e1 => ?_) H1 e1
    refine q_noX (et_form rfl (show decide (V.str ("table" : Str) = V.str "window") = false by decide +kernel)) (fun H1 e1 => ?_) H1 e1
    refine q_noX (et_form rfl (show decide (V.str ("table" : Str) = V.str "top") = false by decide +kernel)) (fun H1 e1 => ?_) H1 e1
    exact s_retL (el_lst ea_nil (by show 0 ≤ 100000; decide)) fun r H2 hr e2 h => q r H2 _ (fresh_back e1 hr) (e1.trans e2) h .nil
  | rows w ls =>
    refine q_noX (et_form rfl (show decide (V.str ("rows" : Str) = V.str "filter") = false by decide +kernel)) (fun H1 e1 => ?_) H1 e1
    refine q_noX (et_form rfl (show decide (V.str ("rows" : Str) = V.str "project") = false by decide +kernel)) (fun H1 e1 => ?_) H1 e1
    refine q_noX (et_form rfl (show decide (V.str ("rows" : Str) = V.str "join") = false by decide +kernel)) (fun H1 e1 => ?_) H1 e1
    refine q_noX (et_form rfl (show decide (V.str ("rows" : Str) = V.str "group") = false by decide +kernel)) (fun H1 e1 => ?_) H1 e1
    refine q_noX (et_form rfl (show decide (V.str ("rows" : Str) = V.str "window") = false by decide +kernel)) (fun H1 e1 => ?_) H1 e1
    refine q_noX (et_form rfl (show decide (V.str ("rows" : Str) = V.str "top") = false by decide +kernel)) (fun H1 e1 => ?_) H1 e1
    exact s_retL (el_lst ea_nil (by show 0 ≤ 100000; decide)) fun r H2 hr e2 h => q r H2 _ (fresh_back e1 hr) (e1.trans e2) h .nil
  | filter e p =>
    obtain ⟨y1, ms, rfl, d1, h1⟩ := dps_consD h1
    refine q_yesX (et_form rfl (show decide (V.str ("filter" : Str) = V.str "filter") = true by decide +kernel)) (fun H1 e1 => ?_) H1 e1
    exact s_retL (el_lst (ea_cons (ev_op (ev_var rfl) ev_c (rv_ixT (ex_t (g.trans e1) hS) (atI_nat (j := 1) rfl))) ea_nil) (by show 1 ≤ 100000; decide)) fun r H2 hr e2 h => q r H2 _ (fresh_back e1 hr) (e1.trans e2) h (.cons d1 .nil)
  | project es p =>
    obtain ⟨y1, ms, rfl, d1, h1⟩ := dps_consD h1
    obtain ⟨b1, l1, rfl, hS1, hd1⟩ := dp_tupD d1
    refine q_noX (et_form rfl (show decide (V.str ("project" : Str) = V.str "filter") = false by decide +kernel)) (fun H1 e1 => ?_) H1 e1
    refine q_yesX (et_form rfl (show decide (V.str ("project" : Str) = V.str "project") = true by decide +kernel)) (fun H1 e1 => ?_) H1 e1
    exact s_retLt (lt_listT (ev_op (ev_var rfl) ev_c (rv_ixT (ex_t (g.trans e1) hS) (atI_nat (j := 1) rfl))) (g.trans e1) hS1 hd1) fun r H2 ys hr e2 h hd => q r H2 ys (fresh_back e1 hr) (e1.trans e2) h hd
  | group ks vs p =>
    obtain ⟨y1, ms, rfl, d1, h1⟩ := dps_consD h1
    obtain ⟨y2, ms, rfl, d2, h1⟩ := dps_consD h1
    obtain ⟨b1, l1, rfl, hS1, hd1⟩ := dp_tupD d1
    have hb' : ks.length + vs.length ≤ 100 := hb
    have hf := List.length_filterMap_le Vl.e vs
    refine q_noX (et_form rfl (show decide (V.str ("group" : Str) = V.str "filter") = false by decide +kernel)) (fun H1 e1 => ?_) H1 e1
    refine q_noX (et_form rfl (show decide (V.str ("group" : Str) = V.str "project") = false by decide +kernel)) (fun H1 e1 => ?_) H1 e1
    refine q_noX (et_form rfl (show decide (V.str ("group" : Str) = V.str "join") = false by decide +kernel)) (fun H1 e1 => ?_) H1 e1
    refine q_yesX (et_form rfl (show decide (V.str ("group" : Str) = V.str "group") = true by decide +kernel)) (fun H1 e1 => ?_) H1 e1
    refine s_retLt (lt_cat (lt_listT (ev_op (ev_var rfl) ev_c (rv_ixT (ex_t (g.trans e1) hS) (atI_nat (j := 1) rfl))) (g.trans e1) hS1 hd1) (lt_operands (ev_op (ev_var rfl) ev_c (rv_ixT (ex_t (g.trans e1) hS) (atI_nat (j := 2) rfl))) (g.trans e1) d2 (by omega)) (by rw [List.length_map, List.length_map]; omega)) fun r H2 ys hr e2 h hd => q r H2 ys (fresh_back e1 hr) (e1.trans e2) h ?_
    rw [← List.map_append] at hd
    exact hd
  | window es ks fs p =>
    obtain ⟨y1, ms, rfl, d1, h1⟩ := dps_consD h1
    obtain ⟨y2, ms, rfl, d2, h1⟩ := dps_consD h1
    obtain ⟨y3, ms, rfl, d3, h1⟩ := dps_consD h1
    obtain ⟨b1, l1, rfl, hS1, hd1⟩ := dp_tupD d1
    have hb' : es.length + ks.length + fs.length ≤ 100 := hb
    have hf := List.length_filterMap_le Vl.e fs
    refine q_noX (et_form rfl (show decide (V.str ("window" : Str) = V.str "filter") = false by decide +kernel)) (fun H1 e1 => ?_) H1 e1
    refine q_noX (et_form rfl (show decide (V.str ("window" : Str) = V.str "project") = false by decide +kernel)) (fun H1 e1 => ?_) H1 e1
    refine q_noX (et_form rfl (show decide (V.str ("window" : Str) = V.str "join") = false by decide +kernel)) (fun H1 e1 => ?_) H1 e1
    refine q_noX (et_form rfl (show decide (V.str ("window" : Str) = V.str "group") = false by decide +kernel)) (fun H1 e1 => ?_) H1 e1
    refine q_yesX (et_form rfl (show decide (V.str ("window" : Str) = V.str "window") = true by decide +kernel)) (fun H1 e1 => ?_) H1 e1
    refine s_retLt (lt_cat (lt_cat (lt_listT (ev_op (ev_var rfl) ev_c (rv_ixT (ex_t (g.trans e1) hS) (atI_nat (j := 1) rfl))) (g.trans e1) hS1 hd1) (lt_keys (ev_op (ev_var rfl) ev_c (rv_ixT (ex_t (g.trans e1) hS) (atI_nat (j := 2) rfl))) (g.trans e1) d2 (by omega)) (by rw [List.length_map, List.length_map, List.length_map]; omega)) (lt_operands (ev_op (ev_var rfl) ev_c (rv_ixT (ex_t (g.trans e1) hS) (atI_nat (j := 3) rfl))) (g.trans e1) d3 (by omega)) (by rw [List.length_append, List.length_map, List.length_map, List.length_map, List.length_map]; omega)) fun r H2 ys hr e2 h hd => q r H2 ys (fresh_back e1 hr) (e1.trans e2) h ?_
    rw [← List.map_append, ← List.map_append] at hd
    exact hd
  | top ks p =>
    obtain ⟨y1, ms, rfl, d1, h1⟩ := dps_consD h1
    have hb' : ks.length ≤ 100 := hb
    refine q_noX (et_form rfl (show decide (V.str ("top" : Str) = V.str "filter") = false by decide +kernel)) (fun H1 e1 => ?_) H1 e1
    refine q_noX (et_form rfl (show decide (V.str ("top" : Str) = V.str "project") = false by decide +kernel)) (fun H1 e1 => ?_) H1 e1
    refine q_noX (et_form rfl (show decide (V.str ("top" : Str) = V.str "join") = false by decide +kernel)) (fun H1 e1 => ?_) H1 e1
    refine q_noX (et_form rfl (show decide (V.str ("top" : Str) = V.str "group") = false by decide +kernel)) (fun H1 e1 => ?_) H1 e1
    refine q_noX (et_form rfl (show decide (V.str ("top" : Str) = V.str "window") = false by decide +kernel)) (fun H1 e1 => ?_) H1 e1
    refine q_yesX (et_form rfl (show decide (V.str ("top" : Str) = V.str "top") = true by decide +kernel)) (fun H1 e1 => ?_) H1 e1
    exact s_retLt (lt_keys (ev_op (ev_var rfl) ev_c (rv_ixT (ex_t (g.trans e1) hS) (atI_nat (j := 1) rfl))) (g.trans e1) d1 (by omega)) fun r H2 ys hr e2 h hd => q r H2 ys (fresh_back e1 hr) (e1.trans e2) h hd
  | union p q2 =>
    refine q_noX (et_form rfl (show decide (V.str ("union" : Str) = V.str "filter") = false by decide +kernel)) (fun H1 e1 => ?_) H1 e1
    refine q_noX (et_form rfl (show decide (V.str ("union" : Str) = V.str "project") = false by decide +kernel)) (fun H1 e1 => ?_) H1 e1
    refine q_noX (et_form rfl (show decide (V.str ("union" : Str) = V.str "join") = false by decide +kernel)) (fun H1 e1 => ?_) H1 e1
    refine q_noX (et_form rfl (show decide (V.str ("union" : Str) = V.str "group") = false by decide +kernel)) (fun H1 e1 => ?_) H1 e1
    refine q_noX (et_form rfl (show decide (V.str ("union" : Str) = V.str "window") = false by decide +kernel)) (fun H1 e1 => ?_) H1 e1
    refine q_noX (et_form rfl (show decide (V.str ("union" : Str) = V.str "top") = false by decide +kernel)) (fun H1 e1 => ?_) H1 e1
    exact s_retL (el_lst ea_nil (by show 0 ≤ 100000; decide)) fun r H2 hr e2 h => q r H2 _ (fresh_back e1 hr) (e1.trans e2) h .nil
  | join kd told c p q2 =>
    obtain ⟨y1, ms, rfl, d1, h1⟩ := dps_consD h1
    obtain ⟨y2, ms, rfl, d2, h1⟩ := dps_consD h1
    obtain ⟨y3, ms, rfl, d3, h1⟩ := dps_consD h1
    refine q_noX (et_form rfl (show decide (V.str ("join" : Str) = V.str "filter") = false by decide +kernel)) (fun H1 e1 => ?_) H1 e1
    refine q_noX (et_form rfl (show decide (V.str ("join" : Str) = V.str "project") = false by decide +kernel)) (fun H1 e1 => ?_) H1 e1
    refine q_yesX (et_form rfl (show decide (V.str ("join" : Str) = V.str "join") = true by decide +kernel)) (fun H1 e1 => ?_) H1 e1
    exact s_retL (el_lst (ea_cons (ev_op (ev_var rfl) ev_c (rv_ixT (ex_t (g.trans e1) hS) (atI_nat (j := 3) rfl))) ea_nil) (by show 1 ≤ 100000; decide)) fun r H2 hr e2 h => q r H2 _ (fresh_back e1 hr) (e1.trans e2) h (.cons d3 .nil)
end

--@SPLIT
/-! ### the width of a plan -/
def nvW : Option Nat → V
  | none => .non
  | some n => .int (n : Int)
def unW : V → Option Nat
  | .int n => some n.toNat
  | _ => none
theorem un_nv (o : Option Nat) : unW (nvW o) = o := by cases o <;> rfl
def niV (ns : List Nat) : List V := ns.map fun n => .int ((n : Nat) : Int)
def knownB (es : List Cnd) (m : Nat) : Bool := es.all fun e => (used e).all fun n => decide (n < m)
def Pln.leaf : Pln → Bool
  | .table _ => true
  | .rows _ _ => true
  | _ => false
def leafW (ws : List Nat) : Pln → Option Nat
  | .table n => ws[n]?
  | .rows w ls => if ls.all (fun l => decide (l = w)) = true then some w else none
  | _ => none
def resW (ns : List Nat) : Pln → Nat
  | .project es _ => es.length
  | .join kd _ _ _ _ => if inV (.str kd) [.str "inner", .str "left"] = true then ns.sum else ns.getD 0 0
  | .group ks vs _ => ks.length + vs.length
  | .window _ _ fs _ => ns.getD 0 0 + fs.length
  | _ => ns.getD 0 0
def badU (ns : List Nat) : Pln → Bool
  | .union _ _ => decide (ns.getD 0 0 ≠ ns.getD 1 0)
  | _ => false
def badJ (ns : List Nat) : Pln → Bool
  | .join _ told _ _ _ => decide (ns.getD 1 0 ≠ told)
  | _ => false
def opW (ws : List Nat) (o : Pln) (os : List (Option Nat)) : Option Nat :=
  if o.leaf = true then leafW ws o else if os.any (fun x => x.isNone) = true then none else if badU (os.map fun x => x.getD 0) o = true then none else if badJ (os.map fun x => x.getD 0) o = true then none else if knownB o.exprs (os.map fun x => x.getD 0).sum = true then some (resW (os.map fun x => x.getD 0) o) else none
def wid (ws : List Nat) : Pln → Option Nat
  | .table n => opW ws (.table n) []
  | .rows w ls => opW ws (.rows w ls) []
  | .filter e p => opW ws (.filter e p) [wid ws p]
  | .project es p => opW ws (.project es p) [wid ws p]
  | .group ks vs p => opW ws (.group ks vs p) [wid ws p]
  | .window es ks fs p => opW ws (.window es ks fs p) [wid ws p]
  | .top ks p => opW ws (.top ks p) [wid ws p]
  | .union p q => opW ws (.union p q) [wid ws p, wid ws q]
  | .join kd told c p q => opW ws (.join kd told c p q) [wid ws p, wid ws q]
theorem wid_is (ws : List Nat) (p : Pln) : wid ws p = opW ws p (p.kids.map (wid ws)) := by cases p <;> rfl
def phW (ws : List Nat) (o : Pln) (ins : List V) : V := nvW (opW ws o (ins.map unW))
theorem fold_wid (ws : List Nat) (p : Pln) : p.fold (phW ws) = nvW (wid ws p) := by
  induction p <;> simp [Pln.fold, wid, phW, un_nv, *]
def sp__uses_known (K : PySem.W.Frag) : Sp := fun vs H Q _ => ∃ (v : V) (m : Nat) (o : Pln) (G : Hp), vs = [v, .int (m : Int)] ∧ Ex G H ∧ Dp K G v o.d ∧ o.big ≤ 100 ∧ (∀ e ∈ o.exprs, e.sz ≤ 60) ∧ ∀ H', Ex H H' → Q (.bl (knownB o.exprs m)) H'
def sp__leaf_width (K : PySem.W.Frag) : Sp := fun vs H Q _ => ∃ (v : V) (a : Addr) (o : Pln) (ws : List Nat), vs = [v, .ref a] ∧ Dp K H v o.d ∧ o.leaf = true ∧ o.big ≤ 100 ∧ SqL K H a (niV ws) ∧ ∀ H', Ex H H' → Q (nvW (leafW ws o)) H'
def sp__result_width (K : PySem.W.Frag) : Sp := fun vs H Q _ => ∃ (v : V) (m : Addr) (o : Pln) (ns : List Nat), vs = [v, .ref m] ∧ Dp K H v o.d ∧ SqL K H m (niV ns) ∧ 1 ≤ ns.length ∧ ∀ H', Ex H H' → Q (.int (resW ns o : Int)) H'
def sp__operator_width (K : PySem.W.Frag) : Sp := fun vs H Q _ => ∃ (v : V) (m a : Addr) (o : Pln) (os : List (Option Nat)) (ws : List Nat), vs = [v, .ref m, .ref a] ∧ Dp K H v o.d ∧ H m = some (.lst (os.map nvW)) ∧ os.length = o.kids.length ∧ SqL K H a (niV ws) ∧ o.big ≤ 100 ∧ (∀ e ∈ o.exprs, e.sz ≤ 60) ∧ ∀ H', Ex H H' → Q (nvW (opW ws o os)) H'
theorem niV_sum (ns : List Nat) : niV ns = (ns.map fun n : Nat => ((n : Nat) : Int)).map V.int := by unfold niV; rw [List.map_map]; rfl
theorem sum_cast : ∀ ns : List Nat, (ns.map fun n : Nat => ((n : Nat) : Int)).sum = ((ns.sum : Nat) : Int)
  | [] => rfl
  | n :: ns => by
    rw [List.map_cons, List.sum_cons, List.sum_cons, sum_cast ns]
    omega
theorem os_niV : ∀ {os : List (Option Nat)}, os.any (fun x => x.isNone) = false → os.map nvW = niV (os.map fun x => x.getD 0)
  | [], _ => rfl
  | none :: os, h => by simp at h
  | some n :: os, h => by
    rw [List.map_cons, os_niV (os := os) (by simpa using h)]
    rfl
theorem atI_lastL {xs : List V} {x : V} (h : xs.getLast? = some x) : atI xs (-1) = some x := by
  rcases List.eq_nil_or_concat xs with rfl | ⟨a, b, rfl⟩
  · cases h
  · rw [List.concat_eq_append] at h ⊢
    rw [List.getLast?_append] at h
    cases h
    exact atI_last a b
/-- sorted: the last is the greatest -/
theorem last_known {e : Cnd} {ns : List Int} {m : Nat} (hs : ns.Pairwise (· ≤ ·)) (hu : UsedIs e ns) {z : Int} (hz : ns.getLast? = some z) : decide ((m : Int) ≤ z) = !((used e).all fun n => decide (n < m)) := by
  rcases List.eq_nil_or_concat ns with rfl | ⟨a, b, rfl⟩
  · cases hz
  rw [List.concat_eq_append] at hz hs hu
  have hz' : b = z := by simpa using hz
  subst hz'
  rw [Bool.eq_iff_iff, decide_eq_true_eq, Bool.not_eq_true', List.all_eq_false]
  obtain ⟨n, hn, hb⟩ := (hu b).mp (by simp)
  constructor
  · intro h
    exact ⟨n, hn, by rw [decide_eq_true_eq]; omega⟩
  · rintro ⟨x, hx, h⟩
    rw [decide_eq_true_eq] at h
    have h1 := (hu (x : Int)).mpr ⟨x, hx, rfl⟩
    rcases List.mem_append.mp h1 with h2 | h2
    · have := (List.pairwise_append.mp hs).2.2 _ h2 b (by simp)
      omega
    · rw [List.mem_singleton] at h2
      omega
section
variable {K : PySem.W.Frag} {w : World} {σ : L2.St} {H G H0 : Hp} {ta tb tc te tl : TE} {t : TT} {tu tz tw : TS} {D : Ends} {E : XK} {a : Addr}
theorem ev_sumI {ns : List Int} (ha : Ev ta σ H (.ref a)) (hS : SqL K H a (ns.map V.int)) : Ev (tCB (rSum K) (tCons ta tNil)) σ H (.int ns.sum) := fun H1 e Q q => ha H1 e _ fun H2 e2 => ⟨a, ns, rfl, ex_l (e.trans e2) hS, q H2 e2⟩
theorem ev_all {bs : List Bool} (ha : EvL ta σ H (bs.map V.bl)) : Ev (tCB (rAll K) (tCons ta tNil)) σ H (.bl (bs.all id)) := fun H1 e Q q =>
  ha H1 e _ fun p H2 _ e2 h2 => ⟨p, bs, rfl, sq_of h2, q H2 e2⟩
theorem ev_any {bs : List Bool} (ha : EvL ta σ H (bs.map V.bl)) : Ev (tCB (rAny K) (tCons ta tNil)) σ H (.bl (bs.any id)) := fun H1 e Q q =>
  ha H1 e _ fun p H2 _ e2 h2 => ⟨p, bs, rfl, sq_of h2, q H2 e2⟩
theorem el_lcA {xs : List V} {j : Nat} {vs : List Nat} (v : Nat → V) (h : Ev tl σ H (.ref a)) (hx : SqL K H a xs) (hz : xs.length ≤ 40000) (hw : ∀ x, wipe ((wipe σ vs).set j (some x)) vs = wipe σ vs)
    (he : ∀ (i : Nat) (x : V) H1, Ex H H1 → xs[i]? = some x → Ev te ((wipe σ vs).set j (some x)) H1 (v i)) : EvL (tLc (iList K tl) (gName j) tYes te vs) σ H ((List.range xs.length).map v) := by
  have q := el_lcL (K := K) (t := tYes) (te := te) (fun _ => true) v h hx hz hw (fun i x H1 _ _ => fun H2 e Q q => q H2 (Ex.refl H2)) fun i x H1 e hi _ => he i x H1 e hi
  rw [given_all] at q
  exact q
theorem q_asgLt {R : Hp → List V → Prop} {i : Nat} (h : EvLt R te σ H) (k : ∀ p H1 ys, H p = none → Ex H H1 → H1 p = some (.lst ys) → R H1 ys → tz D (σ.set i (some (.ref p))) H1) : tSeq (tAsg te (gName i)) tz D σ H := h H (Ex.refl H) _ k
theorem lt_exprs {v : V} {o : Pln} (ha : Ev ta σ H v) (g : Ex G H) (hd : Dp K G v o.d) (hl : o.big ≤ 100) : EvLt (fun _ ys => DpAll K G ys (o.exprs.map Cnd.d)) (tCall (sp_expressions_in K) [] E (tCons ta tNil)) σ H := fun H1 e1 Q q =>
  ha H1 e1 _ fun H2 e2 => ⟨v, o, G, rfl, (g.trans e1).trans e2, hd, hl, fun l H3 ys hl e3 h3 h => q l H3 ys (fresh_back e2 hl) (e2.trans e3) h3 h⟩
theorem lt_columns {v : V} {e : Cnd} (ha : Ev ta σ H v) (hd : Dp K H v e.d) (hl : e.sz ≤ 60) : EvLt (fun _ ys => ∃ ns : List Int, ys = ns.map V.int ∧ ns.Pairwise (· ≤ ·) ∧ UsedIs e ns) (tCall (sp_columns_of K) [] E (tCons ta tNil)) σ H := fun H1 e1 Q q =>
  ha H1 e1 _ fun H2 e2 => ⟨v, e, rfl, ex_dp (e1.trans e2) hd, hl, fun l H3 ns hl e3 h3 h4 h5 _ => q l H3 _ (fresh_back e2 hl) (e2.trans e3) h3 ⟨ns, rfl, h4, h5⟩⟩
theorem ec_known {v : V} {m : Nat} {o : Pln} (ha : Ev ta σ H v) (hb : Ev tb σ H (.int (m : Int))) (hd : Dp K H v o.d) (hl : o.big ≤ 100) (hz : ∀ e ∈ o.exprs, e.sz ≤ 60) : Ev (tCall (sp__uses_known K) [] E (tCons ta (tCons tb tNil))) σ H (.bl (knownB o.exprs m)) :=
  ev_call (ea_cons ha (ea_cons hb ea_nil)) fun H1 e Q q E => ⟨v, m, o, H1, rfl, Ex.refl _, ex_dp e hd, hl, hz, q⟩
theorem ec_leaf {v : V} {o : Pln} {ws : List Nat} (ha : Ev ta σ H v) (hb : Ev tb σ H (.ref a)) (hd : Dp K H v o.d) (hf : o.leaf = true) (hl : o.big ≤ 100) (hS : SqL K H a (niV ws)) : Ev (tCall (sp__leaf_width K) [] E (tCons ta (tCons tb tNil))) σ H (nvW (leafW ws o)) :=
  ev_call (ea_cons ha (ea_cons hb ea_nil)) fun H1 e Q q E => ⟨v, a, o, ws, rfl, ex_dp e hd, hf, hl, ex_l e hS, q⟩
theorem ec_result {v : V} {o : Pln} {ns : List Nat} (ha : Ev ta σ H v) (hb : Ev tb σ H (.ref a)) (hd : Dp K H v o.d) (hS : SqL K H a (niV ns)) (hn : 1 ≤ ns.length) : Ev (tCall (sp__result_width K) [] E (tCons ta (tCons tb tNil))) σ H (.int (resW ns o : Int)) :=
  ev_call (ea_cons ha (ea_cons hb ea_nil)) fun H1 e Q q E => ⟨v, a, o, ns, rfl, ex_dp e hd, ex_l e hS, hn, q⟩
theorem et_formE {i : Nat} {f g : Str} (h0 : σ[i]? = some (some (.str f))) : EvT (tTest (tOp rEq (tVar i) (tC (.str g)))) σ H (decide (V.str f = V.str g)) := et_test (ev_op (ev_var h0) ev_c (rv_eq rfl))
theorem niV_get {ns : List Nat} {k : Nat} (h : k < ns.length) : (niV ns)[k]? = some (.int (ns.getD k 0 : Int)) := by
  unfold niV
  rw [List.getElem?_map, List.getElem?_eq_getElem h, List.getD_eq_getElem?_getD, List.getElem?_eq_getElem h]
  rfl
theorem ev_niV {ns : List Nat} {k : Nat} (ha : Ev ta σ H (.ref a)) (hS : SqL K H a (niV ns)) (h : k < ns.length) : Ev (tOp (rIxL K) ta (tC (.int (k : Int)))) σ H (.int (ns.getD k 0 : Int)) := ev_op ha ev_c (rv_ixL hS (atI_nat (niV_get h)))
end
section
variable {P : Program} {w : World} {K : PySem.W.Frag} {mg : Str → Option Value} {base : Heap}
theorem ok__uses_known (D : Dn K mg "_uses_known" s__uses_known ["operator", "many"]) (c_columns_of : C8.Cal P w K mg base 2 "columns_of" (sp_columns_of K) []) (c_expressions_in : C8.Cal P w K mg base 2 "expressions_in" (sp_expressions_in K) []) :
    C8.Cal P w K mg base 3 "_uses_known" (sp__uses_known K) [] := by
  refine cal_of D sc__uses_known (fun vs H Q E h => ?_) (fun f cdv A outer s H vs Q E hr h => ?_)
  · obtain ⟨_, _, _, _, rfl, _⟩ := h
    rfl
  refine ⟨_, (pss_cons (ps_for PassesOwn.never rfl (pi_list (C8.pe_c c_expressions_in hr (by decide) (by rfl) (pa_cons (pv 0) pa_nil))) (pg_name (i := 2) sc__uses_known.nd rfl (.inl rfl))
      (pss_cons (ps_set (i := 3) sc__uses_known.nd rfl (.inl rfl) (C8.pe_c c_columns_of hr (by decide) (by rfl) (pa_cons (pv 2) pa_nil)))
    (pss_one (ps_if (PW.pt (pw_and (pt_truth (pv 3) (by intro _; rfl)) (pw_and1 (pt_cmpR op_ge (pe_ix ix_list (pv 3) (pe_un un_neg pe_int) (fun _ _ => rfl)) (pv 1) (nomark _)))))
      (pss_one (ps_ret pe_bl))
      pss_nil))))
    (pss_one (ps_ret pe_bl))), ?_⟩
  obtain ⟨v, m, o, G, rfl, g, hd, hb, hz, q⟩ := h
  refine q_forLt (lt_exprs (ev_var rfl) g hd hb) fun l H1 ys hl e1 h1 hds => ?_
  have hyl : ys.length = o.exprs.length := by have := dps_len hds; rw [List.length_map] at this; exact this
  refine ⟨fun i σ' H' => ∃ x1 x2, σ' = [some v, some (.int (m : Int)), x1, x2] ∧ Ex H H' ∧ H' l = some (.lst ys) ∧ (o.exprs.take i).all (fun e => (used e).all fun n => decide (n < m)) = true, ⟨none, none, rfl, e1, h1, rfl⟩, fun i σ' H' p => ?_, fun i x σ' H' hi p => ?_, fun σ' H' p => ?_⟩
  · obtain ⟨x1, x2, rfl, x, hL, hk⟩ := p
    exact sq_of hL
  · obtain ⟨x1, x2, rfl, x0, hL, hk⟩ := p
    obtain ⟨d, hd1, hd2⟩ := dps_get hds hi
    rw [List.getElem?_map] at hd1
    obtain ⟨e, he, rfl⟩ := Option.map_eq_some_iff.mp hd1
    have hem : e ∈ o.exprs := List.mem_of_getElem? he
    refine q_asgLt (lt_columns (ev_var rfl) (ex_dp (g.trans x0) hd2) (hz e hem)) fun c H2 zs hc e2 h2 hR => ?_
    obtain ⟨ns, rfl, hs, hu⟩ := hR
    have hlast : (!((ns.map V.int).isEmpty)) = true → (ns.map V.int).getLast? = some (.int (ns.getLastD 0)) := fun hne => by
      rcases List.eq_nil_or_concat ns with rfl | ⟨a, b, rfl⟩
      · cases hne
      · rw [List.concat_eq_append, List.map_append, List.getLast?_append, List.getLastD_eq_getLast?, List.getLast?_append]
        rfl
    have hb2 : (!((ns.map V.int).isEmpty) && decide ((m : Int) ≤ ns.getLastD 0)) = !((used e).all fun n => decide (n < m)) := by
      rcases List.eq_nil_or_concat ns with rfl | ⟨a, b, rfl⟩
      · have : used e = [] := List.eq_nil_iff_forall_not_mem.mpr fun n hn => by
          have := (hu (n : Int)).mpr ⟨n, hn, rfl⟩
          cases this
        rw [this]
        rfl
      · have h1 : (!((a.concat b).map V.int).isEmpty) = true := by rw [List.concat_eq_append, List.map_append]; cases a <;> rfl
        have h2 : (a.concat b).getLastD 0 = b := by rw [List.concat_eq_append, List.getLastD_eq_getLast?, List.getLast?_append]; rfl
        rw [h1, h2, Bool.true_and]
        exact last_known hs hu (by rw [List.concat_eq_append, List.getLast?_append]; rfl)
    refine s_when (et_is (et_and (et_truL (ev_var rfl) (sq_of h2)) fun hne => et_test (ev_op (ev_op (ev_var rfl) (ev_un ev_c ru_neg) (rv_ixL (sq_of h2) (atI_lastL (hlast hne)))) (ev_var rfl) rv_I0)) hb2) (fun hb3 H3 e3 => ?_) fun hb3 H3 e3 => ?_
    · refine s_ret ev_c fun H4 e4 => ?_
      have : knownB o.exprs m = false := by
        cases hk2 : knownB o.exprs m with
        | false => rfl
        | true =>
          have := List.all_eq_true.mp hk2 e hem
          rw [this] at hb3
          cases hb3
      rw [← this]
      exact q H4 (x0.trans (e2.trans (e3.trans e4)))
    · refine ⟨some x, some (.ref c), rfl, x0.trans (e2.trans e3), (e2.trans e3) _ _ hL, ?_⟩
      rw [take_snoc he, List.all_append, hk]
      have : ((used e).all fun n => decide (n < m)) = true := by
        rw [Bool.not_eq_false'] at hb3
        exact hb3
      show (true && ([e].all _)) = true
      rw [List.all_cons, this]
      rfl
  · obtain ⟨x1, x2, rfl, x, hL, hk⟩ := p
    rw [hyl, List.take_length] at hk
    refine s_ret ev_c fun H2 e2 => ?_
    have : knownB o.exprs m = true := hk
    rw [← this]
    exact q H2 (x.trans e2)
theorem ok__leaf_width (D : Dn K mg "_leaf_width" s__leaf_width ["operator", "widths"]) (z_all : mg "all" = none) (z_len : mg "len" = none) :
    C8.Cal P w K mg base 1 "_leaf_width" (sp__leaf_width K) [] := by
  refine cal_of D sc__leaf_width (fun vs H Q E h => ?_) (fun f cdv A outer s H vs Q E hr h => ?_)
  · obtain ⟨_, _, _, _, rfl, _⟩ := h
    rfl
  refine ⟨_, (pss_cons (ps_if (pt_cmpR op_eq (pe_ix ix_tup (pv 0) pe_int (fun _ _ => rfl)) pe_str (nomark _))
      (pss_one (ps_ret (pe_ifExp (pt_cmpR op_lt (pe_ix ix_tup (pv 0) pe_int (fun _ _ => rfl)) (pe_callB call_len_seq (by rfl) z_len PySem.boot_len (pa_cons (pv 1) pa_nil)) (nomark _)) (pe_ix ix_list (pv 1) (pe_ix ix_tup (pv 0) pe_int (fun _ _ => rfl)) (fun _ _ => rfl)) pe_non)))
      pss_nil)
    (pss_cons (ps_asg (pv 0) (pg_tup rfl (pgs_cons (pg_name (i := 2) sc__leaf_width.nd rfl (.inl rfl)) (pgs_cons (pg_name (i := 3) sc__leaf_width.nd rfl (.inr rfl)) (pgs_cons (pg_name (i := 4) sc__leaf_width.nd rfl (.inl rfl)) pgs_nil)))))
    (pss_one (ps_ret (pe_ifExp (pt_val (pe_callB (cr_all rfl) (by rfl) z_all (by decide +kernel) (pa_cons (pe_lc (own := [("row", 5)]) (g := gName 5) (tt := tYes) rfl sc__leaf_width.nd (pi_tup (pv 4)) (blkOk_by (N := n__leaf_width) (sc := C8.fnScope s__leaf_width) (by decide +kernel)) (fun _ _ _ _ _ => pg_name (i := 5) sc__leaf_width.nd rfl (Or.inl rfl)) (fun _ _ _ _ _ => pts_nil) (fun _ _ _ _ _ => (pe_cmpR op_eq (pe_callB (call_len_seqK (K := K) rfl) (by rfl) z_len PySem.boot_len (pa_cons (pv 5) pa_nil)) (pv 3) (nomark _)))) pa_nil))) (pv 3) pe_non))))), ?_⟩
  obtain ⟨v, a, o, ws, rfl, hd, hf, hb, hS, q⟩ := h
  obtain ⟨b, ms, ks, rfl, hT, h1, h2⟩ := pln_view hd
  cases o with
  | table n =>
    obtain ⟨y1, ms, rfl, d1, h1⟩ := dps_consD h1
    obtain rfl := dp_intD d1
    refine q_when (b := true) (et_is (et_test (ev_op (ev_op (ev_var rfl) ev_c (rv_ixT hT (atI_nat (j := 0) rfl))) ev_c (rv_eq rfl))) (show decide (V.str ("table" : Str) = V.str "table") = true by decide +kernel)) (fun _ H1 e1 => ?_) fun z => nomatch z
    have hnl : (niV ws).length = ws.length := by unfold niV; rw [List.length_map]
    refine s_ret (v := nvW (leafW ws (.table n))) (ev_if (b := decide (n < ws.length)) (et_is (et_test (ev_op (ev_op (ev_var rfl) ev_c (rv_ixT (ex_t e1 hT) (atI_nat (j := 1) rfl))) (ev_len (ev_var rfl) (ex_l e1 hS)) rv_I0)) (by rw [hnl, decide_eq_decide]; omega)) (fun hb => ?_) fun hb => ?_) fun H2 e2 => q H2 (e1.trans e2)
    · have hb := of_decide_eq_true hb
      refine ev_is (ev_op (ev_var rfl) (ev_op (ev_var rfl) ev_c (rv_ixT (ex_t e1 hT) (atI_nat (j := 1) rfl))) (rv_ixL (ex_l e1 hS) (atI_nat (niV_get hb)))) ?_
      show _ = nvW (ws[n]?)
      rw [List.getD_eq_getElem?_getD, List.getElem?_eq_getElem hb]
      rfl
    · have hb := of_decide_eq_false hb
      refine ev_is ev_c ?_
      show _ = nvW (ws[n]?)
      rw [List.getElem?_eq_none (by omega)]
      rfl
  | rows wd ls =>
    obtain ⟨y1, ms, rfl, d1, h1⟩ := dps_consD h1
    obtain ⟨y2, ms, rfl, d2, h1⟩ := dps_consD h1
    cases h1
    cases h2
    obtain rfl := dp_intD d1
    obtain ⟨b2, zs, rfl, hS2, hd2⟩ := dp_tupD d2
    have hzl := dps_len hd2
    rw [List.length_map] at hzl
    refine q_when (b := false) (et_is (et_test (ev_op (ev_op (ev_var rfl) ev_c (rv_ixT hT (atI_nat (j := 0) rfl))) ev_c (rv_eq rfl))) (show decide (V.str ("rows" : Str) = V.str "table") = false by decide +kernel)) (fun z => nomatch z) (fun _ H1 e1 => ?_)
    refine ⟨.ref b, rfl, gt3 (ex_t e1 hT) ?_⟩
    dsimp only
    have hlist : (List.range zs.length).map (fun i => V.bl (decide (ls.getD i 0 = wd))) = (ls.map fun l => decide (l = wd)).map V.bl := by
      rw [hzl]
      refine List.ext_getElem (by simp) fun i h1 h2 => ?_
      rw [List.getElem_map, List.getElem_map, List.getElem_map, List.getElem_range, List.getD_eq_getElem?_getD, List.getElem?_eq_getElem (by simpa using h2)]
      rfl
    have hb2 : ls.length ≤ 100 := hb
    refine s_ret (v := nvW (leafW ws (.rows wd ls))) (ev_if (b := ls.all fun l => decide (l = wd)) (et_B (ev_is (ev_all (bs := ls.map fun l => decide (l = wd)) ?_) (by rw [List.all_map]; rfl))) (fun hb => ?_) fun hb => ?_) fun H2 e2 => q H2 (e1.trans e2)
    · rw [← hlist]
      refine el_lcT _ (ev_var rfl) (ex_t e1 hS2) (by omega) (fun _ => rfl) fun i x H2 e2 hx => ?_
      obtain ⟨d, h3, h4⟩ := dps_get hd2 hx
      rw [List.getElem?_map] at h3
      obtain ⟨l, hl, rfl⟩ := Option.map_eq_some_iff.mp h3
      obtain ⟨b3, us, rfl, hS3, hd3⟩ := dp_tupD h4
      have hul := dps_len hd3
      rw [List.length_replicate] at hul
      refine ev_is (ev_op (ev_lenT (ev_var rfl) (ex_t (e1.trans e2) hS3)) (ev_var rfl) (rv_eq rfl)) ?_
      rw [List.getD_eq_getElem?_getD, hl, hul]
      congr 1
      show decide (V.int (l : Int) = V.int (wd : Int)) = decide (l = wd)
      rw [decide_eq_decide]
      exact ⟨fun h => by have := V.int.inj h; omega, fun h => by rw [h]⟩
    · refine ev_is (ev_var rfl) ?_
      show _ = nvW (if _ then _ else _)
      rw [if_pos hb]
      rfl
    · refine ev_is ev_c ?_
      show _ = nvW (if _ then _ else _)
      rw [if_neg (by rw [hb]; decide)]
      rfl
  | _ => cases hf
theorem ok__result_width (D : Dn K mg "_result_width" s__result_width ["operator", "inputs"]) (z_len : mg "len" = none) (z_sum : mg "sum" = none) :
    C8.Cal P w K mg base 1 "_result_width" (sp__result_width K) [] := by
  refine cal_of D sc__result_width (fun vs H Q E h => ?_) (fun f cdv A outer s H vs Q E hr h => ?_)
  · obtain ⟨_, _, _, _, rfl, _⟩ := h
    rfl
  refine ⟨_, (pss_cons (ps_set (i := 2) sc__result_width.nd rfl (.inl rfl) (pe_ix ix_tup (pv 0) pe_int (fun _ _ => rfl)))
    (pss_cons (ps_if (pt_cmpR op_eq (pv 2) pe_str (nomark _))
      (pss_one (ps_ret (pe_callB call_len_seq (by rfl) z_len PySem.boot_len (pa_cons (pe_ix ix_tup (pv 0) pe_int (fun _ _ => rfl)) pa_nil))))
      pss_nil)
    (pss_cons (ps_if (pt_cmpR op_eq (pv 2) pe_str (nomark _))
      (pss_one (ps_ret (pe_ifExp (pt_cmpR op_in_seq (pe_ix ix_tup (pv 0) pe_int (fun _ _ => rfl)) (pe_tup (pa_cons pe_str (pa_cons pe_str pa_nil))) (by with_unfolding_all rfl)) (pe_callB (cr_sum rfl) (by rfl) z_sum (by decide +kernel) (pa_cons (pv 1) pa_nil)) (pe_ix ix_list (pv 1) pe_int (fun _ _ => rfl)))))
      pss_nil)
    (pss_cons (ps_if (pt_cmpR op_eq (pv 2) pe_str (nomark _))
      (pss_one (ps_ret (pe_op op_add (pe_callB call_len_seq (by rfl) z_len PySem.boot_len (pa_cons (pe_ix ix_tup (pv 0) pe_int (fun _ _ => rfl)) pa_nil)) (pe_callB call_len_seq (by rfl) z_len PySem.boot_len (pa_cons (pe_ix ix_tup (pv 0) pe_int (fun _ _ => rfl)) pa_nil)))))
      pss_nil)
    (pss_cons (ps_if (pt_cmpR op_eq (pv 2) pe_str (nomark _))
      (pss_one (ps_ret (pe_op op_add (pe_ix ix_list (pv 1) pe_int (fun _ _ => rfl)) (pe_callB call_len_seq (by rfl) z_len PySem.boot_len (pa_cons (pe_ix ix_tup (pv 0) pe_int (fun _ _ => rfl)) pa_nil)))))
      pss_nil)
    (pss_one (ps_ret (pe_ix ix_list (pv 1) pe_int (fun _ _ => rfl))))))))), ?_⟩
  obtain ⟨v, m, o, ns, rfl, hd, hS, hn, q⟩ := h
  obtain ⟨b, ms, ks, rfl, hT, h1, h2⟩ := pln_view hd
  refine q_asg (v := .str o.form) (ev_op (ev_var rfl) ev_c (rv_ixT hT (atI_nat (j := 0) rfl))) fun H1 e1 => ?_
  cases o with
  | table n =>
    refine q_noX (et_form rfl (show decide (V.str ("table" : Str) = V.str "project") = false by decide +kernel)) (fun H1 e1 => ?_) H1 e1
    refine q_noX (et_form rfl (show decide (V.str ("table" : Str) = V.str "join") = false by decide +kernel)) (fun H1 e1 => ?_) H1 e1
    refine q_noX (et_form rfl (show decide (V.str ("table" : Str) = V.str "group") = false by decide +kernel)) (fun H1 e1 => ?_) H1 e1
    refine q_noX (et_form rfl (show decide (V.str ("table" : Str) = V.str "window") = false by decide +kernel)) (fun H1 e1 => ?_) H1 e1
    exact s_ret (ev_is (ev_niV (k := 0) (ev_var rfl) (ex_l e1 hS) hn) (rfl)) fun H2 e2 => q H2 (e1.trans e2)
  | rows w ls =>
    refine q_noX (et_form rfl (show decide (V.str ("rows" : Str) = V.str "project") = false by decide +kernel)) (fun H1 e1 => ?_) H1 e1
    refine q_noX (et_form rfl (show decide (V.str ("rows" : Str) = V.str "join") = false by decide +kernel)) (fun H1 e1 => ?_) H1 e1
    refine q_noX (et_form rfl (show decide (V.str ("rows" : Str) = V.str "group") = false by decide +kernel)) (fun H1 e1 => ?_) H1 e1
    refine q_noX (et_form rfl (show decide (V.str ("rows" : Str) = V.str "window") = false by decide +kernel)) (fun H1 e1 => ?_) H1 e1
    exact s_ret (ev_is (ev_niV (k := 0) (ev_var rfl) (ex_l e1 hS) hn) (rfl)) fun H2 e2 => q H2 (e1.trans e2)
  | filter e p =>
    refine q_noX (et_form rfl (show decide (V.str ("filter" : Str) = V.str "project") = false by decide +kernel)) (fun H1 e1 => ?_) H1 e1
    refine q_noX (et_form rfl (show decide (V.str ("filter" : Str) = V.str "join") = false by decide +kernel)) (fun H1 e1 => ?_) H1 e1
    refine q_noX (et_form rfl (show decide (V.str ("filter" : Str) = V.str "group") = false by decide +kernel)) (fun H1 e1 => ?_) H1 e1
    refine q_noX (et_form rfl (show decide (V.str ("filter" : Str) = V.str "window") = false by decide +kernel)) (fun H1 e1 => ?_) H1 e1
    exact s_ret (ev_is (ev_niV (k := 0) (ev_var rfl) (ex_l e1 hS) hn) (rfl)) fun H2 e2 => q H2 (e1.trans e2)
  | top ks p =>
    refine q_noX (et_form rfl (show decide (V.str ("top" : Str) = V.str "project") = false by decide +kernel)) (fun H1 e1 => ?_) H1 e1
    refine q_noX (et_form rfl (show decide (V.str ("top" : Str) = V.str "join") = false by decide +kernel)) (fun H1 e1 => ?_) H1 e1
    refine q_noX (et_form rfl (show decide (V.str ("top" : Str) = V.str "group") = false by decide +kernel)) (fun H1 e1 => ?_) H1 e1
    refine q_noX (et_form rfl (show decide (V.str ("top" : Str) = V.str "window") = false by decide +kernel)) (fun H1 e1 => ?_) H1 e1
    exact s_ret (ev_is (ev_niV (k := 0) (ev_var rfl) (ex_l e1 hS) hn) (rfl)) fun H2 e2 => q H2 (e1.trans e2)
  | union p q2 =>
    refine q_noX (et_form rfl (show decide (V.str ("union" : Str) = V.str "project") = false by decide +kernel)) (fun H1 e1 => ?_) H1 e1
    refine q_noX (et_form rfl (show decide (V.str ("union" : Str) = V.str "join") = false by decide +kernel)) (fun H1 e1 => ?_) H1 e1
    refine q_noX (et_form rfl (show decide (V.str ("union" : Str) = V.str "group") = false by decide +kernel)) (fun H1 e1 => ?_) H1 e1
    refine q_noX (et_form rfl (show decide (V.str ("union" : Str) = V.str "window") = false by decide +kernel)) (fun H1 e1 => ?_) H1 e1
    exact s_ret (ev_is (ev_niV (k := 0) (ev_var rfl) (ex_l e1 hS) hn) (rfl)) fun H2 e2 => q H2 (e1.trans e2)
  | project es p =>
    obtain ⟨y1, ms, rfl, d1, h1⟩ := dps_consD h1
    obtain ⟨b1, l1, rfl, hS1, hd1⟩ := dp_tupD d1
    have hl1 := dps_len hd1
    rw [List.length_map] at hl1
    refine q_yesX (et_form rfl (show decide (V.str ("project" : Str) = V.str "project") = true by decide +kernel)) (fun H1 e1 => ?_) H1 e1
    exact s_ret (ev_is (ev_lenT (ev_op (ev_var rfl) ev_c (rv_ixT (ex_t e1 hT) (atI_nat (j := 1) rfl))) (ex_t e1 hS1)) (by rw [hl1]; rfl)) fun H2 e2 => q H2 (e1.trans e2)
  | group ks vs p =>
    obtain ⟨y1, ms, rfl, d1, h1⟩ := dps_consD h1
    obtain ⟨y2, ms, rfl, d2, h1⟩ := dps_consD h1
    obtain ⟨b1, l1, rfl, hS1, hd1⟩ := dp_tupD d1
    have hl1 := dps_len hd1
    rw [List.length_map] at hl1
    obtain ⟨b2, l2, rfl, hS2, hd2⟩ := dp_tupD d2
    have hl2 := dps_len hd2
    rw [List.length_map] at hl2
    refine q_noX (et_form rfl (show decide (V.str ("group" : Str) = V.str "project") = false by decide +kernel)) (fun H1 e1 => ?_) H1 e1
    refine q_noX (et_form rfl (show decide (V.str ("group" : Str) = V.str "join") = false by decide +kernel)) (fun H1 e1 => ?_) H1 e1
    refine q_yesX (et_form rfl (show decide (V.str ("group" : Str) = V.str "group") = true by decide +kernel)) (fun H1 e1 => ?_) H1 e1
    exact s_ret (ev_is (ev_op (ev_lenT (ev_op (ev_var rfl) ev_c (rv_ixT (ex_t e1 hT) (atI_nat (j := 1) rfl))) (ex_t e1 hS1)) (ev_lenT (ev_op (ev_var rfl) ev_c (rv_ixT (ex_t e1 hT) (atI_nat (j := 2) rfl))) (ex_t e1 hS2)) rv_I0) (by rw [hl1, hl2]; rfl)) fun H2 e2 => q H2 (e1.trans e2)
  | window es ks fs p =>
    obtain ⟨y1, ms, rfl, d1, h1⟩ := dps_consD h1
    obtain ⟨y2, ms, rfl, d2, h1⟩ := dps_consD h1
    obtain ⟨y3, ms, rfl, d3, h1⟩ := dps_consD h1
    obtain ⟨b3, l3, rfl, hS3, hd3⟩ := dp_tupD d3
    have hl3 := dps_len hd3
    rw [List.length_map] at hl3
    refine q_noX (et_form rfl (show decide (V.str ("window" : Str) = V.str "project") = false by decide +kernel)) (fun H1 e1 => ?_) H1 e1
    refine q_noX (et_form rfl (show decide (V.str ("window" : Str) = V.str "join") = false by decide +kernel)) (fun H1 e1 => ?_) H1 e1
    refine q_noX (et_form rfl (show decide (V.str ("window" : Str) = V.str "group") = false by decide +kernel)) (fun H1 e1 => ?_) H1 e1
    refine q_yesX (et_form rfl (show decide (V.str ("window" : Str) = V.str "window") = true by decide +kernel)) (fun H1 e1 => ?_) H1 e1
    exact s_ret (ev_is (ev_op (ev_niV (k := 0) (ev_var rfl) (ex_l e1 hS) hn) (ev_lenT (ev_op (ev_var rfl) ev_c (rv_ixT (ex_t e1 hT) (atI_nat (j := 3) rfl))) (ex_t e1 hS3)) rv_I0) (by rw [hl3]; rfl)) fun H2 e2 => q H2 (e1.trans e2)
  | join kd told c p q2 =>
    obtain ⟨y1, ms, rfl, d1, h1⟩ := dps_consD h1
    obtain rfl := dp_strD d1
    refine q_noX (et_form rfl (show decide (V.str ("join" : Str) = V.str "project") = false by decide +kernel)) (fun H1 e1 => ?_) H1 e1
    refine q_yesX (et_form rfl (show decide (V.str ("join" : Str) = V.str "join") = true by decide +kernel)) (fun H1 e1 => ?_) H1 e1
    refine s_ret (v := .int (resW ns (.join kd told c p q2) : Int)) (ev_if (b := inV (.str kd) [.str "inner", .str "left"]) (et_test (ev_inU (ev_op (ev_var rfl) ev_c (rv_ixT (ex_t e1 hT) (atI_nat (j := 1) rfl))) (eu_tup (ea_cons ev_c (ea_cons ev_c ea_nil)) (by show 2 ≤ 100000; decide)) rfl rfl)) (fun hb => ?_) fun hb => ?_) fun H2 e2 => q H2 (e1.trans e2)
    · refine ev_is (ev_sumI (ns := ns.map fun n : Nat => ((n : Nat) : Int)) (ev_var rfl) (by rw [← niV_sum]; exact ex_l e1 hS)) ?_
      show _ = V.int (((if _ then _ else _ : Nat)) : Int)
      rw [if_pos hb, sum_cast]
    · refine ev_is (ev_niV (k := 0) (ev_var rfl) (ex_l e1 hS) hn) ?_
      show _ = V.int (((if _ then _ else _ : Nat)) : Int)
      rw [if_neg (by rw [hb]; decide)]
theorem ok__operator_width (D : Dn K mg "_operator_width" s__operator_width ["operator", "inputs", "widths"]) (c__leaf_width : C8.Cal P w K mg base 1 "_leaf_width" (sp__leaf_width K) []) (c__result_width : C8.Cal P w K mg base 1 "_result_width" (sp__result_width K) []) (c__uses_known : C8.Cal P w K mg base 3 "_uses_known" (sp__uses_known K) []) (z_any : mg "any" = none) (z_sum : mg "sum" = none) :
    C8.Cal P w K mg base 4 "_operator_width" (sp__operator_width K) [] := by
  refine cal_of D sc__operator_width (fun vs H Q E h => ?_) (fun f cdv A outer s H vs Q E hr h => ?_)
  · obtain ⟨_, _, _, _, _, _, rfl, _⟩ := h
    rfl
  refine ⟨_, (pss_cons (ps_set (i := 3) sc__operator_width.nd rfl (.inl rfl) (pe_ix ix_tup (pv 0) pe_int (fun _ _ => rfl)))
    (pss_cons (ps_if (pt_cmpR op_in_seq (pv 3) (pe_tup (pa_cons pe_str (pa_cons pe_str pa_nil))) (by with_unfolding_all rfl))
      (pss_one (ps_ret (C8.pe_c c__leaf_width hr (by decide) (by rfl) (pa_cons (pv 0) (pa_cons (pv 2) pa_nil)))))
      pss_nil)
    (pss_cons (ps_if (pt_val (pe_callB (cr_any rfl) (by rfl) z_any (by decide +kernel) (pa_cons (pe_lc (own := [("width", 4)]) (g := gName 4) (tt := tYes) rfl sc__operator_width.nd (pi_list (pv 1)) (blkOk_by (N := n__operator_width) (sc := C8.fnScope s__operator_width) (by decide +kernel)) (fun _ _ _ _ _ => pg_name (i := 4) sc__operator_width.nd rfl (Or.inl rfl)) (fun _ _ _ _ _ => pts_nil) (fun _ _ _ _ _ => (pe_cmpR op_isN (pv 4) pe_non (nomark _)))) pa_nil)))
      (pss_one (ps_ret pe_non))
      pss_nil)
    (pss_cons (ps_if (PW.pt (pw_and (pt_cmpR op_eq (pv 3) pe_str (nomark _)) (pw_and1 (pt_cmpR op_ne (pe_ix ix_list (pv 1) pe_int (fun _ _ => rfl)) (pe_ix ix_list (pv 1) pe_int (fun _ _ => rfl)) (nomark _)))))
      (pss_one (ps_ret pe_non))
      pss_nil)
    (pss_cons (ps_if (PW.pt (pw_and (pt_cmpR op_eq (pv 3) pe_str (nomark _)) (pw_and1 (pt_cmpR op_ne (pe_ix ix_list (pv 1) pe_int (fun _ _ => rfl)) (pe_ix ix_tup (pv 0) pe_int (fun _ _ => rfl)) (nomark _)))))
      (pss_one (ps_ret pe_non))
      pss_nil)
    (pss_one (ps_ret (pe_ifExp (pt_val (C8.pe_c c__uses_known hr (by decide) (by rfl) (pa_cons (pv 0) (pa_cons (pe_callB (cr_sum rfl) (by rfl) z_sum (by decide +kernel) (pa_cons (pv 1) pa_nil)) pa_nil)))) (C8.pe_c c__result_width hr (by decide) (by rfl) (pa_cons (pv 0) (pa_cons (pv 1) pa_nil))) pe_non)))))))), ?_⟩
  obtain ⟨v, m, a, o, os, ws, rfl, hd, hm, hl, hS, hb, hz, q⟩ := h
  obtain ⟨b, ms, ks, rfl, hT, h1, h2⟩ := pln_view hd
  refine q_asg (v := .str o.form) (ev_op (ev_var rfl) ev_c (rv_ixT hT (atI_nat (j := 0) rfl))) fun H1 e1 => ?_
  have hleaf : inV (.str o.form) [.str "table", .str "rows"] = o.leaf := by
    cases o <;> first | exact (show inV (.str ("table" : Str)) [.str "table", .str "rows"] = true by decide +kernel) | exact (show inV (.str ("rows" : Str)) [.str "table", .str "rows"] = true by decide +kernel) | exact (show inV (.str ("filter" : Str)) [.str "table", .str "rows"] = false by decide +kernel) | exact (show inV (.str ("project" : Str)) [.str "table", .str "rows"] = false by decide +kernel) | exact (show inV (.str ("group" : Str)) [.str "table", .str "rows"] = false by decide +kernel) | exact (show inV (.str ("window" : Str)) [.str "table", .str "rows"] = false by decide +kernel) | exact (show inV (.str ("top" : Str)) [.str "table", .str "rows"] = false by decide +kernel) | exact (show inV (.str ("union" : Str)) [.str "table", .str "rows"] = false by decide +kernel) | exact (show inV (.str ("join" : Str)) [.str "table", .str "rows"] = false by decide +kernel)
  have hd1 : Dp K H1 (.ref b) o.d := ex_dp e1 hd
  refine q_when (b := o.leaf) (et_test (ev_is (ev_inU (ev_var rfl) (eu_tup (ea_cons ev_c (ea_cons ev_c ea_nil)) (by show 2 ≤ 100000; decide)) rfl rfl) (by rw [hleaf]))) (fun h1 H2 e2 => ?_) fun hlf H2 e2 => ?_
  · have e : opW ws o os = leafW ws o := by unfold opW; rw [if_pos h1]
    rw [e] at q
    exact s_ret (ec_leaf (ev_var rfl) (ev_var rfl) (ex_dp e2 hd1) h1 hb (ex_l (e1.trans e2) hS)) fun H3 e3 => q H3 (e1.trans (e2.trans e3))
  have x2 := e1.trans e2
  have hkl : o.kids.length ≤ 2 := pk_le o
  have hany : (List.range os.length).map (fun i => V.bl (decide ((os.map nvW).getD i .non = .non))) = (os.map fun x => x.isNone).map V.bl := by
    refine List.ext_getElem (by simp) fun i h1 h2 => ?_
    have h3 : i < os.length := by simpa using h2
    rw [List.getElem_map, List.getElem_map, List.getElem_map, List.getElem_range, List.getD_eq_getElem?_getD, List.getElem?_map, List.getElem?_eq_getElem h3]
    cases os[i] <;> rfl
  refine q_when (b := os.any fun x => x.isNone) (et_B (ev_is (ev_any (bs := os.map fun x => x.isNone) ?_) (by rw [List.any_map]; rfl))) (fun h1 H3 e3 => ?_) fun hnn H3 e3 => ?_
  · rw [← hany]
    have := el_lcA (K := K) (σ := [some (.ref b), some (.ref m), some (.ref a), some (.str o.form), none]) (H := H2) (a := m) (xs := os.map nvW) (tl := tVar 1) (te := tOp (fun x y H Q => y = .non ∧ Q (.bl (decide (x = .non))) H) (tVar 4) (tC .non)) (j := 4) (vs := [4]) (fun i => V.bl (decide ((os.map nvW).getD i .non = .non))) (ev_var rfl) (sq_of (x2 _ _ hm)) (by rw [List.length_map]; omega) (fun _ => rfl) fun i x H4 e4 hx => ?_
    · rw [List.length_map] at this
      exact this
    · refine ev_is (ev_op (ev_var rfl) ev_c rv_isN) ?_
      rw [List.getD_eq_getElem?_getD, hx]
      rfl
  · have e : opW ws o os = none := by unfold opW; rw [if_neg (by rw [hlf]; decide), if_pos h1]
    rw [e] at q
    exact s_ret ev_c fun H4 e4 => q H4 (x2.trans (e3.trans e4))
  have x3 := x2.trans e3
  have hns := os_niV hnn
  rw [hns] at hm
  have hnl : (os.map fun x => x.getD 0).length = os.length := List.length_map _
  have hopw : opW ws o os = if badU (os.map fun x => x.getD 0) o = true then none else if badJ (os.map fun x => x.getD 0) o = true then none else if knownB o.exprs (os.map fun x => x.getD 0).sum = true then some (resW (os.map fun x => x.getD 0) o) else none := by
    unfold opW
    rw [if_neg (by rw [hlf]; decide), if_neg (by rw [hnn]; decide)]
  rw [hopw] at q
  clear hopw hns hnn hany
  generalize os.map (fun x => x.getD 0) = ns at *
  have hk1 : 1 ≤ o.kids.length := by cases o <;> first | (simp [Pln.kids]; done) | cases hlf
  have gt : ∀ {k : Nat} {H4 : Hp}, Ex H3 H4 → k < ns.length → Ev (tOp (rIxL K) (tVar 1) (tC (.int (k : Int)))) [some (.ref b), some (.ref m), some (.ref a), some (.str o.form), none] H4 (.int (ns.getD k 0 : Int)) := fun e4 hk => ev_niV (ev_var rfl) (sq_of ((x3.trans e4) _ _ hm)) hk
  refine q_when (b := badU ns o) ?_ (fun h1 H4 e4 => ?_) fun hbu H4 e4 => ?_
  · cases o with
    | union p q2 =>
      have hl2 : os.length = 2 := hl
      exact et_is (et_and (et_formE rfl) fun _ => et_test (ev_op (gt (k := 0) (Ex.refl _) (by omega)) (gt (k := 1) (Ex.refl _) (by omega)) (rv_ne rfl))) (by
        show (decide (V.str ("union" : Str) = V.str "union") && !decide (V.int (ns.getD 0 0 : Int) = V.int (ns.getD 1 0 : Int))) = decide (ns.getD 0 0 ≠ ns.getD 1 0)
        rw [show decide (V.str ("union" : Str) = V.str "union") = true by decide +kernel, Bool.true_and, decide_not]
        congr 1
        rw [decide_eq_decide]
        exact ⟨fun h => by have := V.int.inj h; omega, fun h => by rw [h]⟩)
    | table n => cases hlf
    | rows n l => cases hlf
    | filter e p => exact et_is (et_and (b := false) (et_formE rfl) fun z => nomatch (show false = true from ((show decide (V.str ("filter" : Str) = V.str "union") = false by decide +kernel).symm.trans z))) (Bool.and_false _)
    | project e p => exact et_is (et_and (b := false) (et_formE rfl) fun z => nomatch (show false = true from ((show decide (V.str ("project" : Str) = V.str "union") = false by decide +kernel).symm.trans z))) (Bool.and_false _)
    | group e f p => exact et_is (et_and (b := false) (et_formE rfl) fun z => nomatch (show false = true from ((show decide (V.str ("group" : Str) = V.str "union") = false by decide +kernel).symm.trans z))) (Bool.and_false _)
    | window e f g p => exact et_is (et_and (b := false) (et_formE rfl) fun z => nomatch (show false = true from ((show decide (V.str ("window" : Str) = V.str "union") = false by decide +kernel).symm.trans z))) (Bool.and_false _)
    | top e p => exact et_is (et_and (b := false) (et_formE rfl) fun z => nomatch (show false = true from ((show decide (V.str ("top" : Str) = V.str "union") = false by decide +kernel).symm.trans z))) (Bool.and_false _)
    | join e f g p q2 => exact et_is (et_and (b := false) (et_formE rfl) fun z => nomatch (show false = true from ((show decide (V.str ("join" : Str) = V.str "union") = false by decide +kernel).symm.trans z))) (Bool.and_false _)
  · rw [if_pos h1] at q
    exact s_ret ev_c fun H5 e5 => q H5 (x3.trans (e4.trans e5))
  rw [if_neg (by rw [hbu]; decide)] at q
  refine q_when (b := badJ ns o) ?_ (fun h1 H5 e5 => ?_) fun hbj H5 e5 => ?_
  · cases o with
    | join kd told c p q2 =>
      have hl2 : os.length = 2 := hl
      obtain ⟨y1, ms, rfl, d1, h1⟩ := dps_consD h1
      obtain ⟨y2, ms, rfl, d2, h1⟩ := dps_consD h1
      obtain rfl := dp_intD d2
      exact et_is (et_and (et_formE rfl) fun _ => et_test (ev_op (gt (k := 1) e4 (by omega)) (ev_op (ev_var rfl) ev_c (rv_ixT (ex_t (x3.trans e4) hT) (atI_nat (j := 2) rfl))) (rv_ne rfl))) (by
        show (decide (V.str ("join" : Str) = V.str "join") && !decide (V.int (ns.getD 1 0 : Int) = V.int (told : Int))) = decide (ns.getD 1 0 ≠ told)
        rw [show decide (V.str ("join" : Str) = V.str "join") = true by decide +kernel, Bool.true_and, decide_not]
        congr 1
        rw [decide_eq_decide]
        exact ⟨fun h => by have := V.int.inj h; omega, fun h => by rw [h]⟩)
    | table n => cases hlf
    | rows n l => cases hlf
    | filter e p => exact et_is (et_and (b := false) (et_formE rfl) fun z => nomatch (show false = true from ((show decide (V.str ("filter" : Str) = V.str "join") = false by decide +kernel).symm.trans z))) (Bool.and_false _)
    | project e p => exact et_is (et_and (b := false) (et_formE rfl) fun z => nomatch (show false = true from ((show decide (V.str ("project" : Str) = V.str "join") = false by decide +kernel).symm.trans z))) (Bool.and_false _)
    | group e f p => exact et_is (et_and (b := false) (et_formE rfl) fun z => nomatch (show false = true from ((show decide (V.str ("group" : Str) = V.str "join") = false by decide +kernel).symm.trans z))) (Bool.and_false _)
    | window e f g p => exact et_is (et_and (b := false) (et_formE rfl) fun z => nomatch (show false = true from ((show decide (V.str ("window" : Str) = V.str "join") = false by decide +kernel).symm.trans z))) (Bool.and_false _)
    | top e p => exact et_is (et_and (b := false) (et_formE rfl) fun z => nomatch (show false = true from ((show decide (V.str ("top" : Str) = V.str "join") = false by decide +kernel).symm.trans z))) (Bool.and_false _)
    | union p q2 => exact et_is (et_and (b := false) (et_formE rfl) fun z => nomatch (show false = true from ((show decide (V.str ("union" : Str) = V.str "join") = false by decide +kernel).symm.trans z))) (Bool.and_false _)
  · rw [if_pos h1] at q
    exact s_ret ev_c fun H6 e6 => q H6 (x3.trans (e4.trans (e5.trans e6)))
  rw [if_neg (by rw [hbj]; decide)] at q
  have x5 := x3.trans (e4.trans e5)
  refine s_ret (ev_if (b := knownB o.exprs ns.sum) (et_test (ec_known (ev_var rfl) (ev_is (ev_sumI (ns := ns.map fun n : Nat => ((n : Nat) : Int)) (ev_var rfl) (by rw [← niV_sum]; exact sq_of (x5 _ _ hm))) (by rw [sum_cast])) (ex_dp x5 hd) hb hz)) (fun hb2 => ?_) fun hb2 => ?_) fun H6 e6 => q H6 (x5.trans e6)
  · rw [if_pos hb2]
    exact ec_result (ev_var rfl) (ev_var rfl) (ex_dp x5 hd) (sq_of (x5 _ _ hm)) (by omega)
  · rw [if_neg (by rw [hb2]; decide)]
    exact ev_c
end

--@SPLIT
/-! ### the width of a plan: a lambda that captures the widths -/
def lamQ (x : Str) : Str := (x ++ ".<locals>.") ++ "<lambda>"
def WT (K : PySem.W.Frag) (H : Hp) : Prop := LamX.TabS H (tabOf K "width_of") (lamQ "width_of")
section
variable {K : PySem.W.Frag} {H : Hp} {c : Addr} {o : Obj}
theorem rd_wo {a : Addr} {u : HO} (hc : H c = some (ExO c o)) (h : Rd H a u) (n : u ≠ ExO c o) : Rd (wo c H) a u := by
  rcases h with h | ⟨ob, h⟩
  · exact .inl (by rw [wo_ne fun z => by rw [z, hc] at h; exact n (Option.some.inj h).symm]; exact h)
  · exact .inr ⟨ob, by rw [wo_ne fun z => by rw [z, hc] at h; cases h]; exact h⟩
theorem sq_wo {a : Addr} {xs : List V} (hc : H c = some (ExO c o)) (h : SqL K H a xs) : SqL K (wo c H) a xs := h.imp (fun h => rd_wo hc h fun z => nomatch z) id
theorem st_wo {a : Addr} {xs : List V} (hc : H c = some (ExO c o)) (h : SqT K H a xs) : SqT K (wo c H) a xs := h.imp (fun h => rd_wo hc h fun z => nomatch z) id
mutual
theorem dp_wo (hc : H c = some (ExO c o)) : ∀ {v : V} {d : PyData}, Dp K H v d → Dp K (wo c H) v d
  | _, _, .non => .non
  | _, _, .bl b => .bl b
  | _, _, .int i => .int i
  | _, _, .str x => .str x
  | _, _, .lst h a => .lst (sq_wo hc h) (dps_wo hc a)
  | _, _, .tup h a => .tup (st_wo hc h) (dps_wo hc a)
theorem dps_wo (hc : H c = some (ExO c o)) : ∀ {vs : List V} {ds : List PyData}, DpAll K H vs ds → DpAll K (wo c H) vs ds
  | _, _, .nil => .nil
  | _, _, .cons h t => .cons (dp_wo hc h) (dps_wo hc t)
end
end
def okW (o : Pln) (ins : List V) : Prop := ∃ os : List (Option Nat), ins = os.map nvW ∧ os.length = o.kids.length ∧ o.big ≤ 100 ∧ ∀ e ∈ o.exprs, e.sz ≤ 60
theorem phW_nv (ws : List Nat) (o : Pln) (os : List (Option Nat)) : phW ws o (os.map nvW) = nvW (opW ws o os) := by
  unfold phW
  rw [List.map_map, show unW ∘ nvW = id from funext fun x => un_nv x, List.map_id]
def sp_width_of (K : PySem.W.Frag) : Sp := fun vs H Q _ => ∃ (v : V) (a : Addr) (p : Pln) (ws : List Nat), vs = [v, .ref a] ∧ Dp K H v p.d ∧ p.pre.length ≤ 200 ∧ (∀ o ∈ p.pre, o.big ≤ 100 ∧ ∀ e ∈ o.exprs, e.sz ≤ 60) ∧ SqL K H a (niV ws) ∧ WT K H ∧ ∀ H', Q (nvW (wid ws p)) H'
section
variable {P : Program} {w : World} {K : PySem.W.Frag} {mg : Str → Option Value} {base : Heap}
theorem nsc41 {scope : Scope} (h : NdefX.nscB ["operator", "inputs", "widths"] ["operator", "inputs"] ["widths"] scope = true) : NdefX.NScope ["operator", "inputs", "widths"] ["operator", "inputs"] ["widths"] scope := NdefX.nscope_by h
theorem ok_width_of {lc : Addr} (D : DnC K mg "width_of" s_width_of ["plan", "widths"] (.ref lc)) (TB : LamX.TabB base mg lc (tabOf K "width_of")) (c_worked_up : C8.Cal P w K mg base 31 "worked_up" (sp_worked_up P w K mg base) []) (c__operator_width : C8.Cal P w K mg base 4 "_operator_width" (sp__operator_width K) []) :
    C8.Cal P w K mg base 32 "width_of" (sp_width_of K) [] := by
  refine cal_cd D sc_width_of (fun vs H Q E h => ?_) (fun f A outer s H vs Q E hr h => ?_)
  · obtain ⟨_, _, _, _, rfl, _⟩ := h
    rfl
  refine ⟨_, (pss_one (ps_ret (pe_cLam c_worked_up hr (by decide) (by rfl) (j := 1) rfl rfl rfl (pa_cons (pv 0) (pa_cons (pe_lambF TB rfl rfl (NdefX.ndef_free (sc := C8.fnScope s_width_of) (fr := ["widths"]) (by decide +kernel))) pa_nil))))), ?_⟩
  obtain ⟨v, a, p, ws, rfl, hd, hz, hok, hS, hT, q⟩ := h
  refine ⟨.ref a, rfl, v, rfl, hT, fun f c' H1 hf ext oth tab hF hC => fun o x hn ho ru => ?_⟩
  have hF' : H1 f = some (ClO f c' (lamQ "width_of") _ _ _ [("widths", cellAt _ "widths")]) := hF
  generalize cellAt _ _ = c at hn hF' ⊢
  have hC' : H1 c' = some (LamX.CodeO c' (lamQ "width_of")) := hC
  have x1 : Ex (noT H) H1 := ex_noT ext
  have up : Ex H1 (upd H1 c (ExO c o)) := Ex.new hn
  have x2 : Ex (noT H) (upd H1 c (ExO c o)) := x1.trans up
  have C : CallH P w K mg base 30 (upd H1 c (ExO c o)) f (spWork K okW (phW ws)) := by
    refine callH_lam (k := 29) (N := ["operator", "inputs", "widths"]) (ps := ["operator", "inputs"]) (x := .ref a) (up _ _ hF') (up _ _ hC') upd_same ho ru (nsc41 (by decide +kernel)) (fun _ _ _ _ _ us hl => match us, hl with | [_, _], _ => rfl) (fun vs H2 Q h => ?_) fun A outer s H2 vs Q e2 rm h => ?_
    · obtain ⟨_, _, _, _, rfl, _⟩ := h
      rfl
    · obtain ⟨v2, m, op, ins, rfl, hd2, hm, ⟨os, rfl, hl, hb, hsz⟩, q⟩ := h
      have hcc : H2 c = some (ExO c o) := e2 _ _ upd_same
      refine ⟨_, C8.pe_c c__operator_width rm (by decide) (by rfl) (pa_cons (pv 0) (pa_cons (pv 1) (pa_cons (pv 2) pa_nil))), ?_⟩
      have hmc : m ≠ c := fun z => by rw [z, hcc] at hm; cases hm
      refine (ev_call (sp := sp__operator_width K) (dvs := []) (vs := [v2, .ref m, .ref a]) (z := nvW (opW ws op os)) (σ := NdefX.startF ["operator", "inputs", "widths"] [v2, .ref m] [some (.ref a)]) (ea_cons (ev_var rfl) (ea_cons (ev_var rfl) (ea_cons (ev_var rfl) ea_nil))) fun H3 e3 Q3 q3 E3 => ⟨v2, m, a, op, os, ws, rfl, ex_dp e3 (dp_wo hcc hd2), e3 _ _ ((wo_ne hmc).trans hm), hl, ex_l e3 (sq_wo hcc (ex_l e2 (ex_l x2 (sq_noT hS)))), hb, hsz, q3⟩) (wo c H2) (Ex.refl _) _ fun H3 e3 => ?_
      rw [← phW_nv]
      refine q _ fun b ob hb => ?_
      by_cases hz : b = c
      · rw [hz, hcc] at hb
        rw [hz, upd_same]
        exact hb
      · rw [upd_ne hz]
        exact e3 _ _ ((wo_ne hz).trans hb)
  refine ⟨v, f, p, okW, phW ws, rfl, ex_dp x2 (dp_noT hd), hz, C, fun op ho => ⟨op.kids.map (wid ws), ?_, List.length_map _, hok op ho⟩, fun H2 e2 => ⟨e2 _ _ upd_same, ?_⟩⟩
  · rw [List.map_map]
    exact List.map_congr_left fun k _ => fold_wid ws k
  · rw [fold_wid]
    exact q _
end

--@SPLIT
/-! ### the law's first plan, its columns -/
def srcP (n wr wd : Nat) : Pln := if wr = 1 then .table (2 + n % 5) else if wr = 2 then .rows wd [wd, if n % 2 = 0 then wd + 1 else wd - 1] else if n % 3 = 0 then .rows wd [wd] else .table 0
def colC (n wd : Nat) (bad : Bool) : Cnd := if bad = true then .bin "add" (.cst (.int 1)) (.col (wd + n % 3)) else .col (n % wd)
def sp__law_source (K : PySem.W.Frag) : Sp := fun vs H Q _ => ∃ (n wr wd : Nat), vs = [.int (n : Int), .int (wr : Int), .int (wd : Int)] ∧ 1 ≤ wd ∧ wd ≤ 100 ∧ ∀ v H', Ex H H' → Dp K H' v (srcP n wr wd).d → Q v H'
def sp__law_column (K : PySem.W.Frag) : Sp := fun vs H Q _ => ∃ (n wd : Nat) (bad : Bool), vs = [.int (n : Int), .int (wd : Int), .bl bad] ∧ 1 ≤ wd ∧ wd ≤ 100 ∧ ∀ v H', Ex H H' → Dp K H' v (colC n wd bad).d → Q v H'
section
variable {K : PySem.W.Frag} {σ : L2.St} {H : Hp} {ta tb tc te tl tn : TE} {tr : TA} {D : Ends} {E : XK} {tz : TS} {t : TT}
theorem sd_ret {d : PyData} (h : EvD K te σ H d) (k : ∀ v H1, Ex H H1 → Dp K H1 v d → D.rt v H1) : tRet te D σ H := h H (Ex.refl H) _ k
theorem q_asgD {d : PyData} {i : Nat} (h : EvD K te σ H d) (k : ∀ v H1, Ex H H1 → Dp K H1 v d → tz D (σ.set i (some v)) H1) : tSeq (tAsg te (gName i)) tz D σ H := h H (Ex.refl H) _ k
theorem ed_bin {nm : Str} {a b : Cnd} (hn : Ev tn σ H (.str nm)) (ha : EvD K ta σ H a.d) (hb : EvD K tb σ H b.d) : EvD K (tTup (tCons (tC (.str "binary")) (tCons tn (tCons ta (tCons tb tNil))))) σ H (Cnd.bin nm a b).d :=
  ed_tupU (ud_tup (ad_cons (ed_val ev_c (.str _)) (ad_cons (ed_val hn (.str _)) (ad_cons ha (ad_cons hb ad_nil)))) (by show 4 ≤ 100000; decide))
theorem ed_colE {n : Nat} (ha : Ev ta σ H (.int (n : Int))) : EvD K (tTup (tCons (tC (.str "column")) (tCons ta tNil))) σ H (Cnd.col n).d :=
  ed_tupU (ud_tup (ad_cons (ed_val ev_c (.str _)) (ad_cons (ed_val ha (.int _)) ad_nil)) (by show 2 ≤ 100000; decide))
theorem ld_el {xs : List V} {ds : List PyData} (h : EvL te σ H xs) (hd : ∀ H1, DpAll K H1 xs ds) : EvLD K te σ H ds := fun H1 e Q q => h H1 e _ fun p H2 hp e2 h2 => q p H2 xs hp e2 h2 (hd H2)
theorem dps_zeros {K : PySem.W.Frag} {H : Hp} : ∀ n : Nat, DpAll K H (List.replicate n (.int 0)) (List.replicate n (.int 0))
  | 0 => .nil
  | n + 1 => .cons (.int 0) (dps_zeros n)
/-- tuple([0 for k in range(n)]) -/
theorem ed_zeros {j n : Nat} {vs : List Nat} (h : EvA tr σ H [.int (n : Int)]) (hn : n ≤ 1000) (hw : ∀ x, wipe ((wipe σ vs).set j (some x)) vs = wipe σ vs) : EvD K (tCB (fun xs H Q => ∃ p ys, xs = [.ref p] ∧ ((SqL K H p ys ∧ ∀ l, H l = none → Q (.ref l) (upd H l (.tup ys))) ∨ (SqT K H p ys ∧ Q (.ref p) H))) (tCons (tLc (iRng1 tr) (gName j) tYes (tC (.int 0)) vs) tNil)) σ H (zerosD n) := by
  have h1 := el_lcR1 (t := tYes) (te := tC (.int 0)) (fun _ => true) (fun _ => .int 0) h ⟨by omega, by omega⟩ hw (fun i H1 _ _ => fun H2 e Q q => q H2 (Ex.refl H2)) fun i H1 e hi _ => ev_c
  rw [given_all, Int.toNat_natCast, List.map_const', List.length_range] at h1
  exact ed_tupU (ud_tuple (ld_el h1 fun H1 => dps_zeros n))
theorem ev_ixN {xs : List V} {x : V} {i : Nat} (h : EvL te σ H xs) (hb : ∀ H1, Ex H H1 → Ev tb σ H1 (.int (i : Int))) (hi : xs[i]? = some x) : Ev (tOp (rIxL K) te tb) σ H x := ev_opL1 h hb fun p H1 h1 _ => rv_ixL (sq_of h1) (atI_nat hi)
theorem st_self {i : Nat} {u : V} (h : σ[i]? = some (some u)) : σ.set i (some u) = σ := by
  refine List.ext_getElem? fun j => ?_
  rw [List.getElem?_set]
  by_cases e : i = j
  · subst e
    have := (List.getElem?_eq_some_iff.mp h).1
    rw [if_pos rfl, if_pos this, h]
  · rw [if_neg e]
/-- if t: x = e -/
theorem q_condAsg {i : Nat} {b : Bool} {u v : V} (hσ : σ[i]? = some (some u)) (h : EvT t σ H b) (h1 : b = true → ∀ H1, Ex H H1 → Ev te σ H1 v) (k : ∀ H1, Ex H H1 → tz D (σ.set i (some (if b = true then v else u))) H1) : tSeq (tIfS t (tAsg te (gName i)) tNext) tz D σ H := by
  refine q_when h (fun hb H1 e1 => ?_) fun hb H1 e1 => ?_
  · refine h1 hb H1 e1 H1 (Ex.refl H1) _ fun H2 e2 => ?_
    have := k H2 (e1.trans e2)
    rw [if_pos hb] at this
    exact this
  · have := k H1 e1
    rw [if_neg (by rw [hb]; decide), st_self hσ] at this
    exact this
end
section
variable {P : Program} {w : World} {K : PySem.W.Frag} {mg : Str → Option Value} {base : Heap}
theorem ok__law_source (D : Dn K mg "_law_source" s__law_source ["number", "wrong", "width"]) (z_int : mg "int" = none) (z_range : mg "range" = none) (z_tuple : mg "tuple" = none) :
    C8.Cal P w K mg base 1 "_law_source" (sp__law_source K) [] := by
  refine cal_of D sc__law_source (fun vs H Q E h => ?_) (fun f cdv A outer s H vs Q E hr h => ?_)
  · obtain ⟨_, _, _, rfl, _⟩ := h
    rfl
  refine ⟨_, (pss_cons (ps_if (pt_cmpR op_eq (pv 1) pe_int (nomark _))
      (pss_one (ps_ret (pe_tup (pa_cons pe_str (pa_cons (pe_op op_add pe_int (pe_op op_mod (pe_callTy call_int1 (by rfl) z_int (by decide +kernel) (pa_cons (pv 0) pa_nil)) pe_int)) pa_nil)))))
      pss_nil)
    (pss_cons (ps_if (pt_cmpR op_eq (pv 1) pe_int (nomark _))
      (pss_one (ps_ret (pe_tup (pa_cons pe_str (pa_cons (pv 2) (pa_cons (pe_tup (pa_cons (pe_callTy call_tuple_of (by rfl) z_tuple (by decide +kernel) (pa_cons (pe_lc (own := [("k", 3)]) (g := gName 3) (tt := tYes) rfl sc__law_source.nd (pi_range1 rfl z_range (pa_cons (pv 2) pa_nil)) (blkOk_by (N := n__law_source) (sc := C8.fnScope s__law_source) (by decide +kernel)) (fun _ _ _ _ _ => pg_name (i := 3) sc__law_source.nd rfl (Or.inl rfl)) (fun _ _ _ _ _ => pts_nil) (fun _ _ _ _ _ => pe_int)) pa_nil)) (pa_cons (pe_callTy call_tuple_of (by rfl) z_tuple (by decide +kernel) (pa_cons (pe_lc (own := [("k", 3)]) (g := gName 3) (tt := tYes) rfl sc__law_source.nd (pi_range1 rfl z_range (pa_cons (pe_op op_add (pv 2) (pe_ix ix_list (pe_lst (pa_cons pe_int (pa_cons (pe_un un_neg pe_int) pa_nil))) (pe_op op_mod (pe_callTy call_int1 (by rfl) z_int (by decide +kernel) (pa_cons (pv 0) pa_nil)) pe_int) (fun _ _ => rfl))) pa_nil)) (blkOk_by (N := n__law_source) (sc := C8.fnScope s__law_source) (by decide +kernel)) (fun _ _ _ _ _ => pg_name (i := 3) sc__law_source.nd rfl (Or.inl rfl)) (fun _ _ _ _ _ => pts_nil) (fun _ _ _ _ _ => pe_int)) pa_nil)) pa_nil))) pa_nil))))))
      pss_nil)
    (pss_cons (ps_if (pt_cmpR op_eq (pe_op op_mod (pe_callTy call_int1 (by rfl) z_int (by decide +kernel) (pa_cons (pv 0) pa_nil)) pe_int) pe_int (nomark _))
      (pss_one (ps_ret (pe_tup (pa_cons pe_str (pa_cons (pv 2) (pa_cons (pe_tup (pa_cons (pe_callTy call_tuple_of (by rfl) z_tuple (by decide +kernel) (pa_cons (pe_lc (own := [("k", 3)]) (g := gName 3) (tt := tYes) rfl sc__law_source.nd (pi_range1 rfl z_range (pa_cons (pv 2) pa_nil)) (blkOk_by (N := n__law_source) (sc := C8.fnScope s__law_source) (by decide +kernel)) (fun _ _ _ _ _ => pg_name (i := 3) sc__law_source.nd rfl (Or.inl rfl)) (fun _ _ _ _ _ => pts_nil) (fun _ _ _ _ _ => pe_int)) pa_nil)) pa_nil)) pa_nil))))))
      pss_nil)
    (pss_one (ps_ret (pe_tup (pa_cons pe_str (pa_cons pe_int pa_nil)))))))), ?_⟩
  obtain ⟨n, wr, wd, rfl, h1, h2, q⟩ := h
  refine q_when (b := decide (V.int (wr : Int) = V.int 1)) (et_test (ev_op (ev_var rfl) ev_c (rv_eq rfl))) (fun hb H1 e1 => ?_) fun hb H1 e1 => ?_
  · have hw : wr = 1 := by have := V.int.inj (of_decide_eq_true hb); omega
    have e : srcP n wr wd = .table (2 + n % 5) := by unfold srcP; rw [if_pos hw]
    rw [e] at q
    refine sd_ret (ed_tupU (ud_tup (ad_cons (ed_val ev_c (.str _)) (ad_cons (ed_val (ev_is (w := .int ((2 + n % 5 : Nat) : Int)) (ev_op ev_c (ev_op (ev_int (ev_var rfl)) ev_c (rv_I (by decide))) rv_I0) (by rw [Int.natCast_add, Int.natCast_emod]; rfl)) (.int _)) ad_nil)) (by show 2 ≤ 100000; decide))) fun v H2 e2 hd => q v H2 (e1.trans e2) hd
  have hw1 : wr ≠ 1 := fun z => by rw [z] at hb; cases hb
  refine q_when (b := decide (V.int (wr : Int) = V.int 2)) (et_test (ev_op (ev_var rfl) ev_c (rv_eq rfl))) (fun hb2 H2 e2 => ?_) fun hb2 H2 e2 => ?_
  · have hw : wr = 2 := by have := V.int.inj (of_decide_eq_true hb2); omega
    have e : srcP n wr wd = .rows wd [wd, if n % 2 = 0 then wd + 1 else wd - 1] := by unfold srcP; rw [if_neg hw1, if_pos hw]
    rw [e] at q
    generalize hm : (if n % 2 = 0 then wd + 1 else wd - 1) = m at q
    have hm2 : m ≤ 101 := by rw [← hm]; split <;> omega
    have hat : ∃ x : Int, ([.int 1, .int (-1)] : List V)[n % 2]? = some (.int x) ∧ (wd : Int) + x = (m : Int) := by
      rcases Nat.mod_two_eq_zero_or_one n with z | z
      · rw [z] at hm ⊢
        exact ⟨1, rfl, by rw [← hm, if_pos rfl]; omega⟩
      · rw [z] at hm ⊢
        exact ⟨-1, rfl, by rw [← hm, if_neg (by decide)]; omega⟩
    obtain ⟨x, hx, hxm⟩ := hat
    exact sd_ret (ed_tupU (ud_tup (ad_cons (ed_val ev_c (.str _)) (ad_cons (ed_val (ev_var rfl) (.int _)) (ad_cons (ed_tupU (ud_tup (ad_cons (ed_zeros (n := wd) (ea_cons (ev_var rfl) ea_nil) (by omega) (fun _ => rfl)) (ad_cons (ed_zeros (n := m) (ea_cons (ev_is (ev_op (ev_var rfl) (ev_ixN (i := n % 2) (el_lst (ea_cons ev_c (ea_cons (ev_un ev_c ru_neg) ea_nil)) (by show 2 ≤ 100000; decide)) (fun _ _ => ev_is (ev_op (ev_int (ev_var rfl)) ev_c (rv_I (by decide))) (by rw [Int.natCast_emod]; rfl)) hx) rv_I0) (by rw [hxm])) ea_nil) (by omega) (fun _ => rfl)) ad_nil)) (by show 2 ≤ 100000; decide))) ad_nil))) (by show 3 ≤ 100000; decide))) fun v H4 e4 hd => q v H4 (e1.trans (e2.trans e4)) hd
  have hw2 : wr ≠ 2 := fun z => by rw [z] at hb2; cases hb2
  refine q_when (b := decide (V.int ((n % 3 : Nat) : Int) = V.int 0)) (et_test (ev_op (ev_is (w := .int ((n % 3 : Nat) : Int)) (ev_op (ev_int (ev_var rfl)) ev_c (rv_I (by decide))) (by rw [Int.natCast_emod]; rfl)) ev_c (rv_eq rfl))) (fun hb3 H3 e3 => ?_) fun hb3 H3 e3 => ?_
  · have hn : n % 3 = 0 := by have := V.int.inj (of_decide_eq_true hb3); omega
    have e : srcP n wr wd = .rows wd [wd] := by unfold srcP; rw [if_neg hw1, if_neg hw2, if_pos hn]
    rw [e] at q
    exact sd_ret (ed_tupU (ud_tup (ad_cons (ed_val ev_c (.str _)) (ad_cons (ed_val (ev_var rfl) (.int _)) (ad_cons (ed_tupU (ud_tup (ad_cons (ed_zeros (n := wd) (ea_cons (ev_var rfl) ea_nil) (by omega) (fun _ => rfl)) ad_nil) (by show 1 ≤ 100000; decide))) ad_nil))) (by show 3 ≤ 100000; decide))) fun v H4 e4 hd => q v H4 (e1.trans (e2.trans (e3.trans e4))) hd
  · have hn : n % 3 ≠ 0 := fun z => by rw [z] at hb3; cases hb3
    have e : srcP n wr wd = .table 0 := by unfold srcP; rw [if_neg hw1, if_neg hw2, if_neg hn]
    rw [e] at q
    exact sd_ret (ed_tupU (ud_tup (ad_cons (ed_val ev_c (.str _)) (ad_cons (ed_val ev_c (.int _)) ad_nil)) (by show 2 ≤ 100000; decide))) fun v H4 e4 hd => q v H4 (e1.trans (e2.trans (e3.trans e4))) hd
theorem ok__law_column (D : Dn K mg "_law_column" s__law_column ["number", "width", "wrong"]) (z_int : mg "int" = none) :
    C8.Cal P w K mg base 1 "_law_column" (sp__law_column K) [] := by
  refine cal_of D sc__law_column (fun vs H Q E h => ?_) (fun f cdv A outer s H vs Q E hr h => ?_)
  · obtain ⟨_, _, _, rfl, _⟩ := h
    rfl
  refine ⟨_, (pss_cons (ps_if (pt_val (pv 2))
      (pss_one (ps_ret (pe_tup (pa_cons pe_str (pa_cons pe_str (pa_cons (pe_tup (pa_cons pe_str (pa_cons pe_int pa_nil))) (pa_cons (pe_tup (pa_cons pe_str (pa_cons (pe_op op_add (pv 1) (pe_op op_mod (pe_callTy call_int1 (by rfl) z_int (by decide +kernel) (pa_cons (pv 0) pa_nil)) pe_int)) pa_nil))) pa_nil)))))))
      pss_nil)
    (pss_one (ps_ret (pe_tup (pa_cons pe_str (pa_cons (pe_op op_mod (pe_callTy call_int1 (by rfl) z_int (by decide +kernel) (pa_cons (pv 0) pa_nil)) (pv 1)) pa_nil)))))), ?_⟩
  obtain ⟨n, wd, bad, rfl, h1, h2, q⟩ := h
  refine q_when (b := bad) (et_B (ev_var rfl)) (fun hb H1 e1 => ?_) fun hb H1 e1 => ?_
  · have e : colC n wd bad = .bin "add" (.cst (.int 1)) (.col (wd + n % 3)) := by unfold colC; rw [if_pos hb]
    rw [e] at q
    exact sd_ret (ed_bin ev_c (a := .cst (.int 1)) (ed_tupU (ud_tup (ad_cons (ed_val ev_c (.str _)) (ad_cons (ed_val ev_c (.int _)) ad_nil)) (by show 2 ≤ 100000; decide))) (ed_colE (ev_is (ev_op (ev_var rfl) (ev_op (ev_int (ev_var rfl)) ev_c (rv_I (by decide))) rv_I0) (by rw [Int.natCast_add, Int.natCast_emod]; rfl)))) fun v H2 e2 hd => q v H2 (e1.trans e2) hd
  · have e : colC n wd bad = .col (n % wd) := by unfold colC; rw [if_neg (by rw [hb]; decide)]
    rw [e] at q
    exact sd_ret (ed_colE (ev_is (ev_op (ev_int (ev_var rfl)) (ev_var rfl) (rv_I (by omega))) (by rw [Int.natCast_emod]))) fun v H2 e2 hd => q v H2 (e1.trans e2) hd
end

--@SPLIT
/-! ### one step of the law's plan -/
def GoodP (p : Pln) : Prop := ∀ o ∈ p.pre, o.big ≤ 100 ∧ ∀ e ∈ o.exprs, e.sz ≤ 60
structure Step (ws : List Nat) (p : Pln) (wd wr : Nat) (p' : Pln) (wd' : Nat) : Prop where
  len : p'.pre.length ≤ p.pre.length + 2
  bnd : GoodP p → GoodP p'
  lo : 1 ≤ wd'
  hi : wd' ≤ wd + 2
  non : wid ws p = none → wid ws p' = none
  good : wid ws p = some wd → wr = 0 → wid ws p' = some wd'
  bad : wid ws p = some wd → wr = 3 ∨ wr = 4 → wid ws p' = none
def knE (e : Cnd) (m : Nat) : Bool := (used e).all fun n => decide (n < m)
theorem step_one {ws : List Nat} {p o : Pln} {wd wr wd' : Nat} (hk : o.kids = [p]) (hl : o.leaf = false) (hu : ∀ ns, badU ns o = false) (hj : ∀ ns, badJ ns o = false) (hb : o.big ≤ 100) (hz : ∀ e ∈ o.exprs, e.sz ≤ 60) (hw : resW [wd] o = wd') (hlo : 1 ≤ wd') (hhi : wd' ≤ wd + 2) (h4 : wr ≠ 4) (hkn : knownB o.exprs wd = !decide (wr = 3)) : Step ws p wd wr o wd' := by
  have hp : o.pre = o :: p.pre := by rw [pre_is, hk]; simp
  have hwd : wid ws o = opW ws o [wid ws p] := by rw [wid_is, hk]; rfl
  have hsome : wid ws p = some wd → wid ws o = if knownB o.exprs wd = true then some wd' else none := fun h => by
    rw [hwd, h]
    unfold opW
    rw [if_neg (by rw [hl]; decide), if_neg (show ¬ ([some wd].any (fun x : Option Nat => x.isNone) = true) by simp), if_neg (by rw [hu]; decide), if_neg (by rw [hj]; decide)]
    show (if knownB o.exprs ([wd].sum) = true then some (resW [wd] o) else none) = _
    rw [hw]
    rfl
  refine ⟨by rw [hp, List.length_cons]; omega, fun g x hx => ?_, hlo, hhi, fun h => ?_, fun h h0 => ?_, fun h hb => ?_⟩
  · rw [hp] at hx
    rcases List.mem_cons.mp hx with rfl | hx
    · exact ⟨hb, hz⟩
    · exact g x hx
  · rw [hwd, h]
    unfold opW
    rw [if_neg (by rw [hl]; decide), if_pos (show [none].any (fun x : Option Nat => x.isNone) = true by decide)]
  · rw [hsome h, if_pos (by rw [hkn, h0]; decide)]
  · rw [hsome h, if_neg (by rw [hkn, hb.resolve_right h4]; decide)]
theorem step_two {ws : List Nat} {p q o : Pln} {wd wr wd' m : Nat} (hk : o.kids = [p, q]) (hl : o.leaf = false) (hq : wid ws q = some m) (hqp : q.kids = []) (hqb : q.big ≤ 100) (hqe : q.exprs = []) (hb : o.big ≤ 100) (hz : ∀ e ∈ o.exprs, e.sz ≤ 60) (hw : resW [wd, m] o = wd') (hlo : 1 ≤ wd') (hhi : wd' ≤ wd + 2)
    (hg : wr = 0 → badU [wd, m] o = false ∧ badJ [wd, m] o = false ∧ knownB o.exprs (wd + m) = true) (hbad : wr = 3 ∨ wr = 4 → badU [wd, m] o = true ∨ badJ [wd, m] o = true ∨ knownB o.exprs (wd + m) = false) : Step ws p wd wr o wd' := by
  have hqq : q.pre = [q] := by rw [pre_is, hqp]; rfl
  have hp : o.pre = o :: (p.pre ++ [q]) := by rw [pre_is, hk]; simp [hqq]
  have hwd : wid ws o = opW ws o [wid ws p, some m] := by rw [wid_is, hk, ← hq]; rfl
  have hsome : wid ws p = some wd → wid ws o = if badU [wd, m] o = true then none else if badJ [wd, m] o = true then none else if knownB o.exprs (wd + m) = true then some wd' else none := fun h => by
    rw [hwd, h]
    unfold opW
    rw [if_neg (by rw [hl]; decide), if_neg (show ¬ ([some wd, some m].any (fun x : Option Nat => x.isNone) = true) by simp)]
    show (if badU [wd, m] o = true then none else if badJ [wd, m] o = true then none else if knownB o.exprs ([wd, m].sum) = true then some (resW [wd, m] o) else none) = _
    rw [hw]
    rfl
  refine ⟨by rw [hp, List.length_cons, List.length_append, List.length_singleton]; omega, fun g x hx => ?_, hlo, hhi, fun h => ?_, fun h h0 => ?_, fun h hb => ?_⟩
  · rw [hp] at hx
    rcases List.mem_cons.mp hx with rfl | hx
    · exact ⟨hb, hz⟩
    · rcases List.mem_append.mp hx with hx | hx
      · exact g x hx
      · rw [List.mem_singleton] at hx
        subst hx
        exact ⟨hqb, by rw [hqe]; intro e he; cases he⟩
  · rw [hwd, h]
    unfold opW
    rw [if_neg (by rw [hl]; decide), if_pos (by simp)]
  · obtain ⟨g1, g2, g3⟩ := hg h0
    rw [hsome h, if_neg (by rw [g1]; decide), if_neg (by rw [g2]; decide), if_pos g3]
  · rw [hsome h]
    by_cases g1 : badU [wd, m] o = true
    · rw [if_pos g1]
    rw [if_neg g1]
    by_cases g2 : badJ [wd, m] o = true
    · rw [if_pos g2]
    rw [if_neg g2]
    rcases hbad hb with h | h | h
    · exact (g1 h).elim
    · exact (g2 h).elim
    · rw [if_neg (by rw [h]; decide)]
theorem col_sz (n wd : Nat) (bad : Bool) : (colC n wd bad).sz ≤ 3 := by unfold colC; split <;> simp [Cnd.sz]
theorem col_kn {n wd : Nat} (bad : Bool) (h : 1 ≤ wd) : knE (colC n wd bad) wd = !bad := by
  cases bad with
  | true =>
    show ([wd + n % 3].all fun x => decide (x < wd)) = false
    simp
  | false =>
    show ([n % wd].all fun x => decide (x < wd)) = true
    have := Nat.mod_lt n (show wd > 0 by omega)
    simp [this]
def sp__law_operator (K : PySem.W.Frag) : Sp := fun vs H Q _ => ∃ (v : V) (p : Pln) (wd n wr : Nat) (ws : List Nat), vs = [v, .int (wd : Int), .int (n : Int), .int (wr : Int)] ∧ Dp K H v p.d ∧ 1 ≤ wd ∧ wd ≤ 50 ∧ (wr = 0 ∨ wr = 3 ∨ (wr = 4 ∧ 8 ≤ n % 12)) ∧ ws[1]? = some 2 ∧ ∀ q H' ys p' wd', Ex H H' → H' q = some (.tup ys) → DpAll K H' ys [p'.d, .int ((wd' : Nat) : Int)] → Step ws p wd wr p' wd' → Q (.ref q) H'
section
variable {K : PySem.W.Frag} {σ : L2.St} {H : Hp} {ta tb tc te tl tn : TE} {tr : TA} {D : Ends} {E : XK} {tz : TS} {t : TT}
theorem s_retUD {ds : List PyData} (h : EvUD K te σ H ds) (k : ∀ q H1 ys, H q = none → Ex H H1 → H1 q = some (.tup ys) → DpAll K H1 ys ds → D.rt (.ref q) H1) : tRet te D σ H := h H (Ex.refl H) _ k
theorem q_condD {i : Nat} {b : Bool} {u : V} {d1 d2 : PyData} (hσ : σ[i]? = some (some u)) (hu : Dp K H u d1) (h : EvT t σ H b) (h1 : b = true → ∀ H1, Ex H H1 → EvD K te σ H1 d2) (k : ∀ v H1, Ex H H1 → Dp K H1 v (if b = true then d2 else d1) → tz D (σ.set i (some v)) H1) : tSeq (tIfS t (tAsg te (gName i)) tNext) tz D σ H := by
  refine q_when h (fun hb H1 e1 => ?_) fun hb H1 e1 => ?_
  · refine h1 hb H1 e1 H1 (Ex.refl H1) _ fun v H2 e2 hv => ?_
    exact k v H2 (e1.trans e2) (by rw [if_pos hb]; exact hv)
  · have := k u H1 e1 (by rw [if_neg (by rw [hb]; decide)]; exact ex_dp e1 hu)
    rw [st_self hσ] at this
    exact this
theorem kn_mono {e : Cnd} {m k : Nat} (h : knE e m = true) (hk : m ≤ k) : (used e).all (fun n => decide (n < k)) = true := by
  rw [List.all_eq_true]
  intro n hn
  have := of_decide_eq_true (List.all_eq_true.mp h n hn)
  rw [decide_eq_true_eq]
  omega
theorem ed_column {n wd : Nat} {bad : Bool} (ha : Ev ta σ H (.int (n : Int))) (hb : Ev tb σ H (.int (wd : Int))) (hc : Ev tc σ H (.bl bad)) (h1 : 1 ≤ wd) (h2 : wd ≤ 100) : EvD K (tCall (sp__law_column K) [] E (tCons ta (tCons tb (tCons tc tNil)))) σ H (colC n wd bad).d := fun H1 e Q q =>
  ha H1 e _ fun H2 e2 => hb H2 (e.trans e2) _ fun H3 e3 => hc H3 ((e.trans e2).trans e3) _ fun H4 e4 => ⟨n, wd, bad, rfl, h1, h2, fun v H5 e5 hd => q v H5 (((e2.trans e3).trans e4).trans e5) hd⟩
end
section
variable {P : Program} {w : World} {K : PySem.W.Frag} {mg : Str → Option Value} {base : Heap}
theorem ok__law_operator (D : Dn K mg "_law_operator" s__law_operator ["plan", "width", "number", "wrong"]) (c__law_column : C8.Cal P w K mg base 1 "_law_column" (sp__law_column K) []) (z_int : mg "int" = none) :
    C8.Cal P w K mg base 2 "_law_operator" (sp__law_operator K) [] := by
  refine cal_of D sc__law_operator (fun vs H Q E h => ?_) (fun f cdv A outer s H vs Q E hr h => ?_)
  · obtain ⟨_, _, _, _, _, _, rfl, _⟩ := h
    rfl
  refine ⟨_, (pss_cons (ps_set (i := 4) sc__law_operator.nd rfl (.inl rfl) (pe_op op_fdiv (pe_callTy call_int1 (by rfl) z_int (by decide +kernel) (pa_cons (pv 2) pa_nil)) pe_int))
    (pss_cons (ps_set (i := 5) sc__law_operator.nd rfl (.inl rfl) (pe_op op_mod (pe_callTy call_int1 (by rfl) z_int (by decide +kernel) (pa_cons (pv 2) pa_nil)) pe_int))
    (pss_cons (ps_set (i := 6) sc__law_operator.nd rfl (.inl rfl) (pe_cmpR op_eq (pv 3) pe_int (nomark _)))
    (pss_cons (ps_set (i := 7) sc__law_operator.nd rfl (.inl rfl) (C8.pe_c c__law_column hr (by decide) (by rfl) (pa_cons (pv 4) (pa_cons (pv 1) (pa_cons (pv 6) pa_nil)))))
    (pss_cons (ps_set (i := 8) sc__law_operator.nd rfl (.inl rfl) (C8.pe_c c__law_column hr (by decide) (by rfl) (pa_cons (pe_op op_fdiv (pv 4) pe_int) (pa_cons (pv 1) (pa_cons pe_bl pa_nil)))))
    (pss_cons (ps_if (pt_cmpR op_eq (pv 5) pe_int (nomark _))
      (pss_one (ps_ret (pe_tup (pa_cons (pe_tup (pa_cons pe_str (pa_cons (pv 7) (pa_cons (pv 0) pa_nil)))) (pa_cons (pv 1) pa_nil)))))
      pss_nil)
    (pss_cons (ps_if (pt_cmpR op_eq (pv 5) pe_int (nomark _))
      (pss_one (ps_ret (pe_tup (pa_cons (pe_tup (pa_cons pe_str (pa_cons (pe_tup (pa_cons (pv 8) (pa_cons (pv 7) pa_nil))) (pa_cons (pv 0) pa_nil)))) (pa_cons pe_int pa_nil)))))
      pss_nil)
    (pss_cons (ps_if (pt_cmpR op_eq (pv 5) pe_int (nomark _))
      (pss_one (ps_ret (pe_tup (pa_cons (pe_tup (pa_cons pe_str (pa_cons (pe_tup (pa_cons (pv 8) (pa_cons (pv 7) pa_nil))) (pa_cons (pe_tup (pa_cons (pe_tup (pa_cons pe_str (pa_cons pe_non pa_nil))) pa_nil)) (pa_cons (pv 0) pa_nil))))) (pa_cons pe_int pa_nil)))))
      pss_nil)
    (pss_cons (ps_if (pt_cmpR op_eq (pv 5) pe_int (nomark _))
      (pss_one (ps_ret (pe_tup (pa_cons (pe_tup (pa_cons pe_str (pa_cons (pe_tup (pa_cons (pv 8) pa_nil)) (pa_cons (pe_tup (pa_cons (pe_tup (pa_cons pe_str (pa_cons pe_non pa_nil))) (pa_cons (pe_tup (pa_cons pe_str (pa_cons (pv 7) pa_nil))) pa_nil))) (pa_cons (pv 0) pa_nil))))) (pa_cons pe_int pa_nil)))))
      pss_nil)
    (pss_cons (ps_if (pt_cmpR op_eq (pv 5) pe_int (nomark _))
      (pss_one (ps_ret (pe_tup (pa_cons (pe_tup (pa_cons pe_str (pa_cons (pe_tup (pa_cons (pv 7) pa_nil)) (pa_cons (pe_tup pa_nil) (pa_cons (pe_tup (pa_cons (pe_tup (pa_cons pe_str (pa_cons pe_non (pa_cons pe_non (pa_cons pe_non pa_nil))))) pa_nil)) (pa_cons (pv 0) pa_nil)))))) (pa_cons (pe_op op_add (pv 1) pe_int) pa_nil)))))
      pss_nil)
    (pss_cons (ps_if (pt_cmpR op_eq (pv 5) pe_int (nomark _))
      (pss_one (ps_ret (pe_tup (pa_cons (pe_tup (pa_cons pe_str (pa_cons (pe_tup pa_nil) (pa_cons (pe_tup (pa_cons (pe_tup (pa_cons (pv 7) (pa_cons pe_bl pa_nil))) pa_nil)) (pa_cons (pe_tup (pa_cons (pe_tup (pa_cons pe_str (pa_cons (pv 8) (pa_cons pe_non (pa_cons pe_non pa_nil))))) pa_nil)) (pa_cons (pv 0) pa_nil)))))) (pa_cons (pe_op op_add (pv 1) pe_int) pa_nil)))))
      pss_nil)
    (pss_cons (ps_if (pt_cmpR op_eq (pv 5) pe_int (nomark _))
      (pss_one (ps_ret (pe_tup (pa_cons (pe_tup (pa_cons pe_str (pa_cons (pe_tup pa_nil) (pa_cons (pe_tup pa_nil) (pa_cons (pe_tup (pa_cons (pe_tup (pa_cons pe_str (pa_cons (pv 8) (pa_cons pe_non (pa_cons pe_non pa_nil))))) (pa_cons (pe_tup (pa_cons pe_str (pa_cons (pv 7) (pa_cons (pe_tup (pa_cons pe_int (pa_cons pe_int pa_nil))) (pa_cons pe_non pa_nil))))) pa_nil))) (pa_cons (pv 0) pa_nil)))))) (pa_cons (pe_op op_add (pv 1) pe_int) pa_nil)))))
      pss_nil)
    (pss_cons (ps_if (pt_cmpR op_eq (pv 5) pe_int (nomark _))
      (pss_one (ps_ret (pe_tup (pa_cons (pe_tup (pa_cons pe_str (pa_cons (pe_tup (pa_cons (pe_tup (pa_cons (pv 8) (pa_cons pe_bl pa_nil))) (pa_cons (pe_tup (pa_cons (pv 7) (pa_cons pe_bl pa_nil))) pa_nil))) (pa_cons pe_int (pa_cons pe_non (pa_cons (pv 0) pa_nil)))))) (pa_cons (pv 1) pa_nil)))))
      pss_nil)
    (pss_cons (ps_if (PW.pt (pw_and (pt_cmpR op_eq (pv 5) pe_int (nomark _)) (pw_and1 (pt_cmpR op_ne (pv 3) pe_int (nomark _)))))
      (pss_one (ps_ret (pe_tup (pa_cons (pe_tup (pa_cons pe_str (pa_cons (pv 0) (pa_cons (pe_tup (pa_cons pe_str (pa_cons (pe_op op_add (pv 1) (pe_callTy call_int1 (by rfl) z_int (by decide +kernel) (pa_cons (pe_cmpR op_eq (pv 3) pe_int (nomark _)) pa_nil))) (pa_cons (pe_tup pa_nil) pa_nil)))) pa_nil)))) (pa_cons (pv 1) pa_nil)))))
      pss_nil)
    (pss_cons (ps_set (i := 9) sc__law_operator.nd rfl (.inl rfl) (pe_ix ix_list (pe_lst (pa_cons pe_str (pa_cons pe_str (pa_cons pe_str (pa_cons pe_str (pa_cons pe_str pa_nil)))))) (pe_op op_mod (pv 4) pe_int) (fun _ _ => rfl)))
    (pss_cons (ps_set (i := 10) sc__law_operator.nd rfl (.inl rfl) pe_int)
    (pss_cons (ps_if (pt_cmpR op_eq (pv 3) pe_int (nomark _))
      (pss_one (ps_set (i := 10) sc__law_operator.nd rfl (.inl rfl) (pe_ix ix_list (pe_lst (pa_cons pe_int (pa_cons pe_int pa_nil))) (pe_op op_mod (pe_op op_fdiv (pv 4) pe_int) pe_int) (fun _ _ => rfl))))
      pss_nil)
    (pss_cons (ps_set (i := 11) sc__law_operator.nd rfl (.inl rfl) (pe_tup (pa_cons pe_str (pa_cons pe_str (pa_cons (pv 8) (pa_cons (pe_tup (pa_cons pe_str (pa_cons (pe_op op_add (pv 1) (pe_op op_mod (pe_op op_fdiv (pv 4) pe_int) pe_int)) pa_nil))) pa_nil))))))
    (pss_cons (ps_if (pt_val (pv 6))
      (pss_one (ps_set (i := 11) sc__law_operator.nd rfl (.inl rfl) (pe_tup (pa_cons pe_str (pa_cons pe_str (pa_cons (pv 8) (pa_cons (pe_tup (pa_cons pe_str (pa_cons (pe_op op_add (pe_op op_add (pv 1) pe_int) (pe_op op_mod (pe_op op_fdiv (pv 4) pe_int) pe_int)) pa_nil))) pa_nil)))))))
      pss_nil)
    (pss_one (ps_ret (pe_tup (pa_cons (pe_tup (pa_cons pe_str (pa_cons (pv 9) (pa_cons (pv 10) (pa_cons (pv 11) (pa_cons (pv 0) (pa_cons (pe_tup (pa_cons pe_str (pa_cons pe_int pa_nil))) pa_nil))))))) (pa_cons (pe_op op_add (pv 1) (pe_ix ix_list (pe_lst (pa_cons pe_int (pa_cons pe_int pa_nil))) (pe_callTy call_int1 (by rfl) z_int (by decide +kernel) (pa_cons (pe_cmpR op_in_seq (pv 9) (pe_tup (pa_cons pe_str (pa_cons pe_str pa_nil))) (by with_unfolding_all rfl)) pa_nil)) (fun _ _ => rfl))) pa_nil)))))))))))))))))))))))), ?_⟩
  obtain ⟨v, p, wd, n, wr, ws, rfl, hd, h1, h2, hwr, hws, q⟩ := h
  refine q_asg (v := .int ((n / 12 : Nat) : Int)) (ev_is (ev_op (ev_int (ev_var rfl)) ev_c (rv_I ⟨by decide, by decide⟩)) (by rw [Int.natCast_ediv]; rfl)) fun H1 e1 => ?_
  refine q_asg (v := .int ((n % 12 : Nat) : Int)) (ev_is (ev_op (ev_int (ev_var rfl)) ev_c (rv_I (by decide))) (by rw [Int.natCast_emod]; rfl)) fun H2 e2 => ?_
  generalize n / 12 = r
  have hc12 : n % 12 < 12 := Nat.mod_lt _ (by decide)
  generalize n % 12 = c at hwr hc12
  refine q_asg (v := .bl (decide (wr = 3))) (ev_is (ev_op (ev_var rfl) ev_c (rv_eq rfl)) ?_) fun H3 e3 => ?_
  · congr 1
    rw [decide_eq_decide]
    exact ⟨fun h => by have := V.int.inj h; omega, fun h => by rw [h]; rfl⟩
  have hbd : decide (wr = 3) = true → wr = 3 := of_decide_eq_true
  refine q_asgD (ed_column (n := r) (ev_var rfl) (ev_var rfl) (ev_var rfl) h1 (by omega)) fun vo H4 e4 d4 => ?_
  refine q_asgD (ed_column (n := r / 3) (bad := false) (ev_is (ev_op (ev_var rfl) ev_c (rv_I ⟨by decide, by decide⟩)) (by rw [Int.natCast_ediv]; rfl)) (ev_var rfl) ev_c h1 (by omega)) fun vg H5 e5 d5 => ?_
  have x5 := (((e1.trans e2).trans e3).trans e4).trans e5
  have hkg := col_kn (n := r / 3) false h1
  have hko := col_kn (n := r) (decide (wr = 3)) h1
  have hso := col_sz r wd (decide (wr = 3))
  have hsg := col_sz (r / 3) wd false
  have d4' := ex_dp e5 d4
  have dp5 := ex_dp x5 hd
  have hof : ∀ {m : Nat}, (colC (r / 3) wd false) = .col (r / 3 % wd) := rfl
  generalize hog : colC (r / 3) wd false = og at hkg hsg d5
  generalize colC r wd (decide (wr = 3)) = oo at hko hso d4'
  have K1 : knownB [oo] wd = !decide (wr = 3) := by
    show (knE oo wd && true) = _
    rw [hko, Bool.and_true]
  have K2 : knownB [og, oo] wd = !decide (wr = 3) := by
    show (knE og wd && (knE oo wd && true)) = _
    rw [hkg, hko]
    simp
  have K3 : knownB [oo, og] wd = !decide (wr = 3) := by
    show (knE oo wd && (knE og wd && true)) = _
    rw [hkg, hko]
    simp
  have Z1 : ∀ e ∈ [oo], e.sz ≤ 60 := fun e he => by rw [List.mem_singleton] at he; rw [he]; omega
  have Z2 : ∀ e ∈ [og, oo], e.sz ≤ 60 := fun e he => by
    rcases List.mem_cons.mp he with rfl | he
    · omega
    · exact Z1 e he
  have Z3 : ∀ e ∈ [oo, og], e.sz ≤ 60 := fun e he => by
    rcases List.mem_cons.mp he with rfl | he
    · omega
    · rw [List.mem_singleton] at he; rw [he]; omega
  have y := Ex.refl H5
  refine q_when (b := decide (V.int (c : Int) = V.int 0)) (et_test (ev_op (ev_var rfl) ev_c (rv_eq rfl))) (fun hb H6 e6 => ?_) fun hb0 H6 e6 => ?_
  · have y := y.trans e6
    have hck : c = 0 := by have := V.int.inj (of_decide_eq_true hb); omega
    exact s_retUD (ud_tup (ad_cons (ed_tupU (ud_tup (ad_cons (ed_val ev_c (.str _)) (ad_cons (ed_val (ev_var rfl) (ex_dp y d4')) (ad_cons (ed_val (ev_var rfl) (ex_dp y dp5)) ad_nil))) (by show 3 ≤ 100000; decide))) (ad_cons (ed_val (ev_var rfl) (.int _)) ad_nil)) (by show 2 ≤ 100000; decide)) fun q2 H7 ys _ e7 h7 hd7 => q q2 H7 ys (.filter oo p) (wd) (x5.trans (y.trans e7)) h7 hd7 (step_one rfl rfl (fun _ => rfl) (fun _ => rfl) (by first | (show 0 ≤ 100; decide) | (show 1 ≤ 100; decide) | (show 2 ≤ 100; decide) | (show 3 ≤ 100; decide)) Z1 rfl (by omega) (by omega) (by omega) K1)
  replace hb0 : c ≠ 0 := fun z => by rw [z] at hb0; cases hb0
  replace y := y.trans e6
  refine q_when (b := decide (V.int (c : Int) = V.int 1)) (et_test (ev_op (ev_var rfl) ev_c (rv_eq rfl))) (fun hb H6 e6 => ?_) fun hb1 H6 e6 => ?_
  · have y := y.trans e6
    have hck : c = 1 := by have := V.int.inj (of_decide_eq_true hb); omega
    exact s_retUD (ud_tup (ad_cons (ed_tupU (ud_tup (ad_cons (ed_val ev_c (.str _)) (ad_cons (ed_tupU (ud_tup (ad_cons (ed_val (ev_var rfl) (ex_dp y d5)) (ad_cons (ed_val (ev_var rfl) (ex_dp y d4')) ad_nil)) (by show 2 ≤ 100000; decide))) (ad_cons (ed_val (ev_var rfl) (ex_dp y dp5)) ad_nil))) (by show 3 ≤ 100000; decide))) (ad_cons (ed_val ev_c (.int _)) ad_nil)) (by show 2 ≤ 100000; decide)) fun q2 H7 ys _ e7 h7 hd7 => q q2 H7 ys (.project [og, oo] p) (2) (x5.trans (y.trans e7)) h7 hd7 (step_one rfl rfl (fun _ => rfl) (fun _ => rfl) (by first | (show 0 ≤ 100; decide) | (show 1 ≤ 100; decide) | (show 2 ≤ 100; decide) | (show 3 ≤ 100; decide)) Z2 rfl (by omega) (by omega) (by omega) K2)
  replace hb1 : c ≠ 1 := fun z => by rw [z] at hb1; cases hb1
  replace y := y.trans e6
  refine q_when (b := decide (V.int (c : Int) = V.int 2)) (et_test (ev_op (ev_var rfl) ev_c (rv_eq rfl))) (fun hb H6 e6 => ?_) fun hb2 H6 e6 => ?_
  · have y := y.trans e6
    have hck : c = 2 := by have := V.int.inj (of_decide_eq_true hb); omega
    exact s_retUD (ud_tup (ad_cons (ed_tupU (ud_tup (ad_cons (ed_val ev_c (.str _)) (ad_cons (ed_tupU (ud_tup (ad_cons (ed_val (ev_var rfl) (ex_dp y d5)) (ad_cons (ed_val (ev_var rfl) (ex_dp y d4')) ad_nil)) (by show 2 ≤ 100000; decide))) (ad_cons (ed_tupU (ud_tup (ad_cons (ed_tupU (ud_tup (ad_cons (ed_val ev_c (.str _)) (ad_cons (ed_val ev_c .non) ad_nil)) (by show 2 ≤ 100000; decide))) ad_nil) (by show 1 ≤ 100000; decide))) (ad_cons (ed_val (ev_var rfl) (ex_dp y dp5)) ad_nil)))) (by show 4 ≤ 100000; decide))) (ad_cons (ed_val ev_c (.int _)) ad_nil)) (by show 2 ≤ 100000; decide)) fun q2 H7 ys _ e7 h7 hd7 => q q2 H7 ys (.group [og, oo] [⟨"rows", none, []⟩] p) (3) (x5.trans (y.trans e7)) h7 hd7 (step_one rfl rfl (fun _ => rfl) (fun _ => rfl) (by first | (show 0 ≤ 100; decide) | (show 1 ≤ 100; decide) | (show 2 ≤ 100; decide) | (show 3 ≤ 100; decide)) Z2 rfl (by omega) (by omega) (by omega) K2)
  replace hb2 : c ≠ 2 := fun z => by rw [z] at hb2; cases hb2
  replace y := y.trans e6
  refine q_when (b := decide (V.int (c : Int) = V.int 3)) (et_test (ev_op (ev_var rfl) ev_c (rv_eq rfl))) (fun hb H6 e6 => ?_) fun hb3 H6 e6 => ?_
  · have y := y.trans e6
    have hck : c = 3 := by have := V.int.inj (of_decide_eq_true hb); omega
    exact s_retUD (ud_tup (ad_cons (ed_tupU (ud_tup (ad_cons (ed_val ev_c (.str _)) (ad_cons (ed_tupU (ud_tup (ad_cons (ed_val (ev_var rfl) (ex_dp y d5)) ad_nil) (by show 1 ≤ 100000; decide))) (ad_cons (ed_tupU (ud_tup (ad_cons (ed_tupU (ud_tup (ad_cons (ed_val ev_c (.str _)) (ad_cons (ed_val ev_c .non) ad_nil)) (by show 2 ≤ 100000; decide))) (ad_cons (ed_tupU (ud_tup (ad_cons (ed_val ev_c (.str _)) (ad_cons (ed_val (ev_var rfl) (ex_dp y d4')) ad_nil)) (by show 2 ≤ 100000; decide))) ad_nil)) (by show 2 ≤ 100000; decide))) (ad_cons (ed_val (ev_var rfl) (ex_dp y dp5)) ad_nil)))) (by show 4 ≤ 100000; decide))) (ad_cons (ed_val ev_c (.int _)) ad_nil)) (by show 2 ≤ 100000; decide)) fun q2 H7 ys _ e7 h7 hd7 => q q2 H7 ys (.group [og] [⟨"rows", none, []⟩, ⟨"sum", some oo, []⟩] p) (3) (x5.trans (y.trans e7)) h7 hd7 (step_one rfl rfl (fun _ => rfl) (fun _ => rfl) (by first | (show 0 ≤ 100; decide) | (show 1 ≤ 100; decide) | (show 2 ≤ 100; decide) | (show 3 ≤ 100; decide)) Z2 rfl (by omega) (by omega) (by omega) K2)
  replace hb3 : c ≠ 3 := fun z => by rw [z] at hb3; cases hb3
  replace y := y.trans e6
  refine q_when (b := decide (V.int (c : Int) = V.int 4)) (et_test (ev_op (ev_var rfl) ev_c (rv_eq rfl))) (fun hb H6 e6 => ?_) fun hb4 H6 e6 => ?_
  · have y := y.trans e6
    have hck : c = 4 := by have := V.int.inj (of_decide_eq_true hb); omega
    exact s_retUD (ud_tup (ad_cons (ed_tupU (ud_tup (ad_cons (ed_val ev_c (.str _)) (ad_cons (ed_tupU (ud_tup (ad_cons (ed_val (ev_var rfl) (ex_dp y d4')) ad_nil) (by show 1 ≤ 100000; decide))) (ad_cons (ed_tupU (ud_tup ad_nil (by show 0 ≤ 100000; decide))) (ad_cons (ed_tupU (ud_tup (ad_cons (ed_tupU (ud_tup (ad_cons (ed_val ev_c (.str _)) (ad_cons (ed_val ev_c .non) (ad_cons (ed_val ev_c .non) (ad_cons (ed_val ev_c .non) ad_nil)))) (by show 4 ≤ 100000; decide))) ad_nil) (by show 1 ≤ 100000; decide))) (ad_cons (ed_val (ev_var rfl) (ex_dp y dp5)) ad_nil))))) (by show 5 ≤ 100000; decide))) (ad_cons (ed_val (ev_is (w := .int ((wd + 1 : Nat) : Int)) (ev_op (ev_var rfl) ev_c rv_I0) (by rw [Int.natCast_add]; rfl)) (.int _)) ad_nil)) (by show 2 ≤ 100000; decide)) fun q2 H7 ys _ e7 h7 hd7 => q q2 H7 ys (.window [oo] [] [⟨"number", none, [.none, .none]⟩] p) (wd + 1) (x5.trans (y.trans e7)) h7 hd7 (step_one rfl rfl (fun _ => rfl) (fun _ => rfl) (by first | (show 0 ≤ 100; decide) | (show 1 ≤ 100; decide) | (show 2 ≤ 100; decide) | (show 3 ≤ 100; decide)) Z1 rfl (by omega) (by omega) (by omega) K1)
  replace hb4 : c ≠ 4 := fun z => by rw [z] at hb4; cases hb4
  replace y := y.trans e6
  refine q_when (b := decide (V.int (c : Int) = V.int 5)) (et_test (ev_op (ev_var rfl) ev_c (rv_eq rfl))) (fun hb H6 e6 => ?_) fun hb5 H6 e6 => ?_
  · have y := y.trans e6
    have hck : c = 5 := by have := V.int.inj (of_decide_eq_true hb); omega
    exact s_retUD (ud_tup (ad_cons (ed_tupU (ud_tup (ad_cons (ed_val ev_c (.str _)) (ad_cons (ed_tupU (ud_tup ad_nil (by show 0 ≤ 100000; decide))) (ad_cons (ed_tupU (ud_tup (ad_cons (ed_tupU (ud_tup (ad_cons (ed_val (ev_var rfl) (ex_dp y d4')) (ad_cons (ed_val ev_c (.bl _)) ad_nil)) (by show 2 ≤ 100000; decide))) ad_nil) (by show 1 ≤ 100000; decide))) (ad_cons (ed_tupU (ud_tup (ad_cons (ed_tupU (ud_tup (ad_cons (ed_val ev_c (.str _)) (ad_cons (ed_val (ev_var rfl) (ex_dp y d5)) (ad_cons (ed_val ev_c .non) (ad_cons (ed_val ev_c .non) ad_nil)))) (by show 4 ≤ 100000; decide))) ad_nil) (by show 1 ≤ 100000; decide))) (ad_cons (ed_val (ev_var rfl) (ex_dp y dp5)) ad_nil))))) (by show 5 ≤ 100000; decide))) (ad_cons (ed_val (ev_is (w := .int ((wd + 1 : Nat) : Int)) (ev_op (ev_var rfl) ev_c rv_I0) (by rw [Int.natCast_add]; rfl)) (.int _)) ad_nil)) (by show 2 ≤ 100000; decide)) fun q2 H7 ys _ e7 h7 hd7 => q q2 H7 ys (.window [] [⟨oo, true⟩] [⟨"sum", some og, [.none, .none]⟩] p) (wd + 1) (x5.trans (y.trans e7)) h7 hd7 (step_one rfl rfl (fun _ => rfl) (fun _ => rfl) (by first | (show 0 ≤ 100; decide) | (show 1 ≤ 100; decide) | (show 2 ≤ 100; decide) | (show 3 ≤ 100; decide)) Z3 rfl (by omega) (by omega) (by omega) K3)
  replace hb5 : c ≠ 5 := fun z => by rw [z] at hb5; cases hb5
  replace y := y.trans e6
  refine q_when (b := decide (V.int (c : Int) = V.int 6)) (et_test (ev_op (ev_var rfl) ev_c (rv_eq rfl))) (fun hb H6 e6 => ?_) fun hb6 H6 e6 => ?_
  · have y := y.trans e6
    have hck : c = 6 := by have := V.int.inj (of_decide_eq_true hb); omega
    exact s_retUD (ud_tup (ad_cons (ed_tupU (ud_tup (ad_cons (ed_val ev_c (.str _)) (ad_cons (ed_tupU (ud_tup ad_nil (by show 0 ≤ 100000; decide))) (ad_cons (ed_tupU (ud_tup ad_nil (by show 0 ≤ 100000; decide))) (ad_cons (ed_tupU (ud_tup (ad_cons (ed_tupU (ud_tup (ad_cons (ed_val ev_c (.str _)) (ad_cons (ed_val (ev_var rfl) (ex_dp y d5)) (ad_cons (ed_val ev_c .non) (ad_cons (ed_val ev_c .non) ad_nil)))) (by show 4 ≤ 100000; decide))) (ad_cons (ed_tupU (ud_tup (ad_cons (ed_val ev_c (.str _)) (ad_cons (ed_val (ev_var rfl) (ex_dp y d4')) (ad_cons (ed_tupU (ud_tup (ad_cons (ed_val ev_c (.int _)) (ad_cons (ed_val ev_c (.int _)) ad_nil)) (by show 2 ≤ 100000; decide))) (ad_cons (ed_val ev_c .non) ad_nil)))) (by show 4 ≤ 100000; decide))) ad_nil)) (by show 2 ≤ 100000; decide))) (ad_cons (ed_val (ev_var rfl) (ex_dp y dp5)) ad_nil))))) (by show 5 ≤ 100000; decide))) (ad_cons (ed_val (ev_is (w := .int ((wd + 2 : Nat) : Int)) (ev_op (ev_var rfl) ev_c rv_I0) (by rw [Int.natCast_add]; rfl)) (.int _)) ad_nil)) (by show 2 ≤ 100000; decide)) fun q2 H7 ys _ e7 h7 hd7 => q q2 H7 ys (.window [] [] [⟨"sum", some og, [.none, .none]⟩, ⟨"max", some oo, [.tuple [.int 1, .int 1], .none]⟩] p) (wd + 2) (x5.trans (y.trans e7)) h7 hd7 (step_one rfl rfl (fun _ => rfl) (fun _ => rfl) (by first | (show 0 ≤ 100; decide) | (show 1 ≤ 100; decide) | (show 2 ≤ 100; decide) | (show 3 ≤ 100; decide)) Z2 rfl (by omega) (by omega) (by omega) K2)
  replace hb6 : c ≠ 6 := fun z => by rw [z] at hb6; cases hb6
  replace y := y.trans e6
  refine q_when (b := decide (V.int (c : Int) = V.int 7)) (et_test (ev_op (ev_var rfl) ev_c (rv_eq rfl))) (fun hb H6 e6 => ?_) fun hb7 H6 e6 => ?_
  · have y := y.trans e6
    have hck : c = 7 := by have := V.int.inj (of_decide_eq_true hb); omega
    exact s_retUD (ud_tup (ad_cons (ed_tupU (ud_tup (ad_cons (ed_val ev_c (.str _)) (ad_cons (ed_tupU (ud_tup (ad_cons (ed_tupU (ud_tup (ad_cons (ed_val (ev_var rfl) (ex_dp y d5)) (ad_cons (ed_val ev_c (.bl _)) ad_nil)) (by show 2 ≤ 100000; decide))) (ad_cons (ed_tupU (ud_tup (ad_cons (ed_val (ev_var rfl) (ex_dp y d4')) (ad_cons (ed_val ev_c (.bl _)) ad_nil)) (by show 2 ≤ 100000; decide))) ad_nil)) (by show 2 ≤ 100000; decide))) (ad_cons (ed_val ev_c (.int _)) (ad_cons (ed_val ev_c .non) (ad_cons (ed_val (ev_var rfl) (ex_dp y dp5)) ad_nil))))) (by show 5 ≤ 100000; decide))) (ad_cons (ed_val (ev_var rfl) (.int _)) ad_nil)) (by show 2 ≤ 100000; decide)) fun q2 H7 ys _ e7 h7 hd7 => q q2 H7 ys (.top [⟨og, false⟩, ⟨oo, true⟩] p) (wd) (x5.trans (y.trans e7)) h7 hd7 (step_one rfl rfl (fun _ => rfl) (fun _ => rfl) (by first | (show 0 ≤ 100; decide) | (show 1 ≤ 100; decide) | (show 2 ≤ 100; decide) | (show 3 ≤ 100; decide)) Z2 rfl (by omega) (by omega) (by omega) K2)
  replace hb7 : c ≠ 7 := fun z => by rw [z] at hb7; cases hb7
  replace y := y.trans e6
  refine q_when (b := decide (V.int (c : Int) = V.int 8) && !decide (V.int (wr : Int) = V.int 3)) (et_and (et_test (ev_op (ev_var rfl) ev_c (rv_eq rfl))) fun _ => et_test (ev_op (ev_var rfl) ev_c (rv_ne rfl))) (fun hb H6 e6 => ?_) fun hb8 H6 e6 => ?_
  · have y := y.trans e6
    rw [Bool.and_eq_true] at hb
    have hck : c = 8 := by have := V.int.inj (of_decide_eq_true hb.1); omega
    have hw3 : wr ≠ 3 := fun z => by rw [z] at hb; exact absurd hb.2 (by decide)
    have hm : (wd : Int) + (if decide (V.int (wr : Int) = V.int 4) = true then 1 else 0) = ((wd + if wr = 4 then 1 else 0 : Nat) : Int) := by
      by_cases z : wr = 4
      · rw [if_pos z, z, if_pos (by decide)]; rfl
      · rw [if_neg z, if_neg (fun h => z (by have := V.int.inj (of_decide_eq_true h); omega))]; rfl
    refine s_retUD (ud_tup (ad_cons (ed_tupU (ud_tup (ad_cons (ed_val ev_c (.str _)) (ad_cons (ed_val (ev_var rfl) (ex_dp y dp5)) (ad_cons (ed_tupU (ud_tup (ad_cons (ed_val ev_c (.str _)) (ad_cons (ed_val (ev_is (w := .int ((wd + if wr = 4 then 1 else 0 : Nat) : Int)) (ev_op (ev_var rfl) (ev_intB (ev_op (ev_var rfl) ev_c (rv_eq rfl))) rv_I0) (by rw [hm])) (.int _)) (ad_cons (ed_tupU (ud_tup ad_nil (by show 0 ≤ 100000; decide))) ad_nil))) (by show 3 ≤ 100000; decide))) ad_nil))) (by show 3 ≤ 100000; decide))) (ad_cons (ed_val (ev_var rfl) (.int _)) ad_nil)) (by show 2 ≤ 100000; decide)) fun q2 H7 ys _ e7 h7 hd7 => q q2 H7 ys (.union p (.rows (wd + if wr = 4 then 1 else 0) [])) wd (x5.trans (y.trans e7)) h7 hd7 (step_two (m := wd + if wr = 4 then 1 else 0) rfl rfl rfl rfl (by show 0 ≤ 100; decide) rfl (by show 0 ≤ 100; decide) (fun e he => by cases he) rfl h1 (by omega) (fun h0 => ?_) (fun h34 => .inl ?_))
    · rw [h0]
      exact ⟨by show decide (wd ≠ wd) = false; simp, rfl, rfl⟩
    · rcases h34 with h | h
      · exact (hw3 h).elim
      · rw [if_pos h]
        show decide (wd ≠ wd + 1) = true
        simp
  replace y := y.trans e6
  obtain ⟨kd, hkd⟩ : ∃ kd : Str, ([.str "inner", .str "left", .str "some", .str "none", .str "never"] : List V)[r % 5]? = some (.str kd) := by
    have := Nat.mod_lt r (show 5 > 0 by decide)
    generalize r % 5 = k at this
    rcases (show k = 0 ∨ k = 1 ∨ k = 2 ∨ k = 3 ∨ k = 4 by omega) with rfl | rfl | rfl | rfl | rfl <;> exact ⟨_, rfl⟩
  refine q_asg (v := .str kd) (ev_ixN (i := r % 5) (el_lst (ea_cons ev_c (ea_cons ev_c (ea_cons ev_c (ea_cons ev_c (ea_cons ev_c ea_nil))))) (by show 5 ≤ 100000; decide)) (fun _ _ => ev_is (ev_op (ev_var rfl) ev_c (rv_I (by decide))) (by rw [Int.natCast_emod]; rfl)) hkd) fun H7 e7 => ?_
  replace y := y.trans e7
  refine q_asg (v := .int ((2 : Nat) : Int)) ev_c fun H8 e8 => ?_
  replace y := y.trans e8
  have htb : ∃ t2 : Nat, ([.int 1, .int 3] : List V)[r / 5 % 2]? = some (.int (t2 : Int)) ∧ t2 ≠ 2 := by
    rcases Nat.mod_two_eq_zero_or_one (r / 5) with z | z
    · rw [z]; exact ⟨1, rfl, by decide⟩
    · rw [z]; exact ⟨3, rfl, by decide⟩
  obtain ⟨t2, ht2, hne2⟩ := htb
  refine q_condAsg (i := 10) (b := decide (V.int (wr : Int) = V.int 4)) (v := .int (t2 : Int)) rfl (et_test (ev_op (ev_var rfl) ev_c (rv_eq rfl))) (fun _ H9 e9 => ev_ixN (i := r / 5 % 2) (el_lst (ea_cons ev_c (ea_cons ev_c ea_nil)) (by show 2 ≤ 100000; decide)) (fun _ _ => ev_is (ev_op (ev_op (ev_var rfl) ev_c (rv_I ⟨by decide, by decide⟩)) ev_c (rv_I (by decide))) (by rw [Int.natCast_emod, Int.natCast_ediv]; rfl)) ht2) fun H9 e9 => ?_
  replace y := y.trans e9
  obtain ⟨told, htold, hto⟩ : ∃ told : Nat, (if decide (V.int (wr : Int) = V.int 4) = true then V.int (t2 : Int) else V.int ((2 : Nat) : Int)) = V.int (told : Int) ∧ (wr = 4 → told ≠ 2) ∧ (wr ≠ 4 → told = 2) := by
    by_cases z : wr = 4
    · exact ⟨t2, by rw [if_pos (by rw [z]; decide)], fun _ => hne2, fun h => (h z).elim⟩
    · exact ⟨2, by rw [if_neg (fun h => z (by have := V.int.inj (of_decide_eq_true h); omega))], fun h => (z h).elim, fun _ => rfl⟩
  rw [htold]
  have hy9 := y
  refine q_asgD (d := (Cnd.bin "equal" og (.col (wd + r / 10 % 2))).d) (ed_bin ev_c (ed_val (ev_var rfl) (ex_dp y d5)) (ed_colE (ev_is (ev_op (ev_var rfl) (ev_op (ev_op (ev_var rfl) ev_c (rv_I ⟨by decide, by decide⟩)) ev_c (rv_I (by decide))) rv_I0) (by rw [Int.natCast_add, Int.natCast_emod, Int.natCast_ediv]; rfl)))) fun vc H10 e10 dc => ?_
  replace y := y.trans e10
  refine q_condD (i := 11) (b := decide (wr = 3)) (d2 := (Cnd.bin "less" og (.col (wd + 2 + r / 10 % 3))).d) rfl dc (et_B (ev_var rfl)) (fun _ H11 e11 => ed_bin ev_c (ed_val (ev_var rfl) (ex_dp (y.trans e11) d5)) (ed_colE (ev_is (ev_op (ev_op (ev_var rfl) ev_c rv_I0) (ev_op (ev_op (ev_var rfl) ev_c (rv_I ⟨by decide, by decide⟩)) ev_c (rv_I (by decide))) rv_I0) (by rw [Int.natCast_add, Int.natCast_add, Int.natCast_emod, Int.natCast_ediv]; rfl)))) fun vd H11 e11 dd => ?_
  replace y := y.trans e11
  obtain ⟨cc, hcc, hcs, hcg, hcb⟩ : ∃ cc : Cnd, (if decide (wr = 3) = true then (Cnd.bin "less" og (.col (wd + 2 + r / 10 % 3))).d else (Cnd.bin "equal" og (.col (wd + r / 10 % 2))).d) = cc.d ∧ cc.sz ≤ 60 ∧ (wr ≠ 3 → knownB [cc] (wd + 2) = true) ∧ (wr = 3 → knownB [cc] (wd + 2) = false) := by
    have hm := kn_mono (k := wd + 2) (hkg.trans rfl) (by omega)
    by_cases z : wr = 3
    · refine ⟨_, by rw [if_pos (by rw [z]; decide)], by show og.sz + 1 + 1 ≤ 60; omega, fun h => (h z).elim, fun _ => ?_⟩
      show ((used og ++ [wd + 2 + r / 10 % 3]).all (fun n => decide (n < wd + 2)) && true) = false
      rw [List.all_append, hm]
      simp
    · refine ⟨_, by rw [if_neg (fun h => z (of_decide_eq_true h))], by show og.sz + 1 + 1 ≤ 60; omega, fun _ => ?_, fun h => (z h).elim⟩
      show ((used og ++ [wd + r / 10 % 2]).all (fun n => decide (n < wd + 2)) && true) = true
      rw [List.all_append, hm]
      have := Nat.mod_lt (r / 10) (show 2 > 0 by decide)
      simp [this]
  rw [hcc] at dd
  have hib : ∃ x : Nat, ([.int 0, .int 2] : List V)[if inV (.str kd) [.str "inner", .str "left"] = true then 1 else 0]? = some (.int (x : Int)) ∧ x ≤ 2 ∧ resW [wd, 2] (.join kd told cc p (.table 1)) = wd + x := by
    show ∃ x : Nat, _ ∧ _ ∧ (if inV (.str kd) [.str "inner", .str "left"] = true then [wd, 2].sum else [wd, 2].getD 0 0) = _
    by_cases z : inV (.str kd) [.str "inner", .str "left"] = true
    · rw [if_pos z, if_pos z]
      exact ⟨2, rfl, by decide, rfl⟩
    · rw [if_neg z, if_neg z]
      exact ⟨0, rfl, by decide, rfl⟩
  obtain ⟨x, hx, hx2, hrx⟩ := hib
  refine s_retUD (ud_tup (ad_cons (ed_tupU (ud_tup (ad_cons (ed_val ev_c (.str _)) (ad_cons (ed_val (ev_var rfl) (.str _)) (ad_cons (ed_val (ev_var rfl) (.int _)) (ad_cons (ed_val (ev_var rfl) dd) (ad_cons (ed_val (ev_var rfl) (ex_dp y dp5)) (ad_cons (ed_tupU (ud_tup (ad_cons (ed_val ev_c (.str _)) (ad_cons (ed_val ev_c (.int _)) ad_nil)) (by show 2 ≤ 100000; decide))) ad_nil)))))) (by show 6 ≤ 100000; decide))) (ad_cons (ed_val (ev_is (w := .int ((wd + x : Nat) : Int)) (ev_op (ev_var rfl) (ev_ixN (i := if inV (.str kd) [.str "inner", .str "left"] = true then 1 else 0) (el_lst (ea_cons ev_c (ea_cons ev_c ea_nil)) (by show 2 ≤ 100000; decide)) (fun _ _ => ev_is (ev_intB (ev_inU (ev_var rfl) (eu_tup (ea_cons ev_c (ea_cons ev_c ea_nil)) (by show 2 ≤ 100000; decide)) rfl rfl)) (by split <;> rfl)) hx) rv_I0) (by rw [Int.natCast_add])) (.int _)) ad_nil)) (by show 2 ≤ 100000; decide)) fun q2 H12 ys _ e12 h12 hd12 => q q2 H12 ys (.join kd told cc p (.table 1)) (wd + x) (x5.trans (y.trans e12)) h12 hd12 (step_two (q := .table 1) (m := 2) rfl rfl hws rfl (by show 0 ≤ 100; decide) rfl (by show 0 ≤ 100; decide) (fun e he => by rw [show (Pln.join kd told cc p (.table 1)).exprs = [cc] from rfl, List.mem_singleton] at he; rw [he]; exact hcs) hrx (by omega) (by omega) (fun h0 => ⟨rfl, ?_, hcg (by omega)⟩) (fun h34 => .inr ?_))
  · show decide (2 ≠ told) = false
    rw [hto.2 (by omega)]
    rfl
  · rcases h34 with h | h
    · exact .inr (hcb h)
    · refine .inl ?_
      show decide (2 ≠ told) = true
      have := hto.1 h
      rw [decide_eq_true_eq]
      omega
end

--@SPLIT
/-! ### the law -/
theorem wt_mk {K : PySem.W.Frag} {H : Hp} {P1 : Addr} (e1 : tabOf K "width_of" = P1) (h1 : H P1 = some (.tbl #[])) : WT K H := by
  unfold WT
  rw [e1]
  exact LamX.TabS.nil h1
theorem src_wid {n wr wd : Nat} (h : 1 ≤ wd) : wid [wd, 2] (srcP n wr wd) = if wr = 1 ∨ wr = 2 then none else some wd := by
  unfold srcP
  by_cases h1 : wr = 1
  · rw [if_pos h1, if_pos (show wr = 1 ∨ wr = 2 from .inl h1)]
    show ([wd, 2] : List Nat)[2 + n % 5]? = none
    rw [List.getElem?_eq_none (by simp)]
  rw [if_neg h1]
  by_cases h2 : wr = 2
  · rw [if_pos h2, if_pos (show wr = 1 ∨ wr = 2 from .inr h2)]
    show (if ([wd, if n % 2 = 0 then wd + 1 else wd - 1].all fun l => decide (l = wd)) = true then some wd else none) = none
    rw [if_neg]
    intro h3
    rw [List.all_eq_true] at h3
    have := of_decide_eq_true (h3 (if n % 2 = 0 then wd + 1 else wd - 1) (by simp))
    split at this <;> omega
  rw [if_neg h2, if_neg (show ¬ (wr = 1 ∨ wr = 2) from fun h => h.elim h1 h2)]
  by_cases h3 : n % 3 = 0
  · rw [if_pos h3]
    show (if ([wd].all fun l => decide (l = wd)) = true then some wd else none) = some wd
    rw [if_pos (by simp)]
  · rw [if_neg h3]
    rfl
theorem src_pre (n wr wd : Nat) : (srcP n wr wd).pre = [srcP n wr wd] ∧ (srcP n wr wd).big ≤ 100 ∧ (srcP n wr wd).exprs = [] := by
  unfold srcP
  repeat' split
  all_goals exact ⟨rfl, by show _ ≤ 100; first | exact Nat.zero_le _ | (show 1 ≤ 100; decide) | (show 2 ≤ 100; decide), rfl⟩
section
variable {K : PySem.W.Frag} {σ : L2.St} {H : Hp} {ta tb tc te tl tn : TE} {tr : TA} {D : Ends} {E : XK} {tz : TS} {t : TT}
theorem q_width {i : Nat} {v : V} {p : Pln} {ws : List Nat} (ha : Ev ta σ H v) (hb : EvL tb σ H (niV ws)) (hd : Dp K H v p.d) (hz : p.pre.length ≤ 200) (hok : GoodP p) (hT : WT K H) (k : ∀ H1, tz D (σ.set i (some (nvW (wid ws p)))) H1) : tSeq (tAsg (tCall (sp_width_of K) [] E (tCons ta (tCons tb tNil))) (gName i)) tz D σ H :=
  ha H (Ex.refl H) _ fun H2 e2 => hb H2 e2 _ fun l H3 hl e3 h3 => ⟨v, l, p, ws, rfl, ex_dp (e2.trans e3) hd, hz, hok, sq_of h3, hT.ext fun b o h => (e2.trans e3) b _ h, fun H4 => k H4⟩
theorem ed_source {n wr wd : Nat} (ha : Ev ta σ H (.int (n : Int))) (hb : Ev tb σ H (.int (wr : Int))) (hc : Ev tc σ H (.int (wd : Int))) (h1 : 1 ≤ wd) (h2 : wd ≤ 100) : EvD K (tCall (sp__law_source K) [] E (tCons ta (tCons tb (tCons tc tNil)))) σ H (srcP n wr wd).d := fun H1 e Q q =>
  ha H1 e _ fun H2 e2 => hb H2 (e.trans e2) _ fun H3 e3 => hc H3 ((e.trans e2).trans e3) _ fun H4 e4 => ⟨n, wr, wd, rfl, h1, h2, fun v H5 e5 hd => q v H5 (((e2.trans e3).trans e4).trans e5) hd⟩
end
section
variable {P : Program} {w : World} {K : PySem.W.Frag} {mg : Str → Option Value} {base : Heap}
theorem ok_law {fa : Addr} {s : Shared} {H : Hp} {a : Addr} {ns : List Int} {cdv : Value} (c__law_numbers : C8.Cal P w K mg base 1 "_law_numbers" (sp__law_numbers K) []) (c__law_operator : C8.Cal P w K mg base 2 "_law_operator" (sp__law_operator K) []) (c__law_source : C8.Cal P w K mg base 1 "_law_source" (sp__law_source K) []) (c_width_of : C8.Cal P w K mg base 32 "width_of" (sp_width_of K) []) (z_int : mg "int" = none) (z_isinstance : mg "isinstance" = none) (z_range : mg "range" = none) (hT : WT K H) (h63 : ns.length ≤ 63) (hS : SqL K H a (ns.map V.int))
    (hr : Room 32 (callerA.deeper (envOfC "law" (C8.fnScope s_law) s.heap.objs.size fa cdv))) :
    ∃ t, PSs (cxOf C8.CX0 P w K mg base n_law "law" (C8.fnScope s_law) fa cdv callerA [] s H C8.E0).nox (C8.fnBody s_law) t ∧ t { nx := fun _ _ => V.non = .bl true, rt := fun v _ => v = .bl true } (start n_law [.ref a]) H := by
  refine ⟨_, (pss_cons (ps_set (i := 1) sc_law.nd rfl (.inl rfl) (C8.pe_c c__law_numbers hr (by decide) (by rfl) (pa_cons (pv 0) (pa_cons pe_int pa_nil))))
    (pss_cons (ps_set (i := 2) sc_law.nd rfl (.inl rfl) (pe_op op_add pe_int (pe_op op_mod (pe_callTy call_int1 (by rfl) z_int (by decide +kernel) (pa_cons (pe_ix ix_list (pv 1) pe_int (fun _ _ => rfl)) pa_nil)) pe_int)))
    (pss_cons (ps_set (i := 3) sc_law.nd rfl (.inl rfl) (pe_op op_mod (pe_op op_fdiv (pe_callTy call_int1 (by rfl) z_int (by decide +kernel) (pa_cons (pe_ix ix_list (pv 1) pe_int (fun _ _ => rfl)) pa_nil)) pe_int) pe_int))
    (pss_cons (ps_set (i := 4) sc_law.nd rfl (.inl rfl) (pe_op op_mod (pe_callTy call_int1 (by rfl) z_int (by decide +kernel) (pa_cons (pe_ix ix_list (pv 1) pe_int (fun _ _ => rfl)) pa_nil)) pe_int))
    (pss_cons (ps_set (i := 5) sc_law.nd rfl (.inl rfl) (pe_op op_mod (pe_op op_fdiv (pe_callTy call_int1 (by rfl) z_int (by decide +kernel) (pa_cons (pe_ix ix_list (pv 1) pe_int (fun _ _ => rfl)) pa_nil)) pe_int) (pe_op op_add (pv 3) pe_int)))
    (pss_cons (ps_if (pt_cmpR op_in_seq (pv 4) (pe_tup (pa_cons pe_int (pa_cons pe_int pa_nil))) (by with_unfolding_all rfl))
      (pss_one (ps_set (i := 5) sc_law.nd rfl (.inl rfl) pe_int))
      pss_nil)
    (pss_cons (ps_if (PW.pt (pw_and (pt_cmpR op_ge (pv 4) pe_int (nomark _)) (pw_and1 (pt_cmpR op_eq (pv 5) pe_int (nomark _)))))
      (pss_one (ps_set (i := 4) sc_law.nd rfl (.inl rfl) pe_int))
      pss_nil)
    (pss_cons (ps_set (i := 6) sc_law.nd rfl (.inl rfl) (pv 2))
    (pss_cons (ps_set (i := 7) sc_law.nd rfl (.inl rfl) (C8.pe_c c__law_source hr (by decide) (by rfl) (pa_cons (pe_ix ix_list (pv 1) pe_int (fun _ _ => rfl)) (pa_cons (pe_ix ix_list (pe_lst (pa_cons pe_int (pa_cons (pv 4) pa_nil))) (pe_callTy call_int1 (by rfl) z_int (by decide +kernel) (pa_cons (pe_cmpR op_in_seq (pv 4) (pe_tup (pa_cons pe_int (pa_cons pe_int pa_nil))) (by with_unfolding_all rfl)) pa_nil)) (fun _ _ => rfl)) (pa_cons (pv 2) pa_nil)))))
    (pss_cons (ps_for PassesOwn.never rfl (pi_range1 rfl z_range (pa_cons (pv 3) pa_nil)) (pg_name (i := 8) sc_law.nd rfl (.inl rfl))
      (pss_cons (ps_set (i := 9) sc_law.nd rfl (.inl rfl) (pe_ix ix_list (pe_lst (pa_cons pe_int (pa_cons (pv 4) pa_nil))) (pe_callTy call_int1 (by rfl) z_int (by decide +kernel) (pa_cons (pe_and (pe_cmpR op_ge (pv 4) pe_int (nomark _)) (pe_one (pe_cmpR op_eq (pv 5) (pe_op op_add (pv 8) pe_int) (nomark _)))) pa_nil)) (fun _ _ => rfl)))
    (pss_cons (ps_set (i := 10) sc_law.nd rfl (.inl rfl) (pe_callTy call_int1 (by rfl) z_int (by decide +kernel) (pa_cons (pe_ix ix_list (pv 1) (pe_op op_add pe_int (pv 8)) (fun _ _ => rfl)) pa_nil)))
    (pss_cons (ps_if (pt_cmpR op_eq (pv 9) pe_int (nomark _))
      (pss_one (ps_set (i := 10) sc_law.nd rfl (.inl rfl) (pe_op op_add (pe_op op_add (pe_op op_mul pe_int (pe_op op_fdiv (pv 10) pe_int)) pe_int) (pe_op op_mod (pv 10) pe_int))))
      pss_nil)
    (pss_one (ps_asg (C8.pe_c c__law_operator hr (by decide) (by rfl) (pa_cons (pv 7) (pa_cons (pv 2) (pa_cons (pv 10) (pa_cons (pv 9) pa_nil))))) (pg_tup rfl (pgs_cons (pg_name (i := 7) sc_law.nd rfl (.inl rfl)) (pgs_cons (pg_name (i := 2) sc_law.nd rfl (.inl rfl)) pgs_nil)))))))))
    (pss_cons (ps_set (i := 11) sc_law.nd rfl (.inl rfl) (C8.pe_c c_width_of hr (by decide) (by rfl) (pa_cons (pv 7) (pa_cons (pe_lst (pa_cons (pv 6) (pa_cons pe_int pa_nil))) pa_nil))))
    (pss_cons (ps_if (pt_cmpR op_gt (pv 4) pe_int (nomark _))
      (pss_one (ps_ret (pe_cmpR op_isN (pv 11) pe_non (nomark _))))
      pss_nil)
    (pss_one (ps_ret (pe_and (pe_callB call_isi (by rfl) z_isinstance (by decide +kernel) (pa_cons (pv 11) (pa_cons (pe_bltn (v := .ty "int") (u := .type "int") rfl z_int (by decide +kernel) rfl) pa_nil))) (pe_one (pe_cmpR op_eq (pv 11) (pv 2) (nomark _)))))))))))))))))), ?_⟩
  have n1 : ∀ k, 0 ≤ cellN ns k := cellN_nn ns
  refine q_asgL (xs := (lawN ns 8).map V.int) (el_call (ea_cons (ev_var rfl) (ea_cons ev_c ea_nil)) fun H1 e Q q E => ⟨a, ns, 8, rfl, ex_l e hS, h63, by decide, q⟩) fun p1 H1 hp1 e1 h1 => ?_
  have idx : ∀ {σ : L2.St} {H' : Hp} {ta : TE} {i : Nat}, σ[1]? = some (some (V.ref p1)) → H' p1 = some (.lst ((lawN ns 8).map V.int)) → Ev ta σ H' (.int (i : Int)) → i < 8 → Ev (tOp (rIxL K) (tVar 1) ta) σ H' (.int (cellN ns i)) := fun hσ e ha hi => ev_op (ev_var hσ) ha (rv_ixL (sq_of e) (lawN_at hi))
  obtain ⟨c0, hc0⟩ := Int.eq_ofNat_of_zero_le (n1 0)
  obtain ⟨c1, hc1⟩ := Int.eq_ofNat_of_zero_le (n1 1)
  obtain ⟨c2, hc2⟩ := Int.eq_ofNat_of_zero_le (n1 2)
  have i0 : ∀ {σ : L2.St} {H' : Hp}, σ[1]? = some (some (V.ref p1)) → H' p1 = some (.lst ((lawN ns 8).map V.int)) → Ev (tOp (rIxL K) (tVar 1) (tC (.int 0))) σ H' (.int (c0 : Int)) := fun hσ e => ev_is (idx (i := 0) hσ e ev_c (by decide)) (by rw [hc0])
  have i1 : ∀ {σ : L2.St} {H' : Hp}, σ[1]? = some (some (V.ref p1)) → H' p1 = some (.lst ((lawN ns 8).map V.int)) → Ev (tOp (rIxL K) (tVar 1) (tC (.int 1))) σ H' (.int (c1 : Int)) := fun hσ e => ev_is (idx (i := 1) hσ e ev_c (by decide)) (by rw [hc1])
  have i2 : ∀ {σ : L2.St} {H' : Hp}, σ[1]? = some (some (V.ref p1)) → H' p1 = some (.lst ((lawN ns 8).map V.int)) → Ev (tOp (rIxL K) (tVar 1) (tC (.int 2))) σ H' (.int (c2 : Int)) := fun hσ e => ev_is (idx (i := 2) hσ e ev_c (by decide)) (by rw [hc2])
  refine q_asg (v := .int ((1 + c0 % 4 : Nat) : Int)) (ev_is (ev_op ev_c (ev_op (ev_int (i0 rfl h1)) ev_c (rv_I (by decide))) rv_I0) (by rw [Int.natCast_add, Int.natCast_emod]; rfl)) fun H2 e2 => ?_
  refine q_asg (v := .int ((c0 / 4 % 5 : Nat) : Int)) (ev_is (ev_op (ev_op (ev_int (i0 rfl (e2 _ _ h1))) ev_c (rv_I ⟨by decide, by decide⟩)) ev_c (rv_I (by decide))) (by rw [Int.natCast_emod, Int.natCast_ediv]; rfl)) fun H3 e3 => ?_
  have hw0 : 1 ≤ 1 + c0 % 4 := by omega
  have hw4 : 1 + c0 % 4 ≤ 4 := by omega
  generalize 1 + c0 % 4 = wd at hw0 hw4
  have hn5 : c0 / 4 % 5 ≤ 4 := by omega
  generalize c0 / 4 % 5 = cnt at hn5
  have x3 := e2.trans e3
  refine q_asg (v := .int ((c1 % 5 : Nat) : Int)) (ev_is (ev_op (ev_int (i1 rfl (x3 _ _ h1))) ev_c (rv_I (by decide))) (by rw [Int.natCast_emod]; rfl)) fun H4 e4 => ?_
  have x4 := x3.trans e4
  refine q_asg (v := .int ((c1 / 5 % (cnt + 1) : Nat) : Int)) (ev_is (ev_op (ev_op (ev_int (i1 rfl (x4 _ _ h1))) ev_c (rv_I ⟨by decide, by decide⟩)) (ev_op (ev_var rfl) ev_c rv_I0) (rv_I (by omega))) (by rw [Int.natCast_emod, Int.natCast_ediv]; rfl)) fun H5 e5 => ?_
  have x5 := x4.trans e5
  have hf5 : c1 % 5 ≤ 4 := by omega
  generalize c1 % 5 = f0 at hf5
  have hp5 : c1 / 5 % (cnt + 1) ≤ cnt := by have := Nat.mod_lt (c1 / 5) (show cnt + 1 > 0 by omega); omega
  generalize c1 / 5 % (cnt + 1) = p0 at hp5
  have hin : ∀ f : Nat, f ≤ 4 → inV (.int (f : Int)) [.int 1, .int 2] = decide (f = 1 ∨ f = 2) := fun f hf => by
    rcases (show f = 0 ∨ f = 1 ∨ f = 2 ∨ f = 3 ∨ f = 4 by omega) with rfl | rfl | rfl | rfl | rfl <;> decide +kernel
  refine q_ifI (b := decide (f0 = 1 ∨ f0 = 2)) (p := 0) (q := (p0 : Int)) (i := 5) (et_test (ev_is (ev_inU (ev_var rfl) (eu_tup (ea_cons ev_c (ea_cons ev_c ea_nil)) (by show 2 ≤ 100000; decide)) rfl rfl) (by rw [hin f0 hf5]))) (fun _ => ev_c) rfl fun H6 e6 => ?_
  have x6 := x5.trans e6
  obtain ⟨pl, hpl, hpl0, hplc⟩ : ∃ pl : Nat, (if decide (f0 = 1 ∨ f0 = 2) = true then (0 : Int) else (p0 : Int)) = (pl : Int) ∧ (f0 = 1 ∨ f0 = 2 → pl = 0) ∧ pl ≤ cnt := by
    by_cases z : f0 = 1 ∨ f0 = 2
    · exact ⟨0, by rw [if_pos (decide_eq_true z)]; rfl, fun _ => rfl, by omega⟩
    · exact ⟨p0, by rw [if_neg (fun h => z (of_decide_eq_true h))], fun h => (z h).elim, hp5⟩
  rw [hpl]
  refine q_ifI (b := decide ((3 : Int) ≤ (f0 : Int)) && decide (V.int (pl : Int) = V.int 0)) (p := 0) (q := (f0 : Int)) (i := 4) (et_and (et_test (ev_op (ev_var rfl) ev_c rv_I0)) fun _ => et_test (ev_op (ev_var rfl) ev_c (rv_eq rfl))) (fun _ => ev_c) rfl fun H7 e7 => ?_
  have x7 := x6.trans e7
  obtain ⟨f, hf, hf4, hf3⟩ : ∃ f : Nat, (if (decide ((3 : Int) ≤ (f0 : Int)) && decide (V.int (pl : Int) = V.int 0)) = true then (0 : Int) else (f0 : Int)) = (f : Int) ∧ f ≤ 4 ∧ (3 ≤ f → 1 ≤ pl) := by
    by_cases z : 3 ≤ f0 ∧ pl = 0
    · exact ⟨0, by rw [if_pos (by rw [Bool.and_eq_true, decide_eq_true_eq]; exact ⟨by omega, by rw [z.2]; decide⟩)]; rfl, by omega, fun h => by omega⟩
    · refine ⟨f0, by rw [if_neg (fun h => z (by rw [Bool.and_eq_true, decide_eq_true_eq] at h; exact ⟨by omega, by have := V.int.inj (of_decide_eq_true h.2); omega⟩))], hf5, fun h => by omega⟩
  rw [hf]
  refine q_asg (v := .int (wd : Int)) (ev_var rfl) fun H8 e8 => ?_
  have x8 := x7.trans e8
  have hin2 : ∃ wr : Nat, ([.int 0, .int (f : Int)] : List V)[if decide (f = 1 ∨ f = 2) = true then 1 else 0]? = some (.int (wr : Int)) ∧ ((wr = 1 ∨ wr = 2) ↔ (f = 1 ∨ f = 2)) := by
    by_cases z : f = 1 ∨ f = 2
    · rw [if_pos (decide_eq_true z)]
      exact ⟨f, rfl, Iff.rfl⟩
    · rw [if_neg (fun h => z (of_decide_eq_true h))]
      exact ⟨0, rfl, by omega⟩
  obtain ⟨wr0, hwr0, hwr1⟩ := hin2
  refine q_asgD (ed_source (n := c2) (wr := wr0) (i2 rfl (x8 _ _ h1)) (ev_ixN (i := if decide (f = 1 ∨ f = 2) = true then 1 else 0) (el_lst (ea_cons ev_c (ea_cons (ev_var rfl) ea_nil)) (by show 2 ≤ 100000; decide)) (fun _ _ => ev_is (ev_intB (ev_is (ev_inU (ev_var rfl) (eu_tup (ea_cons ev_c (ea_cons ev_c ea_nil)) (by show 2 ≤ 100000; decide)) rfl rfl) (by rw [hin f hf4]))) (by split <;> rfl)) hwr0) (ev_var rfl) hw0 (by omega)) fun v0 H9 e9 d9 => ?_
  have x9 := x8.trans e9
  have hsw := src_wid (n := c2) (wr := wr0) hw0
  obtain ⟨hs1, hs2, hs3⟩ := src_pre c2 wr0 wd
  generalize srcP c2 wr0 wd = p0 at d9 hsw hs1 hs2 hs3
  have i3 : ∀ {σ : L2.St} {H' : Hp} {ta : TE} {k : Nat}, σ[1]? = some (some (V.ref p1)) → H' p1 = some (.lst ((lawN ns 8).map V.int)) → k < 8 → Ev ta σ H' (.int (k : Int)) → Ev (tOp (rIxL K) (tVar 1) ta) σ H' (.int (((cellN ns k).toNat : Nat) : Int)) := fun hσ e hk ha => ev_is (idx hσ e ha hk) (by rw [Int.toNat_of_nonneg (n1 _)])
  have hT9 : WT K H9 := hT.ext fun b o h => (e1.trans x9) b _ h
  refine q_forR1 (n := (cnt : Int)) (ea_cons (ev_var rfl) ea_nil) ⟨by omega, by omega⟩ (fun i σ' H' => ∃ (v : V) (p : Pln) (wi : Nat) (y1 y2 y3 : Option V), σ' = [some (.ref a), some (.ref p1), some (.int (wi : Int)), some (.int (cnt : Int)), some (.int (f : Int)), some (.int (pl : Int)), some (.int (wd : Int)), some v, y1, y2, y3, none] ∧ Ex H9 H' ∧ Dp K H' v p.d ∧ GoodP p ∧ p.pre.length ≤ 1 + 2 * i ∧ 1 ≤ wi ∧ wi ≤ 4 + 2 * i ∧ wid [wd, 2] p = if f = 1 ∨ f = 2 ∨ (3 ≤ f ∧ pl ≤ i) then none else some wi) (fun H10 e10 => ?_) (fun i σ' H' hi pv => ?_) fun σ' H' pv => ?_
  · refine ⟨v0, p0, wd, none, none, none, rfl, e10, ex_dp e10 d9, fun o ho => ?_, by rw [hs1]; exact Nat.le_refl _, hw0, by omega, ?_⟩
    · rw [hs1, List.mem_singleton] at ho
      rw [ho]
      exact ⟨hs2, by rw [hs3]; intro e he; cases he⟩
    · rw [hsw]
      by_cases z : f = 1 ∨ f = 2
      · rw [if_pos (hwr1.mpr z), if_pos (by omega)]
      · rw [if_neg (fun h => z (hwr1.mp h)), if_neg (by omega)]
  · obtain ⟨v, p, wi, y1, y2, y3, rfl, ex, hd, hg, hl, hlo, hhi, hw⟩ := pv
    have hi4 : i < cnt := by omega
    have hiw : ∃ wr : Nat, ([.int 0, .int (f : Int)] : List V)[if (decide ((3 : Int) ≤ (f : Int)) && decide (V.int (pl : Int) = V.int ((i : Int) + 1))) = true then 1 else 0]? = some (.int (wr : Int)) ∧ ((3 ≤ f ∧ pl = i + 1) → wr = f) ∧ (¬ (3 ≤ f ∧ pl = i + 1) → wr = 0) := by
      by_cases z : 3 ≤ f ∧ pl = i + 1
      · rw [if_pos (by rw [Bool.and_eq_true, decide_eq_true_eq, decide_eq_true_eq]; exact ⟨by omega, by rw [z.2]; rfl⟩)]
        exact ⟨f, rfl, fun _ => rfl, fun h => (h z).elim⟩
      · rw [if_neg (fun h => z (by rw [Bool.and_eq_true, decide_eq_true_eq] at h; exact ⟨by omega, by have := V.int.inj (of_decide_eq_true h.2); omega⟩))]
        exact ⟨0, rfl, fun h => (z h).elim, fun _ => rfl⟩
    obtain ⟨wr, hwr, hwrf, hwr0'⟩ := hiw
    refine q_asg (v := .int (wr : Int)) (ev_ixN (el_lst (ea_cons ev_c (ea_cons (ev_var rfl) ea_nil)) (by show 2 ≤ 100000; decide)) (fun _ _ => ev_is (ev_intB (ev_andV (ev_op (ev_var rfl) ev_c rv_I0) fun _ => ev_op (ev_var rfl) (ev_op (ev_var rfl) ev_c rv_I0) (rv_eq rfl))) (by split <;> rfl)) hwr) fun H10 e10 => ?_
    have hx10 := (x9.trans ex).trans e10
    refine q_asg (v := .int (((cellN ns (3 + i)).toNat : Nat) : Int)) (ev_int (i3 rfl (hx10 _ _ h1) (by omega) (ev_is (ev_op ev_c (ev_var rfl) rv_I0) (by rw [Int.natCast_add]; rfl)))) fun H11 e11 => ?_
    generalize (cellN ns (3 + i)).toNat = nb
    refine q_ifI (b := decide (V.int (wr : Int) = V.int 4)) (p := ((12 * (nb / 12) + 8 + nb % 2 : Nat) : Int)) (q := (nb : Int)) (i := 10) (et_test (ev_op (ev_var rfl) ev_c (rv_eq rfl))) (fun _ => ev_is (ev_op (ev_op (ev_op ev_c (ev_op (ev_var rfl) ev_c (rv_I ⟨by decide, by decide⟩)) (rv_I (.inl ⟨by decide, by decide⟩))) ev_c rv_I0) (ev_op (ev_var rfl) ev_c (rv_I (by decide))) rv_I0) (by rw [Int.natCast_add, Int.natCast_add, Int.natCast_mul, Int.natCast_emod, Int.natCast_ediv]; rfl)) rfl fun H12 e12 => ?_
    obtain ⟨nn, hnn, hn8⟩ : ∃ nn : Nat, (if decide (V.int (wr : Int) = V.int 4) = true then ((12 * (nb / 12) + 8 + nb % 2 : Nat) : Int) else (nb : Int)) = (nn : Int) ∧ (wr = 4 → 8 ≤ nn % 12) := by
      by_cases z : wr = 4
      · exact ⟨12 * (nb / 12) + 8 + nb % 2, by rw [if_pos (by rw [z]; decide)], fun _ => by omega⟩
      · exact ⟨nb, by rw [if_neg (fun h => z (by have := V.int.inj (of_decide_eq_true h); omega))], fun h => (z h).elim⟩
    rw [hnn]
    have ex12 := ((ex.trans e10).trans e11).trans e12
    refine ⟨v, rfl, .int (wi : Int), rfl, .int (nn : Int), rfl, .int (wr : Int), rfl, v, p, wi, nn, wr, [wd, 2], rfl, ex_dp ((e10.trans e11).trans e12) hd, hlo, by omega, ?_, rfl, fun q H13 ys p' wd' e13 h13 hd13 hst => ?_⟩
    · by_cases z : 3 ≤ f ∧ pl = i + 1
      · have := hwrf z
        rcases (show f = 3 ∨ f = 4 by omega) with h | h
        · exact .inr (.inl (by omega))
        · exact .inr (.inr ⟨by omega, hn8 (by omega)⟩)
      · exact .inl (hwr0' z)
    · obtain ⟨u, us, rfl, hu, hus⟩ := dps_consD hd13
      obtain ⟨u2, us, rfl, hu2, hus⟩ := dps_consD hus
      cases hus
      obtain rfl := dp_intD hu2
      refine gt2 (st_of h13) ⟨u, p', wd', _, _, _, rfl, ex12.trans e13, hu, hst.bnd hg, by have := hst.len; omega, hst.lo, by have := hst.hi; omega, ?_⟩
      by_cases z : f = 1 ∨ f = 2 ∨ (3 ≤ f ∧ pl ≤ i)
      · rw [if_pos z] at hw
        rw [if_pos (by omega)]
        exact hst.non hw
      · rw [if_neg z] at hw
        by_cases z2 : 3 ≤ f ∧ pl = i + 1
        · rw [if_pos (by omega)]
          exact hst.bad hw (by have := hwrf z2; omega)
        · rw [if_neg (by omega)]
          exact hst.good hw (hwr0' z2)
  · obtain ⟨v, p, wi, y1, y2, y3, rfl, ex, hd, hg, hl, hlo, hhi, hw⟩ := pv
    rw [Int.toNat_natCast] at hl hhi hw
    have hw2 : wid [wd, 2] p = if 0 < f then none else some wi := by
      rw [hw]
      by_cases z : 0 < f
      · rw [if_pos z, if_pos (by omega)]
      · rw [if_neg z, if_neg (by omega)]
    refine q_width (ws := [wd, 2]) (ev_var rfl) (el_lst (ea_cons (ev_var rfl) (ea_cons ev_c ea_nil)) (by show 2 ≤ 100000; decide)) hd (by omega) hg (hT9.ext fun b o h => ex b _ h) fun H10 => ?_
    rw [hw2]
    refine q_when (b := decide ((0 : Int) < (f : Int))) (et_test (ev_op (ev_var rfl) ev_c rv_I0)) (fun hb H11 e11 => ?_) fun hb H11 e11 => ?_
    · have hf0 : 0 < f := by have := of_decide_eq_true hb; omega
      rw [if_pos hf0]
      exact s_ret (ev_op (ev_var rfl) ev_c rv_isN) fun _ _ => rfl
    · have hf0 : ¬ 0 < f := by have := of_decide_eq_false hb; omega
      rw [if_neg hf0]
      refine s_ret (ev_andV (ev_isi (b := true) (ev_var rfl) (fun H1 => tx_int _ H1) (by decide +kernel)) fun _ => ev_op (ev_var rfl) (ev_var rfl) (rv_eq rfl)) fun _ _ => ?_
      show V.bl (true && decide (V.int (wi : Int) = V.int (wi : Int))) = V.bl true
      simp
end

--@SPLIT
/-! ### the end of a law whose def shows things and whose program makes key lambdas: tables of code objects stand in H from the start -/
section
variable {P : Program} {w : World} {K : PySem.W.Frag} {mg mb : Str → Option Value}
/-- what is tracked when the law is called: the script, the empty tables -/
def AtFirst (K : PySem.W.Frag) (a : Addr) (ts : List Addr) (H : Hp) : Prop := (∀ b ∈ ts, H b = some (.tbl #[])) ∧ ∀ b u, H b = some u → (b ∈ ts ∧ u = .tbl #[]) ∨ (b = a ∧ K.lookup a = none ∧ ∃ o ys, u = .frz o (.lst ys))
def Tabled (s₁ : Shared) (K : PySem.W.Frag) (cs : List (Addr × Addr)) : Prop := ∀ p ∈ cs, s₁.heap.get? p.2 = some { cls := .none, data := .fields #[] } ∧ K.lookup p.2 = none ∧ PySem.W.CodeHd s₁.heap p.1 p.2
def MainMod (s₁ : Shared) (mg : Str → Option Value) : Prop := ∃ (bm : Addr) (ob : Obj), mg "__builtins__" = some (.ref bm) ∧ bm ≠ builtinsNs ∧ s₁.heap.get? bm = some ob ∧ ob.cls = .type "module" ∧ ob.dict = some builtinsNs ∧ ob.data = .plain
theorem tab_core {fa a : Addr} {s₁ : Shared} {vs : List Value} {cs : List (Addr × Addr)} (H : Hp) (KX : K.In s₁.heap) (hns : s₁.heap.Ns mainGlobals mg) (hb : s₁.heap.Ns builtinsNs mb) (hbb : ∀ x : Str, x ≠ "__name__" → mb x = bootBuiltins x) (hlim : s₁.heap.NoLimit) (hg : s₁.gens = #[])
    (hC : Tabled s₁ K cs) (hM : MainMod s₁ mg) (ha : s₁.heap.get? a = some { cls := .type "list", data := .seq vs.toArray }) (hok : HOk P w H s₁.heap) (hF : AtFirst K a (cs.map (·.2)) H)
    (body : ∀ base : Heap, K.In base → base.Ns mainGlobals mg → (∀ p ∈ cs, LamX.TabB base mg p.1 p.2) → Env0 P w K mg base callerA [] s₁ H → codeAny (model P w) callerA (.call (.ref fa) ⟨[.ref a], []⟩) (CR C8.CX0 [] P w H s₁ (fun v _ => v = .bl true) C8.E0) s₁) :
    codeAny (model P w) callerA (.call (.ref fa) ⟨[.ref a], []⟩) (Done s₁) s₁ := by
  obtain ⟨_, only⟩ := hF
  have isT : ∀ b ∈ cs.map (·.2), s₁.heap.get? b = some { cls := .none, data := .fields #[] } ∧ K.lookup b = none := fun b hb => by
    obtain ⟨p, hp, rfl⟩ := List.mem_map.mp hb
    exact ⟨(hC p hp).1, (hC p hp).2.1⟩
  -- an object that is no list and no empty table is not tracked
  have free : ∀ {b : Addr} {o : Obj}, s₁.heap.get? b = some o → (∀ xs n, o.data = .seq xs n → False) → (o.data = .fields #[] → False) → (hidT s₁.heap H).get? b = some o := fun {b o} e n1 n2 => hidT_get e (by
    cases q : H b with
    | none => rfl
    | some u =>
      rcases only b u q with ⟨h1, _⟩ | ⟨h1, _⟩
      · rw [(isT b h1).1] at e
        cases e
        exact (n2 rfl).elim
      · rw [h1, ha] at e
        cases e
        exact (n1 _ _ rfl).elim)
  have ns : ∀ {b : Addr} {m : Str → Option Value}, s₁.heap.Ns b m → (hidT s₁.heap H).Ns b m := by
    rintro b m ⟨o, es, ep, e, d, r⟩
    exact ⟨o, es, ep, free e (fun xs n z => nomatch d.symm.trans z) (fun z => nomatch d.symm.trans z), d, r⟩
  have inK : K.In (hidT s₁.heap H) := fun b o e => hidT_get (KX b o e) (by
    cases q : H b with
    | none => rfl
    | some u =>
      rcases only b u q with ⟨h1, _⟩ | ⟨h1, h2, _⟩
      · rw [(isT b h1).2] at e
        cases e
      · rw [h1, h2] at e
        cases e)
  have tabB : ∀ p ∈ cs, LamX.TabB (hidT s₁.heap H) mg p.1 p.2 := fun p hp => by
    obtain ⟨h1, h2, h3⟩ := hC p hp
    refine ⟨?_, ?_, fun z => ?_⟩
    · obtain ⟨o, us, file, tf, flags, tg, inF, text, tt, e1, r1, r2, r3, r⟩ := h3
      refine ⟨o, us, file, tf, flags, tg, inF, text, tt, free e1 (fun xs n z => nomatch r2.symm.trans z) (fun z => ?_), r1, r2, r3, r⟩
      cases r2.symm.trans z
      simp at r3
    · obtain ⟨bm, ob, b1, b2, b3, b4, b5, b6⟩ := hM
      refine ⟨bm, ob, b1, b2, fun q => ?_, fun q => ?_, free b3 (fun xs n z => nomatch b6.symm.trans z) (fun z => nomatch b6.symm.trans z), b4, b5, b6⟩
      · obtain ⟨o, es, ep, e, hd, _⟩ := hns
        rw [q, e] at b3
        cases b3
        cases hd.symm.trans b6
      · rw [q, h1] at b3
        cases b3
        cases b6
    · obtain ⟨o, es, ep, e, hd, _⟩ := hns
      rw [z, h1] at e
      cases e
      cases hd
  obtain ⟨mc, l1, l2⟩ := hlim
  have env : Env0 P w K mg (hidT s₁.heap H) callerA [] s₁ H :=
    { frames := rfl, mod := ⟨inK, ns hns, ⟨mb, ns hb, hbb⟩, ⟨mc, ns l1, l2⟩⟩, bs := fun b o e => of_hidT e, bsz := Nat.le_of_eq (hidT_size _ _), funs := trivial, frf := fun b z => (List.not_mem_nil z).elim, hok := hok, bare := .of_eq hg }
  refine codeAny_mono (body _ inK (ns hns) tabB env) ?_
  intro r s' z
  match r, z with
  | .error e, z => exact (show False from z).elim
  | .ok .next, z => exact (show False from z).elim
  | .ok .brk, z => exact (show False from z).elim
  | .ok .cont, z => exact (show False from z).elim
  | .ok (.ret u), ⟨v, H', os, bare, un, hok', rel, q⟩ =>
    obtain rfl : v = .bl true := q
    have eu : u = Value.bool true := rel
    subst eu
    have tabK : ∀ p ∈ cs, H p.2 = some (.tbl #[]) → ∃ more : Array Value, s'.heap.get? p.2 = some { cls := .none, data := .fields more } := fun p hp e => by
      obtain ⟨more, h⟩ := un.tbls p.2 #[] e
      exact ⟨_, hok' p.2 _ h⟩
    have each : ∀ b o, s₁.heap.get? b = some o → s'.heap.get? b = some o ∨ ∃ p ∈ cs, p.2 = b ∧ H b = some (.tbl #[]) := fun b o e => by
      cases hq : H b with
      | none => exact .inl (un.keep b o e hq (fun z => (List.not_mem_nil z).elim) List.not_mem_nil)
      | some u =>
        rcases only b u hq with ⟨h1, rfl⟩ | ⟨_, _, o2, ys, rfl⟩
        · obtain ⟨p, hp, e1⟩ := List.mem_map.mp h1
          exact .inr ⟨p, hp, e1, rfl⟩
        · obtain ⟨w1, _⟩ := hok b _ hq
          obtain ⟨w2, _⟩ := hok' b _ (un.frzs b o2 _ hq)
          rw [e] at w1
          cases w1
          exact .inl w2
    refine ⟨rfl, ⟨fun b o e => ?_, fun b o e => ?_⟩, os, bare⟩
    · rcases each b o e with h | ⟨p, hp, rfl, hq⟩
      · exact .inl h
      · obtain ⟨more, hm⟩ := tabK p hp hq
        obtain ⟨h1, _, h3⟩ := hC p hp
        cases h1.symm.trans e
        exact .inr (.inl ⟨(h3.tab h1).isCodeTable, rfl, #[], more, rfl, (Array.empty_append (xs := more)).symm ▸ hm⟩)
    · rcases each b o e with h | ⟨p, hp, rfl, hq⟩
      · exact ⟨o, h⟩
      · obtain ⟨more, hm⟩ := tabK p hp hq
        exact ⟨_, hm⟩
theorem tab_call {fa a : Addr} {s₁ : Shared} {vs : List Value} {ns : List Int} {cs : List (Addr × Addr)} (KX : K.In s₁.heap) (hns : s₁.heap.Ns mainGlobals mg) (hb : s₁.heap.Ns builtinsNs mb) (hbb : ∀ x : Str, x ≠ "__name__" → mb x = bootBuiltins x) (hlim : s₁.heap.NoLimit) (hg : s₁.gens = #[])
    (hC : Tabled s₁ K cs) (hM : MainMod s₁ mg) (ha : s₁.heap.get? a = some { cls := .type "list", data := .seq vs.toArray }) (hi : IntsAre vs ns) (hl : ns.length ≤ sizeLine)
    (body : ∀ (H : Hp) (base : Heap), K.In base → base.Ns mainGlobals mg → (∀ p ∈ cs, LamX.TabB base mg p.1 p.2) → (∀ p ∈ cs, H p.2 = some (.tbl #[])) → SqL K H a (ns.map V.int) → Env0 P w K mg base callerA [] s₁ H → codeAny (model P w) callerA (.call (.ref fa) ⟨[.ref a], []⟩) (CR C8.CX0 [] P w H s₁ (fun v _ => v = .bl true) C8.E0) s₁) :
    codeAny (model P w) callerA (.call (.ref fa) ⟨[.ref a], []⟩) (Done s₁) s₁ := by
  have rv := vals_ints hi
  have aT : a ∉ cs.map (·.2) := fun z => by
    obtain ⟨p, hp, e⟩ := List.mem_map.mp z
    have q := (hC p hp).1
    rw [e, ha] at q
    cases q
  have tabAt : ∀ b ∈ cs.map (·.2), s₁.heap.get? b = some { cls := .none, data := .fields #[] } := fun b hb => by
    obtain ⟨p, hp, rfl⟩ := List.mem_map.mp hb
    exact (hC p hp).1
  let H0 : Hp := fun b => if b ∈ cs.map (·.2) then some (.tbl #[]) else none
  have h0 : ∀ b u, H0 b = some u → b ∈ cs.map (·.2) ∧ u = .tbl #[] := fun b u z => by
    by_cases h : b ∈ cs.map (·.2)
    · exact ⟨h, (Option.some.inj ((if_pos h).symm.trans z)).symm⟩
    · cases (if_neg h).symm.trans z
  have h0at : ∀ b ∈ cs.map (·.2), H0 b = some (.tbl #[]) := fun b h => if_pos h
  have ok0 : HOk P w H0 s₁.heap := fun b u z => by
    obtain ⟨h1, rfl⟩ := h0 b u z
    exact tabAt b h1
  clear_value H0
  cases hk : K.lookup a with
  | some o =>
    cases (KX a o hk).symm.trans ha
    refine tab_core H0 KX hns hb hbb hlim hg hC hM ha ok0 ⟨h0at, fun b u z => .inl (h0 b u z)⟩ fun base i1 i2 i3 i4 => body _ base i1 i2 i3 (fun p hp => h0at _ (List.mem_map.mpr ⟨p, hp, rfl⟩)) (.inr ⟨_, vs.toArray, _, hk, rfl, rfl, rfl, ?_, by simpa using rv⟩) i4
    rw [List.size_toArray, hi.length]
    exact hl
  | none =>
    have old : ∀ b ∈ cs.map (·.2), upd H0 a (.frz { cls := .type "list", data := .seq vs.toArray } (.lst (ns.map V.int))) b = some (.tbl #[]) := fun b hb => by
      rw [upd_ne fun z : b = a => aT (by rw [← z]; exact hb)]
      exact h0at b hb
    have two : ∀ b u, upd H0 a (.frz { cls := .type "list", data := .seq vs.toArray } (.lst (ns.map V.int))) b = some u → (b ∈ cs.map (·.2) ∧ u = .tbl #[]) ∨ (b = a ∧ u = .frz { cls := .type "list", data := .seq vs.toArray } (.lst (ns.map V.int))) := fun b u z => by
      by_cases e : b = a
      · subst e
        rw [upd_same] at z
        exact .inr ⟨rfl, (Option.some.inj z).symm⟩
      · rw [upd_ne e] at z
        exact .inl (h0 b u z)
    refine tab_core (upd H0 a (.frz { cls := .type "list", data := .seq vs.toArray } (.lst (ns.map V.int)))) KX hns hb hbb hlim hg hC hM ha (fun b u z => ?_) ⟨old, fun b u z => ?_⟩ fun base i1 i2 i3 i4 => body _ base i1 i2 i3 (fun p hp => old _ (List.mem_map.mpr ⟨p, hp, rfl⟩)) (.inl (.inr ⟨_, upd_same⟩)) i4
    · rcases two b u z with ⟨h1, rfl⟩ | ⟨rfl, rfl⟩
      · exact tabAt b h1
      · exact ⟨ha, by rw [List.length_map]; exact hl, vs, _, rv, ha⟩
    · rcases two b u z with h | ⟨rfl, rfl⟩
      · exact .inl h
      · exact .inr ⟨rfl, hk, _, _, rfl⟩
end
/-- the end of such a law -/
theorem walk_tab {l : PySem.W.OpenLaw} {n k : Nat} {q : Program} {loose : List Str} {XP : (Str → Option Value) → Heap → Prop} {YP : World → Heap → Prop} {d : DefRec} {K : Params → PySem.W.Frag} {st : Stmt} {N : List Str}
    (hn : l.most = some n) (hn2 : n ≤ sizeLine) (hdf : d.params.defaults = []) (hr : Room (k + 1) callerA) (hY : ∀ (w : World) (h : Heap), YP w h → (K w.params).In h) (S : FnScope N ["script"] (C8.fnScope st))
    (F : ∀ (w : World) (mg : Str → Option Value) (fa : Addr) (h : Heap), YP w h → (K w.params).In h → h.Ns mainGlobals mg → mg d.name = some (.ref fa) →
      ∃ cs : List (Addr × Addr), (∀ p ∈ cs, PySem.W.CodeHd h p.1 p.2 ∧ h.get? p.2 = some { cls := .none, data := .fields #[] }) ∧ (∀ p ∈ cs, (K w.params).lookup p.2 = none) ∧
      ∃ fd : FuncData, C8.Def (K w.params) mg "law" st fa fd ∧ (∀ (s : Shared) (u : Value), BindsTo s fd ⟨[u], []⟩ [("script", u)]) ∧
        ∀ (base : Heap) (s : Shared) (H : Hp) (a : Addr) (ns : List Int) (cdv : Value), (K w.params).In base → base.Ns mainGlobals mg → (∀ p ∈ cs, LamX.TabB base mg p.1 p.2) → (∀ p ∈ cs, H p.2 = some (.tbl #[])) → ns.length ≤ n → SqL (K w.params) H a (ns.map V.int) →
          Room k (callerA.deeper (envOfC "law" (C8.fnScope st) s.heap.objs.size fa cdv)) →
          ∃ t, PSs (cxOf C8.CX0 l.prog w (K w.params) mg base N "law" (C8.fnScope st) fa cdv callerA [] s H C8.E0).nox (C8.fnBody st) t ∧ t { nx := fun _ _ => V.non = .bl true, rt := fun v _ => v = .bl true } (start N [.ref a]) H) :
    PySem.W.WalkO q loose XP YP l.row.toRowW d [] (fun f vs => PySem.call f vs) := by
  refine Att.attach_callB hn hdf ?_
  intro w s₀ s₁ mg mb fa o pm cd doc a vs ns G Y ho hd hcd hmg hobj hints hlen hbits hg
  obtain ⟨cs, t1, t2, fd, D, bi, body⟩ := F w mg fa _ Y (hY w _ Y) G.T.g hmg
  apply tab_call (hY w _ Y) G.T.g G.T.b G.T.builtins G.T.nolimit hg (fun p hp => ⟨(t1 p hp).2, t2 p hp, (t1 p hp).1⟩) G.T.bmain hobj hints (Nat.le_trans hlen hn2)
  intro H base i1 i2 i3 i4 hS env
  exact run_here (us := [.ref a]) (vs := [.ref a]) D S hr env (bi s₁ (.ref a)) (.cons rfl .nil) rfl fun cdv room => body base s₁ H a ns cdv i1 i2 i3 i4 hlen hS room
theorem tabOf_eq {K : PySem.W.Frag} {x : Str} {f c P : Addr} {fd : FuncData} {oc o2 : Value} {od d2 : Option Addr} {sl s2 : Array (Option Value)} {vs : Array Value} (a : PySem.W.nsIn K mainGlobals x = some (some (.ref f))) (l : K.lookup f = some ⟨oc, od, .func fd, sl⟩) (hc : fd.code = .ref c) (lc : K.lookup c = some ⟨o2, d2, .fields vs, s2⟩) (hv : vs.getD 11 .none = .ref P) : tabOf K x = P := by
  unfold tabOf
  rw [a]
  simp only [l, hc, lc, hv]

--@SPLIT
theorem all_mk {P : Program} {w : World} {K : PySem.W.Frag} {h : Heap} {mg : Str → Option Value} {fa : Addr} (X : K.In h) (G : h.Ns mainGlobals mg) (hfa : mg "law" = some (.ref fa))
    {f0 : Addr} {od0 an0 : Option Addr} {sl0 : Array (Option Value)} {oc0 kV0 dc0 pm0 cd0 ct0 : Value} (a0 : PySem.W.nsIn K mainGlobals "parts_of" = some (some (.ref f0))) (l0 : K.lookup f0 = some ⟨oc0, od0, .func (PySem.W.fnOf "parts_of" "parts_of" (C8.fnArgs s_parts_of) (C8.fnBody s_parts_of) (C8.fnScope s_parts_of) .none kV0 dc0 pm0 an0 cd0 ct0), sl0⟩) (b0 : PySem.W.codeIn K cd0 "parts_of" = true) (k0 : PySem.W.keepIn K (.ref f0) = true)
    {f1 : Addr} {od1 an1 : Option Addr} {sl1 : Array (Option Value)} {oc1 kV1 dc1 pm1 cd1 ct1 : Value} (a1 : PySem.W.nsIn K mainGlobals "columns_of" = some (some (.ref f1))) (l1 : K.lookup f1 = some ⟨oc1, od1, .func (PySem.W.fnOf "columns_of" "columns_of" (C8.fnArgs s_columns_of) (C8.fnBody s_columns_of) (C8.fnScope s_columns_of) .none kV1 dc1 pm1 an1 cd1 ct1), sl1⟩) (b1 : PySem.W.codeIn K cd1 "columns_of" = true) (k1 : PySem.W.keepIn K (.ref f1) = true)
    {f2 : Addr} {od2 an2 : Option Addr} {sl2 : Array (Option Value)} {oc2 kV2 dc2 pm2 cd2 ct2 : Value} (a2 : PySem.W.nsIn K mainGlobals "inputs_in" = some (some (.ref f2))) (l2 : K.lookup f2 = some ⟨oc2, od2, .func (PySem.W.fnOf "inputs_in" "inputs_in" (C8.fnArgs s_inputs_in) (C8.fnBody s_inputs_in) (C8.fnScope s_inputs_in) .none kV2 dc2 pm2 an2 cd2 ct2), sl2⟩) (b2 : PySem.W.codeIn K cd2 "inputs_in" = true) (k2 : PySem.W.keepIn K (.ref f2) = true)
    {f3 : Addr} {od3 an3 : Option Addr} {sl3 : Array (Option Value)} {oc3 kV3 dc3 pm3 cd3 ct3 : Value} (a3 : PySem.W.nsIn K mainGlobals "operators_in" = some (some (.ref f3))) (l3 : K.lookup f3 = some ⟨oc3, od3, .func (PySem.W.fnOf "operators_in" "operators_in" (C8.fnArgs s_operators_in) (C8.fnBody s_operators_in) (C8.fnScope s_operators_in) .none kV3 dc3 pm3 an3 cd3 ct3), sl3⟩) (b3 : PySem.W.codeIn K cd3 "operators_in" = true) (k3 : PySem.W.keepIn K (.ref f3) = true)
    {f4 : Addr} {od4 an4 : Option Addr} {sl4 : Array (Option Value)} {oc4 kV4 dc4 pm4 cd4 ct4 : Value} (a4 : PySem.W.nsIn K mainGlobals "worked_up" = some (some (.ref f4))) (l4 : K.lookup f4 = some ⟨oc4, od4, .func (PySem.W.fnOf "worked_up" "worked_up" (C8.fnArgs s_worked_up) (C8.fnBody s_worked_up) (C8.fnScope s_worked_up) .none kV4 dc4 pm4 an4 cd4 ct4), sl4⟩) (b4 : PySem.W.codeIn K cd4 "worked_up" = true) (k4 : PySem.W.keepIn K (.ref f4) = true)
    {f5 : Addr} {od5 an5 : Option Addr} {sl5 : Array (Option Value)} {oc5 kV5 dc5 pm5 cd5 ct5 : Value} (a5 : PySem.W.nsIn K mainGlobals "_operands_in" = some (some (.ref f5))) (l5 : K.lookup f5 = some ⟨oc5, od5, .func (PySem.W.fnOf "_operands_in" "_operands_in" (C8.fnArgs s__operands_in) (C8.fnBody s__operands_in) (C8.fnScope s__operands_in) .none kV5 dc5 pm5 an5 cd5 ct5), sl5⟩) (b5 : PySem.W.codeIn K cd5 "_operands_in" = true) (k5 : PySem.W.keepIn K (.ref f5) = true)
    {f6 : Addr} {od6 an6 : Option Addr} {sl6 : Array (Option Value)} {oc6 kV6 dc6 pm6 cd6 ct6 : Value} (a6 : PySem.W.nsIn K mainGlobals "_keys_in" = some (some (.ref f6))) (l6 : K.lookup f6 = some ⟨oc6, od6, .func (PySem.W.fnOf "_keys_in" "_keys_in" (C8.fnArgs s__keys_in) (C8.fnBody s__keys_in) (C8.fnScope s__keys_in) .none kV6 dc6 pm6 an6 cd6 ct6), sl6⟩) (b6 : PySem.W.codeIn K cd6 "_keys_in" = true) (k6 : PySem.W.keepIn K (.ref f6) = true)
    {f7 : Addr} {od7 an7 : Option Addr} {sl7 : Array (Option Value)} {oc7 kV7 dc7 pm7 cd7 ct7 : Value} (a7 : PySem.W.nsIn K mainGlobals "expressions_in" = some (some (.ref f7))) (l7 : K.lookup f7 = some ⟨oc7, od7, .func (PySem.W.fnOf "expressions_in" "expressions_in" (C8.fnArgs s_expressions_in) (C8.fnBody s_expressions_in) (C8.fnScope s_expressions_in) .none kV7 dc7 pm7 an7 cd7 ct7), sl7⟩) (b7 : PySem.W.codeIn K cd7 "expressions_in" = true) (k7 : PySem.W.keepIn K (.ref f7) = true)
    {f8 : Addr} {od8 an8 : Option Addr} {sl8 : Array (Option Value)} {oc8 kV8 dc8 pm8 cd8 ct8 : Value} (a8 : PySem.W.nsIn K mainGlobals "_uses_known" = some (some (.ref f8))) (l8 : K.lookup f8 = some ⟨oc8, od8, .func (PySem.W.fnOf "_uses_known" "_uses_known" (C8.fnArgs s__uses_known) (C8.fnBody s__uses_known) (C8.fnScope s__uses_known) .none kV8 dc8 pm8 an8 cd8 ct8), sl8⟩) (b8 : PySem.W.codeIn K cd8 "_uses_known" = true) (k8 : PySem.W.keepIn K (.ref f8) = true)
    {f9 : Addr} {od9 an9 : Option Addr} {sl9 : Array (Option Value)} {oc9 kV9 dc9 pm9 cd9 ct9 : Value} (a9 : PySem.W.nsIn K mainGlobals "_leaf_width" = some (some (.ref f9))) (l9 : K.lookup f9 = some ⟨oc9, od9, .func (PySem.W.fnOf "_leaf_width" "_leaf_width" (C8.fnArgs s__leaf_width) (C8.fnBody s__leaf_width) (C8.fnScope s__leaf_width) .none kV9 dc9 pm9 an9 cd9 ct9), sl9⟩) (b9 : PySem.W.codeIn K cd9 "_leaf_width" = true) (k9 : PySem.W.keepIn K (.ref f9) = true)
    {f10 : Addr} {od10 an10 : Option Addr} {sl10 : Array (Option Value)} {oc10 kV10 dc10 pm10 cd10 ct10 : Value} (a10 : PySem.W.nsIn K mainGlobals "_result_width" = some (some (.ref f10))) (l10 : K.lookup f10 = some ⟨oc10, od10, .func (PySem.W.fnOf "_result_width" "_result_width" (C8.fnArgs s__result_width) (C8.fnBody s__result_width) (C8.fnScope s__result_width) .none kV10 dc10 pm10 an10 cd10 ct10), sl10⟩) (b10 : PySem.W.codeIn K cd10 "_result_width" = true) (k10 : PySem.W.keepIn K (.ref f10) = true)
    {f11 : Addr} {od11 an11 : Option Addr} {sl11 : Array (Option Value)} {oc11 kV11 dc11 pm11 cd11 ct11 : Value} (a11 : PySem.W.nsIn K mainGlobals "_operator_width" = some (some (.ref f11))) (l11 : K.lookup f11 = some ⟨oc11, od11, .func (PySem.W.fnOf "_operator_width" "_operator_width" (C8.fnArgs s__operator_width) (C8.fnBody s__operator_width) (C8.fnScope s__operator_width) .none kV11 dc11 pm11 an11 cd11 ct11), sl11⟩) (b11 : PySem.W.codeIn K cd11 "_operator_width" = true) (k11 : PySem.W.keepIn K (.ref f11) = true)
    {f12 c12 P12 : Addr} {od12 an12 : Option Addr} {sl12 : Array (Option Value)} {oc12 kV12 dc12 pm12 ct12 : Value} {o212 : Value} {d212 : Option Addr} {vs12 : Array Value} {s212 : Array (Option Value)} (a12 : PySem.W.nsIn K mainGlobals "width_of" = some (some (.ref f12))) (l12 : K.lookup f12 = some ⟨oc12, od12, .func (PySem.W.fnOf "width_of" "width_of" (C8.fnArgs s_width_of) (C8.fnBody s_width_of) (C8.fnScope s_width_of) .none kV12 dc12 pm12 an12 (Value.ref c12) ct12), sl12⟩) (b12 : PySem.W.codeIn K (Value.ref c12) "width_of" = true) (k12 : PySem.W.keepIn K (.ref f12) = true) (lc12 : K.lookup c12 = some ⟨o212, d212, .fields vs12, s212⟩) (vt12 : vs12.getD 11 .none = .ref P12)
    {f13 : Addr} {od13 an13 : Option Addr} {sl13 : Array (Option Value)} {oc13 kV13 dc13 pm13 cd13 ct13 : Value} (a13 : PySem.W.nsIn K mainGlobals "_law_numbers" = some (some (.ref f13))) (l13 : K.lookup f13 = some ⟨oc13, od13, .func (PySem.W.fnOf "_law_numbers" "_law_numbers" (C8.fnArgs s__law_numbers) (C8.fnBody s__law_numbers) (C8.fnScope s__law_numbers) .none kV13 dc13 pm13 an13 cd13 ct13), sl13⟩) (b13 : PySem.W.codeIn K cd13 "_law_numbers" = true) (k13 : PySem.W.keepIn K (.ref f13) = true)
    {f14 : Addr} {od14 an14 : Option Addr} {sl14 : Array (Option Value)} {oc14 kV14 dc14 pm14 cd14 ct14 : Value} (a14 : PySem.W.nsIn K mainGlobals "_law_source" = some (some (.ref f14))) (l14 : K.lookup f14 = some ⟨oc14, od14, .func (PySem.W.fnOf "_law_source" "_law_source" (C8.fnArgs s__law_source) (C8.fnBody s__law_source) (C8.fnScope s__law_source) .none kV14 dc14 pm14 an14 cd14 ct14), sl14⟩) (b14 : PySem.W.codeIn K cd14 "_law_source" = true) (k14 : PySem.W.keepIn K (.ref f14) = true)
    {f15 : Addr} {od15 an15 : Option Addr} {sl15 : Array (Option Value)} {oc15 kV15 dc15 pm15 cd15 ct15 : Value} (a15 : PySem.W.nsIn K mainGlobals "_law_column" = some (some (.ref f15))) (l15 : K.lookup f15 = some ⟨oc15, od15, .func (PySem.W.fnOf "_law_column" "_law_column" (C8.fnArgs s__law_column) (C8.fnBody s__law_column) (C8.fnScope s__law_column) .none kV15 dc15 pm15 an15 cd15 ct15), sl15⟩) (b15 : PySem.W.codeIn K cd15 "_law_column" = true) (k15 : PySem.W.keepIn K (.ref f15) = true)
    {f16 : Addr} {od16 an16 : Option Addr} {sl16 : Array (Option Value)} {oc16 kV16 dc16 pm16 cd16 ct16 : Value} (a16 : PySem.W.nsIn K mainGlobals "_law_operator" = some (some (.ref f16))) (l16 : K.lookup f16 = some ⟨oc16, od16, .func (PySem.W.fnOf "_law_operator" "_law_operator" (C8.fnArgs s__law_operator) (C8.fnBody s__law_operator) (C8.fnScope s__law_operator) .none kV16 dc16 pm16 an16 cd16 ct16), sl16⟩) (b16 : PySem.W.codeIn K cd16 "_law_operator" = true) (k16 : PySem.W.keepIn K (.ref f16) = true)
    {f17 : Addr} {od17 an17 : Option Addr} {sl17 : Array (Option Value)} {oc17 kV17 dc17 pm17 cd17 ct17 : Value} (a17 : PySem.W.nsIn K mainGlobals "law" = some (some (.ref f17))) (l17 : K.lookup f17 = some ⟨oc17, od17, .func (PySem.W.fnOf "law" "law" (C8.fnArgs s_law) (C8.fnBody s_law) (C8.fnScope s_law) .none kV17 dc17 pm17 an17 cd17 ct17), sl17⟩) (b17 : PySem.W.codeIn K cd17 "law" = true) (k17 : PySem.W.keepIn K (.ref f17) = true)
    (z_all : PySem.W.nsIn K mainGlobals "all" = some none)
    (z_any : PySem.W.nsIn K mainGlobals "any" = some none)
    (z_int : PySem.W.nsIn K mainGlobals "int" = some none)
    (z_isinstance : PySem.W.nsIn K mainGlobals "isinstance" = some none)
    (z_len : PySem.W.nsIn K mainGlobals "len" = some none)
    (z_list : PySem.W.nsIn K mainGlobals "list" = some none)
    (z_range : PySem.W.nsIn K mainGlobals "range" = some none)
    (z_reversed : PySem.W.nsIn K mainGlobals "reversed" = some none)
    (z_sorted : PySem.W.nsIn K mainGlobals "sorted" = some none)
    (z_sum : PySem.W.nsIn K mainGlobals "sum" = some none)
    (z_tuple : PySem.W.nsIn K mainGlobals "tuple" = some none)
    {p__FIRST_PART : Addr} {es__FIRST_PART : Array DictEntry} {n__FIRST_PART : Nat} (q__FIRST_PART : PySem.W.nsIn K mainGlobals "_FIRST_PART" = some (some (.ref p__FIRST_PART))) (ka__FIRST_PART : K.lookup p__FIRST_PART = some ⟨.type "dict", none, .dict es__FIRST_PART n__FIRST_PART, #[]⟩) (kl__FIRST_PART : PySem.W.KeysLit w.params es__FIRST_PART.toList) (ko__FIRST_PART : (p__FIRST_PART == sysModules) = false)
    {tk__FIRST_PART_0 : Tok} (e__FIRST_PART_0 : PySem.W.nsIn K p__FIRST_PART "constant" = some (some (.int 2 tk__FIRST_PART_0)))
    {tk__FIRST_PART_1 : Tok} (e__FIRST_PART_1 : PySem.W.nsIn K p__FIRST_PART "column" = some (some (.int 2 tk__FIRST_PART_1)))
    {tk__FIRST_PART_2 : Tok} (e__FIRST_PART_2 : PySem.W.nsIn K p__FIRST_PART "unary" = some (some (.int 2 tk__FIRST_PART_2)))
    {tk__FIRST_PART_3 : Tok} (e__FIRST_PART_3 : PySem.W.nsIn K p__FIRST_PART "binary" = some (some (.int 2 tk__FIRST_PART_3)))
    {tk__FIRST_PART_4 : Tok} (e__FIRST_PART_4 : PySem.W.nsIn K p__FIRST_PART "ternary" = some (some (.int 2 tk__FIRST_PART_4)))
    {tk__FIRST_PART_5 : Tok} (e__FIRST_PART_5 : PySem.W.nsIn K p__FIRST_PART "choice" = some (some (.int 1 tk__FIRST_PART_5)))
    {p__MANY_INPUTS : Addr} {es__MANY_INPUTS : Array DictEntry} {n__MANY_INPUTS : Nat} (q__MANY_INPUTS : PySem.W.nsIn K mainGlobals "_MANY_INPUTS" = some (some (.ref p__MANY_INPUTS))) (ka__MANY_INPUTS : K.lookup p__MANY_INPUTS = some ⟨.type "dict", none, .dict es__MANY_INPUTS n__MANY_INPUTS, #[]⟩) (kl__MANY_INPUTS : PySem.W.KeysLit w.params es__MANY_INPUTS.toList) (ko__MANY_INPUTS : (p__MANY_INPUTS == sysModules) = false)
    {tk__MANY_INPUTS_0 : Tok} (e__MANY_INPUTS_0 : PySem.W.nsIn K p__MANY_INPUTS "table" = some (some (.int 0 tk__MANY_INPUTS_0)))
    {tk__MANY_INPUTS_1 : Tok} (e__MANY_INPUTS_1 : PySem.W.nsIn K p__MANY_INPUTS "scan" = some (some (.int 0 tk__MANY_INPUTS_1)))
    {tk__MANY_INPUTS_2 : Tok} (e__MANY_INPUTS_2 : PySem.W.nsIn K p__MANY_INPUTS "rows" = some (some (.int 0 tk__MANY_INPUTS_2)))
    {tk__MANY_INPUTS_3 : Tok} (e__MANY_INPUTS_3 : PySem.W.nsIn K p__MANY_INPUTS "join" = some (some (.int 2 tk__MANY_INPUTS_3)))
    {tk__MANY_INPUTS_4 : Tok} (e__MANY_INPUTS_4 : PySem.W.nsIn K p__MANY_INPUTS "union" = some (some (.int 2 tk__MANY_INPUTS_4)))
    (e__MANY_INPUTS_5 : PySem.W.nsIn K p__MANY_INPUTS "filter" = some none)
    (e__MANY_INPUTS_6 : PySem.W.nsIn K p__MANY_INPUTS "project" = some none)
    (e__MANY_INPUTS_7 : PySem.W.nsIn K p__MANY_INPUTS "group" = some none)
    (e__MANY_INPUTS_8 : PySem.W.nsIn K p__MANY_INPUTS "window" = some none)
    (e__MANY_INPUTS_9 : PySem.W.nsIn K p__MANY_INPUTS "top" = some none)
    : ∃ fd : FuncData, C8.Def K mg "law" s_law fa fd ∧ (∀ (s : Shared) (u : Value), BindsTo s fd ⟨[u], []⟩ [("script", u)]) ∧ ∀ (base : Heap) (s : Shared) (H : Hp) (a : Addr) (ns : List Int) (cdv : Value), K.In base → base.Ns mainGlobals mg → (∀ p ∈ ([(c12, P12)] : List (Addr × Addr)), LamX.TabB base mg p.1 p.2) → (∀ p ∈ ([(c12, P12)] : List (Addr × Addr)), H p.2 = some (.tbl #[])) → ns.length ≤ 63 → SqL K H a (ns.map V.int) → Room 32 (callerA.deeper (envOfC "law" (C8.fnScope s_law) s.heap.objs.size fa cdv)) → ∃ t, PSs (cxOf C8.CX0 P w K mg base n_law "law" (C8.fnScope s_law) fa cdv callerA [] s H C8.E0).nox (C8.fnBody s_law) t ∧ t { nx := fun _ _ => V.non = .bl true, rt := fun v _ => v = .bl true } (start n_law [.ref a]) H := by
  have D_parts_of : Dn K mg "parts_of" s_parts_of ["expression"] := dn_mk l0 b0 k0 (PySem.W.mg_of X G a0) (fun _ _ _ _ _ _ us hl => match us, hl with | [_], _ => rfl)
  have D_columns_of : Dn K mg "columns_of" s_columns_of ["expression"] := dn_mk l1 b1 k1 (PySem.W.mg_of X G a1) (fun _ _ _ _ _ _ us hl => match us, hl with | [_], _ => rfl)
  have D_inputs_in : Dn K mg "inputs_in" s_inputs_in ["plan"] := dn_mk l2 b2 k2 (PySem.W.mg_of X G a2) (fun _ _ _ _ _ _ us hl => match us, hl with | [_], _ => rfl)
  have D_operators_in : Dn K mg "operators_in" s_operators_in ["plan"] := dn_mk l3 b3 k3 (PySem.W.mg_of X G a3) (fun _ _ _ _ _ _ us hl => match us, hl with | [_], _ => rfl)
  have D_worked_up : Dn K mg "worked_up" s_worked_up ["plan", "work"] := dn_mk l4 b4 k4 (PySem.W.mg_of X G a4) (fun _ _ _ _ _ _ us hl => match us, hl with | [_, _], _ => rfl)
  have D__operands_in : Dn K mg "_operands_in" s__operands_in ["values"] := dn_mk l5 b5 k5 (PySem.W.mg_of X G a5) (fun _ _ _ _ _ _ us hl => match us, hl with | [_], _ => rfl)
  have D__keys_in : Dn K mg "_keys_in" s__keys_in ["keys"] := dn_mk l6 b6 k6 (PySem.W.mg_of X G a6) (fun _ _ _ _ _ _ us hl => match us, hl with | [_], _ => rfl)
  have D_expressions_in : Dn K mg "expressions_in" s_expressions_in ["plan"] := dn_mk l7 b7 k7 (PySem.W.mg_of X G a7) (fun _ _ _ _ _ _ us hl => match us, hl with | [_], _ => rfl)
  have D__uses_known : Dn K mg "_uses_known" s__uses_known ["operator", "many"] := dn_mk l8 b8 k8 (PySem.W.mg_of X G a8) (fun _ _ _ _ _ _ us hl => match us, hl with | [_, _], _ => rfl)
  have D__leaf_width : Dn K mg "_leaf_width" s__leaf_width ["operator", "widths"] := dn_mk l9 b9 k9 (PySem.W.mg_of X G a9) (fun _ _ _ _ _ _ us hl => match us, hl with | [_, _], _ => rfl)
  have D__result_width : Dn K mg "_result_width" s__result_width ["operator", "inputs"] := dn_mk l10 b10 k10 (PySem.W.mg_of X G a10) (fun _ _ _ _ _ _ us hl => match us, hl with | [_, _], _ => rfl)
  have D__operator_width : Dn K mg "_operator_width" s__operator_width ["operator", "inputs", "widths"] := dn_mk l11 b11 k11 (PySem.W.mg_of X G a11) (fun _ _ _ _ _ _ us hl => match us, hl with | [_, _, _], _ => rfl)
  have D_width_of : DnC K mg "width_of" s_width_of ["plan", "widths"] (Value.ref c12) := dnC_mk l12 b12 k12 (PySem.W.mg_of X G a12) (fun _ _ _ _ _ _ us hl => match us, hl with | [_, _], _ => rfl)
  have E_width_of : tabOf K "width_of" = P12 := tabOf_eq a12 l12 rfl lc12 vt12
  have D__law_numbers : Dn K mg "_law_numbers" s__law_numbers ["script", "count"] := dn_mk l13 b13 k13 (PySem.W.mg_of X G a13) (fun _ _ _ _ _ _ us hl => match us, hl with | [_, _], _ => rfl)
  have D__law_source : Dn K mg "_law_source" s__law_source ["number", "wrong", "width"] := dn_mk l14 b14 k14 (PySem.W.mg_of X G a14) (fun _ _ _ _ _ _ us hl => match us, hl with | [_, _, _], _ => rfl)
  have D__law_column : Dn K mg "_law_column" s__law_column ["number", "width", "wrong"] := dn_mk l15 b15 k15 (PySem.W.mg_of X G a15) (fun _ _ _ _ _ _ us hl => match us, hl with | [_, _, _], _ => rfl)
  have D__law_operator : Dn K mg "_law_operator" s__law_operator ["plan", "width", "number", "wrong"] := dn_mk l16 b16 k16 (PySem.W.mg_of X G a16) (fun _ _ _ _ _ _ us hl => match us, hl with | [_, _, _, _], _ => rfl)
  have y_all : mg "all" = none := PySem.W.mg_none_of X G z_all
  have y_any : mg "any" = none := PySem.W.mg_none_of X G z_any
  have y_int : mg "int" = none := PySem.W.mg_none_of X G z_int
  have y_isinstance : mg "isinstance" = none := PySem.W.mg_none_of X G z_isinstance
  have y_len : mg "len" = none := PySem.W.mg_none_of X G z_len
  have y_list : mg "list" = none := PySem.W.mg_none_of X G z_list
  have y_range : mg "range" = none := PySem.W.mg_none_of X G z_range
  have y_reversed : mg "reversed" = none := PySem.W.mg_none_of X G z_reversed
  have y_sorted : mg "sorted" = none := PySem.W.mg_none_of X G z_sorted
  have y_sum : mg "sum" = none := PySem.W.mg_none_of X G z_sum
  have y_tuple : mg "tuple" = none := PySem.W.mg_none_of X G z_tuple
  have v__FIRST_PART : ∃ u, mg "_FIRST_PART" = some u ∧ RelV (.ref p__FIRST_PART) u := ⟨_, PySem.W.mg_of X G q__FIRST_PART, rfl⟩
  have w__FIRST_PART : KDict K w p__FIRST_PART es__FIRST_PART n__FIRST_PART := ⟨ka__FIRST_PART, kl__FIRST_PART, ko__FIRST_PART⟩
  have v__MANY_INPUTS : ∃ u, mg "_MANY_INPUTS" = some u ∧ RelV (.ref p__MANY_INPUTS) u := ⟨_, PySem.W.mg_of X G q__MANY_INPUTS, rfl⟩
  have w__MANY_INPUTS : KDict K w p__MANY_INPUTS es__MANY_INPUTS n__MANY_INPUTS := ⟨ka__MANY_INPUTS, kl__MANY_INPUTS, ko__MANY_INPUTS⟩
  have e := hfa.symm.trans (PySem.W.mg_of X G a17)
  cases e
  have D_law := def_mk (x := "law") (st := s_law) l17 b17 k17 hfa
  refine ⟨_, D_law, fun s v => .of_eq rfl, fun base s H a ns cdv _ _ hB hH h63 hS hr => ?_⟩
  have B_width_of : LamX.TabB base mg c12 (tabOf K "width_of") := by rw [E_width_of]; exact hB (c12, P12) (List.mem_cons_self)
  have H_width_of : H P12 = some (.tbl #[]) := hH (c12, P12) (List.mem_cons_self)
  have c_parts_of := ok_parts_of (P := P) (w := w) (base := base) D_parts_of v__FIRST_PART w__FIRST_PART (DInts.cons e__FIRST_PART_0 (DInts.cons e__FIRST_PART_1 (DInts.cons e__FIRST_PART_2 (DInts.cons e__FIRST_PART_3 (DInts.cons e__FIRST_PART_4 (DInts.cons e__FIRST_PART_5 DInts.nil)))))) 
  have c_columns_of := ok_columns_of (P := P) (w := w) (base := base) D_columns_of c_parts_of y_sorted 
  have c_inputs_in := ok_inputs_in (P := P) (w := w) (base := base) D_inputs_in y_len y_list v__MANY_INPUTS w__MANY_INPUTS (DInts.cons e__MANY_INPUTS_0 (DInts.cons e__MANY_INPUTS_1 (DInts.cons e__MANY_INPUTS_2 (DInts.cons e__MANY_INPUTS_3 (DInts.cons e__MANY_INPUTS_4 DInts.nil))))) (DMiss.cons e__MANY_INPUTS_5 (DMiss.cons e__MANY_INPUTS_6 (DMiss.cons e__MANY_INPUTS_7 (DMiss.cons e__MANY_INPUTS_8 (DMiss.cons e__MANY_INPUTS_9 DMiss.nil))))) 
  have c_operators_in := ok_operators_in (P := P) (w := w) (base := base) D_operators_in c_inputs_in 
  have c_worked_up := ok_worked_up (P := P) (w := w) (base := base) D_worked_up c_inputs_in c_operators_in y_reversed 
  have c__operands_in := ok__operands_in (P := P) (w := w) (base := base) D__operands_in 
  have c__keys_in := ok__keys_in (P := P) (w := w) (base := base) D__keys_in 
  have c_expressions_in := ok_expressions_in (P := P) (w := w) (base := base) D_expressions_in c__keys_in c__operands_in y_list 
  have c__uses_known := ok__uses_known (P := P) (w := w) (base := base) D__uses_known c_columns_of c_expressions_in 
  have c__leaf_width := ok__leaf_width (P := P) (w := w) (base := base) D__leaf_width y_all y_len 
  have c__result_width := ok__result_width (P := P) (w := w) (base := base) D__result_width y_len y_sum 
  have c__operator_width := ok__operator_width (P := P) (w := w) (base := base) D__operator_width c__leaf_width c__result_width c__uses_known y_any y_sum 
  have c_width_of := ok_width_of (P := P) (w := w) (base := base) D_width_of B_width_of c_worked_up c__operator_width
  have c__law_numbers := ok__law_numbers (P := P) (w := w) (base := base) D__law_numbers y_int y_len y_range 
  have c__law_source := ok__law_source (P := P) (w := w) (base := base) D__law_source y_int y_range y_tuple 
  have c__law_column := ok__law_column (P := P) (w := w) (base := base) D__law_column y_int 
  have c__law_operator := ok__law_operator (P := P) (w := w) (base := base) D__law_operator c__law_column y_int 
  exact ok_law (P := P) (w := w) (base := base)  c__law_numbers c__law_operator c__law_source c_width_of y_int y_isinstance y_range (wt_mk E_width_of H_width_of) h63 hS hr
end My
open PySem PySem.W PyProof.Rows
set_option maxHeartbeats 0 in
theorem PySem.Challenge.cw_stylobate_k41_plans_without_a_width_holds : PySem.Challenge.rw_stylobate_k41_plans_without_a_width.Holds := by
  w_on; o_law; k_head; (case hw => w_witness2)
  k_fill
  refine My.walk_tab (l := PySem.Challenge.rw_stylobate_k41_plans_without_a_width) (n := 63) (k := 32) rfl (by decide) rfl ⟨rfl, by decide, by decide⟩ (fun w h Y => PySem.W.km_in_of Y) My.sc_law ?F
  case F =>
    intro w mg fa h Y KX G hmg
    km_tabs Y
    km_lay G hmg KX G G
    refine ⟨_, hT9, ?nt, ?mk⟩
    (case nt => exact List.forall_mem_cons.mpr ⟨by kernel_rfl, (fun _ h => nomatch h)⟩)
    refine' My.all_mk KX G hmg ?a0 ?l0 ?b0 ?k0 ?a1 ?l1 ?b1 ?k1 ?a2 ?l2 ?b2 ?k2 ?a3 ?l3 ?b3 ?k3 ?a4 ?l4 ?b4 ?k4 ?a5 ?l5 ?b5 ?k5 ?a6 ?l6 ?b6 ?k6 ?a7 ?l7 ?b7 ?k7 ?a8 ?l8 ?b8 ?k8 ?a9 ?l9 ?b9 ?k9 ?a10 ?l10 ?b10 ?k10 ?a11 ?l11 ?b11 ?k11 ?a12 ?l12 ?b12 ?k12 ?lc12 ?vt12 ?a13 ?l13 ?b13 ?k13 ?a14 ?l14 ?b14 ?k14 ?a15 ?l15 ?b15 ?k15 ?a16 ?l16 ?b16 ?k16 ?a17 ?l17 ?b17 ?k17 ?z_all ?z_any ?z_int ?z_isinstance ?z_len ?z_list ?z_range ?z_reversed ?z_sorted ?z_sum ?z_tuple ?q__FIRST_PART ?ka__FIRST_PART ?kl__FIRST_PART ?ko__FIRST_PART ?e__FIRST_PART_0 ?e__FIRST_PART_1 ?e__FIRST_PART_2 ?e__FIRST_PART_3 ?e__FIRST_PART_4 ?e__FIRST_PART_5 ?q__MANY_INPUTS ?ka__MANY_INPUTS ?kl__MANY_INPUTS ?ko__MANY_INPUTS ?e__MANY_INPUTS_0 ?e__MANY_INPUTS_1 ?e__MANY_INPUTS_2 ?e__MANY_INPUTS_3 ?e__MANY_INPUTS_4 ?e__MANY_INPUTS_5 ?e__MANY_INPUTS_6 ?e__MANY_INPUTS_7 ?e__MANY_INPUTS_8 ?e__MANY_INPUTS_9
    (case a0 => k_is); (case l0 => k_is); (case b0 => k_is); (case k0 => k_is); (case a1 => k_is); (case l1 => k_is); (case b1 => k_is); (case k1 => k_is); (case a2 => k_is); (case l2 => k_is); (case b2 => k_is); (case k2 => k_is); (case a3 => k_is); (case l3 => k_is); (case b3 => k_is); (case k3 => k_is); (case a4 => k_is); (case l4 => k_is); (case b4 => k_is); (case k4 => k_is); (case a5 => k_is); (case l5 => k_is); (case b5 => k_is); (case k5 => k_is); (case a6 => k_is); (case l6 => k_is); (case b6 => k_is); (case k6 => k_is); (case a7 => k_is); (case l7 => k_is); (case b7 => k_is); (case k7 => k_is); (case a8 => k_is); (case l8 => k_is); (case b8 => k_is); (case k8 => k_is); (case a9 => k_is); (case l9 => k_is); (case b9 => k_is); (case k9 => k_is); (case a10 => k_is); (case l10 => k_is); (case b10 => k_is); (case k10 => k_is); (case a11 => k_is); (case l11 => k_is); (case b11 => k_is); (case k11 => k_is); (case a12 => k_is); (case l12 => k_is); (case b12 => k_is); (case k12 => k_is); (case lc12 => k_is); (case vt12 => rfl); (case a13 => k_is); (case l13 => k_is); (case b13 => k_is); (case k13 => k_is); (case a14 => k_is); (case l14 => k_is); (case b14 => k_is); (case k14 => k_is); (case a15 => k_is); (case l15 => k_is); (case b15 => k_is); (case k15 => k_is); (case a16 => k_is); (case l16 => k_is); (case b16 => k_is); (case k16 => k_is); (case a17 => k_is); (case l17 => k_is); (case b17 => k_is); (case k17 => k_is); (case z_all => k_is); (case z_any => k_is); (case z_int => k_is); (case z_isinstance => k_is); (case z_len => k_is); (case z_list => k_is); (case z_range => k_is); (case z_reversed => k_is); (case z_sorted => k_is); (case z_sum => k_is); (case z_tuple => k_is); (case q__FIRST_PART => k_is); (case ka__FIRST_PART => k_is); (case e__FIRST_PART_0 => k_is); (case e__FIRST_PART_1 => k_is); (case e__FIRST_PART_2 => k_is); (case e__FIRST_PART_3 => k_is); (case e__FIRST_PART_4 => k_is); (case e__FIRST_PART_5 => k_is); (case q__MANY_INPUTS => k_is); (case ka__MANY_INPUTS => k_is); (case e__MANY_INPUTS_0 => k_is); (case e__MANY_INPUTS_1 => k_is); (case e__MANY_INPUTS_2 => k_is); (case e__MANY_INPUTS_3 => k_is); (case e__MANY_INPUTS_4 => k_is); (case e__MANY_INPUTS_5 => k_is); (case e__MANY_INPUTS_6 => k_is); (case e__MANY_INPUTS_7 => k_is); (case e__MANY_INPUTS_8 => k_is); (case e__MANY_INPUTS_9 => k_is)
    (case kl__FIRST_PART => k_keys)
    (case ko__FIRST_PART => decide)
    (case kl__MANY_INPUTS => k_keys)
    (case ko__MANY_INPUTS => decide)

