import PyProof.Rows.All
import Wide.All
import OpenK.AllK
import Wide.FinOn
import HandS.ForMost
import HandS.Codes
import HandS.Evl
import HandS.IsInst
import HandS.Wide
import HandS.Defaults
import HandS.Walk
import HandS.Flow
import HandS.TupAny
import HandS.Zip
import HandS.Property
import HandS.OwnEq
import HandS.Deep
import HandS.WideBits
import HandS.Iter
import HandS.Rev
import HandS.SortKw
import HandS.Keys
import HandS.TupLe
import HandS.Dict
import HandS.DictComp
import HandS.Text
import HandS.StrMore
import HandS.FStr
import HandS.Style
import HandS.More
import HandS.CallLocal
import HandS.Conv
import HandS.Flt
import KE.KEqSeq
import KE.KeyNested
import KE.KDictKeyed
import KE.DataEq
import KE.DataMinMax
import KE.DataMinKey
import PyProof.StrOps2
import PyProof.StrLawsFrom
import KE.RegKIsAll
import KE.SortKeyHeap
import KE.DataFind
import KE.KDictCopyH
import KE.KLam
import HandS.Lambda
import HandS.EndTab
import KE.KNestM
import HandS.Nested
import PySem.Challenge.RW_stylobate_k36_joins_of_rows
set_option Elab.async false
set_option linter.all false
set_option maxRecDepth 100000
set_option maxHeartbeats 4000000
namespace My
open PySem PySem.Spec PyProof.Rows L2 Evl
/-! ### defs of the text, promises, the end -/
def Dn (K : PySem.W.Frag) (mg : Str → Option Value) (x : Str) (st : Stmt) (ps : List Str) : Prop := ∃ f fd, C8.Def K mg x st f fd ∧ Binds K fd ps []
section
variable {P : Program} {w : World} {K : PySem.W.Frag} {mg : Str → Option Value} {base : Heap}
theorem cal_of {x : Str} {st : Stmt} {N ps : List Str} {k : Nat} {sp : Sp} (D : Dn K mg x st ps) (S : FnScope N ps (C8.fnScope st)) (len : ∀ vs H Q E, sp vs H Q E → vs.length = ps.length)
    (hbody : ∀ (f : Addr) (cdv : Value) (A : Around) (outer : List Env) (s : Shared) (H : Hp) (vs : List V) (Q : VK) (E : XK), Room k (A.deeper (envOfC x (C8.fnScope st) s.heap.objs.size f cdv)) → sp vs H Q E →
      ∃ t, PSs (cxOf C8.CX0 P w K mg base N x (C8.fnScope st) f cdv A outer s H E).nox (C8.fnBody st) t ∧ t { nx := fun _ H' => Q .non H', rt := Q } (start N vs) H) : C8.Cal P w K mg base (k + 1) x sp [] := by
  obtain ⟨f, fd, F, b⟩ := D
  exact C8.cal0 F b .nil S len (hbody f)
theorem def_mk {x : Str} {st : Stmt} {f : Addr} {oc : Value} {od an : Option Addr} {osl : Array (Option Value)} {kV doc pm cdv ct : Value}
    (l : K.lookup f = some ⟨oc, od, .func (PySem.W.fnOf x x (C8.fnArgs st) (C8.fnBody st) (C8.fnScope st) .none kV doc pm an cdv ct), osl⟩)
    (c : PySem.W.codeIn K cdv x = true) (k : PySem.W.keepIn K (.ref f) = true) (m : mg x = some (.ref f)) : C8.Def K mg x st f (PySem.W.fnOf x x (C8.fnArgs st) (C8.fnBody st) (C8.fnScope st) .none kV doc pm an cdv ct) :=
  ⟨⟨oc, od, .none, kV, doc, pm, an, cdv, ct, osl, rfl, l, c⟩, m, k⟩
theorem dn_mk {x : Str} {st : Stmt} {f : Addr} {oc : Value} {od an : Option Addr} {osl : Array (Option Value)} {kV doc pm cdv ct : Value} {ps : List Str}
    (l : K.lookup f = some ⟨oc, od, .func (PySem.W.fnOf x x (C8.fnArgs st) (C8.fnBody st) (C8.fnScope st) .none kV doc pm an cdv ct), osl⟩)
    (c : PySem.W.codeIn K cdv x = true) (k : PySem.W.keepIn K (.ref f) = true) (m : mg x = some (.ref f))
    (h : ∀ (kV doc pm : Value) (an : Option Addr) (cdv ct : Value) (us : List Value), us.length = ps.length → bindArgs (PySem.W.fnOf x x (C8.fnArgs st) (C8.fnBody st) (C8.fnScope st) .none kV doc pm an cdv ct) ⟨us, []⟩ = pure (ps.zip us)) : Dn K mg x st ps :=
  ⟨f, _, def_mk l c k m, C8.Fun.binds (def_mk l c k m).fn rfl h⟩
end
/-! ### x is True, x is False, of any value -/
def rIsT : R2 := fun x y H Q => ∃ b : Bool, y = .bl b ∧ Q (.bl (decide (x = .bl b))) H
def rNotT : R2 := fun x y H Q => ∃ b : Bool, y = .bl b ∧ Q (.bl (!decide (x = .bl b))) H
section
variable {X : Cx}
theorem rel_bl {x : V} {v : Value} {b : Bool} (rx : RelV x v) : PySem.plainIs v (.bool b) = true ∧ (v == .bool b) = decide (x = .bl b) ∨ ∃ n, v = .builtin n := by
  cases x with
  | non => cases (show v = Value.none from rx); exact .inl ⟨rfl, rfl⟩
  | bl c => cases (show v = Value.bool c from rx); exact .inl ⟨rfl, by cases b <;> cases c <;> rfl⟩
  | int i => obtain ⟨t, e⟩ := (show ∃ t, v = Value.int i t from rx); cases e; exact .inl ⟨rfl, rfl⟩
  | str i => obtain ⟨t, e⟩ := (show ∃ t, v = Value.str i t from rx); cases e; exact .inl ⟨rfl, rfl⟩
  | byt i => obtain ⟨t, e⟩ := (show ∃ t, v = Value.bytes i t from rx); cases e; exact .inl ⟨rfl, rfl⟩
  | flt i => obtain ⟨t, e⟩ := (show ∃ t, v = Value.float i t from rx); cases e; exact .inl ⟨rfl, rfl⟩
  | ref a => cases (show v = Value.ref a from rx); exact .inl ⟨rfl, rfl⟩
  | ty n => cases (show v = Value.type n from rx); exact .inl ⟨rfl, rfl⟩
theorem rel_bl' {x : V} {v : Value} {b : Bool} (rx : RelV x v) : PySem.plainIs v (.bool b) = true ∧ (v == .bool b) = decide (x = .bl b) := by
  rcases rel_bl (b := b) rx with h | ⟨n, rfl⟩
  · exact h
  · cases x <;> first | exact nomatch (rx : Value.builtin n = _) | (obtain ⟨t, e⟩ := rx; exact nomatch e)
theorem op_isTF : OpR X (compareOp .Is) rIsT := by
  intro pins s σ H x y v u Q I rx ry h
  obtain ⟨b, rfl, q⟩ := h
  cases (show u = Value.bool b from ry)
  obtain ⟨h1, h2⟩ := rel_bl' (b := b) rx
  exact wpAny_is_plain h1 ⟨.bl _, H, I, rfl, by rw [h2]; exact q⟩
theorem op_notTF : OpR X (compareOp .IsNot) rNotT := by
  intro pins s σ H x y v u Q I rx ry h
  obtain ⟨b, rfl, q⟩ := h
  cases (show u = Value.bool b from ry)
  obtain ⟨h1, h2⟩ := rel_bl' (b := b) rx
  exact wpAny_isNot_plain h1 ⟨.bl _, H, I, rfl, by rw [h2]; exact q⟩
end
/-! ### what evaluates to what: further -/
section
variable {K : PySem.W.Frag} {σ : L2.St} {H H' : Hp} {ta tb te tx : TE} {t u : TT} {x y z v : V} {r : R2}
theorem rv_isT {b : Bool} : RV rIsT x (.bl b) H (.bl (decide (x = .bl b))) := fun H1 _ _ q => ⟨b, rfl, q H1 (Ex.refl H1)⟩
theorem rv_notT {b : Bool} : RV rNotT x (.bl b) H (.bl (!decide (x = .bl b))) := fun H1 _ _ q => ⟨b, rfl, q H1 (Ex.refl H1)⟩
theorem rv_isN : RV (fun x y H Q => y = .non ∧ Q (.bl (decide (x = .non))) H) x .non H (.bl (decide (x = .non))) := fun H1 _ _ q => ⟨rfl, q H1 (Ex.refl H1)⟩
theorem rv_notN : RV (fun x y H Q => y = .non ∧ Q (.bl (!decide (x = .non))) H) x .non H (.bl (!decide (x = .non))) := fun H1 _ _ q => ⟨rfl, q H1 (Ex.refl H1)⟩
theorem ev_int {i : Int} (h : Ev ta σ H (.int i)) : Ev (tCB (fun xs H Q => (∃ i, xs = [.int i] ∧ Q (.int i) H) ∨ ∃ k, xs = [.bl k] ∧ Q (.int (if k then 1 else 0)) H) (tCons ta tNil)) σ H (.int i) :=
  fun H1 e Q q => h H1 e _ fun H2 e2 => .inl ⟨i, rfl, q H2 e2⟩
theorem ev_intB {b : Bool} (h : Ev ta σ H (.bl b)) : Ev (tCB (fun xs H Q => (∃ i, xs = [.int i] ∧ Q (.int i) H) ∨ ∃ k, xs = [.bl k] ∧ Q (.int (if k then 1 else 0)) H) (tCons ta tNil)) σ H (.int (if b then 1 else 0)) :=
  fun H1 e Q q => h H1 e _ fun H2 e2 => .inr ⟨b, rfl, q H2 e2⟩
theorem ev_abs {i : Int} (h : Ev ta σ H (.int i)) : Ev (tCB (fun xs H Q => ∃ i, xs = [.int i] ∧ Q (.int (if i < 0 then -i else i)) H) (tCons ta tNil)) σ H (.int (if i < 0 then -i else i)) :=
  fun H1 e Q q => h H1 e _ fun H2 e2 => ⟨i, rfl, q H2 e2⟩
theorem ev_min2 {i j : Int} (ha : Ev ta σ H (.int i)) (hb : Ev tb σ H (.int j)) : Ev (tCB (fun xs H Q => ∃ i j, xs = [.int i, .int j] ∧ Q (.int (if j < i then j else i)) H) (tCons ta (tCons tb tNil))) σ H (.int (if j < i then j else i)) := fun H1 e Q q =>
  ha H1 e _ fun H2 e2 => hb H2 (e.trans e2) _ fun H3 e3 => ⟨i, j, rfl, q H3 (e2.trans e3)⟩
theorem ev_lenS {s : Str} (h : Ev ta σ H (.str s)) (hz : s.length ≤ 100000) : Ev (tCB (fun xs H Q => ∃ z, xs = [.str z] ∧ z.length ≤ sizeLine ∧ Q (.int z.length) H) (tCons ta tNil)) σ H (.int s.length) :=
  fun H1 e Q q => h H1 e _ fun H2 e2 => ⟨s, rfl, sz_of hz, q H2 e2⟩
/-- isinstance(x, T) of a plain value -/
def tyOf : V → String
  | .non => "NoneType"
  | .bl _ => "bool"
  | .int _ => "int"
  | .str _ => "str"
  | .byt _ => "bytes"
  | .flt _ => "float"
  | _ => "?"
def isTy (x : V) (T : String) : Bool := ((kitB (tyOf x) T).getD false)
theorem ev_isi {T : String} {tn : String} {b : Bool} (ha : Ev ta σ H x) (ht : ∀ H1, TyX K H1 x (.type tn)) (hk : kitB tn T = some b) : Ev (tCB (rIsi K) (tCons ta (tCons (tC (.ty T)) tNil))) σ H (.bl b) :=
  fun H1 e Q q => ha H1 e _ fun H2 e2 => ⟨x, .ty T, .type tn, .type T, b, rfl, .ty T, ht H2, kit_ty hk, q H2 e2⟩
theorem tx_int (i : Int) (H1 : Hp) : TyX K H1 (.int i) (.type "int") := .base (.int i)
theorem tx_bl (i : Bool) (H1 : Hp) : TyX K H1 (.bl i) (.type "bool") := .base (.bl i)
theorem tx_str (i : Str) (H1 : Hp) : TyX K H1 (.str i) (.type "str") := .base (.str i)
theorem tx_non (H1 : Hp) : TyX K H1 .non (.type "NoneType") := .base .non
section
variable {D : Ends} {tz : TS}
/-- if c: x = e, an int: told by the value x has behind it -/
theorem q_ifI {b : Bool} {i : Nat} {p q : Int} (h : EvT t σ H b) (h1 : b = true → Ev te σ H (.int p)) (h0 : σ[i]? = some (some (.int q))) (k : ∀ H1, Ex H H1 → tz D (σ.set i (some (.int (if b = true then p else q)))) H1) : tSeq (tIfS t (tAsg te (gName i)) tNext) tz D σ H := by
  refine q_ifAsg h (fun hb => ?_) (fun hb => ?_) k
  · rw [if_pos hb]
    exact h1 hb
  · rw [hb]
    show σ.set i (some (V.int q)) = σ
    apply List.ext_getElem?
    intro j
    rw [List.getElem?_set]
    split
    · rename_i e
      subst e
      rw [h0]
      have := (List.getElem?_eq_some_iff.mp h0).1
      rw [if_pos this]
    · rfl
end
/-- a promise of one value, all else as it was -/
theorem spv {sp : Sp} {vs : List V} (h : ∀ H1, Ex H H1 → ∀ Q : VK, (∀ H2, Ex H1 H2 → Q z H2) → ∀ E : XK, sp vs H1 Q E) : SpV sp vs H z := h
end
local macro_rules | `(tactic| walk_at "side") => `(tactic| first
  | exact .inr ⟨by decide, by decide⟩
  | exact .inl ⟨by decide, by decide⟩
  | exact .inl ⟨by omega, by omega⟩
  | exact .inr ⟨by omega, by omega⟩
  | exact ⟨by decide, by decide⟩
  | exact ⟨by omega, by omega⟩
  | decide
  | (show (_ : Int) < _; omega)
  | omega)
local macro_rules | `(tactic| walk_at "rv") => `(tactic| first
  | exact rv_I0
  | ((refine' rv_I ?k1); (case k1 => walk_at "side"))
  | exact rv_isT
  | exact rv_notT
  | exact rv_isN
  | exact rv_notN
  | exact rv_eq rfl
  | exact rv_ne rfl)
local macro_rules | `(tactic| walk_at "sq") => `(tactic| first | assumption | exact ex_l (by assumption) (by assumption) | exact sq_of (by assumption))
/-- what a part gives, read off its form -/
local macro_rules | `(tactic| walk_at "ev") => `(tactic| first
  | exact ev_var rfl
  | exact ev_c
  | ((with_reducible refine' ev_op ?k1 ?k2 ?k3); (case k1 => walk_at "ev"); (case k2 => walk_at "ev"); (case k3 => walk_at "rv"))
  | ((with_reducible refine' ev_un ?k1 ?k2); (case k1 => walk_at "ev"); (case k2 => exact ru_neg))
  | ((with_reducible refine' ev_int ?k1); (case k1 => walk_at "ev"))
  | ((with_reducible refine' ev_abs ?k1); (case k1 => walk_at "ev"))
  | ((with_reducible refine' ev_andV ?k1 ?k2); (case k1 => walk_at "ev"); (case k2 => intro _; walk_at "ev"))
  | ((with_reducible refine' ev_orV ?k1 ?k2); (case k1 => walk_at "ev"); (case k2 => intro _; walk_at "ev"))
  | ((with_reducible refine' ev_notV ?k1); (case k1 => walk_at "ev"))
  | ((refine' ev_len ?k1 ?k2); (case k1 => walk_at "ev"); (case k2 => walk_at "sq")))
local macro_rules | `(tactic| walk_at "et") => `(tactic| first
  | ((with_reducible refine' et_or ?k1 ?k2); (case k1 => walk_at "et"); (case k2 => intro _; walk_at "et"))
  | ((with_reducible refine' et_and ?k1 ?k2); (case k1 => walk_at "et"); (case k2 => intro _; walk_at "et"))
  | ((with_reducible refine' et_not ?k1); (case k1 => walk_at "et"))
  | (refine' et_test ?k1; (case k1 => walk_at "ev"))
  | (refine' et_B ?k1; (case k1 => walk_at "ev")))

/-! ### tuples made, tuples read, data compared -/
def SpU (sp : Sp) (vs : List V) (H : Hp) (xs : List V) : Prop := ∀ H1, Ex H H1 → ∀ Q : VK, (∀ p H2, H1 p = none → Ex H1 H2 → H2 p = some (.tup xs) → Q (.ref p) H2) → ∀ E : XK, sp vs H1 Q E
section
variable {K : PySem.W.Frag} {σ : L2.St} {H H' : Hp} {ta tb te : TE} {x y z v : V}
theorem eu_call {sp : Sp} {dvs vs xs : List V} {E : XK} {ta : TA} (h : EvA ta σ H vs) (hs : SpU sp (vs ++ dvs) H xs) : EvU (tCall sp dvs E ta) σ H xs := fun H1 e Q q =>
  h H1 e _ fun H2 e2 => hs H2 (e.trans e2) Q (fun p H3 hp e3 h3 => q p H3 (fresh_back e2 hp) (e2.trans e3) h3) E
theorem ev_lenT {p : Addr} {xs : List V} (ha : Ev ta σ H (.ref p)) (h : SqT K H p xs) : Ev (tCB (fun xs H Q => ∃ p ys, xs = [.ref p] ∧ (SqL K H p ys ∨ SqT K H p ys) ∧ Q (.int ys.length) H) (tCons ta tNil)) σ H (.int (xs.length : Int)) := fun H1 e Q q =>
  ha H1 e _ fun H2 e2 => ⟨p, xs, rfl, Or.inr (ex_t (e.trans e2) h), q H2 e2⟩
theorem eu_divmod {i j : Int} (ha : Ev ta σ H (.int i)) (hb : Ev tb σ H (.int j)) (hc : CDiv i j) :
    EvU (tCB (fun xs H Q => ∃ i j, xs = [.int i, .int j] ∧ CDiv i j ∧ ∀ p, H p = none → Q (.ref p) (upd H p (.tup [.int (i / j), .int (i % j)]))) (tCons ta (tCons tb tNil))) σ H [.int (i / j), .int (i % j)] := fun H1 e Q q =>
  ha H1 e _ fun H2 e2 => hb H2 (e.trans e2) _ fun H3 e3 => ⟨i, j, rfl, hc, fun p hp => q p _ (fresh_back (e2.trans e3) hp) ((e2.trans e3).trans (Ex.new hp)) upd_same⟩
theorem dp_ints : ∀ ns : List Int, DpAll K H (ns.map V.int) (ns.map PyData.int)
  | [] => .nil
  | n :: r => .cons (.int n) (dp_ints r)
theorem eqv_ints : ∀ ns ms : List Int, PyData.eqv (.tuple (ns.map PyData.int)) (.tuple (ms.map PyData.int)) = decide (ns = ms)
  | [], [] => rfl
  | [], _ :: _ => rfl
  | _ :: _, [] => rfl
  | n :: r, m :: t => by
    have ih := eqv_ints r t
    show ((n == m) && PyData.eqv (.tuple (r.map PyData.int)) (.tuple (t.map PyData.int))) = _
    rw [ih, Bool.eq_iff_iff, Bool.and_eq_true, decide_eq_true_eq, decide_eq_true_eq, beq_iff_eq, List.cons.injEq]
theorem dp_tup {p : Addr} {ns : List Int} (h : SqT K H p (ns.map V.int)) : Dp K H (.ref p) (.tuple (ns.map PyData.int)) := .tup h (dp_ints ns)
def shI (n : Nat) : Bool := SeqAt.shaped (.tuple ((List.replicate n 0).map PyData.int))
theorem rv_neT {p q : Addr} {ns ms : List Int} (hp : SqT K H p (ns.map V.int)) (hq : SqT K H q (ms.map V.int)) (s1 : SeqAt.shaped (.tuple (ns.map PyData.int)) = true) (s2 : SeqAt.shaped (.tuple (ms.map PyData.int)) = true) : RV (rNeD K) (.ref p) (.ref q) H (.bl (!decide (ns = ms))) := fun H1 e Q k =>
  ⟨_, _, dp_tup (ex_t e hp), dp_tup (ex_t e hq), s1, s2, by rw [eqv_ints]; exact k H1 (Ex.refl H1)⟩
theorem tx_tup {a : Addr} {xs : List V} (h : H a = some (.tup xs)) : ∀ H1, Ex H H1 → TyX K H1 (.ref a) (.type "tuple") := fun H1 e => .base (.tup (e _ _ h))
theorem ev_isi' {T : String} {tn : String} {b : Bool} (ha : Ev ta σ H x) (ht : ∀ H1, Ex H H1 → TyX K H1 x (.type tn)) (hk : kitB tn T = some b) : Ev (tCB (rIsi K) (tCons ta (tCons (tC (.ty T)) tNil))) σ H (.bl b) :=
  fun H1 e Q q => ha H1 e _ fun H2 e2 => ⟨x, .ty T, .type tn, .type T, b, rfl, .ty T, ht H2 (e.trans e2), kit_ty hk, q H2 e2⟩
theorem ev_chain {r r' : R2} {tc : TE} {b c : Bool} (ha : Ev ta σ H x) (hb : Ev tb σ H y) (hr : RV r x y H (.bl b)) (hc : b = true → Ev tc σ H z) (hr' : b = true → RV r' y z H (.bl c)) : Ev (tChain r r' ta tb tc) σ H (.bl (b && c)) := fun H1 e Q q =>
  ha H1 e _ fun H2 e2 => hb H2 (e.trans e2) _ fun H3 e3 => hr H3 ((e.trans e2).trans e3) _ fun H4 e4 => ⟨b, rfl, by
    cases b with
    | true =>
      show tc σ H4 fun w' H5 => r' y w' H5 Q
      exact hc rfl H4 (((e.trans e2).trans e3).trans e4) _ fun H5 e5 => hr' rfl H5 ((((e.trans e2).trans e3).trans e4).trans e5) Q fun H6 e6 => q H6 ((((e2.trans e3).trans e4).trans e5).trans e6)
    | false =>
      show Q (.bl false) H4
      exact q H4 ((e2.trans e3).trans e4)⟩
/-- a, b = (..): a new tuple unpacked into names -/
theorem gt2 {p : Addr} {i j : Nat} (h : SqT K H p [x, y]) {Q : L2.St → Hp → Prop} (k : Q ((σ.set i (some x)).set j (some y)) H) : gTup K 2 (gCons (gName i) (gCons (gName j) gNil)) (.ref p) σ H Q :=
  ⟨p, [x, y], rfl, h, rfl, x, [y], rfl, y, [], rfl, rfl, k⟩
theorem gt3 {p : Addr} {i j l : Nat} (h : SqT K H p [x, y, z]) {Q : L2.St → Hp → Prop} (k : Q (((σ.set i (some x)).set j (some y)).set l (some z)) H) : gTup K 3 (gCons (gName i) (gCons (gName j) (gCons (gName l) gNil))) (.ref p) σ H Q :=
  ⟨p, [x, y, z], rfl, h, rfl, x, [y, z], rfl, y, [z], rfl, z, [], rfl, rfl, k⟩
end
theorem hu64 {A : Around} {k : Nat} (hr : Room k A) : A.units + 64 < cLine := by
  have := hr.un
  omega
section
variable {K : PySem.W.Frag} {σ : L2.St} {H : Hp} {te : TE} {D : Ends} {tz : TS} {g : TG} {xs : List V}
theorem q_asgG (h : EvU te σ H xs) (k : ∀ p H1, H p = none → Ex H H1 → H1 p = some (.tup xs) → g (.ref p) σ H1 (tz D)) : tSeq (tAsg te g) tz D σ H := h H (Ex.refl H) _ fun p H1 hp e h1 => k p H1 hp e h1
theorem q_asgV {v : V} (h : Ev te σ H v) (k : ∀ H1, Ex H H1 → g v σ H1 (tz D)) : tSeq (tAsg te g) tz D σ H := h H (Ex.refl H) _ fun H1 e => k H1 e
end
/-! ### plain values and their types -/
inductive Pl : V → Prop where
  | non : Pl .non
  | bl (b : Bool) : Pl (.bl b)
  | int (i : Int) : Pl (.int i)
  | str (s : Str) : Pl (.str s)
def tyN : V → String
  | .bl _ => "bool"
  | .int _ => "int"
  | .str _ => "str"
  | _ => "NoneType"
def isInt : V → Bool
  | .int _ => true
  | _ => false
theorem tx_pl {K : PySem.W.Frag} {x : V} (h : Pl x) (H1 : Hp) : TyX K H1 x (.type (tyN x)) := by
  cases h with
  | non => exact .base .non
  | bl b => exact .base (.bl b)
  | int i => exact .base (.int i)
  | str s => exact .base (.str s)
theorem ev_isiP {K : PySem.W.Frag} {σ : L2.St} {H : Hp} {ta : TE} {x : V} {T : String} {b : Bool} (ha : Ev ta σ H x) (hx : Pl x) (hk : kitB (tyN x) T = some b) : Ev (tCB (rIsi K) (tCons ta (tCons (tC (.ty T)) tNil))) σ H (.bl b) :=
  ev_isi ha (tx_pl hx) hk
/-- isinstance(x, int) and not isinstance(x, bool) -/
theorem ev_isInt {K : PySem.W.Frag} {σ : L2.St} {H : Hp} {ta tb : TE} {x : V} (ha : Ev ta σ H x) (hb : Ev tb σ H x) (hx : Pl x) :
    Ev (tAndV (tCB (rIsi K) (tCons ta (tCons (tC (.ty "int")) tNil))) (tNotV (tCB (rIsi K) (tCons tb (tCons (tC (.ty "bool")) tNil))))) σ H (.bl (isInt x)) := by
  cases hx with
  | non => exact ev_is (ev_andV (ev_isiP (b := false) ha .non (by decide +kernel)) fun z => nomatch z) (show V.bl (false && true) = _ from rfl)
  | bl b => exact ev_is (ev_andV (ev_isiP (b := true) ha (.bl b) (by show kitB "bool" "int" = some true; decide +kernel)) fun _ => ev_notV (ev_isiP (b := true) hb (.bl b) (by show kitB "bool" "bool" = some true; decide +kernel))) rfl
  | int i => exact ev_is (ev_andV (ev_isiP (b := true) ha (.int i) (by show kitB "int" "int" = some true; decide +kernel)) fun _ => ev_notV (ev_isiP (b := false) hb (.int i) (by show kitB "int" "bool" = some false; decide +kernel))) rfl
  | str s => exact ev_is (ev_andV (ev_isiP (b := false) ha (.str s) (by show kitB "str" "int" = some false; decide +kernel)) fun z => nomatch z) (show V.bl (false && true) = _ from rfl)

/-! ### the order of tuples that need not be alike behind the first difference -/
section
open PySem.SeqAt PySem.MeetsSeq PySem.MeetsSeq2 PySem.MeetsSeq3
open PySem.AutoSeq1 (wpAny_loadPart')
/-- pairs walked from the left: the first that differ decide; z where none do -/
inductive Lx (A : Around) (s : Shared) (z : Bool) : List (Value × Value) → Bool → Prop
  | nil : Lx A s z [] z
  | eq {y x : Value} {ps : List (Value × Value)} {c : Bool} : EqAt A s y x true → Lx A s z ps c → Lx A s z ((y, x) :: ps) c
  | lt {y x : Value} {ps : List (Value × Value)} {c : Bool} : EqAt A s y x false → Ob.RcOp .Lt A s y x c → Lx A s z ((y, x) :: ps) c
theorem lt_meets (l b : Addr) (us vs : Array Value) (n m : Nat) (dl db : Option Addr) (sl sb : Array (Option Value)) :
    Meets (Builtin.«tuple.__lt__» ⟨[.ref l, .ref b], []⟩)
      (fun A R s => s.heap.get? l = some { cls := .type "tuple", dict := dl, data := .seq us n, slots := sl } ∧ s.heap.get? b = some { cls := .type "tuple", dict := db, data := .seq vs m, slots := sb } ∧
        ∃ c, Lx A.in1 s (decide (us.size < vs.size)) (us.toList.zip vs.toList) c ∧ R (.ok (.ret (.bool c))) s) := by
  refine .of_wp fun prog w A R s h => ?_
  obtain ⟨hp, g, d, tk, os⟩ := s
  obtain ⟨hl, hb, c, hx, h⟩ := h
  have f2 := AutoSeq1.sub_tuple_tuple
  wp_walk using wpAny_loadPart' hl, wpAny_loadPart' hb, wpAny_forIn_list _ (fun ps b s' => b.1 = none ∧ s' = ⟨hp, g, d, tk, os⟩ ∧ ∃ c, Lx A.in1 ⟨hp, g, d, tk, os⟩ (decide (us.size < vs.size)) ps c ∧ R (.ok (.ret (.bool c))) ⟨hp, g, d, tk, os⟩) _
  case turn =>
    rintro ⟨y, x⟩ ps b s' ⟨hb', rfl, c, hz, hR⟩
    cases hz with
    | eq he ht =>
      refine wpAny_bind (he prog w _ _ ?_)
      wp_walk
      exact ⟨rfl, rfl, c, ht, hR⟩
    | lt he hr =>
      refine wpAny_bind (he prog w _ _ ?_)
      have hri := hr prog w
      wp_walk using hri
      exact ⟨_, rfl, hR⟩
  case fin =>
    rintro ⟨b1, b2⟩ s' ⟨hb', rfl, c, hz, hR⟩
    simp only at hb'
    subst hb'
    cases hz
    wp_walk
    exact ⟨_, rfl, by simpa [Builtin.Tuple.tupleCompareSizes] using hR⟩
  case h => exact ⟨rfl, rfl, c, hx, h⟩
theorem lt_tuples {A : Around} {s : Shared} {l b : Addr} {us vs : Array Value} {c : Bool} (hl : s.heap.IsTuple l us) (hb : s.heap.IsTuple b vs) (hu : A.units < cLine) (hx : Lx A.in1 s (decide (us.size < vs.size)) (us.toList.zip vs.toList) c) :
    Ob.RcOp .Lt A s (.ref l) (.ref b) c := by
  intro prog w E Q h
  obtain ⟨⟨k1, dl, da, sl⟩, ho, hc, n, hd⟩ := hl
  obtain ⟨⟨k2, db, da2, sb⟩, ho2, hc2, m, hd2⟩ := hb
  simp only at hc hd hc2 hd2
  subst hc hd hc2 hd2
  exact richCompare_meets_room (op := .Lt) ⟨_, ho, rfl⟩ ⟨_, ho2, rfl⟩ F.slot_tuple_lt F.entry_tuple_lt (F.args_tuple_lt_2 _ _) (lt_meets l b us vs n m dl db sl sb) ⟨ho, ho2, c, hx, ⟨(fun z => nomatch z), h⟩⟩ hu
end
mutual
/-- less, of data -/
def ltD : PyData → PyData → Bool
  | .int a, .int b => decide (a < b)
  | .str x, .str y => decide (x.cps.toList < y.cps.toList)
  | .tuple xs, .tuple ys => ltDs xs ys
  | _, _ => false
def ltDs : List PyData → List PyData → Bool
  | [], [] => false
  | [], _ :: _ => true
  | _ :: _, [] => false
  | x :: xs, y :: ys => if PyData.eqv x y then ltDs xs ys else ltD x y
end
mutual
/-- may be compared by less -/
def ordD : PyData → PyData → Bool
  | .int _, .int _ => true
  | .str _, .str _ => true
  | .tuple xs, .tuple ys => ordDs xs ys
  | _, _ => false
def ordDs : List PyData → List PyData → Bool
  | [], _ => true
  | _ :: _, [] => true
  | x :: xs, y :: ys => if PyData.eqv x y then ordDs xs ys else ordD x y
end
theorem reads_len {h : Heap} : ∀ {ds : List PyData} {us : List Value} {as : List Addr}, ReadsAll h us ds as → us.length = ds.length
  | [], _, _, r => by cases r; rfl
  | _ :: ds, _, _, r => by
    cases r with
    | cons r1 r2 => exact congrArg (· + 1) (reads_len r2)
theorem lt_list {n : Nat} (IH : ∀ (d e : PyData) (A : Around) (s : Shared) (u v : Value) (as bs : List Addr), d.depth ≤ n → Reads s.heap u d as → Reads s.heap v e bs → d.canLay0 = true → e.canLay0 = true → ordD d e = true →
    A.units + d.depth < cLine → Ob.RcOp .Lt A s u v (ltD d e)) (A : Around) (s : Shared) : ∀ (xs ys : List PyData) (us vs : List Value) (as bs : List Addr), PyData.depthAll xs ≤ n → ReadsAll s.heap us xs as → ReadsAll s.heap vs ys bs →
    PyData.canLayAll0 xs = true → PyData.canLayAll0 ys = true → ordDs xs ys = true → A.units + PyData.depthAll xs < cLine → Lx A s (decide (xs.length < ys.length)) (us.zip vs) (ltDs xs ys) := by
  intro xs
  induction xs with
  | nil =>
    intro ys us vs as bs hn r1 r2 c1 c2 ho hu
    cases r1
    cases ys with
    | nil => exact .nil
    | cons y ys =>
      rw [show decide (([] : List PyData).length < (y :: ys).length) = true from decide_eq_true (Nat.zero_lt_succ _)]
      show Lx A s true [] true
      exact .nil
  | cons x xs ih =>
    intro ys us vs as bs hn r1 r2 c1 c2 ho hu
    cases ys with
    | nil =>
      cases r2
      rw [show decide ((x :: xs).length < ([] : List PyData).length) = false from decide_eq_false (Nat.not_lt_zero _), List.zip_nil_right]
      exact .nil
    | cons y ys =>
      have a1 : x.canLay0 = true ∧ PyData.canLayAll0 xs = true := by simpa [PyData.canLayAll0] using c1
      have a2 : y.canLay0 = true ∧ PyData.canLayAll0 ys = true := by simpa [PyData.canLayAll0] using c2
      have hd : A.units + max x.depth (PyData.depthAll xs) < cLine := hu
      have hn' : max x.depth (PyData.depthAll xs) ≤ n := hn
      rw [show decide ((x :: xs).length < (y :: ys).length) = decide (xs.length < ys.length) by simp]
      cases r1 with
      | cons p1 q1 =>
        cases r2 with
        | cons p2 q2 =>
          have he := PySem.SeqAt.eqAt_reads x y A s _ _ _ _ p1 p2 a1.1 a2.1 (by omega)
          by_cases c : PyData.eqv x y = true
          · have o : ordDs xs ys = true := by rw [ordDs, if_pos c] at ho; exact ho
            rw [show ltDs (x :: xs) (y :: ys) = ltDs xs ys by rw [ltDs, if_pos c]]
            rw [c] at he
            exact .eq he (ih ys _ _ _ _ (by omega) q1 q2 a1.2 a2.2 o (by omega))
          · have o : ordD x y = true := by rw [ordDs, if_neg c] at ho; exact ho
            rw [show ltDs (x :: xs) (y :: ys) = ltD x y by rw [ltDs, if_neg c]]
            rw [Bool.not_eq_true] at c
            rw [c] at he
            exact .lt he (IH x y A s _ _ _ _ (by omega) p1 p2 a1.1 a2.1 o (by omega))
theorem lt_reads : ∀ (n : Nat) (d e : PyData) (A : Around) (s : Shared) (u v : Value) (as bs : List Addr), d.depth ≤ n → Reads s.heap u d as → Reads s.heap v e bs → d.canLay0 = true → e.canLay0 = true → ordD d e = true →
    A.units + d.depth < cLine → Ob.RcOp .Lt A s u v (ltD d e) := by
  intro n
  induction n with
  | zero =>
    intro d e A s u v as bs hn r1 r2 c1 c2 ho hu
    cases r1 with
    | int a t =>
      cases r2 with
      | int b t' => rw [ltD]; exact Ob.RcOp.lt_int _ _ _ _
      | _ => simp [ordD] at ho
    | str a t =>
      cases r2 with
      | str b t' => rw [ltD]; exact fun prog w E Q h => lt_str h
      | _ => simp [ordD] at ho
    | tuple => simp [PyData.depth] at hn
    | _ => simp [ordD] at ho
  | succ n ih =>
    intro d e A s u v as bs hn r1 r2 c1 c2 ho hu
    cases r1 with
    | int a t =>
      cases r2 with
      | int b t' => rw [ltD]; exact Ob.RcOp.lt_int _ _ _ _
      | _ => simp [ordD] at ho
    | str a t =>
      cases r2 with
      | str b t' => rw [ltD]; exact fun prog w E Q h => lt_str h
      | _ => simp [ordD] at ho
    | tuple h1 h2 h3 h4 =>
      cases r2 with
      | tuple k1 k2 k3 k4 =>
        rename_i xs _ _ _ _ _ ys
        simp only [PyData.depth] at hn hu
        have l1 := reads_len h4
        have l2 := reads_len k4
        rw [ltD]
        refine lt_tuples ⟨_, h1, h2, _, h3⟩ ⟨_, k1, k2, _, k3⟩ (by omega) ?_
        rw [← Array.length_toList, ← Array.length_toList, l1, l2]
        exact lt_list ih A.in1 s _ _ _ _ _ _ (by omega) h4 k4 (by simpa [PyData.canLay0] using c1) (by simpa [PyData.canLay0] using c2) (by simpa [ordD] using ho) (by show A.units + 1 + _ < _; omega)
      | _ => simp [ordD] at ho
    | _ => simp [ordD] at ho
def rLtD (K : PySem.W.Frag) : R2 := fun x y H Q => ∃ d e, Dp K H x d ∧ Dp K H y e ∧ d.canLay0 = true ∧ e.canLay0 = true ∧ ordD d e = true ∧ d.depth ≤ 60 ∧ Q (.bl (ltD d e)) H
theorem op_ltD {X : Cx} (hu : X.A.units + 64 < cLine) : OpR X (compareOp .Lt) (rLtD X.K) := by
  intro pins s σ H x y v u Q I rx ry h
  obtain ⟨d, e, hd, he, c1, c2, o, dp, q⟩ := h
  obtain ⟨as, r1⟩ := Dp.reads I d x v hd rx
  obtain ⟨bs, r2⟩ := Dp.reads I e y u he ry
  exact lt_reads _ d e X.A s v u as bs (Nat.le_refl _) r1 r2 c1 c2 o (by omega) X.prog X.w _ _ ⟨.bl _, H, I, rfl, q⟩

/-! ### parts that give data -/
section
variable {K : PySem.W.Frag}
mutual
theorem ex_dp {H H' : Hp} (e : Ex H H') : ∀ {v : V} {d : PyData}, Dp K H v d → Dp K H' v d
  | _, _, .non => .non
  | _, _, .bl b => .bl b
  | _, _, .int i => .int i
  | _, _, .str x => .str x
  | _, _, .lst h a => .lst (ex_l e h) (ex_dps e a)
  | _, _, .tup h a => .tup (ex_t e h) (ex_dps e a)
theorem ex_dps {H H' : Hp} (e : Ex H H') : ∀ {vs : List V} {ds : List PyData}, DpAll K H vs ds → DpAll K H' vs ds
  | _, _, .nil => .nil
  | _, _, .cons h t => .cons (ex_dp e h) (ex_dps e t)
end
def EvD (K : PySem.W.Frag) (te : TE) (σ : L2.St) (H : Hp) (d : PyData) : Prop := ∀ H1, Ex H H1 → ∀ Q : VK, (∀ v H2, Ex H1 H2 → Dp K H2 v d → Q v H2) → te σ H1 Q
/-- a new list, a new tuple of data -/
def EvLD (K : PySem.W.Frag) (te : TE) (σ : L2.St) (H : Hp) (ds : List PyData) : Prop := ∀ H1, Ex H H1 → ∀ Q : VK, (∀ p H2 ys, H1 p = none → Ex H1 H2 → H2 p = some (.lst ys) → DpAll K H2 ys ds → Q (.ref p) H2) → te σ H1 Q
def EvUD (K : PySem.W.Frag) (te : TE) (σ : L2.St) (H : Hp) (ds : List PyData) : Prop := ∀ H1, Ex H H1 → ∀ Q : VK, (∀ p H2 ys, H1 p = none → Ex H1 H2 → H2 p = some (.tup ys) → DpAll K H2 ys ds → Q (.ref p) H2) → te σ H1 Q
def EvAD (K : PySem.W.Frag) (ta : TA) (σ : L2.St) (H : Hp) (ds : List PyData) : Prop := ∀ H1, Ex H H1 → ∀ Q : List V → Hp → Prop, (∀ vs H2, Ex H1 H2 → DpAll K H2 vs ds → Q vs H2) → ta σ H1 Q
variable {σ : L2.St} {H H' : Hp} {ta tb te : TE} {tr : TA} {x y z v : V} {d e : PyData} {ds es : List PyData}
theorem ed_val (h : Ev te σ H v) (hd : Dp K H v d) : EvD K te σ H d := fun H1 e Q q => h H1 e _ fun H2 e2 => q v H2 e2 (ex_dp (e.trans e2) hd)
theorem ed_tupU (h : EvUD K te σ H ds) : EvD K te σ H (.tuple ds) := fun H1 e Q q => h H1 e _ fun p H2 ys _ e2 h2 hd => q _ H2 e2 (.tup (st_of h2) hd)
theorem ed_lst (h : EvLD K te σ H ds) : EvD K te σ H (.list ds) := fun H1 e Q q => h H1 e _ fun p H2 ys _ e2 h2 hd => q _ H2 e2 (.lst (sq_of h2) hd)
theorem ad_nil : EvAD K tNil σ H [] := fun H1 _ _ q => q [] H1 (Ex.refl H1) .nil
theorem ad_cons (h : EvD K te σ H d) (hr : EvAD K tr σ H ds) : EvAD K (tCons te tr) σ H (d :: ds) := fun H1 e Q q =>
  h H1 e _ fun v H2 e2 hd => hr H2 (e.trans e2) _ fun vs H3 e3 hds => q (v :: vs) H3 (e2.trans e3) (.cons (ex_dp e3 hd) hds)
theorem dps_len : ∀ {vs : List V} {ds : List PyData} {H : Hp}, DpAll K H vs ds → vs.length = ds.length
  | _, _, _, .nil => rfl
  | _, _, _, .cons _ t => congrArg (· + 1) (dps_len t)
theorem ud_tup (h : EvAD K tr σ H ds) (hl : ds.length ≤ 100000) : EvUD K (tTup tr) σ H ds := fun H1 e Q q =>
  h H1 e _ fun vs H2 e2 hd => ⟨sz_of (by rw [dps_len hd]; exact hl), fun p hp => q p _ vs (fresh_back e2 hp) (e2.trans (Ex.new hp)) upd_same (ex_dps (Ex.new hp) hd)⟩
theorem ld_lst (h : EvAD K tr σ H ds) (hl : ds.length ≤ 100000) : EvLD K (tLst tr) σ H ds := fun H1 e Q q =>
  h H1 e _ fun vs H2 e2 hd => ⟨sz_of (by rw [dps_len hd]; exact hl), fun p hp => q p _ vs (fresh_back e2 hp) (e2.trans (Ex.new hp)) upd_same (ex_dps (Ex.new hp) hd)⟩
def SpD (K : PySem.W.Frag) (sp : Sp) (vs : List V) (H : Hp) (d : PyData) : Prop := ∀ H1, Ex H H1 → ∀ Q : VK, (∀ v H2, Ex H1 H2 → Dp K H2 v d → Q v H2) → ∀ E : XK, sp vs H1 Q E
def SpUD (K : PySem.W.Frag) (sp : Sp) (vs : List V) (H : Hp) (ds : List PyData) : Prop := ∀ H1, Ex H H1 → ∀ Q : VK, (∀ p H2 ys, H1 p = none → Ex H1 H2 → H2 p = some (.tup ys) → DpAll K H2 ys ds → Q (.ref p) H2) → ∀ E : XK, sp vs H1 Q E
theorem ud_call {sp : Sp} {dvs vs : List V} {E : XK} {ta : TA} (h : EvA ta σ H vs) (hs : SpUD K sp (vs ++ dvs) H ds) : EvUD K (tCall sp dvs E ta) σ H ds := fun H1 e Q q =>
  h H1 e _ fun H2 e2 => hs H2 (e.trans e2) Q (fun p H3 ys hp e3 h3 hd => q p H3 ys (fresh_back e2 hp) (e2.trans e3) h3 hd) E
/-- == , != , < of data -/
theorem ev_eqD (ha : EvD K ta σ H d) (hb : EvD K tb σ H e) (s1 : SeqAt.shaped d = true) (s2 : SeqAt.shaped e = true) : Ev (tOp (rEqD K) ta tb) σ H (.bl (PyData.eqv d e)) := fun H1 ex Q q =>
  ha H1 ex _ fun x H2 e2 h2 => hb H2 (ex.trans e2) _ fun y H3 e3 h3 => ⟨d, e, ex_dp e3 h2, h3, s1, s2, q H3 (e2.trans e3)⟩
theorem ev_neD (ha : EvD K ta σ H d) (hb : EvD K tb σ H e) (s1 : SeqAt.shaped d = true) (s2 : SeqAt.shaped e = true) : Ev (tOp (rNeD K) ta tb) σ H (.bl (!PyData.eqv d e)) := fun H1 ex Q q =>
  ha H1 ex _ fun x H2 e2 h2 => hb H2 (ex.trans e2) _ fun y H3 e3 h3 => ⟨d, e, ex_dp e3 h2, h3, s1, s2, q H3 (e2.trans e3)⟩
theorem ev_ltD (ha : EvD K ta σ H d) (hb : EvD K tb σ H e) (s1 : SeqAt.shaped d = true) (s2 : SeqAt.shaped e = true) (o : ordD d e = true) (dp : d.depth ≤ 60) : Ev (tOp (rLtD K) ta tb) σ H (.bl (ltD d e)) := fun H1 ex Q q =>
  ha H1 ex _ fun x H2 e2 h2 => hb H2 (ex.trans e2) _ fun y H3 e3 h3 => ⟨d, e, ex_dp e3 h2, h3, SeqAt.canLay_of_shaped s1, SeqAt.canLay_of_shaped s2, o, dp, q H3 (e2.trans e3)⟩
/-- tuple(a new list) -/
theorem ud_tuple {tl : TE} (h : EvLD K tl σ H ds) : EvUD K (tCB (fun xs H Q => ∃ p ys, xs = [.ref p] ∧ ((SqL K H p ys ∧ ∀ l, H l = none → Q (.ref l) (upd H l (.tup ys))) ∨ (SqT K H p ys ∧ Q (.ref p) H))) (tCons tl tNil)) σ H ds := fun H1 e Q q =>
  h H1 e _ fun p H2 ys _ e2 h2 hd => ⟨p, ys, rfl, .inl ⟨sq_of h2, fun l hl => q l _ ys (fresh_back e2 hl) (e2.trans (Ex.new hl)) upd_same (ex_dps (Ex.new hl) hd)⟩⟩
mutual
/-- no list within -/
def noL : PyData → Bool
  | .list _ => false
  | .tuple xs => noLs xs
  | .dict _ => false
  | .none | .bool _ | .int _ | .str _ => true
def noLs : List PyData → Bool
  | [] => true
  | x :: xs => noL x && noLs xs
end
mutual
theorem dp_upd {H : Hp} {D : Addr} {ys zs : List V} (hD : H D = some (.lst ys)) : ∀ {v : V} {d : PyData}, noL d = true → Dp K H v d → Dp K (upd H D (.lst zs)) v d
  | _, _, _, .non => .non
  | _, _, _, .bl b => .bl b
  | _, _, _, .int i => .int i
  | _, _, _, .str x => .str x
  | _, _, n, .lst h a => by simp [noL] at n
  | _, _, n, .tup h a => by
    refine .tup ?_ (dps_upd hD (by simpa [noL] using n) a)
    rcases h with (h | ⟨o, h⟩) | h
    · exact .inl (.inl (by rw [upd_ne (by intro z; rw [z, hD] at h; cases h)]; exact h))
    · exact .inl (.inr ⟨o, by rw [upd_ne (by intro z; rw [z, hD] at h; cases h)]; exact h⟩)
    · exact .inr h
theorem dps_upd {H : Hp} {D : Addr} {ys zs : List V} (hD : H D = some (.lst ys)) : ∀ {vs : List V} {ds : List PyData}, noLs ds = true → DpAll K H vs ds → DpAll K (upd H D (.lst zs)) vs ds
  | _, _, _, .nil => .nil
  | _, _, n, .cons h t => by
    have n' : (noL _ && noLs _) = true := n
    rw [Bool.and_eq_true] at n'
    exact .cons (dp_upd hD n'.1 h) (dps_upd hD n'.2 t)
end
theorem noLs_map {f : Nat → PyData} (h : ∀ i, noL (f i) = true) : ∀ l : List Nat, noLs (l.map f) = true
  | [] => rfl
  | i :: l => by
    show (noL (f i) && noLs (l.map f)) = true
    rw [h i, noLs_map h l]
    rfl
/-- [f(x) for x in xs] -/
theorem dps_snoc : ∀ {vs : List V} {ds : List PyData} {H : Hp} {v : V} {d : PyData}, DpAll K H vs ds → Dp K H v d → DpAll K H (vs ++ [v]) (ds ++ [d])
  | _, _, _, _, _, .nil, h => .cons h .nil
  | _, _, _, _, _, .cons a t, h => .cons a (dps_snoc t h)
theorem ld_lcL {a : Addr} {xs : List V} {tl : TE} {j : Nat} {vs : List Nat} (f : Nat → PyData) (h : Ev tl σ H (.ref a)) (hx : SqL K H a xs) (hz : xs.length ≤ 40000) (hn : ∀ i, noL (f i) = true) (hw : ∀ x, wipe ((wipe σ vs).set j (some x)) vs = wipe σ vs)
    (he : ∀ (i : Nat) (x : V) H1, Ex H H1 → xs[i]? = some x → EvD K te ((wipe σ vs).set j (some x)) H1 (f i)) :
    EvLD K (tLc (iList K tl) (gName j) tYes te vs) σ H ((List.range xs.length).map f) := fun H0 e0 Q q => h H0 e0 _ fun H1 e1 => ⟨a, rfl, ⟨xs, ex_l (e0.trans e1) hx⟩, fun D hD =>
  lc_list (xs := xs) (fun i H' => H1 D = none ∧ Ex H1 H' ∧ ∃ ys, H' D = some (.lst ys) ∧ DpAll K H' ys ((List.range i).map f)) ⟨hD, Ex.new hD, [], upd_same, .nil⟩ (fun i H' _ p => ex_l ((e0.trans e1).trans p.2.1) hx)
    (fun i x H' hi p => by
      obtain ⟨p1, p2, ys, p3, p4⟩ := p
      refine ⟨hw x, ?_⟩
      show te ((wipe σ vs).set j (some x)) H' fun y H4 => ∃ acc, H4 D = some (.lst acc) ∧ acc.length < sizeLine ∧ _
      refine he i x H' ((e0.trans e1).trans p2) hi H' (Ex.refl H') _ fun y H4 e4 hy => ⟨ys, e4 _ _ p3, sz_lt ?_, p1, Ex.mut (p2.trans e4) p1, ys ++ [y], upd_same, ?_⟩
      · have := dps_len p4
        rw [List.length_map, List.length_range] at this
        have := (List.getElem?_eq_some_iff.mp hi).1
        omega
      · rw [List.range_succ, List.map_append]
        exact dps_snoc (dps_upd (e4 _ _ p3) (noLs_map hn _) (ex_dps e4 p4)) (dp_upd (e4 _ _ p3) (hn i) hy))
    (fun H' p => by
      obtain ⟨p1, p2, ys, p3, p4⟩ := p
      exact q D H' ys (fresh_back e1 p1) (e1.trans p2) p3 p4)⟩
end

/-! ### the law's own def, run where the caller stands: nothing is being shown there -/
section
variable {P : Program} {w : World} {K : PySem.W.Frag} {mg mb : Str → Option Value}
theorem run_here {x : Str} {st : Stmt} {N ps : List Str} {k : Nat} {f : Addr} {fd : FuncData} {A : Around} {outer : List Env} {s : Shared} {H : Hp} {args : Args} {us : List Value} {vs : List V} {Q : VK} {base : Heap}
    (D : C8.Def K mg x st f fd) (S : FnScope N ps (C8.fnScope st)) (room : Room (k + 1) A) (env : Env0 P w K mg base A outer s H) (bi : BindsTo s fd args (ps.zip us)) (rv : Vals vs us) (len : vs.length = ps.length)
    (body : ∀ cdv : Value, Room k (A.deeper (envOfC x (C8.fnScope st) s.heap.objs.size f cdv)) →
      ∃ t, PSs (cxOf C8.CX0 P w K mg base N x (C8.fnScope st) f cdv A outer s H C8.E0).nox (C8.fnBody st) t ∧ t { nx := fun _ H' => Q .non H', rt := Q } (start N vs) H) :
    codeAny (model P w) A (.call (.ref f) args) (CR C8.CX0 outer P w H s Q C8.E0) s := by
  obtain ⟨oc, od, dV, kV, doc, pm, an, cdv, ct, osl, rfl, look, code⟩ := D.fn.ex
  have sub : ∀ b o, base.get? b = some o → s.heap.get? b = some o := fun b o e => (env.bs b o e).1
  have inK := env.mod.kin.keeps sub
  have noLim := env.mod.nolimit.keeps sub
  apply codeAny_call_function room.depth (inK _ _ look) rfl S.co S.gen rfl (PySem.W.codeRec_of inK code)
  apply bi
  apply wpAny_newFunctionEnv_cells S.kind
  · rintro ⟨n, v⟩ hy
    have hp := S.par n (List.of_mem_zip hy).1
    exact hp.imp id fun c => ⟨c, PySem.W.cellsFrom_some _ _ _ (.inl c)⟩
  intro e he s1 made
  subst he
  obtain ⟨t, ht, hq⟩ := body cdv (room.deeper _)
  have inv := inv_start (CX := C8.CX0) (E := C8.E0) (N := N) S room.hd env len rv made
  refine ⟨noLim.keeps made.toInCall.keep, codeAny_func ?_⟩
  refine wpAny_mono (ht.nox.run [] s1 _ H _ inv hq) ?_ fun _ _ z => z
  intro fl s' z
  match fl, z with
  | .ret u, ⟨v, σ', H', J, r, q⟩ => exact ⟨v, H', J.os, J.bare, J.base, J.hok, r, q⟩
  | .next, ⟨σ', H', J, q⟩ => exact ⟨V.non, H', J.os, J.bare, J.base, J.hok, rfl, q⟩
  | .brk, ⟨_, _, _, q⟩ => exact q.elim
  | .cont, ⟨_, _, _, q⟩ => exact q.elim
/-- what the call of the law leaves -/
def Done (s₁ : Shared) (r : Result) (s' : Shared) : Prop := r = .ok (.ret (.bool true)) ∧ OldK s₁.heap s'.heap ∧ s'.os = s₁.os ∧ AllBare s'.gens
theorem here_core {fa a : Addr} {s₁ : Shared} {vs : List Value} (H : Hp) (KX : K.In s₁.heap) (hns : s₁.heap.Ns mainGlobals mg) (hb : s₁.heap.Ns builtinsNs mb) (hbb : ∀ x : Str, x ≠ "__name__" → mb x = bootBuiltins x) (hlim : s₁.heap.NoLimit) (hg : s₁.gens = #[])
    (ha : s₁.heap.get? a = some { cls := .type "list", data := .seq vs.toArray }) (hok : HOk P w H s₁.heap) (only : ∀ b u, H b = some u → b = a ∧ K.lookup a = none ∧ ∃ o ys, u = .frz o (.lst ys))
    (body : ∀ base : Heap, K.In base → base.Ns mainGlobals mg → Env0 P w K mg base callerA [] s₁ H → codeAny (model P w) callerA (.call (.ref fa) ⟨[.ref a], []⟩) (CR C8.CX0 [] P w H s₁ (fun v _ => v = .bl true) C8.E0) s₁) :
    codeAny (model P w) callerA (.call (.ref fa) ⟨[.ref a], []⟩) (Done s₁) s₁ := by
  have free : ∀ {b : Addr} {o : Obj}, s₁.heap.get? b = some o → (b = a → False) → (hidT s₁.heap H).get? b = some o := fun {b o} e n => hidT_get e (by
    cases q : H b with
    | none => rfl
    | some u => exact (n (only b u q).1).elim)
  have dictFree : ∀ {b : Addr} {o : Obj} {es : Array DictEntry} {ep : Nat}, s₁.heap.get? b = some o → o.data = .dict es ep → (hidT s₁.heap H).get? b = some o := fun {b o es ep} e d => free e fun z => by
    rw [z, ha] at e
    cases e
    exact nomatch d
  have ns : ∀ {b : Addr} {m : Str → Option Value}, s₁.heap.Ns b m → (hidT s₁.heap H).Ns b m := by
    rintro b m ⟨o, es, ep, e, d, r⟩
    exact ⟨o, es, ep, dictFree e d, d, r⟩
  have inK : K.In (hidT s₁.heap H) := fun b o e => hidT_get (KX b o e) (by
    cases q : H b with
    | none => rfl
    | some u =>
      obtain ⟨z1, z2, _⟩ := only b u q
      rw [z1, z2] at e
      cases e)
  obtain ⟨mc, l1, l2⟩ := hlim
  have env : Env0 P w K mg (hidT s₁.heap H) callerA [] s₁ H :=
    { frames := rfl, mod := ⟨inK, ns hns, ⟨mb, ns hb, hbb⟩, ⟨mc, ns l1, l2⟩⟩, bs := fun b o e => of_hidT e, bsz := Nat.le_of_eq (hidT_size _ _), funs := trivial, frf := fun b z => (List.not_mem_nil z).elim, hok := hok, bare := .of_eq hg }
  refine codeAny_mono (body _ inK (ns hns) env) ?_
  intro r s' z
  match r, z with
  | .error e, z => exact (show False from z).elim
  | .ok .next, z => exact (show False from z).elim
  | .ok .brk, z => exact (show False from z).elim
  | .ok .cont, z => exact (show False from z).elim
  | .ok (.ret u), ⟨v, H', os, bare, un, hok', rel, q⟩ =>
    have q' : v = .bl true := q
    subst q'
    have eu : u = Value.bool true := rel
    subst eu
    refine ⟨rfl, OldK.of_keep fun b o e => ?_, os, bare⟩
    cases hq : H b with
    | none => exact un.keep b o e hq (fun z => (List.not_mem_nil z).elim) List.not_mem_nil
    | some u =>
      obtain ⟨_, _, o2, ys, rfl⟩ := only b u hq
      obtain ⟨w1, _⟩ := hok b _ hq
      obtain ⟨w2, _⟩ := hok' b _ (un.frzs b o2 _ hq)
      rw [e] at w1
      cases w1
      exact w2
theorem here_call {fa a : Addr} {s₁ : Shared} {vs : List Value} {ns : List Int} (KX : K.In s₁.heap) (hns : s₁.heap.Ns mainGlobals mg) (hb : s₁.heap.Ns builtinsNs mb) (hbb : ∀ x : Str, x ≠ "__name__" → mb x = bootBuiltins x) (hlim : s₁.heap.NoLimit) (hg : s₁.gens = #[])
    (ha : s₁.heap.get? a = some { cls := .type "list", data := .seq vs.toArray }) (hi : IntsAre vs ns) (hl : ns.length ≤ sizeLine)
    (body : ∀ (H : Hp) (base : Heap), K.In base → base.Ns mainGlobals mg → SqL K H a (ns.map V.int) → Env0 P w K mg base callerA [] s₁ H → codeAny (model P w) callerA (.call (.ref fa) ⟨[.ref a], []⟩) (CR C8.CX0 [] P w H s₁ (fun v _ => v = .bl true) C8.E0) s₁) :
    codeAny (model P w) callerA (.call (.ref fa) ⟨[.ref a], []⟩) (Done s₁) s₁ := by
  have rv := vals_ints hi
  cases hk : K.lookup a with
  | some o =>
    have e := (KX a o hk).symm.trans ha
    cases e
    refine here_core (fun _ => none) KX hns hb hbb hlim hg ha (fun b u z => nomatch (z : (none : Option HO) = some u)) (fun b u z => nomatch (z : (none : Option HO) = some u)) fun base i1 i2 i3 => body _ base i1 i2 (.inr ⟨_, vs.toArray, _, hk, rfl, rfl, rfl, ?_, by simpa using rv⟩) i3
    rw [List.size_toArray, hi.length]
    exact hl
  | none =>
    refine here_core (upd (fun _ => none) a (.frz { cls := .type "list", data := .seq vs.toArray } (.lst (ns.map V.int)))) KX hns hb hbb hlim hg ha (fun b u z => ?_) (fun b u z => ?_) fun base i1 i2 i3 => body _ base i1 i2 (.inl (.inr ⟨_, upd_same⟩)) i3
    · by_cases e : b = a
      · subst e
        rw [upd_same] at z
        cases z
        exact ⟨ha, by rw [List.length_map]; exact hl, vs, _, rv, ha⟩
      · rw [upd_ne e] at z
        cases z
    · by_cases e : b = a
      · subst e
        rw [upd_same] at z
        cases z
        exact ⟨rfl, hk, _, _, rfl⟩
      · rw [upd_ne e] at z
        cases z
end
/-- the end of a law whose def shows things -/
theorem walk_here {l : PySem.W.OpenLaw} {n k : Nat} {q : Program} {loose : List Str} {XP : (Str → Option Value) → Heap → Prop} {YP : World → Heap → Prop} {d : DefRec} {K : Params → PySem.W.Frag} {st : Stmt} {N : List Str}
    (hn : l.most = some n) (hn2 : n ≤ sizeLine) (hdf : d.params.defaults = []) (hr : Room (k + 1) callerA) (hY : ∀ (w : World) (h : Heap), YP w h → (K w.params).In h) (S : FnScope N ["script"] (C8.fnScope st))
    (F : ∀ (w : World) (mg : Str → Option Value) (fa : Addr) (h : Heap), (K w.params).In h → h.Ns mainGlobals mg → mg d.name = some (.ref fa) →
      ∃ fd : FuncData, C8.Def (K w.params) mg "law" st fa fd ∧ (∀ (s : Shared) (u : Value), BindsTo s fd ⟨[u], []⟩ [("script", u)]) ∧
        ∀ (base : Heap) (s : Shared) (H : Hp) (a : Addr) (ns : List Int) (cdv : Value), (K w.params).In base → base.Ns mainGlobals mg → ns.length ≤ n → SqL (K w.params) H a (ns.map V.int) →
          Room k (callerA.deeper (envOfC "law" (C8.fnScope st) s.heap.objs.size fa cdv)) →
          ∃ t, PSs (cxOf C8.CX0 l.prog w (K w.params) mg base N "law" (C8.fnScope st) fa cdv callerA [] s H C8.E0).nox (C8.fnBody st) t ∧ t { nx := fun _ _ => V.non = .bl true, rt := fun v _ => v = .bl true } (start N [.ref a]) H) :
    PySem.W.WalkO q loose XP YP l.row.toRowW d [] (fun f vs => PySem.call f vs) := by
  apply Att.attach_call hn hdf
  intro w s₀ s₁ mg mb fa o pm cd doc a vs ns G Y ho hd hcd hmg hobj hints hlen hg
  obtain ⟨fd, D, bi, body⟩ := F w mg fa _ (hY w _ Y) G.T.g hmg
  apply here_call (hY w _ Y) G.T.g G.T.b G.T.builtins G.T.nolimit hg hobj hints (Nat.le_trans hlen hn2)
  intro H base i1 i2 hS env
  exact run_here (us := [.ref a]) (vs := [.ref a]) D S hr env (bi s₁ (.ref a)) (.cons rfl .nil) rfl fun cdv room => body base s₁ H a ns cdv i1 i2 hlen hS room
/-! ### repr -/
def rRepr (K : PySem.W.Frag) : List V → Hp → VK → Prop := fun xs H Q => ∃ a d, xs = [.ref a] ∧ Dp K H (.ref a) d ∧ d.showable = true ∧ d.hasDict = false ∧ d.depth ≤ 60 ∧ d.shown.length ≤ sizeLine ∧ Q (.str d.shown) H
theorem call_repr {X : Cx} (hg : X.A.guards = some []) (hu : X.A.units + 64 < cLine) : CallR X (.builtin "repr") (rRepr X.K) := by
  intro pins s σ H xs us Q I r h
  obtain ⟨a, d, rfl, hd, h1, h2, h3, h4, q⟩ := h
  obtain ⟨u, rfl, ru⟩ := vals1 r
  obtain ⟨as, rd⟩ := Dp.reads I d _ u hd ru
  cases (show u = Value.ref a from ru)
  exact repr_of_reads' rd h1 (fun z => by rw [h2] at z; cases z) hg (by omega) (fun _ _ e => e) (fun h' u tk hk => ⟨.str d.shown, H, I.kept hk, ⟨_, rfl⟩, q⟩) h4
theorem ev_repr {K : PySem.W.Frag} {σ : L2.St} {H : Hp} {ta : TE} {a : Addr} {d : PyData} (ha : Ev ta σ H (.ref a)) (hd : Dp K H (.ref a) d) (hx : ∀ H1, Ex H H1 → Dp K H1 (.ref a) d) (h1 : d.showable = true) (h2 : d.hasDict = false) (h3 : d.depth ≤ 60) (h4 : d.shown.length ≤ sizeLine) :
    Ev (tCB (rRepr K) (tCons ta tNil)) σ H (.str d.shown) := fun H1 e Q q =>
  ha H1 e _ fun H2 e2 => ⟨a, d, rfl, hx H2 (e.trans e2), h1, h2, h3, h4, q H2 e2⟩

/-! ### how long a text of data can be -/
theorem app_len (x y : Str) : (x ++ y).length = x.length + y.length := PySem.strLen_append x y
theorem textFrom_le : ∀ (ts : List Str) (k : Nat) (acc : Str), (textFrom k acc ts).length ≤ acc.length + (ts.map fun t => t.length + 2).sum
  | [], k, acc => Nat.le_refl _
  | t :: r, k, acc => by
    rw [textFrom]
    refine Nat.le_trans (textFrom_le r _ _) ?_
    rw [List.map_cons, List.sum_cons]
    split
    · rw [app_len, app_len, show (", " : Str).length = 2 from rfl]; omega
    · rw [app_len, app_len, show (Str.ofString "").length = 0 from rfl]; omega
theorem listText_le (ts : List Str) : (listText ts).length ≤ 2 + (ts.map fun t => t.length + 2).sum := by
  unfold listText
  rw [app_len]
  have := textFrom_le ts 0 "["
  rw [show ("[" : Str).length = 1 from rfl] at this
  rw [show ("]" : Str).length = 1 from rfl]
  omega
theorem join_le : ∀ ts : List Str, (Str.join ", " ts).length ≤ (ts.map fun t => t.length + 2).sum
  | [] => Nat.zero_le _
  | [x] => by show x.length ≤ _; rw [List.map_cons, List.sum_cons]; omega
  | x :: y :: r => by
    have ih := join_le (y :: r)
    have e : Str.join ", " (x :: y :: r) = x ++ ", " ++ Str.join ", " (y :: r) := rfl
    rw [e, app_len, app_len, List.map_cons, List.sum_cons, show (", " : Str).length = 2 from rfl]
    omega
theorem tupleText_le (ts : List Str) : (tupleText ts).length ≤ 4 + (ts.map fun t => t.length + 2).sum := by
  unfold tupleText
  rw [app_len, app_len]
  have := join_le ts
  rw [show ("(" : Str).length = 1 from rfl]
  split
  · rw [show ((",)" : String) : Str).length = 2 from rfl]; omega
  · rw [show ((")" : String) : Str).length = 1 from rfl]; omega
mutual
/-- a bound of its text -/
def shB : PyData → Nat
  | .str x => 10 * x.length + 2
  | .list xs => 4 + shBs xs
  | .tuple xs => 4 + shBs xs
  | .none | .bool _ | .int _ | .dict _ => 2000
def shBs : List PyData → Nat
  | [] => 0
  | x :: xs => shB x + 2 + shBs xs
/-- may be shown -/
def shOk : PyData → Bool
  | .str x => PyData.strOk x
  | .int i => decide (i.natAbs.log2 < 1920)
  | .list xs => shOks xs
  | .tuple xs => shOks xs
  | .none | .bool _ => true
  | .dict _ => false
def shOks : List PyData → Bool
  | [] => true
  | x :: xs => shOk x && shOks xs
end
mutual
theorem shown_le : ∀ d : PyData, shOk d = true → d.shown.length ≤ shB d ∧ d.showable = true ∧ d.hasDict = false
  | .none, _ => ⟨by show 4 ≤ 2000; decide, rfl, rfl⟩
  | .bool b, _ => ⟨by cases b <;> (show _ ≤ 2000; decide), rfl, rfl⟩
  | .int i, h => by
    have hl : i.natAbs.log2 < 1920 := of_decide_eq_true h
    refine ⟨?_, decide_eq_true hl, rfl⟩
    have e := int_text_length_le (k := 1920) (by decide) hl
    show (Str.ofString (toString i)).length ≤ 2000
    rw [PySem.ofString_length]
    omega
  | .str x, h => by
    refine ⟨?_, rfl, rfl⟩
    show (reprText x).length ≤ 10 * x.length + 2
    refine StrLaws.reprText_len x fun c hc => ?_
    have h' : x.cps.all (· < 0x110000) = true := h
    rw [Array.all_eq_true'] at h'
    have := of_decide_eq_true (h' c (by simpa using hc))
    exact Nat.lt_of_lt_of_le this (by decide)
  | .list xs, h => by
    obtain ⟨h1, h2, h3⟩ := shown_les xs h
    refine ⟨?_, h2, h3⟩
    have := listText_le (PyData.shownAll xs)
    show (listText (PyData.shownAll xs)).length ≤ 4 + shBs xs
    omega
  | .tuple xs, h => by
    obtain ⟨h1, h2, h3⟩ := shown_les xs h
    refine ⟨?_, h2, h3⟩
    have := tupleText_le (PyData.shownAll xs)
    show (tupleText (PyData.shownAll xs)).length ≤ 4 + shBs xs
    omega
theorem shown_les : ∀ ds : List PyData, shOks ds = true → ((PyData.shownAll ds).map fun t => t.length + 2).sum ≤ shBs ds ∧ PyData.showableAll ds = true ∧ PyData.hasDictAll ds = false
  | [], _ => ⟨Nat.le_refl _, rfl, rfl⟩
  | d :: ds, h => by
    have h' : (shOk d && shOks ds) = true := h
    rw [Bool.and_eq_true] at h'
    obtain ⟨a1, a2, a3⟩ := shown_le d h'.1
    obtain ⟨b1, b2, b3⟩ := shown_les ds h'.2
    refine ⟨?_, ?_, ?_⟩
    · rw [PyData.shownAll, List.map_cons, List.sum_cons]
      show _ ≤ shB d + 2 + shBs ds
      omega
    · show (d.showable && PyData.showableAll ds) = true
      rw [a2, b2]
      rfl
    · show (d.hasDict || PyData.hasDictAll ds) = false
      rw [a3, b3]
      rfl
end
theorem ev_shown {K : PySem.W.Frag} {σ : L2.St} {H : Hp} {ta : TE} {d : PyData} (ha : EvD K ta σ H d) (hr : ∀ v H1, Dp K H1 v d → ∃ a, v = .ref a) (h1 : shOk d = true) (h2 : shB d ≤ 1000000) (h3 : d.depth ≤ 60) : Ev (tCB (rRepr K) (tCons ta tNil)) σ H (.str d.shown) := fun H1 e Q q =>
  ha H1 e _ fun v H2 e2 hd => by
    obtain ⟨a, rfl⟩ := hr v H2 hd
    obtain ⟨a1, a2, a3⟩ := shown_le d h1
    exact ⟨a, d, rfl, hd, a2, a3, h3, Nat.le_trans a1 (Nat.le_trans h2 (by decide)), q H2 e2⟩
theorem ref_tup {K : PySem.W.Frag} {ds : List PyData} : ∀ v H1, Dp K H1 v (.tuple ds) → ∃ a, v = .ref a := fun v H1 h => by
  cases h
  exact ⟨_, rfl⟩
theorem ref_lst {K : PySem.W.Frag} {ds : List PyData} : ∀ v H1, Dp K H1 v (.list ds) → ∃ a, v = .ref a := fun v H1 h => by
  cases h
  exact ⟨_, rfl⟩

/-! ### a call of a local that holds a def -/
def tCallH (P : Program) (w : World) (K : PySem.W.Frag) (mg : Str → Option Value) (base : Heap) (i k : Nat) (t : TA) : TE := fun σ H Q => ∃ f sp, σ[i]? = some (some (.ref f)) ∧ L2.Held P w K mg base k f sp ∧ t σ H fun vs H1 => sp vs H1 Q (fun _ _ _ => False)
theorem pe_callH {X : Cx} {x : Str} {p pos : Pos} {e : Expr} {es : List Expr} {t : TA} {i k : Nat} (hr : Room k X.A) (hN : X.N[i]? = some x) (hv : Vis X.env.scope x) (ha : PA X (e :: es) t)
    (hdb : (x == ("__debug__" : Str)) = false := by decide) (hcd : (x == ("__classdict__" : Str)) = false := by decide)
    (he : starEach (e :: es) X.env = (false, eval e X.env) :: starEach es X.env := by rfl) (hpl : (backTo pos (starEach es X.env)).any (·.1) = false := by rfl) : PE X (.Call (.Name x p) (e :: es) [] pos) (tCallH X.prog X.w X.K X.mg X.base i k t) := by
  refine ⟨fun pins s σ H Q I h => ?_⟩
  obtain ⟨f, sp, hs, hH, ht⟩ := h
  refine (L2.pe_callA (S := fun g => if g = f then some sp else none) (fun g sq z => ?_) hr hN hv ha hdb hcd he hpl).run pins s σ H Q I ⟨f, sp, hs, if_pos rfl, ht⟩
  by_cases e : g = f
  · rw [if_pos e] at z
    cases z
    rw [e]
    exact hH
  · rw [if_neg e] at z
    cases z
theorem held_of {P : Program} {w : World} {K : PySem.W.Frag} {mg : Str → Option Value} {base : Heap} {j k : Nat} {x : Str} {sp : Sp} {f : Addr} (c : C8.Cal P w K mg base j x sp []) (m : mg x = some (.ref f)) (h : j ≤ k) : L2.Held P w K mg base k f sp := by
  obtain ⟨f', fd, ps, ds, F, hm, kp, b, v⟩ := c.ex
  rw [m] at hm
  cases hm
  cases v
  exact ⟨fd, ps, F.mono h, kp, b⟩
/-- a def of two values that gives a value -/
def spBin (pre : V → V → Prop) (op : V → V → V) : Sp := fun vs H Q _ => ∃ x y : V, vs = [x, y] ∧ pre x y ∧ ∀ H', Ex H H' → Q (op x y) H'
theorem ec_held {P : Program} {w : World} {K : PySem.W.Frag} {mg : Str → Option Value} {base : Heap} {i k : Nat} {σ : L2.St} {H : Hp} {ta tb : TE} {f : Addr} {pre : V → V → Prop} {op : V → V → V} {x y : V} (hσ : σ[i]? = some (some (.ref f))) (h : L2.Held P w K mg base k f (spBin pre op)) (hp : pre x y) (ha : Ev ta σ H x) (hb : Ev tb σ H y) :
    Ev (tCallH P w K mg base i k (tCons ta (tCons tb tNil))) σ H (op x y) := fun H1 e Q q => ⟨f, _, hσ, h, ha H1 e _ fun H2 e2 => hb H2 (e.trans e2) _ fun H3 e3 => ⟨x, y, rfl, hp, fun H' e' => q H' ((e2.trans e3).trans e')⟩⟩

/-! ### a def under another name: it is held by dicts alone -/
def DnA (K : PySem.W.Frag) (f : Addr) (x : Str) (st : Stmt) (ps : List Str) : Prop := ∃ fd, C8.Fun K x x st f fd ∧ Binds K fd ps [] ∧ PySem.W.keepIn K (.ref f) = true
theorem dnA_mk {K : PySem.W.Frag} {x : Str} {st : Stmt} {f : Addr} {oc : Value} {od an : Option Addr} {osl : Array (Option Value)} {kV doc pm cdv ct : Value} {ps : List Str}
    (l : K.lookup f = some ⟨oc, od, .func (PySem.W.fnOf x x (C8.fnArgs st) (C8.fnBody st) (C8.fnScope st) .none kV doc pm an cdv ct), osl⟩)
    (c : PySem.W.codeIn K cdv x = true) (k : PySem.W.keepIn K (.ref f) = true)
    (h : ∀ (kV doc pm : Value) (an : Option Addr) (cdv ct : Value) (us : List Value), us.length = ps.length → bindArgs (PySem.W.fnOf x x (C8.fnArgs st) (C8.fnBody st) (C8.fnScope st) .none kV doc pm an cdv ct) ⟨us, []⟩ = pure (ps.zip us)) : DnA K f x st ps := by
  have F : C8.Fun K x x st f (PySem.W.fnOf x x (C8.fnArgs st) (C8.fnBody st) (C8.fnScope st) .none kV doc pm an cdv ct) := ⟨oc, od, .none, kV, doc, pm, an, cdv, ct, osl, rfl, l, c⟩
  exact ⟨_, F, C8.Fun.binds F rfl h, k⟩
theorem heldA_of {P : Program} {w : World} {K : PySem.W.Frag} {mg : Str → Option Value} {base : Heap} {f : Addr} {x : Str} {st : Stmt} {N ps : List Str} {k : Nat} {sp : Sp} (D : DnA K f x st ps) (S : FnScope N ps (C8.fnScope st)) (len : ∀ vs H Q E, sp vs H Q E → vs.length = ps.length)
    (hbody : ∀ (f : Addr) (cdv : Value) (A : Around) (outer : List Env) (s : Shared) (H : Hp) (vs : List V) (Q : VK) (E : XK), Room k (A.deeper (envOfC x (C8.fnScope st) s.heap.objs.size f cdv)) → sp vs H Q E →
      ∃ t, PSs (cxOf C8.CX0 P w K mg base N x (C8.fnScope st) f cdv A outer s H E).nox (C8.fnBody st) t ∧ t { nx := fun _ H' => Q .non H', rt := Q } (start N vs) H) : L2.Held P w K mg base (k + 1) f sp := by
  obtain ⟨fd, F, b, kp⟩ := D
  exact ⟨fd, ps, C8.fn0 F S len (hbody f), kp, b⟩

/-! ### dicts whose keys are nested tuples -/
abbrev NK := PySem.NestedKey
mutual
inductive NKey (H : Hp) : NK → V → Prop where
  | non : NKey H .none .non
  | num (i : Int) : NKey H (.num i) (.int i)
  | text (x : Str) : NKey H (.text x) (.str x)
  | tup {a : Addr} {xs : List V} {ks : List NK} (h : H a = some (.tup xs)) (hs : NKeys H ks xs) : NKey H (.tup ks) (.ref a)
inductive NKeys (H : Hp) : List NK → List V → Prop where
  | nil : NKeys H [] []
  | cons {k : NK} {v : V} {ks : List NK} {vs : List V} (h : NKey H k v) (hs : NKeys H ks vs) : NKeys H (k :: ks) (v :: vs)
end
mutual
theorem NKey.mono {H H' : Hp} (t : ∀ b xs, H b = some (.tup xs) → H' b = some (.tup xs)) : ∀ {k : NK} {v : V}, NKey H k v → NKey H' k v
  | _, _, .non => .non
  | _, _, .num i => .num i
  | _, _, .text x => .text x
  | _, _, .tup h hs => .tup (t _ _ h) (NKeys.mono t hs)
theorem NKeys.mono {H H' : Hp} (t : ∀ b xs, H b = some (.tup xs) → H' b = some (.tup xs)) : ∀ {ks : List NK} {vs : List V}, NKeys H ks vs → NKeys H' ks vs
  | _, _, .nil => .nil
  | _, _, .cons h hs => .cons (NKey.mono t h) (NKeys.mono t hs)
end
theorem NKey.ex {H H' : Hp} {k : NK} {v : V} (h : NKey H k v) (e : Ex H H') : NKey H' k v := h.mono fun b xs q => e b _ q
mutual
theorem NKey.is {P : Program} {w : World} {H : Hp} {h : Heap} (ok : HOk P w H h) : ∀ {k : NK} {v : V} {u : Value}, NKey H k v → RelV v u → PySem.NestedIs h k u
  | _, _, u, .non, r => by cases (show u = Value.none from r); exact .none
  | _, _, u, .num i, r => by obtain ⟨t, rfl⟩ := (show ∃ t, u = Value.int i t from r); exact .int i t
  | _, _, u, .text x, r => by obtain ⟨t, rfl⟩ := (show ∃ t, u = Value.str x t from r); exact .text x t
  | _, _, u, .tup (a := a) e hs, r => by
    cases (show u = Value.ref a from r)
    obtain ⟨_, its, rr, o, h1, h2, n, h3⟩ := (show ObjOk P w H h a (.tup _) from ok a _ e)
    exact .tup h1 h2 h3 (by simpa using NKeys.is ok hs rr)
theorem NKeys.is {P : Program} {w : World} {H : Hp} {h : Heap} (ok : HOk P w H h) : ∀ {ks : List NK} {vs : List V} {us : List Value}, NKeys H ks vs → Vals vs us → PySem.NestedAll h ks us
  | _, _, _, .nil, r => by cases r; exact .nil
  | _, _, _, .cons k ks, r => by
    cases r with
    | cons r1 r2 => exact .cons (NKey.is ok k r1) (NKeys.is ok ks r2)
end
def nkd (P : Program) (w : World) : PySem.HeapKind P w NK := PySem.nestedKind P w
def NObj (P : Program) (w : World) (d : Addr) (xs : List (NK × Addr × Value)) : HO := .ext fun h => (d == sysModules) = false ∧ ∃ o es ep, h.get? d = some o ∧ o.ExactDict ∧ o.data = .dict es ep ∧ es.toList = xs.map (entryOfKey (nkd P w)) ∧ (xs.map (·.1)).Nodup
/-- at d stands a dict with the keys and values kvs, in the order of insertion -/
def NDict (P : Program) (w : World) (H : Hp) (d : Addr) (kvs : List (NK × V)) : Prop :=
  ∃ xs : List (NK × Addr × Value), H d = some (NObj P w d xs) ∧ (∀ x ∈ xs, NKey H x.1 (.ref x.2.1) ∧ x.1.depth ≤ 8) ∧ KV kvs (PySem.pairsH xs) ∧ kvs.length ≤ sizeLine
theorem NDict.ex {P : Program} {w : World} {H H' : Hp} {d : Addr} {kvs : List (NK × V)} (h : NDict P w H d kvs) (e : Ex H H') : NDict P w H' d kvs := by
  obtain ⟨xs, h1, h2, h3⟩ := h
  exact ⟨xs, e _ _ h1, fun x hx => ⟨(h2 x hx).1.ex e, (h2 x hx).2⟩, h3⟩
theorem NDict.upd {P : Program} {w : World} {H : Hp} {d p : Addr} {o u : HO} {kvs : List (NK × V)} (h : NDict P w H d kvs) (hp : H p = some u) (hu : ∀ xs, u ≠ .tup xs) (hd : d ≠ p) : NDict P w (upd H p o) d kvs := by
  obtain ⟨xs, h1, h2, h3⟩ := h
  refine ⟨xs, by rw [upd_ne hd]; exact h1, fun x hx => ⟨(h2 x hx).1.mono fun b ys q => ?_, (h2 x hx).2⟩, h3⟩
  rw [upd_ne fun z => ?_]
  · exact q
  · rw [z, hp] at q
    exact hu _ (Option.some.inj q)
theorem NDict.ne {P : Program} {w : World} {H : Hp} {d p : Addr} {o : HO} {kvs : List (NK × V)} (h : NDict P w H d kvs) (hp : H p = some o) (ho : ∀ φ, o ≠ .ext φ) : d ≠ p := fun z => by
  obtain ⟨xs, h1, _⟩ := h
  rw [z, hp] at h1
  exact ho _ (Option.some.inj h1)
theorem NDict.some {P : Program} {w : World} {H : Hp} {d : Addr} {kvs : List (NK × V)} (h : NDict P w H d kvs) : ∃ o, H d = some o := by
  obtain ⟨xs, h1, _⟩ := h
  exact ⟨_, h1⟩
section
variable {P : Program} {w : World} {H : Hp} {h : Heap} {d : Addr} {kvs : List (NK × V)}
theorem NDict.of (ok : HOk P w H h) (e : NDict P w H d kvs) : (d == sysModules) = false ∧ ∃ xs, H d = Option.some (NObj P w d xs) ∧ (∀ x ∈ xs, NKey H x.1 (.ref x.2.1) ∧ x.1.depth ≤ 8) ∧ KV kvs (PySem.pairsH xs) ∧ kvs.length ≤ sizeLine ∧ h.DictOfH (nkd P w) d xs := by
  obtain ⟨xs, h1, h2, h3, h4⟩ := e
  obtain ⟨⟨q1, o, es, ep, q2, q3, q4, q5, q6⟩, _⟩ := (show ObjOk P w H h d (NObj P w d xs) from ok d _ h1)
  exact ⟨q1, xs, h1, h2, h3, h4, o, es, ep, q2, q3, q4, q5, fun x hx => ⟨NKey.is ok (h2 x hx).1 (show RelV (.ref x.2.1) (.ref x.2.1) from rfl), (h2 x hx).2⟩, q6⟩
theorem nobj_ok {xs : List (NK × Addr × Value)} (hd : (d == sysModules) = false) (x : h.DictOfH (nkd P w) d xs) : ObjOk P w H h d (NObj P w d xs) := by
  obtain ⟨o, es, ep, q2, q3, q4, q5, _, q6⟩ := x
  refine ⟨⟨hd, o, es, ep, q2, q3, q4, q5, q6⟩, ⟨o, q2⟩, ?_⟩
  rintro h1 h2 ⟨w1, o, es, ep, w2, w3⟩ k
  exact ⟨w1, o, es, ep, k _ w2, w3⟩
end
/-! the operations -/
def rNIn (P : Program) (w : World) (neg : Bool) : R2 := fun y x H Q => ∃ d kvs k, x = .ref d ∧ NDict P w H d kvs ∧ NKey H k y ∧ (∃ b, y = .ref b) ∧ k.depth ≤ 8 ∧ Q (.bl (if neg then !(valV kvs k).isSome else (valV kvs k).isSome)) H
def tNGet (P : Program) (w : World) (td ty : TE) : TE := fun σ H Q => td σ H fun x H1 => ty σ H1 fun y H2 => ∃ d kvs k b v, x = .ref d ∧ y = .ref b ∧ NDict P w H2 d kvs ∧ NKey H2 k y ∧ k.depth ≤ 8 ∧ valV kvs k = some v ∧ Q v H2
def sNPut (P : Program) (w : World) (td ty tv : TE) : TS := fun D σ H => tv σ H fun v H1 => td σ H1 fun x H2 => ty σ H2 fun y H3 => ∃ d kvs k b, x = .ref d ∧ y = .ref b ∧ NDict P w H3 d kvs ∧ NKey H3 k y ∧ k.depth ≤ 8 ∧ kvs.length < sizeLine ∧
  ∀ xs, NDict P w (upd H3 d (NObj P w d xs)) d (putK kvs k v) → D.nx σ (upd H3 d (NObj P w d xs))
def rNGetOr (P : Program) (w : World) : V → List V → Hp → VK → Prop := fun x xs H Q => ∃ d kvs k b z, x = .ref d ∧ xs = [.ref b, z] ∧ NDict P w H d kvs ∧ NKey H k (.ref b) ∧ k.depth ≤ 8 ∧ Q ((valV kvs k).getD z) H
def tDNewN (P : Program) (w : World) : TE := fun _ H Q => ∀ d, H d = none → NDict P w (upd H d (NObj P w d [])) d [] → Q (.ref d) (upd H d (NObj P w d []))
theorem mem_storedH {xs : List (NK × Addr × Value)} {k : NK} {a : Addr} {v : Value} : ∀ x ∈ storedH xs k a v, (∃ y ∈ xs, x.1 = y.1 ∧ x.2.1 = y.2.1) ∨ (x.1 = k ∧ x.2.1 = a) := by
  intro x hx
  unfold storedH at hx
  split at hx
  · obtain ⟨y, hy, rfl⟩ := List.mem_map.mp hx
    refine .inl ⟨y, hy, ?_⟩
    unfold putAt
    split <;> exact ⟨rfl, rfl⟩
  · rcases List.mem_append.mp hx with q | q
    · exact .inl ⟨x, q, rfl, rfl⟩
    · rw [List.mem_singleton.mp q]
      exact .inr ⟨rfl, rfl⟩
section
variable {X : Cx} {o i e f value : Expr} {pos pos' tpos apos cpos : Pos} {td ty tv tx : TE}
theorem nroom {A : Around} (hu : A.units + 64 < cLine) (P : Program) (w : World) : (nkd P w).room A.in1 := by
  show A.in1.units + 8 < cLine
  rw [Around.in1_units]
  omega
theorem op_nin (hu : X.A.units + 64 < cLine) : OpR X (compareOp .In) (rNIn X.prog X.w false) := by
  intro pins s σ H x y v u Q I rx ry h
  obtain ⟨d, kvs, k, rfl, nd, nk, ⟨b, rfl⟩, kd, q⟩ := h
  obtain rfl : u = Value.ref d := ry
  obtain ⟨hd, xs, _, _, kv, _, dd⟩ := NDict.of I.hok nd
  have hk := NKey.is I.hok nk rx
  cases (show v = Value.ref b from rx)
  refine wpAny_in_heap (knd := nkd X.prog X.w) (nroom hu _ _) ⟨hk, kd⟩ hd dd ?_
  have e := (kv.val k).isSome_eq
  rw [PySem.valueAt_pairsH, Option.isSome_map] at e
  refine ⟨_, H, I.tok _, ?_, q⟩
  show Value.bool _ = Value.bool _
  rw [← e]
  rfl
theorem op_nnotin (hu : X.A.units + 64 < cLine) : OpR X (compareOp .NotIn) (rNIn X.prog X.w true) := by
  intro pins s σ H x y v u Q I rx ry h
  obtain ⟨d, kvs, k, rfl, nd, nk, ⟨b, rfl⟩, kd, q⟩ := h
  obtain rfl : u = Value.ref d := ry
  obtain ⟨hd, xs, _, _, kv, _, dd⟩ := NDict.of I.hok nd
  have hk := NKey.is I.hok nk rx
  cases (show v = Value.ref b from rx)
  refine PySem.notIn_keyed (knd := nkd X.prog X.w) (nroom hu _ _) ⟨hk, kd⟩ hd ⟨xs, dd, rfl⟩ ?_
  have e := (kv.val k).isSome_eq
  refine ⟨_, H, I.tok _, ?_, q⟩
  show Value.bool _ = Value.bool _
  rw [← e]
  rfl
theorem pe_nget (hu : X.A.units + 64 < cLine) (ho : PE X o td) (hi : PE X i ty) (hs : NoSl i) : PE X (.Subscript o i pos) (tNGet X.prog X.w td ty) := by
  refine ⟨fun pins s σ H Q I h => ?_⟩
  refine subD_of PySem.F.slot_dict_getitem.lookup hs (thn (ho.run pins s σ H _ I h) fun u s1 ⟨x, H1, I1, rx, q1⟩ => thn (hi.run pins s1 σ H1 _ I1 q1) fun iv s2 ⟨y, H2, I2, ry, d, kvs, k, b, v, ex, ey, nd, nk, kd, hv, q2⟩ => ?_)
  subst ex ey
  obtain rfl : u = Value.ref d := rx
  obtain ⟨hd, xs, _, _, kv, _, dd⟩ := NDict.of I2.hok nd
  have hk := NKey.is I2.hok nk ry
  obtain rfl : iv = Value.ref b := ry
  obtain ⟨w', hw, rw'⟩ := RelO.some_of (v := v) (o := valueAt (PySem.pairsH xs) k) (by rw [← hv]; exact kv.val k)
  refine ⟨dd.typeIs, PySem.getItem_keyed (knd := nkd X.prog X.w) (nroom hu _ _) ⟨hk, kd⟩ ⟨xs, dd, rfl⟩ hw ⟨v, H2, I2.tok _, rw', q2⟩⟩
theorem ps_nput (hu : X.A.units + 64 < cLine) (ho : PE X o td) (hi : PE X i ty) (hv : PE X value tv) (hs : swapsWith value (some (.Subscript o i pos')) pos.line X.env = pure false) :
    PS X (.Assign [.Subscript o i pos'] value pos) (sNPut X.prog X.w td ty tv) := by
  refine ⟨fun pins s σ H D I h => ?_⟩
  refine wpAny_Assign_Subscript (thn (hv.run pins s σ H _ I h) fun r s1 ⟨v, H1, I1, rv, q1⟩ => thn (ho.run pins s1 σ H1 _ I1 q1) fun u s2 ⟨x, H2, I2, rx, q2⟩ => thn (hi.run pins s2 σ H2 _ I2 q2) fun iv s3 ⟨y, H3, I3, ry, d, kvs, k, b, ex, ey, nd, nk, kd, hl, q3⟩ => ?_) hs
  subst ex ey
  obtain rfl : u = Value.ref d := rx
  obtain ⟨hd, xs, hH, hks, kv, hz, dd⟩ := NDict.of I3.hok nd
  have hk := NKey.is I3.hok nk ry
  obtain rfl : iv = Value.ref b := ry
  have hx : xs.length ≤ sizeLine := by
    have := kv.length
    rw [PySem.pairsH_length] at this
    omega
  refine wpAny_setItem_heap (knd := nkd X.prog X.w) (hsz := hx) (nroom hu _ _) ⟨hk, kd⟩ dd fun h' dd' hs' => ?_
  have he : ∃ q, h'.get? d = some q := let ⟨q, _, _, hq, _⟩ := dd'; ⟨q, hq⟩
  refine ⟨σ, _, d_write (ob := NObj X.prog X.w d (storedH xs k b r)) I3 (by rw [hH]; exact True.intro) hs' he (nobj_ok hd dd'), q3 _ ⟨_, upd_same, fun x hx' => ?_, ?_, ?_⟩⟩
  · have keep : ∀ b ys, H3 b = some (.tup ys) → upd H3 d (NObj X.prog X.w d (storedH xs k b r)) b = some (.tup ys) := fun b ys q => by
      rw [upd_ne fun z => ?_]
      · exact q
      · rw [z, hH] at q
        cases q
    have keep2 : ∀ c ys, H3 c = some (.tup ys) → upd H3 d (NObj X.prog X.w d (storedH xs k b r)) c = some (.tup ys) := fun c ys q => by
      rw [upd_ne fun z => ?_]
      · exact q
      · rw [z, hH] at q
        cases q
    rcases mem_storedH x hx' with ⟨z, hz1, e1, e2⟩ | ⟨e1, e2⟩
    · rw [e1, e2]
      exact ⟨(hks z hz1).1.mono keep2, (hks z hz1).2⟩
    · rw [e1, e2]
      exact ⟨nk.mono keep2, kd⟩
  · rw [PySem.pairsH_storedH]
    exact kv.put k rv
  · have := length_putK kvs k v
    omega
theorem mt_ngetOr (hu : X.A.units + 64 < cLine) : MtR X "dict.get" (rNGetOr X.prog X.w) := by
  intro pins s σ H x xs v us Q I rx rs h
  obtain ⟨d, kvs, k, b, z, rfl, rfl, nd, nk, kd, q⟩ := h
  obtain rfl : v = Value.ref d := rx
  cases rs with
  | cons r1 rs =>
    cases rs with
    | cons r2 rs =>
      cases rs
      obtain ⟨hd, xs, _, _, kv, _, dd⟩ := NDict.of I.hok nd
      have hk := NKey.is I.hok nk r1
      cases r1
      refine PySem.getOr_keyed (knd := nkd X.prog X.w) (nroom hu _ _) ⟨hk, kd⟩ hd ⟨xs, dd, rfl⟩ ⟨_, H, I.tok _, (kv.val k).getD r2, q⟩
theorem dn_empty {P : Program} {w : World} {H : Hp} (h : Heap) (hb : sysModules < h.objs.size) : ObjOk P w H (h.push { cls := .type "dict", data := .dict #[] }) h.objs.size (NObj P w h.objs.size []) :=
  nobj_ok (beq_eq_false_iff_ne.mpr (Ne.symm (Nat.ne_of_lt hb))) (Heap.DictOfH.new h)
theorem pe_dnewN : PE X (.Dict [] [] pos) (tDNewN X.prog X.w) := ⟨fun pins s σ H Q I h =>
  wpAny_Dict_empty ⟨.ref s.heap.objs.size, _, I.laid (a := s.heap.objs.size) (o := NObj X.prog X.w s.heap.objs.size []) (t' := s.toks) (fun _ _ q => Heap.get?_push_of_some _ q) (Nat.le_refl _) (dn_empty s.heap I.big), rfl, h _ (I.hok.fresh (Nat.le_refl _)) ⟨[], upd_same, fun x hx => (by cases hx), Paired.nil, Nat.zero_le _⟩⟩⟩
end
section
variable {P : Program} {w : World} {K : PySem.W.Frag} {σ : L2.St} {H : Hp} {ta tb te tl : TE} {D : Ends} {tz : TS} {d : Addr} {kvs : List (NK × V)} {k : NK} {v x : V}
theorem ev_nin {neg : Bool} {b : Addr} (ha : Ev ta σ H (.ref b)) (hb : Ev tb σ H (.ref d)) (nd : NDict P w H d kvs) (nk : NKey H k (.ref b)) (hd : k.depth ≤ 8) : Ev (tOp (rNIn P w neg) ta tb) σ H (.bl (if neg then !(valV kvs k).isSome else (valV kvs k).isSome)) := fun H1 e Q q =>
  ha H1 e _ fun H2 e2 => hb H2 (e.trans e2) _ fun H3 e3 => ⟨d, kvs, k, rfl, nd.ex ((e.trans e2).trans e3), nk.ex ((e.trans e2).trans e3), ⟨b, rfl⟩, hd, q H3 (e2.trans e3)⟩
theorem ev_nget {b : Addr} (hb : Ev tb σ H (.ref d)) (ha : Ev ta σ H (.ref b)) (nd : NDict P w H d kvs) (nk : NKey H k (.ref b)) (hd : k.depth ≤ 8) (hv : valV kvs k = some v) : Ev (tNGet P w tb ta) σ H v := fun H1 e Q q =>
  hb H1 e _ fun H2 e2 => ha H2 (e.trans e2) _ fun H3 e3 => ⟨d, kvs, k, b, v, rfl, rfl, nd.ex ((e.trans e2).trans e3), nk.ex ((e.trans e2).trans e3), hd, hv, q H3 (e2.trans e3)⟩
theorem s_nput {b : Addr} (hv : Ev te σ H v) (hb : Ev tb σ H (.ref d)) (ha : Ev ta σ H (.ref b)) (nd : NDict P w H d kvs) (nk : NKey H k (.ref b)) (hd : k.depth ≤ 8) (hz : kvs.length < 100000)
    (q : ∀ H1 xs, Ex H H1 → NDict P w (upd H1 d (NObj P w d xs)) d (putK kvs k v) → D.nx σ (upd H1 d (NObj P w d xs))) : sNPut P w tb ta te D σ H :=
  hv H (Ex.refl H) _ fun H1 e1 => hb H1 e1 _ fun H2 e2 => ha H2 (e1.trans e2) _ fun H3 e3 => ⟨d, kvs, k, b, rfl, rfl, nd.ex ((e1.trans e2).trans e3), nk.ex ((e1.trans e2).trans e3), hd, sz_lt hz, fun xs n => q H3 xs ((e1.trans e2).trans e3) n⟩
theorem q_nput {b : Addr} (hv : Ev te σ H v) (hb : Ev tb σ H (.ref d)) (ha : Ev ta σ H (.ref b)) (nd : NDict P w H d kvs) (nk : NKey H k (.ref b)) (hd : k.depth ≤ 8) (hz : kvs.length < 100000)
    (q : ∀ H1 xs, Ex H H1 → NDict P w (upd H1 d (NObj P w d xs)) d (putK kvs k v) → tz D σ (upd H1 d (NObj P w d xs))) : tSeq (sNPut P w tb ta te) tz D σ H := s_nput (D := { D with nx := tz D }) hv hb ha nd nk hd hz q
theorem q_dnewN {i : Nat} (q : ∀ d H1, H d = none → Ex H H1 → NDict P w H1 d [] → tz D (σ.set i (some (.ref d))) H1) : tSeq (tAsg (tDNewN P w) (gName i)) tz D σ H := fun d hd n => q d _ hd (Ex.new hd) n
end

def limV (n : Int) : V := if -1000000000000000 ≤ n ∧ n ≤ 1000000000000000 then .int n else .non
def topS (i : Nat) : Stmt := PySem.Challenge.pw_stylobate_k36_joins_of_rows.main.body.getD i (.Pass ⟨0, 0, 0, 0⟩)
abbrev s_kind_rank : Stmt := topS 1
abbrev n_kind_rank : List Str := ["value"]
theorem sc_kind_rank : FnScope n_kind_rank ["value"] (C8.fnScope s_kind_rank) := C8.fnScope_by (by decide +kernel)
abbrev s_is_integer : Stmt := topS 2
abbrev n_is_integer : List Str := ["value"]
theorem sc_is_integer : FnScope n_is_integer ["value"] (C8.fnScope s_is_integer) := C8.fnScope_by (by decide +kernel)
abbrev s_rank : Stmt := topS 3
abbrev n_rank : List Str := ["value", "kind"]
theorem sc_rank : FnScope n_rank ["value"] (C8.fnScope s_rank) := C8.fnScope_by (by decide +kernel)
abbrev s_same : Stmt := topS 4
abbrev n_same : List Str := ["first", "second"]
theorem sc_same : FnScope n_same ["first", "second"] (C8.fnScope s_same) := C8.fnScope_by (by decide +kernel)
abbrev s_before : Stmt := topS 5
abbrev n_before : List Str := ["first", "second"]
theorem sc_before : FnScope n_before ["first", "second"] (C8.fnScope s_before) := C8.fnScope_by (by decide +kernel)
abbrev s_is_digits : Stmt := topS 8
abbrev n_is_digits : List Str := ["text"]
theorem sc_is_digits : FnScope n_is_digits ["text"] (C8.fnScope s_is_digits) := C8.fnScope_by (by decide +kernel)
abbrev s__pattern_parts : Stmt := topS 9
abbrev n__pattern_parts : List Str := ["pattern", "signs", "stars", "at", "sign"]
theorem sc__pattern_parts : FnScope n__pattern_parts ["pattern"] (C8.fnScope s__pattern_parts) := C8.fnScope_by (by decide +kernel)
abbrev s__places_of : Stmt := topS 10
abbrev n__places_of : List Str := ["signs", "wanted", "bits", "at", "sign"]
theorem sc__places_of : FnScope n__places_of ["signs", "wanted"] (C8.fnScope s__places_of) := C8.fnScope_by (by decide +kernel)
abbrev s_is_like : Stmt := topS 11
abbrev n_is_like : List Str := ["text", "pattern", "signs", "stars", "loops", "at", "star", "takes", "reached", "sign"]
theorem sc_is_like : FnScope n_is_like ["text", "pattern"] (C8.fnScope s_is_like) := C8.fnScope_by (by decide +kernel)
abbrev s_pieces : Stmt := topS 12
abbrev n_pieces : List Str := ["text", "separator"]
theorem sc_pieces : FnScope n_pieces ["text", "separator"] (C8.fnScope s_pieces) := C8.fnScope_by (by decide +kernel)
abbrev s_lowered : Stmt := topS 13
abbrev n_lowered : List Str := ["text"]
theorem sc_lowered : FnScope n_lowered ["text"] (C8.fnScope s_lowered) := C8.fnScope_by (by decide +kernel)
abbrev s_raised : Stmt := topS 14
abbrev n_raised : List Str := ["text"]
theorem sc_raised : FnScope n_raised ["text"] (C8.fnScope s_raised) := C8.fnScope_by (by decide +kernel)
abbrev s_is_day : Stmt := topS 24
abbrev n_is_day : List Str := ["value"]
theorem sc_is_day : FnScope n_is_day ["value"] (C8.fnScope s_is_day) := C8.fnScope_by (by decide +kernel)
abbrev s__is_leap : Stmt := topS 25
abbrev n__is_leap : List Str := ["year"]
theorem sc__is_leap : FnScope n__is_leap ["year"] (C8.fnScope s__is_leap) := C8.fnScope_by (by decide +kernel)
abbrev s_month_length : Stmt := topS 26
abbrev n_month_length : List Str := ["year", "month"]
theorem sc_month_length : FnScope n_month_length ["year", "month"] (C8.fnScope s_month_length) := C8.fnScope_by (by decide +kernel)
abbrev s_day_of : Stmt := topS 27
abbrev n_day_of : List Str := ["year", "month", "date", "gone", "days", "earlier"]
theorem sc_day_of : FnScope n_day_of ["year", "month", "date"] (C8.fnScope s_day_of) := C8.fnScope_by (by decide +kernel)
abbrev s_date_of : Stmt := topS 28
abbrev n_date_of : List Str := ["day", "cycles", "rest", "centuries", "fours", "years", "year", "month"]
theorem sc_date_of : FnScope n_date_of ["day"] (C8.fnScope s_date_of) := C8.fnScope_by (by decide +kernel)
abbrev s_date_text : Stmt := topS 29
abbrev n_date_text : List Str := ["day", "year", "month", "date"]
theorem sc_date_text : FnScope n_date_text ["day"] (C8.fnScope s_date_text) := C8.fnScope_by (by decide +kernel)
abbrev s_read_date : Stmt := topS 30
abbrev n_read_date : List Str := ["text", "year", "month", "date"]
theorem sc_read_date : FnScope n_read_date ["text"] (C8.fnScope s_read_date) := C8.fnScope_by (by decide +kernel)
abbrev s_limited : Stmt := topS 35
abbrev n_limited : List Str := ["number"]
theorem sc_limited : FnScope n_limited ["number"] (C8.fnScope s_limited) := C8.fnScope_by (by decide +kernel)
abbrev s_rounded : Stmt := topS 36
abbrev n_rounded : List Str := ["number", "divisor", "size"]
theorem sc_rounded : FnScope n_rounded ["number", "divisor"] (C8.fnScope s_rounded) := C8.fnScope_by (by decide +kernel)
abbrev s_quotient : Stmt := topS 37
abbrev n_quotient : List Str := ["number", "divisor", "size"]
theorem sc_quotient : FnScope n_quotient ["number", "divisor"] (C8.fnScope s_quotient) := C8.fnScope_by (by decide +kernel)
abbrev s_decimal_text : Stmt := topS 38
abbrev n_decimal_text : List Str := ["number", "whole", "rest", "sign", "digits"]
theorem sc_decimal_text : FnScope n_decimal_text ["number"] (C8.fnScope s_decimal_text) := C8.fnScope_by (by decide +kernel)
abbrev s_read_digits : Stmt := topS 39
abbrev n_read_digits : List Str := ["digits", "needed"]
theorem sc_read_digits : FnScope n_read_digits ["digits"] (C8.fnScope s_read_digits) := C8.fnScope_by (by decide +kernel)
abbrev s__signed : Stmt := topS 40
abbrev n__signed : List Str := ["sign", "digits", "size"]
theorem sc__signed : FnScope n__signed ["sign", "digits"] (C8.fnScope s__signed) := C8.fnScope_by (by decide +kernel)
abbrev s_read_integer : Stmt := topS 41
abbrev n_read_integer : List Str := ["text", "sign", "digits"]
theorem sc_read_integer : FnScope n_read_integer ["text"] (C8.fnScope s_read_integer) := C8.fnScope_by (by decide +kernel)
abbrev s_read_decimal : Stmt := topS 42
abbrev n_read_decimal : List Str := ["text", "sign", "size", "whole", "dot", "part"]
theorem sc_read_decimal : FnScope n_read_decimal ["text"] (C8.fnScope s_read_decimal) := C8.fnScope_by (by decide +kernel)
abbrev s_negated : Stmt := topS 44
abbrev n_negated : List Str := ["value"]
theorem sc_negated : FnScope n_negated ["value"] (C8.fnScope s_negated) := C8.fnScope_by (by decide +kernel)
abbrev s_both : Stmt := topS 45
abbrev n_both : List Str := ["first", "second"]
theorem sc_both : FnScope n_both ["first", "second"] (C8.fnScope s_both) := C8.fnScope_by (by decide +kernel)
abbrev s_either : Stmt := topS 46
abbrev n_either : List Str := ["first", "second"]
theorem sc_either : FnScope n_either ["first", "second"] (C8.fnScope s_either) := C8.fnScope_by (by decide +kernel)
abbrev s__negate : Stmt := topS 48
abbrev n__negate : List Str := ["number"]
theorem sc__negate : FnScope n__negate ["number"] (C8.fnScope s__negate) := C8.fnScope_by (by decide +kernel)
abbrev s__size : Stmt := topS 49
abbrev n__size : List Str := ["number"]
theorem sc__size : FnScope n__size ["number"] (C8.fnScope s__size) := C8.fnScope_by (by decide +kernel)
abbrev s__sign : Stmt := topS 50
abbrev n__sign : List Str := ["number"]
theorem sc__sign : FnScope n__sign ["number"] (C8.fnScope s__sign) := C8.fnScope_by (by decide +kernel)
abbrev s__value : Stmt := topS 51
abbrev n__value : List Str := ["value"]
theorem sc__value : FnScope n__value ["value"] (C8.fnScope s__value) := C8.fnScope_by (by decide +kernel)
abbrev s__to_decimal : Stmt := topS 52
abbrev n__to_decimal : List Str := ["number"]
theorem sc__to_decimal : FnScope n__to_decimal ["number"] (C8.fnScope s__to_decimal) := C8.fnScope_by (by decide +kernel)
abbrev s__to_integer : Stmt := topS 53
abbrev n__to_integer : List Str := ["number"]
theorem sc__to_integer : FnScope n__to_integer ["number"] (C8.fnScope s__to_integer) := C8.fnScope_by (by decide +kernel)
abbrev s__integer_text : Stmt := topS 54
abbrev n__integer_text : List Str := ["number"]
theorem sc__integer_text : FnScope n__integer_text ["number"] (C8.fnScope s__integer_text) := C8.fnScope_by (by decide +kernel)
abbrev s__decimal_text : Stmt := topS 55
abbrev n__decimal_text : List Str := ["number"]
theorem sc__decimal_text : FnScope n__decimal_text ["number"] (C8.fnScope s__decimal_text) := C8.fnScope_by (by decide +kernel)
abbrev s__lower : Stmt := topS 56
abbrev n__lower : List Str := ["text"]
theorem sc__lower : FnScope n__lower ["text"] (C8.fnScope s__lower) := C8.fnScope_by (by decide +kernel)
abbrev s__upper : Stmt := topS 57
abbrev n__upper : List Str := ["text"]
theorem sc__upper : FnScope n__upper ["text"] (C8.fnScope s__upper) := C8.fnScope_by (by decide +kernel)
abbrev s__length : Stmt := topS 58
abbrev n__length : List Str := ["text"]
theorem sc__length : FnScope n__length ["text"] (C8.fnScope s__length) := C8.fnScope_by (by decide +kernel)
abbrev s__trim : Stmt := topS 59
abbrev n__trim : List Str := ["text"]
theorem sc__trim : FnScope n__trim ["text"] (C8.fnScope s__trim) := C8.fnScope_by (by decide +kernel)
abbrev s__read_integer : Stmt := topS 60
abbrev n__read_integer : List Str := ["text"]
theorem sc__read_integer : FnScope n__read_integer ["text"] (C8.fnScope s__read_integer) := C8.fnScope_by (by decide +kernel)
abbrev s__read_decimal : Stmt := topS 61
abbrev n__read_decimal : List Str := ["text"]
theorem sc__read_decimal : FnScope n__read_decimal ["text"] (C8.fnScope s__read_decimal) := C8.fnScope_by (by decide +kernel)
abbrev s__read_date : Stmt := topS 62
abbrev n__read_date : List Str := ["text"]
theorem sc__read_date : FnScope n__read_date ["text"] (C8.fnScope s__read_date) := C8.fnScope_by (by decide +kernel)
abbrev s__year : Stmt := topS 63
abbrev n__year : List Str := ["day"]
theorem sc__year : FnScope n__year ["day"] (C8.fnScope s__year) := C8.fnScope_by (by decide +kernel)
abbrev s__month : Stmt := topS 64
abbrev n__month : List Str := ["day"]
theorem sc__month : FnScope n__month ["day"] (C8.fnScope s__month) := C8.fnScope_by (by decide +kernel)
abbrev s__date : Stmt := topS 65
abbrev n__date : List Str := ["day"]
theorem sc__date : FnScope n__date ["day"] (C8.fnScope s__date) := C8.fnScope_by (by decide +kernel)
abbrev s__weekday : Stmt := topS 66
abbrev n__weekday : List Str := ["day"]
theorem sc__weekday : FnScope n__weekday ["day"] (C8.fnScope s__weekday) := C8.fnScope_by (by decide +kernel)
abbrev s__month_start : Stmt := topS 67
abbrev n__month_start : List Str := ["day", "year", "month", "_"]
theorem sc__month_start : FnScope n__month_start ["day"] (C8.fnScope s__month_start) := C8.fnScope_by (by decide +kernel)
abbrev s__year_start : Stmt := topS 68
abbrev n__year_start : List Str := ["day"]
theorem sc__year_start : FnScope n__year_start ["day"] (C8.fnScope s__year_start) := C8.fnScope_by (by decide +kernel)
abbrev s__week_start : Stmt := topS 69
abbrev n__week_start : List Str := ["day"]
theorem sc__week_start : FnScope n__week_start ["day"] (C8.fnScope s__week_start) := C8.fnScope_by (by decide +kernel)
abbrev s__date_text : Stmt := topS 70
abbrev n__date_text : List Str := ["day"]
theorem sc__date_text : FnScope n__date_text ["day"] (C8.fnScope s__date_text) := C8.fnScope_by (by decide +kernel)
abbrev s_value_of_one : Stmt := topS 74
abbrev n_value_of_one : List Str := ["name", "value", "action"]
theorem sc_value_of_one : FnScope n_value_of_one ["name", "value"] (C8.fnScope s_value_of_one) := C8.fnScope_by (by decide +kernel)
abbrev s__part : Stmt := topS 76
abbrev n__part : List Str := ["text", "start", "count", "first", "behind"]
theorem sc__part : FnScope n__part ["text", "start", "count"] (C8.fnScope s__part) := C8.fnScope_by (by decide +kernel)
abbrev s__split : Stmt := topS 77
abbrev n__split : List Str := ["text", "separator", "number", "found"]
theorem sc__split : FnScope n__split ["text", "separator", "number"] (C8.fnScope s__split) := C8.fnScope_by (by decide +kernel)
abbrev s__replace : Stmt := topS 78
abbrev n__replace : List Str := ["text", "old", "new", "found", "length", "piece"]
theorem sc__replace : FnScope n__replace ["text", "old", "new"] (C8.fnScope s__replace) := C8.fnScope_by (by decide +kernel)
abbrev s__pad : Stmt := topS 79
abbrev n__pad : List Str := ["text", "sign", "length"]
theorem sc__pad : FnScope n__pad ["text", "sign", "length"] (C8.fnScope s__pad) := C8.fnScope_by (by decide +kernel)
abbrev s_value_of_three : Stmt := topS 81
abbrev n_value_of_three : List Str := ["name", "first", "second", "third", "action"]
theorem sc_value_of_three : FnScope n_value_of_three ["name", "first", "second", "third"] (C8.fnScope s_value_of_three) := C8.fnScope_by (by decide +kernel)
abbrev s__both : Stmt := topS 83
abbrev n__both : List Str := ["first", "second"]
theorem sc__both : FnScope n__both ["first", "second"] (C8.fnScope s__both) := C8.fnScope_by (by decide +kernel)
abbrev s__either : Stmt := topS 84
abbrev n__either : List Str := ["first", "second"]
theorem sc__either : FnScope n__either ["first", "second"] (C8.fnScope s__either) := C8.fnScope_by (by decide +kernel)
abbrev s__same : Stmt := topS 85
abbrev n__same : List Str := ["first", "second"]
theorem sc__same : FnScope n__same ["first", "second"] (C8.fnScope s__same) := C8.fnScope_by (by decide +kernel)
abbrev s__first_known : Stmt := topS 86
abbrev n__first_known : List Str := ["first", "second"]
theorem sc__first_known : FnScope n__first_known ["first", "second"] (C8.fnScope s__first_known) := C8.fnScope_by (by decide +kernel)
abbrev s__equal : Stmt := topS 87
abbrev n__equal : List Str := ["first", "second"]
theorem sc__equal : FnScope n__equal ["first", "second"] (C8.fnScope s__equal) := C8.fnScope_by (by decide +kernel)
abbrev s__less : Stmt := topS 88
abbrev n__less : List Str := ["first", "second"]
theorem sc__less : FnScope n__less ["first", "second"] (C8.fnScope s__less) := C8.fnScope_by (by decide +kernel)
abbrev s__at_most : Stmt := topS 89
abbrev n__at_most : List Str := ["first", "second"]
theorem sc__at_most : FnScope n__at_most ["first", "second"] (C8.fnScope s__at_most) := C8.fnScope_by (by decide +kernel)
abbrev s__least : Stmt := topS 90
abbrev n__least : List Str := ["first", "second"]
theorem sc__least : FnScope n__least ["first", "second"] (C8.fnScope s__least) := C8.fnScope_by (by decide +kernel)
abbrev s__greatest : Stmt := topS 91
abbrev n__greatest : List Str := ["first", "second"]
theorem sc__greatest : FnScope n__greatest ["first", "second"] (C8.fnScope s__greatest) := C8.fnScope_by (by decide +kernel)
abbrev s__add : Stmt := topS 92
abbrev n__add : List Str := ["first", "second"]
theorem sc__add : FnScope n__add ["first", "second"] (C8.fnScope s__add) := C8.fnScope_by (by decide +kernel)
abbrev s__subtract : Stmt := topS 93
abbrev n__subtract : List Str := ["first", "second"]
theorem sc__subtract : FnScope n__subtract ["first", "second"] (C8.fnScope s__subtract) := C8.fnScope_by (by decide +kernel)
abbrev s__multiply : Stmt := topS 94
abbrev n__multiply : List Str := ["first", "second"]
theorem sc__multiply : FnScope n__multiply ["first", "second"] (C8.fnScope s__multiply) := C8.fnScope_by (by decide +kernel)
abbrev s__divide : Stmt := topS 95
abbrev n__divide : List Str := ["first", "second"]
theorem sc__divide : FnScope n__divide ["first", "second"] (C8.fnScope s__divide) := C8.fnScope_by (by decide +kernel)
abbrev s__rest : Stmt := topS 96
abbrev n__rest : List Str := ["first", "second"]
theorem sc__rest : FnScope n__rest ["first", "second"] (C8.fnScope s__rest) := C8.fnScope_by (by decide +kernel)
abbrev s__multiply_decimals : Stmt := topS 97
abbrev n__multiply_decimals : List Str := ["first", "second"]
theorem sc__multiply_decimals : FnScope n__multiply_decimals ["first", "second"] (C8.fnScope s__multiply_decimals) := C8.fnScope_by (by decide +kernel)
abbrev s__divide_decimals : Stmt := topS 98
abbrev n__divide_decimals : List Str := ["first", "second"]
theorem sc__divide_decimals : FnScope n__divide_decimals ["first", "second"] (C8.fnScope s__divide_decimals) := C8.fnScope_by (by decide +kernel)
abbrev s__join : Stmt := topS 99
abbrev n__join : List Str := ["first", "second"]
theorem sc__join : FnScope n__join ["first", "second"] (C8.fnScope s__join) := C8.fnScope_by (by decide +kernel)
abbrev s__like : Stmt := topS 100
abbrev n__like : List Str := ["first", "second"]
theorem sc__like : FnScope n__like ["first", "second"] (C8.fnScope s__like) := C8.fnScope_by (by decide +kernel)
abbrev s__position : Stmt := topS 101
abbrev n__position : List Str := ["first", "second"]
theorem sc__position : FnScope n__position ["first", "second"] (C8.fnScope s__position) := C8.fnScope_by (by decide +kernel)
abbrev s__add_days : Stmt := topS 102
abbrev n__add_days : List Str := ["day", "many", "later"]
theorem sc__add_days : FnScope n__add_days ["day", "many"] (C8.fnScope s__add_days) := C8.fnScope_by (by decide +kernel)
abbrev s__add_months : Stmt := topS 103
abbrev n__add_months : List Str := ["day", "many", "year", "month", "date", "years", "before_it"]
theorem sc__add_months : FnScope n__add_months ["day", "many"] (C8.fnScope s__add_months) := C8.fnScope_by (by decide +kernel)
abbrev s__are_alike : Stmt := topS 109
abbrev n__are_alike : List Str := ["first", "second"]
theorem sc__are_alike : FnScope n__are_alike ["first", "second"] (C8.fnScope s__are_alike) := C8.fnScope_by (by decide +kernel)
abbrev s_value_of_two : Stmt := topS 110
abbrev n_value_of_two : List Str := ["name", "first", "second", "action"]
theorem sc_value_of_two : FnScope n_value_of_two ["name", "first", "second"] (C8.fnScope s_value_of_two) := C8.fnScope_by (by decide +kernel)
abbrev s_unary : Stmt := topS 112
abbrev n_unary : List Str := ["name", "value"]
theorem sc_unary : FnScope n_unary ["name", "value"] (C8.fnScope s_unary) := C8.fnScope_by (by decide +kernel)
abbrev s_binary : Stmt := topS 113
abbrev n_binary : List Str := ["name", "first", "second"]
theorem sc_binary : FnScope n_binary ["name", "first", "second"] (C8.fnScope s_binary) := C8.fnScope_by (by decide +kernel)
abbrev s_ternary : Stmt := topS 114
abbrev n_ternary : List Str := ["name", "first", "second", "third"]
theorem sc_ternary : FnScope n_ternary ["name", "first", "second", "third"] (C8.fnScope s_ternary) := C8.fnScope_by (by decide +kernel)
abbrev s_evaluate : Stmt := topS 116
abbrev n_evaluate : List Str := ["expression", "row", "form", "number", "chosen", "first", "second", "third"]
theorem sc_evaluate : FnScope n_evaluate ["expression", "row"] (C8.fnScope s_evaluate) := C8.fnScope_by (by decide +kernel)
abbrev s__pairs_of : Stmt := topS 118
abbrev n__pairs_of : List Str := ["row", "value_of", "right", "other"]
theorem sc__pairs_of : FnScope n__pairs_of ["row", "value_of", "right"] (C8.fnScope s__pairs_of) := C8.fnScope_by (by decide +kernel)
abbrev s__has_pair : Stmt := topS 119
abbrev n__has_pair : List Str := ["row", "value_of", "right", "other"]
theorem sc__has_pair : FnScope n__has_pair ["row", "value_of", "right"] (C8.fnScope s__has_pair) := C8.fnScope_by (by decide +kernel)
abbrev s__is_never : Stmt := topS 120
abbrev n__is_never : List Str := ["row", "value_of", "right", "other"]
theorem sc__is_never : FnScope n__is_never ["row", "value_of", "right"] (C8.fnScope s__is_never) := C8.fnScope_by (by decide +kernel)
abbrev s__rows_of_left : Stmt := topS 121
abbrev n__rows_of_left : List Str := ["kind", "width", "row", "value_of", "right", "found", "stays"]
theorem sc__rows_of_left : FnScope n__rows_of_left ["kind", "width", "row", "value_of", "right"] (C8.fnScope s__rows_of_left) := C8.fnScope_by (by decide +kernel)
abbrev s_join_by : Stmt := topS 122
abbrev n_join_by : List Str := ["kind", "width", "value_of", "left", "right", "found", "row"]
theorem sc_join_by : FnScope n_join_by ["kind", "width", "value_of", "left", "right"] (C8.fnScope s_join_by) := C8.fnScope_by (by decide +kernel)
abbrev s_join_rows : Stmt := topS 123
abbrev n_join_rows : List Str := ["kind", "width", "condition", "left", "right"]
theorem sc_join_rows : FnScope n_join_rows ["kind", "width", "condition", "left", "right"] (C8.fnScope s_join_rows) := C8.fnScope_by (by decide +kernel)
abbrev s__law_numbers : Stmt := topS 125
abbrev n__law_numbers : List Str := ["script", "count", "numbers", "k", "cell"]
theorem sc__law_numbers : FnScope n__law_numbers ["script", "count"] (C8.fnScope s__law_numbers) := C8.fnScope_by (by decide +kernel)
abbrev s__law_rank : Stmt := topS 126
abbrev n__law_rank : List Str := ["value"]
theorem sc__law_rank : FnScope n__law_rank ["value"] (C8.fnScope s__law_rank) := C8.fnScope_by (by decide +kernel)
abbrev s__law_cells : Stmt := topS 127
abbrev n__law_cells : List Str := ["number", "width", "row", "k", "rest"]
theorem sc__law_cells : FnScope n__law_cells ["number", "width"] (C8.fnScope s__law_cells) := C8.fnScope_by (by decide +kernel)
abbrev s__law_rowlist : Stmt := topS 128
abbrev n__law_rowlist : List Str := ["numbers", "at", "count", "width", "rows", "k"]
theorem sc__law_rowlist : FnScope n__law_rowlist ["numbers", "at", "count", "width"] (C8.fnScope s__law_rowlist) := C8.fnScope_by (by decide +kernel)
abbrev s__law_ranks : Stmt := topS 129
abbrev n__law_ranks : List Str := ["row", "value"]
theorem sc__law_ranks : FnScope n__law_ranks ["row"] (C8.fnScope s__law_ranks) := C8.fnScope_by (by decide +kernel)
abbrev s__law_same_list : Stmt := topS 130
abbrev n__law_same_list : List Str := ["told", "due", "k"]
theorem sc__law_same_list : FnScope n__law_same_list ["told", "due"] (C8.fnScope s__law_same_list) := C8.fnScope_by (by decide +kernel)
abbrev s__law_simple : Stmt := topS 131
abbrev n__law_simple : List Str := ["number", "width", "rest", "one", "other", "choice"]
theorem sc__law_simple : FnScope n__law_simple ["number", "width"] (C8.fnScope s__law_simple) := C8.fnScope_by (by decide +kernel)
abbrev s__law_condition : Stmt := topS 132
abbrev n__law_condition : List Str := ["number", "width", "one", "other", "choice"]
theorem sc__law_condition : FnScope n__law_condition ["number", "width"] (C8.fnScope s__law_condition) := C8.fnScope_by (by decide +kernel)
abbrev s__law_due : Stmt := topS 133
abbrev n__law_due : List Str := ["kind", "row", "right", "condition", "width", "values", "true", "false", "other", "k", "value"]
theorem sc__law_due : FnScope n__law_due ["kind", "row", "right", "condition", "width"] (C8.fnScope s__law_due) := C8.fnScope_by (by decide +kernel)
abbrev s_law : Stmt := topS 134
abbrev n_law : List Str := ["script", "numbers", "first", "width", "left", "right", "condition", "kept", "kind", "due", "row", "told"]
theorem sc_law : FnScope n_law ["script"] (C8.fnScope s_law) := C8.fnScope_by (by decide +kernel)
--@SPLIT
/-! ### a list that is drawn from: its one object may change -/
def wo (p : Addr) (H : Hp) : Hp := fun a => if a = p then none else H a
theorem wo_self (p : Addr) (H : Hp) : wo p H p = none := if_pos rfl
theorem wo_ne {p a : Addr} {H : Hp} (h : a ≠ p) : wo p H a = H a := if_neg h
theorem wo_le (p : Addr) (H : Hp) : Ex (wo p H) H := fun a o h => by
  unfold wo at h
  split at h
  · cases h
  · exact h
theorem wx_of {p : Addr} {H H' : Hp} (e : Ex H H') : Ex (wo p H) H' := (wo_le p H).trans e
theorem wx_trans {p : Addr} {H1 H2 H3 : Hp} (a : Ex (wo p H1) H2) (b : Ex (wo p H2) H3) : Ex (wo p H1) H3 := fun x o h => b x o (by
  have hx : x ≠ p := fun z => by
    rw [z, wo_self] at h
    cases h
  rw [wo_ne hx]
  exact a x o h)
theorem wx_back {p : Addr} {H0 H1 H2 : Hp} (h : H0 p = none) (e : Ex H0 H1) (x : Ex (wo p H1) H2) : Ex H0 H2 := fun a o ha => x a o (by
  have hx : a ≠ p := fun z => by
    rw [z, h] at ha
    cases ha
  rw [wo_ne hx]
  exact e a o ha)
theorem wx_to {p : Addr} {H0 H1 : Hp} (h : H0 p = none) (e : Ex H0 H1) : Ex H0 (wo p H1) := wx_back h e (fun _ _ z => z)
theorem wx_mut {p : Addr} {H1 H2 : Hp} {o : HO} (e : Ex (wo p H1) H2) : Ex (wo p H1) (upd H2 p o) := Ex.mut e (wo_self p H1)
def Dr (p : Addr) (H : Hp) : Prop := ∃ s : Int, 0 ≤ s ∧ H p = some (.lst [.int s])
theorem Dr.ex {p : Addr} {H H' : Hp} (d : Dr p H) (e : Ex H H') : Dr p H' := by
  obtain ⟨s, h0, h⟩ := d
  exact ⟨s, h0, e _ _ h⟩
/-- a value that is drawn: one of those with the word P -/
def EvD1 (te : TE) (σ : L2.St) (p : Addr) (H : Hp) (P : V → Prop) : Prop := ∀ H1, Ex (wo p H) H1 → Dr p H1 → ∀ Q : VK, (∀ v H2, P v → Ex (wo p H1) H2 → Dr p H2 → Q v H2) → te σ H1 Q
def EvDT (tt : TT) (σ : L2.St) (p : Addr) (H : Hp) (P : Bool → Prop) : Prop := ∀ H1, Ex (wo p H) H1 → Dr p H1 → ∀ Q : Bool → Hp → Prop, (∀ b H2, P b → Ex (wo p H1) H2 → Dr p H2 → Q b H2) → tt σ H1 Q
def ZP (P : Int → Prop) : V → Prop := fun v => ∃ i, v = .int i ∧ P i
/-- a value of which a word alone is known, all else as it was -/
def EvN (te : TE) (σ : L2.St) (H : Hp) (P : V → Prop) : Prop := ∀ H1, Ex H H1 → ∀ Q : VK, (∀ v H2, P v → Ex H1 H2 → Q v H2) → te σ H1 Q
/-- a new list to draw from -/
def EvC (te : TE) (σ : L2.St) (H : Hp) : Prop := ∀ H1, Ex H H1 → ∀ Q : VK, (∀ p H2, H1 p = none → Ex H1 H2 → Dr p H2 → Q (.ref p) H2) → te σ H1 Q
def sp__law_cell (K : PySem.W.Frag) : Sp := fun vs H Q _ => ∃ (a : Addr) (ns : List Int) (k : Int), vs = [.ref a, .int k] ∧ SqL K H a (ns.map V.int) ∧ 0 ≤ k ∧ ∀ H', Ex H H' → Q (.int (ns.getD k.toNat 0)) H'
def sp__law_state (K : PySem.W.Frag) : Sp := fun vs H Q _ => ∃ c k : Int, vs = [.int c, .int k] ∧ ∀ p H', H p = none → Ex H H' → Dr p H' → Q (.ref p) H'
def sp__law_digit (K : PySem.W.Frag) : Sp := fun vs H Q _ => ∃ (p : Addr) (m : Int), vs = [.ref p, .int m] ∧ Dr p H ∧ 0 < m ∧ m < 2 ^ 400 ∧ ∀ d H', 0 ≤ d → d < m → Ex (wo p H) H' → Dr p H' → Q (.int d) H'
section
variable {K : PySem.W.Frag} {σ : L2.St} {H H' : Hp} {p : Addr} {ta tb te tx : TE} {t u : TT} {x y z v : V} {r : R2} {P R S : V → Prop} {PI RI SI : Int → Prop} {D : Ends} {tz tu tw : TS} {E : XK}
theorem e1_pure (h : Ev te σ (wo p H) v) (hv : P v) : EvD1 te σ p H P := fun H1 e d Q q => h H1 e Q fun H2 e2 => q v H2 hv (wx_of e2) (d.ex e2)
theorem e1_int {i : Int} (h : Ev te σ (wo p H) (.int i)) (hv : PI i) : EvD1 te σ p H (ZP PI) := e1_pure h ⟨i, rfl, hv⟩
theorem e1_mono (h : EvD1 te σ p H P) (k : ∀ v, P v → R v) : EvD1 te σ p H R := fun H1 e d Q q => h H1 e d Q fun v H2 hv e2 d2 => q v H2 (k v hv) e2 d2
theorem ez_mono (h : EvD1 te σ p H (ZP PI)) (k : ∀ i, PI i → RI i) : EvD1 te σ p H (ZP RI) := e1_mono h fun v ⟨i, e, hi⟩ => ⟨i, e, k i hi⟩
theorem ez_op {C : Int → Int → Prop} {g : Int → Int → Int} (ha : EvD1 ta σ p H (ZP PI)) (hb : EvD1 tb σ p H (ZP RI)) (hc : ∀ i j, PI i → RI j → C i j ∧ SI (g i j)) : EvD1 (tOp (rI C fun i j => .int (g i j)) ta tb) σ p H (ZP SI) := fun H1 e d Q q =>
  ha H1 e d _ fun v H2 ⟨i, ev, hi⟩ e2 d2 => hb H2 (wx_trans e e2) d2 _ fun w H3 ⟨j, ew, hj⟩ e3 d3 => ⟨i, j, ev, ew, (hc i j hi hj).1, q _ H3 ⟨_, rfl, (hc i j hi hj).2⟩ (wx_trans e2 e3) d3⟩
theorem ez_op0 {g : Int → Int → Int} (ha : EvD1 ta σ p H (ZP PI)) (hb : EvD1 tb σ p H (ZP RI)) (hc : ∀ i j, PI i → RI j → SI (g i j)) : EvD1 (tOp (rI0 fun i j => .int (g i j)) ta tb) σ p H (ZP SI) := fun H1 e d Q q =>
  ha H1 e d _ fun v H2 ⟨i, ev, hi⟩ e2 d2 => hb H2 (wx_trans e e2) d2 _ fun w H3 ⟨j, ew, hj⟩ e3 d3 => ⟨i, j, ev, ew, q _ H3 ⟨_, rfl, hc i j hi hj⟩ (wx_trans e2 e3) d3⟩
theorem ez_cmp {g : Int → Int → Bool} (ha : EvD1 ta σ p H (ZP PI)) (hb : EvD1 tb σ p H (ZP RI)) : EvD1 (tOp (rI0 fun i j => .bl (g i j)) ta tb) σ p H (fun v => ∃ b, v = .bl b) := fun H1 e d Q q =>
  ha H1 e d _ fun v H2 ⟨i, ev, hi⟩ e2 d2 => hb H2 (wx_trans e e2) d2 _ fun w H3 ⟨j, ew, hj⟩ e3 d3 => ⟨i, j, ev, ew, q _ H3 ⟨_, rfl⟩ (wx_trans e2 e3) d3⟩
theorem ez_eq (ha : EvD1 ta σ p H (ZP PI)) (hb : EvD1 tb σ p H (ZP RI)) : EvD1 (tOp rEq ta tb) σ p H (fun v => ∃ b, v = .bl b) := fun H1 e d Q q =>
  ha H1 e d _ fun v H2 ⟨i, ev, hi⟩ e2 d2 => hb H2 (wx_trans e e2) d2 _ fun w H3 ⟨j, ew, hj⟩ e3 d3 => by
    subst ev ew
    exact ⟨rfl, q _ H3 ⟨_, rfl⟩ (wx_trans e2 e3) d3⟩
theorem ez_int (h : EvD1 ta σ p H (ZP PI)) : EvD1 (tCB (fun xs H Q => (∃ i, xs = [.int i] ∧ Q (.int i) H) ∨ ∃ k, xs = [.bl k] ∧ Q (.int (if k then 1 else 0)) H) (tCons ta tNil)) σ p H (ZP PI) :=
  fun H1 e d Q q => h H1 e d _ fun v H2 ⟨i, ev, hi⟩ e2 d2 => .inl ⟨i, by rw [ev], q _ H2 ⟨i, rfl, hi⟩ e2 d2⟩
/-- _law_digit(state, m) -/
theorem ez_digit {m : Int} (ha : Ev ta σ (wo p H) (.ref p)) (hb : Ev tb σ (wo p H) (.int m)) (h0 : 0 < m) (h1 : m < 2 ^ 400) : EvD1 (tCall (sp__law_digit K) [] E (tCons ta (tCons tb tNil))) σ p H (ZP fun d => 0 ≤ d ∧ d < m) := fun H1 e d Q q =>
  ha H1 e _ fun H2 e2 => hb H2 (e.trans e2) _ fun H3 e3 => ⟨p, m, rfl, d.ex (e2.trans e3), h0, h1, fun d H4 a b e4 d4 => q _ H4 ⟨d, rfl, a, b⟩ (wx_trans (wx_of (e2.trans e3)) e4) d4⟩
theorem edt_test (h : EvD1 te σ p H (fun v => ∃ b, v = .bl b)) : EvDT (tTest te) σ p H (fun _ => True) := fun H1 e d Q q => h H1 e d _ fun v H2 ⟨b, ev⟩ e2 d2 => ⟨b, ev, q b H2 trivial e2 d2⟩
theorem q1_asg {i : Nat} (h : EvD1 te σ p H P) (d : Dr p H) (k : ∀ v H1, P v → Ex (wo p H) H1 → Dr p H1 → tz D (σ.set i (some v)) H1) : tSeq (tAsg te (gName i)) tz D σ H := h H (wo_le p H) d _ fun v H1 hv e1 d1 => k v H1 hv e1 d1
theorem qz_asg {i : Nat} (h : EvD1 te σ p H (ZP PI)) (d : Dr p H) (k : ∀ (n : Int) H1, PI n → Ex (wo p H) H1 → Dr p H1 → tz D (σ.set i (some (.int n))) H1) : tSeq (tAsg te (gName i)) tz D σ H := q1_asg h d fun v H1 ⟨n, ev, hn⟩ e1 d1 => by
  subst ev
  exact k n H1 hn e1 d1
theorem s1_ret (h : EvD1 te σ p H P) (d : Dr p H) (k : ∀ v H1, P v → Ex (wo p H) H1 → Dr p H1 → D.rt v H1) : tRet te D σ H := h H (wo_le p H) d _ fun v H1 hv e1 d1 => k v H1 hv e1 d1
theorem q1_when (h : EvDT t σ p H (fun _ => True)) (d : Dr p H) (h1 : ∀ H1, Ex (wo p H) H1 → Dr p H1 → tu { D with nx := tz D } σ H1) (h2 : ∀ H1, Ex (wo p H) H1 → Dr p H1 → tz D σ H1) : tSeq (tIfS t tu tNext) tz D σ H := h H (wo_le p H) d _ fun b H1 _ e1 d1 => by
  cases b with
  | true =>
    show tu { D with nx := tz D } σ H1
    exact h1 H1 e1 d1
  | false =>
    show tz D σ H1
    exact h2 H1 e1 d1
/-- _law_cell(script, i), _law_state(cell, k) -/
theorem ec_cell {a : Addr} {ns : List Int} {k : Int} (ha : Ev ta σ H (.ref a)) (hb : Ev tb σ H (.int k)) (hS : SqL K H a (ns.map V.int)) (h0 : 0 ≤ k) : Ev (tCall (sp__law_cell K) [] E (tCons ta (tCons tb tNil))) σ H (.int (ns.getD k.toNat 0)) :=
  ev_call (ea_cons ha (ea_cons hb ea_nil)) fun H1 e Q q E => ⟨a, ns, k, rfl, ex_l e hS, h0, q⟩
theorem ec_state {c k : Int} (ha : Ev ta σ H (.int c)) (hb : Ev tb σ H (.int k)) : EvC (tCall (sp__law_state K) [] E (tCons ta (tCons tb tNil))) σ H := fun H1 e Q q =>
  ha H1 e _ fun H2 e2 => hb H2 (e.trans e2) _ fun H3 e3 => ⟨c, k, rfl, fun p H4 hp e4 d => q p H4 (fresh_back (e2.trans e3) hp) ((e2.trans e3).trans e4) d⟩
theorem q_asgC {i : Nat} (h : EvC te σ H) (k : ∀ p H1, H p = none → Ex H H1 → Dr p H1 → tz D (σ.set i (some (.ref p))) H1) : tSeq (tAsg te (gName i)) tz D σ H := h H (Ex.refl H) _ fun p H1 hp e d => k p H1 hp e d
theorem EvN.mono (e : Ex H H') (h : EvN te σ H P) : EvN te σ H' P := fun H1 a Q q => h H1 (e.trans a) Q q
theorem q_asgN {i : Nat} (h : EvN te σ H P) (k : ∀ v H1, P v → Ex H H1 → tz D (σ.set i (some v)) H1) : tSeq (tAsg te (gName i)) tz D σ H := h H (Ex.refl H) _ fun v H1 hv e => k v H1 hv e
theorem s_appN {l : Addr} {xs : List V} (hl : H l = some (.lst xs)) (ha : Ev ta σ H (.ref l)) (h : EvN te σ H P) (hz : xs.length < 100000) (k : ∀ v H1, P v → Ex H H1 → D.nx σ (upd H1 l (.lst (xs ++ [v])))) :
    tDrop (tBM K "list" rAppend ta (tCons te tNil)) D σ H := ha H (Ex.refl H) _ fun H1 e1 =>
  ⟨Or.inl ⟨rfl, xs, sq_of (e1 l _ hl)⟩, h H1 e1 _ fun v H2 hv e2 => ⟨l, xs, v, rfl, rfl, e2 l _ (e1 l _ hl), sz_lt hz, k v H2 hv (e1.trans e2)⟩⟩
end
section
variable {P : Program} {w : World} {K : PySem.W.Frag} {mg : Str → Option Value} {base : Heap}
end
section
variable {K : PySem.W.Frag} {σ : L2.St} {H : Hp} {p : Addr} {ta tb te : TE} {P : V → Prop} {D : Ends} {tz : TS}
/-- xs[i] = what is drawn -/
theorem q1_setL {l : Addr} {xs : List V} {j : Nat} (hl : wo p H l = some (.lst xs)) (h : EvD1 te σ p H P) (d : Dr p H) (ho : Ev ta σ (wo p H) (.ref l)) (hi : Ev tb σ (wo p H) (.int (j : Int))) (hj : j < xs.length) (k : ∀ v H1, P v → Ex (wo p H) H1 → Dr p H1 → tz D σ (upd H1 l (.lst (xs.set j v)))) :
    tSeq (tAsg te (gSub ta tb rSetL)) tz D σ H := h H (wo_le p H) d _ fun v H1 hv e1 d1 => ho H1 e1 _ fun H2 e2 => hi H2 (e1.trans e2) _ fun H3 e3 =>
  ⟨l, xs, (j : Int), j, rfl, rfl, ((e1.trans e2).trans e3) l _ hl, ixN_nat hj, k v H3 hv ((e1.trans e2).trans e3) (d1.ex (e2.trans e3))⟩
/-- a digit of a list that is new -/
theorem en_digit {m : Int} {E : XK} (ha : EvC ta σ H) (hb : Ev tb σ H (.int m)) (h0 : 0 < m) (h1 : m < 2 ^ 400) : EvN (tCall (sp__law_digit K) [] E (tCons ta (tCons tb tNil))) σ H (ZP fun d => 0 ≤ d ∧ d < m) := fun H1 e Q q =>
  ha H1 e _ fun p H2 hp e2 d2 => hb H2 (e.trans e2) _ fun H3 e3 => ⟨p, m, rfl, d2.ex e3, h0, h1, fun d H4 a b e4 _ => q _ H4 ⟨d, rfl, a, b⟩ (wx_back hp (e2.trans e3) e4)⟩
end
section
variable {K : PySem.W.Frag} {σ : L2.St} {H : Hp} {p : Addr} {te : TE} {t : TT} {P : V → Prop} {D : Ends} {tu : TS}
theorem s1_asg {i : Nat} (h : EvD1 te σ p H P) (d : Dr p H) (k : ∀ v H1, P v → Ex (wo p H) H1 → Dr p H1 → D.nx (σ.set i (some v)) H1) : tAsg te (gName i) D σ H := h H (wo_le p H) d _ fun v H1 hv e1 d1 => k v H1 hv e1 d1
theorem s1_when (h : EvDT t σ p H (fun _ => True)) (d : Dr p H) (h1 : ∀ H1, Ex (wo p H) H1 → Dr p H1 → tu D σ H1) (h2 : ∀ H1, Ex (wo p H) H1 → Dr p H1 → D.nx σ H1) : tIfS t tu tNext D σ H := h H (wo_le p H) d _ fun b H1 _ e1 d1 => by
  cases b with
  | true =>
    show tu D σ H1
    exact h1 H1 e1 d1
  | false =>
    show D.nx σ H1
    exact h2 H1 e1 d1
end

/-! ### lists compared, cut; list as a type -/
theorem cut_take {xs : List V} {m : Nat} (h : m ≤ xs.length) : cutV xs none (some (m : Int)) = xs.take m := by
  unfold cutV
  rw [HT.sIx_none, HT.sIx_nat, List.drop_zero, Nat.sub_zero, Nat.min_eq_left h]
theorem eqv_intsL : ∀ ns ms : List Int, PyData.eqv (.list (ns.map PyData.int)) (.list (ms.map PyData.int)) = decide (ns = ms)
  | [], [] => rfl
  | [], _ :: _ => rfl
  | _ :: _, [] => rfl
  | n :: r, m :: t => by
    have ih := eqv_intsL r t
    show ((n == m) && PyData.eqv (.list (r.map PyData.int)) (.list (t.map PyData.int))) = _
    rw [ih, Bool.eq_iff_iff, Bool.and_eq_true, decide_eq_true_eq, decide_eq_true_eq, beq_iff_eq, List.cons.injEq]
theorem rv_neL {K : PySem.W.Frag} {H : Hp} {p q : Addr} {ns ms : List Int} (hp : SqL K H p (ns.map V.int)) (hq : SqL K H q (ms.map V.int)) : RV (rNeD K) (.ref p) (.ref q) H (.bl (!decide (ns = ms))) := fun H1 e Q k =>
  ⟨_, _, .lst (ex_l e hp) (dp_ints ns), .lst (ex_l e hq) (dp_ints ms), PySem.W.ke_shaped_ints _, PySem.W.ke_shaped_ints _, by rw [eqv_intsL]; exact k H1 (Ex.refl H1)⟩
theorem tx_lst {K : PySem.W.Frag} {H : Hp} {a : Addr} {xs : List V} (h : H a = some (.lst xs)) : ∀ H1, Ex H H1 → TyX K H1 (.ref a) (.type "list") := fun H1 e => .base (.lst (e _ _ h))
theorem given_all (n : Nat) (v : Nat → V) : given n (fun _ => true) v = (List.range n).map v := by
  unfold given
  rw [List.filter_eq_self.mpr (fun _ _ => rfl)]
theorem foldl_take {α β : Type} {f : β → α → β} {l : List α} {i : Nat} {x : α} {b : β} (h : l[i]? = some x) : (l.take (i + 1)).foldl f b = f ((l.take i).foldl f b) x := by
  rw [List.take_add_one, h, List.foldl_append]
  rfl
theorem ix_listK {X : Cx} {K : PySem.W.Frag} (h : X.K = K) : IxR X (rIxL K) := h ▸ ix_list
theorem call_len_seqK {X : Cx} {K : PySem.W.Frag} (h : X.K = K) : CallR X (.builtin "len") (fun xs H Q => ∃ p ys, xs = [V.ref p] ∧ (SqL K H p ys ∨ SqT K H p ys) ∧ Q (V.int ys.length) H) := h ▸ call_len_seq
theorem ix_tupK {X : Cx} {K : PySem.W.Frag} (h : X.K = K) : IxR X (rIxT K) := h ▸ ix_tup

/-! ### lists of objects, each with a word of its own -/
def Al2 {α : Type} (R : Hp → Addr → α → Prop) (H : Hp) (qs : List Addr) (L : List α) : Prop := qs.length = L.length ∧ ∀ (i : Nat) q l, qs[i]? = some q → L[i]? = some l → R H q l
def Lst2 {α : Type} (R : Hp → Addr → α → Prop) (H : Hp) (p : Addr) (L : List α) : Prop := ∃ qs, H p = some (.lst (qs.map V.ref)) ∧ Al2 R H qs L
section
variable {α : Type} {R S : Hp → Addr → α → Prop} {H H' : Hp} {qs : List Addr} {L : List α}
theorem Al2.nil : Al2 R H [] [] := ⟨rfl, fun i q l h => by simp at h⟩
theorem Al2.mono (h : Al2 R H qs L) (k : ∀ q l, l ∈ L → R H q l → S H' q l) : Al2 S H' qs L := ⟨h.1, fun i q l a b => k q l (List.mem_of_getElem? b) (h.2 i q l a b)⟩
theorem Al2.snoc {q : Addr} {l : α} (h : Al2 R H qs L) (hr : R H q l) : Al2 R H (qs ++ [q]) (L ++ [l]) := by
  refine ⟨by rw [List.length_append, List.length_append, h.1, List.length_cons, List.length_cons]; rfl, fun i q' l' a b => ?_⟩
  by_cases hi : i < qs.length
  · rw [List.getElem?_append_left hi] at a
    rw [List.getElem?_append_left (by rw [← h.1]; exact hi)] at b
    exact h.2 i q' l' a b
  · rw [List.getElem?_append_right (by omega)] at a
    rw [List.getElem?_append_right (by rw [← h.1]; omega)] at b
    have e : i - qs.length = 0 := by
      by_cases z : i - qs.length = 0
      · exact z
      · rw [List.getElem?_eq_none (by show 1 ≤ _; omega)] at a; cases a
    rw [e] at a
    rw [← h.1, e] at b
    cases a
    cases b
    exact hr
theorem Al2.get (h : Al2 R H qs L) {i : Nat} (hi : i < L.length) : ∃ q, qs[i]? = some q ∧ R H q L[i] := by
  have hq : i < qs.length := by rw [h.1]; exact hi
  exact ⟨qs[i], List.getElem?_eq_getElem hq, h.2 i _ _ (List.getElem?_eq_getElem hq) (List.getElem?_eq_getElem hi)⟩
end
/-- an object that is new -/
def EvR (R : Hp → Addr → Prop) (te : TE) (σ : L2.St) (H : Hp) : Prop := ∀ H1, Ex H H1 → ∀ Q : VK, (∀ p H2, H1 p = none → Ex H1 H2 → R H2 p → Q (.ref p) H2) → te σ H1 Q
theorem slice_any {a : List Nat} {i j : Nat} : Txt.slice (SX.S a) (some (i : Int)) (some (j : Int)) = SX.S ((a.take j).drop i) := by
  rw [← C8.cutS_slice]
  unfold cutS
  rw [SX.S_len, HT.sIx_nat, HT.sIx_nat]
  refine congrArg SX.S ?_
  show (a.drop (min i a.length)).take (min j a.length - min i a.length) = (a.take j).drop i
  rw [List.drop_take]
  by_cases hi : i ≤ a.length
  · rw [Nat.min_eq_left hi]
    by_cases hj : j ≤ a.length
    · rw [Nat.min_eq_left hj]
    · rw [Nat.min_eq_right (show a.length ≤ j by omega), List.take_of_length_le (by rw [List.length_drop]; omega), List.take_of_length_le (by rw [List.length_drop]; omega)]
  · rw [Nat.min_eq_right (show a.length ≤ i by omega), List.drop_eq_nil_of_le (Nat.le_refl _), List.drop_eq_nil_of_le (by omega)]
    simp
theorem ev_slA {σ : L2.St} {H : Hp} {ta tl th : TE} {l : List Nat} {i j : Nat} (ha : Ev ta σ H (.str (SX.S l))) (hl : Ev tl σ H (.int (i : Int))) (hh : Ev th σ H (.int (j : Int))) (hz : l.length ≤ 100000) : Ev (tSl C8.rSlX ta (tPart tl) (tPart th)) σ H (.str (SX.S ((l.take j).drop i))) := fun H1 e Q q =>
  ha H1 e _ fun H2 e2 => hl H2 (e.trans e2) _ fun H3 e3 => ⟨_, rfl, hh H3 ((e.trans e2).trans e3) _ fun H4 e4 => ⟨_, rfl, SX.S l, rfl, by rw [SX.S_len]; exact sz_of hz, by rw [slice_any]; exact q H4 ((e2.trans e3).trans e4)⟩⟩
theorem getD_S (t : List Nat) (v : Nat) : (SX.S t).cps.getD v 0 = t.getD v 0 := by
  show t.toArray.getD v 0 = t.getD v 0
  rw [Array.getD_eq_getD_getElem?, List.getD_eq_getElem?_getD, List.getElem?_toArray]
/-- the first c at or behind i -/
theorem find3_at {t a m : List Nat} {c i : Nat} (h : t.drop i = a ++ c :: m) (ha : c ∉ a) : Txt.find3 (SX.S t) (SX.S [c]) (i : Int) = ((i + a.length : Nat) : Int) := by
  have hlen : i + (a.length + (m.length + 1)) = t.length := by
    have := congrArg List.length h
    rw [List.length_drop, List.length_append, List.length_cons] at this
    omega
  have hf : fromIndex (SX.S t).length (i : Int) = i := by
    unfold fromIndex
    rw [if_neg (by omega)]
    omega
  have at_ : ∀ v, i ≤ v → t.getD v 0 = (a ++ c :: m).getD (v - i) 0 := fun v hv => by
    rw [← h, List.getD_eq_getElem?_getD, List.getD_eq_getElem?_getD, List.getElem?_drop, show i + (v - i) = v by omega]
  have hc : t.getD (i + a.length) 0 = c := by
    rw [at_ _ (by omega), show i + a.length - i = a.length by omega, List.getD_eq_getElem?_getD, List.getElem?_append_right (Nat.le_refl _), Nat.sub_self]
    rfl
  rcases StrLaws.find3_spec (SX.S t) c (i : Int) with ⟨_, h2⟩ | ⟨k, h1, h2, h3, h4, h5⟩
  · have := h2 (i + a.length) (by rw [hf]; omega) (by rw [SX.S_len]; omega)
    rw [getD_S, hc] at this
    exact absurd rfl this
  · rw [hf] at h2 h5
    rw [getD_S] at h4
    have e1 : ¬ i + a.length < k := fun z => by
      have := h5 (i + a.length) (by omega) z
      rw [getD_S, hc] at this
      exact this rfl
    have e2 : ¬ k < i + a.length := fun z => by
      rw [at_ k h2, List.getD_eq_getElem?_getD, List.getElem?_append_left (by omega), List.getElem?_eq_getElem (by omega)] at h4
      exact ha (by rw [← h4]; exact List.getElem_mem _)
    rw [show k = i + a.length by omega] at h1
    exact h1
theorem at_drop {t r : List Nat} {i : Nat} {c : Nat} (h : t.drop i = c :: r) : t[i]? = some c ∧ i < t.length ∧ t.drop (i + 1) = r := by
  have hi : i < t.length := by
    have := congrArg List.length h
    rw [List.length_drop, List.length_cons] at this
    omega
  rw [List.drop_eq_getElem_cons hi] at h
  have h2 := List.cons.inj h
  exact ⟨by rw [List.getElem?_eq_getElem hi, h2.1], hi, h2.2⟩
theorem drop_nil {t : List Nat} {i : Nat} (h : t.drop i = []) : t.length ≤ i := by
  have := congrArg List.length h
  rw [List.length_drop] at this
  simp at this
  omega
theorem drop_app {t a b : List Nat} {i : Nat} (h : t.drop i = a ++ b) : t.drop (i + a.length) = b := by
  rw [← List.drop_drop, h, List.drop_left]
theorem take1 {t : List Nat} {i : Nat} : (t.take (i + 1)).drop i = (t.drop i).take 1 := by rw [List.drop_take, show i + 1 - i = 1 by omega]
theorem joinL_len (w : List Nat) : ∀ ps : List (List Nat), (ps.map (·.length)).sum ≤ (TL.joinL w ps).length
  | [] => Nat.le_refl _
  | [p] => by
    show p.length + 0 ≤ p.length
    omega
  | p :: q :: r => by
    have := joinL_len w (q :: r)
    show p.length + ((q :: r).map (·.length)).sum ≤ (p ++ (w ++ TL.joinL w (q :: r))).length
    rw [List.length_append, List.length_append]
    omega
theorem ev_joinL {K : PySem.W.Frag} {σ : L2.St} {H : Hp} {ta tb : TE} {w : List Nat} {pcs : List (List Nat)} {p : Addr} (ha : Ev ta σ H (.str (SX.S w))) (hb : Ev tb σ H (.ref p)) (hp : SqL K H p ((pcs.map SX.S).map V.str)) (h1 : (TL.joinL w pcs).length ≤ 100000) (h2 : pcs.length ≤ 100000) (h3 : w.length ≤ 10) :
    Ev (tM1 (fun x xs H Q => ∃ a p, ∃ ys : List Str, x = .str a ∧ xs = [.ref p] ∧ (SqL K H p (ys.map V.str) ∨ SqT K H p (ys.map V.str)) ∧
      (ys.map (·.length)).sum + ys.length * a.length ≤ 16777216 ∧ Q (.str (Txt.join a ys)) H) ta tb) σ H (.str (SX.S (TL.joinL w pcs))) := fun H1 e Q q =>
  ha H1 e _ fun H2 e2 => ⟨⟨_, rfl⟩, hb H2 (e.trans e2) _ fun H3 e3 => ⟨SX.S w, p, pcs.map SX.S, rfl, rfl, .inl (ex_l ((e.trans e2).trans e3) hp), by
    rw [SX.lens, SX.S_len, List.length_map]
    have := joinL_len w pcs
    have : pcs.length * w.length ≤ 100000 * 10 := Nat.mul_le_mul h2 h3
    omega, by rw [SX.join_S]; exact q H3 (e2.trans e3)⟩⟩
/-- return (a new object, ..) -/
theorem s_retUR {R : Hp → Addr → Prop} {te : TE} {tr : TA} {σ : L2.St} {H : Hp} {D : Ends} {vs : List V} (hm : ∀ H H' p, Ex H H' → R H p → R H' p) (h : EvR R te σ H) (hr : ∀ H1, Ex H H1 → EvA tr σ H1 vs) (hl : vs.length ≤ 1000)
    (k : ∀ q p H1, H q = none → Ex H H1 → R H1 p → H1 q = some (.tup (.ref p :: vs)) → D.rt (.ref q) H1) : tRet (tTup (tCons te tr)) D σ H :=
  h H (Ex.refl H) _ fun p H1 hp e1 hR => hr H1 e1 H1 (Ex.refl H1) _ fun H2 e2 => ⟨by rw [List.length_cons]; exact sz_of (by omega), fun q hq => k q p _ (fresh_back (e1.trans e2) hq) ((e1.trans e2).trans (Ex.new hq)) (hm _ _ _ (e2.trans (Ex.new hq)) hR) upd_same⟩
theorem wo_upd (p : Addr) (H : Hp) (o : HO) : wo p (upd H p o) = wo p H := by
  funext a
  unfold wo
  split
  · rfl
  · rename_i h
    exact upd_ne h
theorem wo_mono {p : Addr} {H H' : Hp} (e : Ex H H') : Ex (wo p H) (wo p H') := fun a o h => by
  have hx : a ≠ p := fun z => by rw [z, wo_self] at h; cases h
  rw [wo_ne hx] at h ⊢
  exact e a o h
theorem Lst2.mono {α : Type} {R : Hp → Addr → α → Prop} {H H' : Hp} {p : Addr} {L : List α} (h : Lst2 R H p L) (e : Ex H H') (k : ∀ q l, R H q l → R H' q l) : Lst2 R H' p L := by
  obtain ⟨qs, h1, h2⟩ := h
  exact ⟨qs, e _ _ h1, h2.mono fun q l _ => k q l⟩
/-- [a new object] -/
theorem er_one {R : Hp → Addr → Prop} {te : TE} {σ : L2.St} {H : Hp} (hm : ∀ H H' p, Ex H H' → R H p → R H' p) (h : EvR R te σ H) : EvR (fun H p => ∃ t, H p = some (.lst [.ref t]) ∧ R H t) (tLst (tCons te tNil)) σ H := fun H1 e Q q =>
  h H1 e _ fun t H2 ht e2 hR => ⟨sz_of (by show 1 ≤ 100000; decide), fun p hp => q p _ (fresh_back e2 hp) (e2.trans (Ex.new hp)) ⟨t, upd_same, hm _ _ _ (Ex.new hp) hR⟩⟩

/-! ### the law's numbers -/
def cell0 (ns : List Int) (k : Nat) : Int := if 0 < ns.length then ns.getD (k - k / ns.length * ns.length) 0 else 0
def cell1 (ns : List Int) (k : Nat) : Int := if cell0 ns k < 0 then 1 - 2 * cell0 ns k else cell0 ns k
def cellM (c : Int) (k : Nat) : Int := (((c + 101 * (k : Int) + 13) * 40692 + (k : Int) * (k : Int) * 6271) % 2147483399 + 29 * (k : Int) + 5) * 3935559000370003845 % 18446744073709551533
def cellN (ns : List Int) (k : Nat) : Int := if (ns.length : Int) ≤ (k : Int) ∨ cell1 ns k < 1000000000 then cellM (cell1 ns k) k else cell1 ns k
def lawN (ns : List Int) (c : Nat) : List Int := (List.range c).map (cellN ns)
theorem cell1_nn (ns : List Int) (k : Nat) : 0 ≤ cell1 ns k := by
  unfold cell1
  split <;> omega
theorem cellN_nn (ns : List Int) (k : Nat) : 0 ≤ cellN ns k := by
  unfold cellN
  split
  · unfold cellM
    exact Int.emod_nonneg _ (by decide)
  · exact cell1_nn ns k
theorem lawN_len (ns : List Int) (c : Nat) : (lawN ns c).length = c := by
  unfold lawN
  rw [List.length_map, List.length_range]
theorem lawN_nn {ns : List Int} {c : Nat} : ∀ n ∈ lawN ns c, 0 ≤ n := by
  intro n h
  unfold lawN at h
  obtain ⟨k, _, e⟩ := List.mem_map.mp h
  rw [← e]
  exact cellN_nn ns k
theorem lawN_get {ns : List Int} {c i : Nat} (h : i < c) : (lawN ns c)[i]? = some (cellN ns i) := by
  unfold lawN
  rw [List.getElem?_map, List.getElem?_range h] <;> rfl
/-- the k-th of them, as the law's list of values -/
theorem lawN_at {ns : List Int} {c i : Nat} (h : i < c) : atI ((lawN ns c).map V.int) (i : Int) = some (.int (cellN ns i)) := atI_nat (by
  rw [List.getElem?_map, lawN_get h] <;> rfl)
def sp__law_numbers (K : PySem.W.Frag) : Sp := fun vs H Q _ => ∃ (a : Addr) (ns : List Int) (c : Nat), vs = [.ref a, .int (c : Int)] ∧ SqL K H a (ns.map V.int) ∧ ns.length ≤ 63 ∧ c ≤ 1000 ∧
  ∀ p H', H p = none → Ex H H' → H' p = some (.lst ((lawN ns c).map V.int)) → Q (.ref p) H'
section
variable {P : Program} {w : World} {K : PySem.W.Frag} {mg : Str → Option Value} {base : Heap}
theorem ok__law_numbers (D : Dn K mg "_law_numbers" s__law_numbers ["script", "count"]) (z_int : mg "int" = none) (z_len : mg "len" = none) (z_range : mg "range" = none) :
    C8.Cal P w K mg base 1 "_law_numbers" (sp__law_numbers K) [] := by
  refine cal_of D sc__law_numbers (fun vs H Q E h => ?_) (fun f cdv A outer s H vs Q E hr h => ?_)
  · obtain ⟨_, _, _, rfl, _⟩ := h
    rfl
  refine ⟨_, (pss_cons (ps_set (i := 2) sc__law_numbers.nd rfl (.inl rfl) (pe_lst pa_nil))
    (pss_cons (ps_for PassesOwn.never rfl (pi_range1 rfl z_range (pa_cons (pv 1) pa_nil)) (pg_name (i := 3) sc__law_numbers.nd rfl (.inl rfl))
      (pss_cons (ps_set (i := 4) sc__law_numbers.nd rfl (.inl rfl) pe_int)
    (pss_cons (ps_if (pt_cmpR op_gt (pe_callB call_len_seq (by rfl) z_len PySem.boot_len (pa_cons (pv 0) pa_nil)) pe_int (nomark _))
      (pss_one (ps_set (i := 4) sc__law_numbers.nd rfl (.inl rfl) (pe_callTy call_int1 (by rfl) z_int (by decide +kernel) (pa_cons (pe_ix ix_list (pv 0) (pe_op op_sub (pv 3) (pe_op op_mul (pe_op op_fdiv (pv 3) (pe_callB call_len_seq (by rfl) z_len PySem.boot_len (pa_cons (pv 0) pa_nil))) (pe_callB call_len_seq (by rfl) z_len PySem.boot_len (pa_cons (pv 0) pa_nil)))) (fun _ _ => rfl)) pa_nil))))
      pss_nil)
    (pss_cons (ps_if (pt_cmpR op_lt (pv 4) pe_int (nomark _))
      (pss_one (ps_set (i := 4) sc__law_numbers.nd rfl (.inl rfl) (pe_op op_sub pe_int (pe_op op_mul pe_int (pv 4)))))
      pss_nil)
    (Evl.pss_cut (ps_if (PW.pt (pw_or (pt_cmpR op_ge (pv 3) (pe_callB call_len_seq (by rfl) z_len PySem.boot_len (pa_cons (pv 0) pa_nil)) (nomark _)) (pw_or1 (pt_cmpR op_lt (pv 4) pe_int (nomark _)))))
      (pss_cons (ps_set (i := 4) sc__law_numbers.nd rfl (.inl rfl) (pe_op op_mod (pe_callTy call_int1 (by rfl) z_int (by decide +kernel) (pa_cons (pe_op op_add (pe_op op_mul (pe_op op_add (pe_op op_add (pv 4) (pe_op op_mul pe_int (pv 3))) pe_int) pe_int) (pe_op op_mul (pe_op op_mul (pv 3) (pv 3)) pe_int)) pa_nil)) pe_int))
    (pss_one (ps_set (i := 4) sc__law_numbers.nd rfl (.inl rfl) (pe_op op_mod (pe_callTy call_int1 (by rfl) z_int (by decide +kernel) (pa_cons (pe_op op_mul (pe_op op_add (pe_op op_add (pv 4) (pe_op op_mul pe_int (pv 3))) pe_int) pe_int) pa_nil)) pe_int))))
      pss_nil)
    (pss_one (ps_expr (pe_bm PySem.F.plainAttrs_list PySem.F.slot_list_append PySem.F.type_list_append mt_append (pv 2) (pa_cons (pv 4) pa_nil)))))))))
    (pss_one (ps_ret (pv 2))))), ?_⟩
  obtain ⟨a, ns, c, rfl, hS, h63, hc, q⟩ := h
  have hl : (ns.map V.int).length = ns.length := List.length_map _
  refine q_asgL (el_lst ea_nil (by decide)) fun p H1 hp e1 h1 => ?_
  refine q_forR1 (n := (c : Int)) (ea_cons (ev_var rfl) ea_nil) ⟨by omega, by omega⟩
    (fun i σ H' => ∃ y3 y4, σ = [some (.ref a), some (.int (c : Int)), some (.ref p), y3, y4] ∧ Ex H H' ∧ H' p = some (.lst ((lawN ns i).map V.int)))
    (fun H2 e2 => ⟨none, none, rfl, e1.trans e2, e2 _ _ h1⟩) (fun i σ H2 hi hw => ?_) (fun σ H2 hw => ?_)
  · obtain ⟨y3, y4, rfl, e2, h2⟩ := hw
    have hS2 : SqL K H2 a (ns.map V.int) := ex_l e2 hS
    refine q_asg ev_c fun H3 e3 => ?_
    have hS3 : SqL K H3 a (ns.map V.int) := ex_l e3 hS2
    -- the cell as the script has it
    refine q_ifAsg (v := .int (cell0 ns i)) (b := decide ((0 : Int) < ((ns.map V.int).length : Int))) ?_ (fun hb => ?_) (fun hb => ?_) fun H4 e4 => ?_
    · walk_at "et"
    · have h0 : 0 < ns.length := by
        have := of_decide_eq_true hb
        rw [hl] at this
        omega
      have em : i / ns.length * ns.length ≤ i := Nat.div_mul_le_self i ns.length
      have hlt : i - i / ns.length * ns.length < ns.length := by
        have := Nat.mod_lt i h0
        have := Nat.div_add_mod i ns.length
        rw [Nat.mul_comm] at this
        omega
      have ea : atI (ns.map V.int) ((i : Int) - (i : Int) / ((ns.map V.int).length : Int) * ((ns.map V.int).length : Int)) = some (.int (cell0 ns i)) := by
        rw [hl]
        have e5 : (i : Int) - (i : Int) / (ns.length : Int) * (ns.length : Int) = ((i - i / ns.length * ns.length : Nat) : Int) := by
          rw [Int.ofNat_sub em, Int.natCast_mul, Int.natCast_ediv]
        rw [e5]
        refine atI_nat ?_
        unfold cell0
        rw [if_pos h0, List.getElem?_map, List.getElem?_eq_getElem hlt, List.getD_eq_getElem?_getD, List.getElem?_eq_getElem hlt] <;> rfl
      refine ev_int (ev_op (ev_var rfl) (ev_op (ev_var rfl) (ev_op (ev_op (ev_var rfl) (ev_len (ev_var rfl) hS3) (rv_I ⟨?_, ?_⟩)) (ev_len (ev_var rfl) hS3) (rv_I ?_)) rv_I0) (rv_ixL hS3 ea))
      · rw [hl]; omega
      · rw [hl]; omega
      · rw [hl]; exact .inr ⟨by omega, by omega⟩
    · have h0 : ¬ 0 < ns.length := by
        have := of_decide_eq_false hb
        rw [hl] at this
        omega
      unfold cell0
      rw [if_neg h0]
      rfl
    have hS4 : SqL K H4 a (ns.map V.int) := ex_l e4 hS3
    refine q_ifAsg (v := .int (cell1 ns i)) (b := decide (cell0 ns i < 0)) (by walk_at "et") (fun hb => ?_) (fun hb => ?_) fun H5 e5 => ?_
    · refine ev_is (v := .int (1 - 2 * cell0 ns i)) (by walk_at "ev") ?_
      unfold cell1
      rw [if_pos (of_decide_eq_true hb)]
    · unfold cell1
      rw [if_neg (of_decide_eq_false hb)]
      rfl
    have hS5 : SqL K H5 a (ns.map V.int) := ex_l e5 hS4
    have h5 : H5 p = some (.lst ((lawN ns i).map V.int)) := e5 _ _ (e4 _ _ (e3 _ _ h2))
    have x5 : Ex H H5 := ((e2.trans e3).trans e4).trans e5
    -- the cell mixed
    refine q_cut (M := fun σ H' => σ = [some (.ref a), some (.int (c : Int)), some (.ref p), some (.int (i : Int)), some (.int (cellN ns i))] ∧ Ex H5 H') ?_ ?_
    · refine s_if (b := decide ((((ns.map V.int).length : Nat) : Int) ≤ (i : Int)) || decide (cell1 ns i < 1000000000)) ?_ (fun hb H6 e6 => ?_) (fun hb H6 e6 => ?_)
      · exact et_or (et_test (ev_op (ev_var rfl) (ev_len (ev_var rfl) hS5) rv_I0)) fun _ => et_test (ev_op (ev_var rfl) ev_c rv_I0)
      · have hb' : (ns.length : Int) ≤ (i : Int) ∨ cell1 ns i < 1000000000 := by
          rw [Bool.or_eq_true, decide_eq_true_eq, decide_eq_true_eq, hl] at hb
          exact hb
        refine q_asg (v := .int (((cell1 ns i + 101 * (i : Int) + 13) * 40692 + (i : Int) * (i : Int) * 6271) % 2147483399)) ?_ fun H7 e7 => ?_
        · refine ev_op (ev_int (ev_op (ev_op (ev_op (ev_op (ev_var rfl) (ev_op ev_c (ev_var rfl) (rv_I (.inl ⟨by decide, by decide⟩))) rv_I0) ev_c rv_I0) ev_c (rv_I (.inr ⟨by decide, by decide⟩))) (ev_op (ev_op (ev_var rfl) (ev_var rfl) (rv_I (.inl ⟨by omega, by omega⟩))) ev_c (rv_I (.inr ⟨by decide, by decide⟩))) rv_I0)) ev_c (rv_I (by decide))
        refine s_asg (v := .int (cellN ns i)) ?_ fun H8 e8 => ⟨rfl, (e6.trans e7).trans e8⟩
        refine ev_is (ev_op (ev_int (ev_op (ev_op (ev_op (ev_var rfl) (ev_op ev_c (ev_var rfl) (rv_I (.inl ⟨by decide, by decide⟩))) rv_I0) ev_c rv_I0) ev_c (rv_I (.inr ⟨by decide, by decide⟩)))) ev_c (rv_I (by decide))) ?_
        unfold cellN
        rw [if_pos hb']
        rfl
      · have hb' : ¬ ((ns.length : Int) ≤ (i : Int) ∨ cell1 ns i < 1000000000) := by
          intro z
          rw [Bool.or_eq_false_iff, decide_eq_false_iff_not, decide_eq_false_iff_not, hl] at hb
          rcases z with z | z
          · exact hb.1 z
          · exact hb.2 z
        refine ⟨?_, e6⟩
        unfold cellN
        rw [if_neg hb']
        rfl
    · intro σ' H' hm
      obtain ⟨rfl, x6⟩ := hm
      refine s_app (x6 _ _ h5) (ev_var rfl) (ev_var rfl) (by rw [List.length_map, lawN_len]; omega) fun H7 e7 => ?_
      refine ⟨_, _, rfl, Ex.mut ((x5.trans x6).trans e7) hp, ?_⟩
      rw [upd_same]
      unfold lawN
      rw [List.range_succ, List.map_append, List.map_append]
      rfl
  · obtain ⟨y3, y4, rfl, e2, h2⟩ := hw
    have ec : ((c : Int)).toNat = c := by omega
    rw [ec] at h2
    exact s_ret (ev_var rfl) fun H3 e3 => q p H3 hp (e2.trans e3) (e3 _ _ h2)
end

/-! ### ranks -/
def kr : V → Int
  | .non => 0
  | .bl _ => 1
  | .int _ => 2
  | _ => 3
def payV : V → V
  | .non => .int 0
  | .bl b => .int (if b then 1 else 0)
  | x => x
def rkL (x : V) : List V := [.int (kr x), payV x]
def payD : V → PyData
  | .non => .int 0
  | .bl b => .int (if b then 1 else 0)
  | .int i => .int i
  | .str s => .str s
  | _ => .none
def rkDs (x : V) : List PyData := [.int (kr x), payD x]
def rkD (x : V) : PyData := .tuple (rkDs x)
/-- plain, and its signs are signs -/
inductive Ok : V → Prop where
  | non : Ok .non
  | bl (b : Bool) : Ok (.bl b)
  | int (i : Int) : Ok (.int i)
  | str (s : Str) (h : PyData.strOk s = true ∧ s.length ≤ 10000) : Ok (.str s)
theorem Ok.pl {x : V} (h : Ok x) : Pl x := by cases h <;> constructor
theorem strOk_S {l : List Nat} (h : ∀ c ∈ l, 32 ≤ c ∧ c ≤ 126) : PyData.strOk (SX.S l) = true := by
  unfold PyData.strOk
  rw [Array.all_eq_true']
  intro c hc
  have := h c (by simpa using hc)
  exact decide_eq_true (by omega)
theorem dp_pay {K : PySem.W.Frag} {H : Hp} {x : V} (h : Ok x) : Dp K H (payV x) (payD x) := by
  cases h with
  | non => exact .int 0
  | bl b => exact .int _
  | int i => exact .int i
  | str s _ => exact .str s
theorem dp_rks {K : PySem.W.Frag} {H : Hp} {x : V} (h : Ok x) : DpAll K H (rkL x) (rkDs x) := .cons (.int _) (.cons (dp_pay h) .nil)
theorem dp_rk {K : PySem.W.Frag} {H : Hp} {x : V} {p : Addr} (h : Ok x) (hp : H p = some (.tup (rkL x))) : Dp K H (.ref p) (rkD x) := .tup (st_of hp) (dp_rks h)
theorem lay_rk {x : V} (h : Ok x) : (rkD x).canLay0 = true := by
  cases h with
  | non => rfl
  | bl b => rfl
  | int i => rfl
  | str s hs =>
    show (true && (PyData.strOk s && true)) = true
    rw [hs.1]
    rfl
theorem dep_rk {x : V} (h : Ok x) : (rkD x).depth = 1 := by cases h <;> rfl
theorem shaped_rk {x : V} (h : Ok x) : SeqAt.shaped (rkD x) = true := by
  unfold SeqAt.shaped
  rw [lay_rk h, dep_rk h]
  rfl
theorem noL_rk {x : V} (h : Ok x) : noL (rkD x) = true := by cases h <;> rfl
theorem ord_rk {x y : V} (hx : Ok x) (hy : Ok y) : ordD (rkD x) (rkD y) = true := by
  have step : ∀ (a b : Int) (p q : PyData), (a = b → ordD p q = true) → ordD (.tuple [.int a, p]) (.tuple [.int b, q]) = true := by
    intro a b p q h
    rw [ordD, ordDs]
    split
    · rename_i e
      rw [ordDs]
      split
      · rfl
      · exact h (beq_iff_eq.mp (show (a == b) = true from e))
    · rfl
  refine step _ _ _ _ fun e => ?_
  cases hx <;> cases hy <;> first | rfl | (simp [kr] at e)
theorem lays_rk : ∀ {xs : List V}, (∀ x ∈ xs, Ok x) → PyData.canLayAll0 (xs.map rkD) = true
  | [], _ => rfl
  | x :: xs, h => by
    show ((rkD x).canLay0 && PyData.canLayAll0 (xs.map rkD)) = true
    rw [lay_rk (h x (List.mem_cons_self ..)), lays_rk fun y hy => h y (List.mem_cons_of_mem _ hy)]
    rfl
theorem deps_rk : ∀ {xs : List V}, (∀ x ∈ xs, Ok x) → PyData.depthAll (xs.map rkD) ≤ 1
  | [], _ => by show 0 ≤ 1; decide
  | x :: xs, h => by
    show max (rkD x).depth (PyData.depthAll (xs.map rkD)) ≤ 1
    rw [dep_rk (h x (List.mem_cons_self ..))]
    have := deps_rk fun y hy => h y (List.mem_cons_of_mem _ hy)
    omega
theorem shaped_row {xs : List V} (h : ∀ x ∈ xs, Ok x) : SeqAt.shaped (.tuple (xs.map rkD)) = true := by
  have hd := deps_rk h
  show (PyData.canLayAll0 (xs.map rkD) && decide (PyData.depthAll (xs.map rkD) + 1 ≤ 64)) = true
  rw [lays_rk h, decide_eq_true (by omega)]
  rfl
theorem ords_rk : ∀ {xs ys : List V}, (∀ x ∈ xs, Ok x) → (∀ y ∈ ys, Ok y) → ordDs (xs.map rkD) (ys.map rkD) = true
  | [], _, _, _ => by rw [List.map_nil, ordDs]
  | _ :: _, [], _, _ => rfl
  | x :: xs, y :: ys, h1, h2 => by
    rw [List.map_cons, List.map_cons, ordDs]
    split
    · exact ords_rk (fun z hz => h1 z (List.mem_cons_of_mem _ hz)) (fun z hz => h2 z (List.mem_cons_of_mem _ hz))
    · exact ord_rk (h1 x (List.mem_cons_self ..)) (h2 y (List.mem_cons_self ..))
def sp_kind_rank (K : PySem.W.Frag) : Sp := fun vs H Q _ => ∃ x : V, vs = [x] ∧ Ok x ∧ ∀ H', Ex H H' → Q (.int (kr x)) H'
def sp_is_integer (K : PySem.W.Frag) : Sp := fun vs H Q _ => ∃ x : V, vs = [x] ∧ Pl x ∧ ∀ H', Ex H H' → Q (.bl (isInt x)) H'
def sp__law_is_integer (K : PySem.W.Frag) : Sp := fun vs H Q _ => ∃ x : V, vs = [x] ∧ Pl x ∧ ∀ H', Ex H H' → Q (.bl (isInt x)) H'
def sp_same (K : PySem.W.Frag) : Sp := fun vs H Q _ => ∃ x y : V, vs = [x, y] ∧ Ok x ∧ Ok y ∧ ∀ H', Ex H H' → Q (.bl (PyData.eqv (rkD x) (rkD y))) H'
def sp_before (K : PySem.W.Frag) : Sp := fun vs H Q _ => ∃ x y : V, vs = [x, y] ∧ Ok x ∧ Ok y ∧ ∀ H', Ex H H' → Q (.bl (ltD (rkD x) (rkD y))) H'
def sp_rank (K : PySem.W.Frag) : Sp := fun vs H Q _ => ∃ x : V, vs = [x] ∧ Ok x ∧ ∀ p H', H p = none → Ex H H' → H' p = some (.tup (rkL x)) → Q (.ref p) H'
def sp__law_rank (K : PySem.W.Frag) : Sp := fun vs H Q _ => ∃ x : V, vs = [x] ∧ Ok x ∧ ∀ p H', H p = none → Ex H H' → H' p = some (.tup (rkL x)) → Q (.ref p) H'
section
variable {P : Program} {w : World} {K : PySem.W.Frag} {mg : Str → Option Value} {base : Heap}
section
variable {σ : L2.St} {H : Hp} {ta tb tc : TE} {E : XK} {x y : V}
theorem ec_isint0 (ha : Ev ta σ H x) (h : Pl x) : Ev (tCall (sp_is_integer K) [] E (tCons ta tNil)) σ H (.bl (isInt x)) := ev_call (ea_cons ha ea_nil) fun H1 e Q q E => ⟨x, rfl, h, q⟩
theorem ec_isint (ha : Ev ta σ H x) (h : Pl x) : Ev (tCall (sp__law_is_integer K) [] E (tCons ta tNil)) σ H (.bl (isInt x)) := ev_call (ea_cons ha ea_nil) fun H1 e Q q E => ⟨x, rfl, h, q⟩
theorem ec_same (ha : Ev ta σ H x) (hb : Ev tb σ H y) (h1 : Ok x) (h2 : Ok y) : Ev (tCall (sp_same K) [] E (tCons ta (tCons tb tNil))) σ H (.bl (PyData.eqv (rkD x) (rkD y))) := ev_call (ea_cons ha (ea_cons hb ea_nil)) fun H1 e Q q E => ⟨x, y, rfl, h1, h2, q⟩
theorem ec_before (ha : Ev ta σ H x) (hb : Ev tb σ H y) (h1 : Ok x) (h2 : Ok y) : Ev (tCall (sp_before K) [] E (tCons ta (tCons tb tNil))) σ H (.bl (ltD (rkD x) (rkD y))) := ev_call (ea_cons ha (ea_cons hb ea_nil)) fun H1 e Q q E => ⟨x, y, rfl, h1, h2, q⟩
theorem ec_kr (ha : Ev ta σ H x) (h : Ok x) : Ev (tCall (sp_kind_rank K) [] E (tCons ta tNil)) σ H (.int (kr x)) := ev_call (ea_cons ha ea_nil) fun H1 e Q q E => ⟨x, rfl, h, q⟩
theorem ec_rank (ha : Ev ta σ H x) (h : Ok x) : EvU (tCall (sp_rank K) [] E (tCons ta tNil)) σ H (rkL x) := eu_call (ea_cons ha ea_nil) fun H1 e Q q E => ⟨x, rfl, h, q⟩
theorem ec_lrank (ha : Ev ta σ H x) (h : Ok x) : EvU (tCall (sp__law_rank K) [] E (tCons ta tNil)) σ H (rkL x) := eu_call (ea_cons ha ea_nil) fun H1 e Q q E => ⟨x, rfl, h, q⟩
theorem ud_rk (h : EvU ta σ H (rkL x)) (hx : Ok x) : EvUD K ta σ H (rkDs x) := fun H1 e Q q => h H1 e _ fun p H2 hp e2 h2 => q p H2 _ hp e2 h2 (dp_rks hx)
theorem ed_rk (h : EvU ta σ H (rkL x)) (hx : Ok x) : EvD K ta σ H (rkD x) := ed_tupU (ud_rk h hx)
end
theorem ok_kind_rank (D : Dn K mg "kind_rank" s_kind_rank ["value"]) (z_bool : mg "bool" = none) (z_int : mg "int" = none) (z_isinstance : mg "isinstance" = none) :
    C8.Cal P w K mg base 1 "kind_rank" (sp_kind_rank K) [] := by
  refine cal_of D sc_kind_rank (fun vs H Q E h => ?_) (fun f cdv A outer s H vs Q E hr h => ?_)
  · obtain ⟨_, rfl, _⟩ := h
    rfl
  refine ⟨_, (pss_cons (ps_if (pt_cmpR op_isN (pv 0) pe_non (nomark _))
      (pss_one (ps_ret pe_int))
      pss_nil)
    (pss_cons (ps_if (pt_val (pe_callB call_isi (by rfl) z_isinstance (by decide +kernel) (pa_cons (pv 0) (pa_cons (pe_bltn (v := .ty "bool") (u := .type "bool") rfl z_bool (by decide +kernel) rfl) pa_nil))))
      (pss_one (ps_ret pe_int))
      pss_nil)
    (pss_cons (ps_if (pt_val (pe_callB call_isi (by rfl) z_isinstance (by decide +kernel) (pa_cons (pv 0) (pa_cons (pe_bltn (v := .ty "int") (u := .type "int") rfl z_int (by decide +kernel) rfl) pa_nil))))
      (pss_one (ps_ret pe_int))
      pss_nil)
    (pss_one (ps_ret pe_int))))), ?_⟩
  obtain ⟨x, rfl, hx, q⟩ := h
  refine q_when (b := decide (x = .non)) (by walk_at "et") (fun hb H1 e1 => s_ret (v := .int (kr x)) ?_ fun H2 e2 => q _ (e1.trans e2)) fun hb H1 e1 => ?_
  · rw [of_decide_eq_true hb]
    exact ev_c
  cases hx with
  | non => exact absurd hb (by decide)
  | bl b => exact q_when (b := true) (et_B (ev_isiP (ev_var rfl) (.bl b) (by show kitB "bool" "bool" = some true; decide +kernel))) (fun _ H2 e2 => s_ret ev_c fun H3 e3 => q _ ((e1.trans e2).trans e3)) fun hb => nomatch hb
  | int i => exact q_when (b := false) (et_B (ev_isiP (ev_var rfl) (.int i) (by show kitB "int" "bool" = some false; decide +kernel))) (fun hb => nomatch hb) fun _ H2 e2 => q_when (b := true) (et_B (ev_isiP (ev_var rfl) (.int i) (by show kitB "int" "int" = some true; decide +kernel))) (fun _ H3 e3 => s_ret ev_c fun H4 e4 => q _ (((e1.trans e2).trans e3).trans e4)) fun hb => nomatch hb
  | str s hs => exact q_when (b := false) (et_B (ev_isiP (ev_var rfl) (.str s) (by show kitB "str" "bool" = some false; decide +kernel))) (fun hb => nomatch hb) fun _ H2 e2 => q_when (b := false) (et_B (ev_isiP (ev_var rfl) (.str s) (by show kitB "str" "int" = some false; decide +kernel))) (fun hb => nomatch hb) fun _ H3 e3 => s_ret ev_c fun H4 e4 => q _ (((e1.trans e2).trans e3).trans e4)
theorem ok_rank (D : Dn K mg "rank" s_rank ["value"]) (c_kind_rank : C8.Cal P w K mg base 1 "kind_rank" (sp_kind_rank K) []) (z_int : mg "int" = none) :
    C8.Cal P w K mg base 2 "rank" (sp_rank K) [] := by
  refine cal_of D sc_rank (fun vs H Q E h => ?_) (fun f cdv A outer s H vs Q E hr h => ?_)
  · obtain ⟨_, rfl, _⟩ := h
    rfl
  refine ⟨_, (pss_cons (ps_set (i := 1) sc_rank.nd rfl (.inl rfl) (C8.pe_c c_kind_rank hr (by decide) (by rfl) (pa_cons (pv 0) pa_nil)))
    (pss_cons (ps_if (pt_cmpR op_eq (pv 1) pe_int (nomark _))
      (pss_one (ps_ret (pe_tup (pa_cons pe_int (pa_cons pe_int pa_nil)))))
      pss_nil)
    (pss_cons (ps_if (pt_cmpR op_eq (pv 1) pe_int (nomark _))
      (pss_one (ps_ret (pe_tup (pa_cons pe_int (pa_cons (pe_callTy call_int1 (by rfl) z_int (by decide +kernel) (pa_cons (pv 0) pa_nil)) pa_nil)))))
      pss_nil)
    (pss_one (ps_ret (pe_tup (pa_cons (pv 1) (pa_cons (pv 0) pa_nil)))))))), ?_⟩
  obtain ⟨x, rfl, hx, q⟩ := h
  refine q_asg (ec_kr (ev_var rfl) hx) fun H1 e1 => ?_
  refine q_when (b := decide (V.int (kr x) = V.int 0)) (by walk_at "et") (fun hb H2 e2 => s_retU (xs := rkL x) ?_ fun p H3 hp e3 h3 => q p H3 (fresh_back (e1.trans e2) hp) ((e1.trans e2).trans e3) h3) fun hb H2 e2 => ?_
  · cases hx with
    | non => exact eu_tup (ea_cons ev_c (ea_cons ev_c ea_nil)) (by show 2 ≤ 100000; decide)
    | _ => simp [kr] at hb
  refine q_when (b := decide (V.int (kr x) = V.int 1)) (by walk_at "et") (fun hb H3 e3 => s_retU (xs := rkL x) ?_ fun p H4 hp e4 h4 => q p H4 (fresh_back ((e1.trans e2).trans e3) hp) (((e1.trans e2).trans e3).trans e4) h4) fun hb H3 e3 => s_retU (xs := rkL x) ?_ fun p H4 hp e4 h4 => q p H4 (fresh_back ((e1.trans e2).trans e3) hp) (((e1.trans e2).trans e3).trans e4) h4
  · cases hx with
    | bl b => exact eu_tup (ea_cons ev_c (ea_cons (ev_intB (ev_var rfl)) ea_nil)) (by show 2 ≤ 100000; decide)
    | _ => simp [kr] at hb
  · cases hx with
    | non => exact absurd ‹decide (V.int (kr .non) = V.int 0) = false› (by decide)
    | bl b => exact absurd ‹decide (V.int (kr (.bl b)) = V.int 1) = false› (by show ¬ decide (V.int 1 = V.int 1) = false; decide)
    | int i => exact eu_tup (ea_cons (ev_var rfl) (ea_cons (ev_var rfl) ea_nil)) (by show 2 ≤ 100000; decide)
    | str s hs => exact eu_tup (ea_cons (ev_var rfl) (ea_cons (ev_var rfl) ea_nil)) (by show 2 ≤ 100000; decide)
theorem ok__law_rank (D : Dn K mg "_law_rank" s__law_rank ["value"]) (z_isinstance : mg "isinstance" = none) (z_str : mg "str" = none) :
    C8.Cal P w K mg base 1 "_law_rank" (sp__law_rank K) [] := by
  refine cal_of D sc__law_rank (fun vs H Q E h => ?_) (fun f cdv A outer s H vs Q E hr h => ?_)
  · obtain ⟨_, rfl, _⟩ := h
    rfl
  refine ⟨_, (pss_cons (ps_if (pt_cmpR op_isN (pv 0) pe_non (nomark _))
      (pss_one (ps_ret (pe_tup (pa_cons pe_int (pa_cons pe_int pa_nil)))))
      pss_nil)
    (pss_cons (ps_if (pt_cmpR op_isTF (pv 0) pe_bl (nomark _))
      (pss_one (ps_ret (pe_tup (pa_cons pe_int (pa_cons pe_int pa_nil)))))
      pss_nil)
    (pss_cons (ps_if (pt_cmpR op_isTF (pv 0) pe_bl (nomark _))
      (pss_one (ps_ret (pe_tup (pa_cons pe_int (pa_cons pe_int pa_nil)))))
      pss_nil)
    (pss_cons (ps_if (pt_val (pe_callB call_isi (by rfl) z_isinstance (by decide +kernel) (pa_cons (pv 0) (pa_cons (pe_bltn (v := .ty "str") (u := .type "str") rfl z_str (by decide +kernel) rfl) pa_nil))))
      (pss_one (ps_ret (pe_tup (pa_cons pe_int (pa_cons (pv 0) pa_nil)))))
      pss_nil)
    (pss_one (ps_ret (pe_tup (pa_cons pe_int (pa_cons (pv 0) pa_nil))))))))), ?_⟩
  obtain ⟨x, rfl, hx, q⟩ := h
  have one : ∀ {H0 H1 : Hp} {σ : L2.St} {ta tb : TE}, Ex H H0 → Ev ta σ H0 (.int (kr x)) → Ev tb σ H0 (payV x) → tRet (tTup (tCons ta (tCons tb tNil))) { nx := fun _ H' => Q .non H', rt := Q } σ H0 := fun {H0 H1 σ ta tb} e0 ha hb =>
    s_retU (xs := rkL x) (eu_tup (ea_cons ha (ea_cons hb ea_nil)) (by show 2 ≤ 100000; decide)) fun p H3 hp e3 h3 => q p H3 (fresh_back e0 hp) (e0.trans e3) h3
  cases hx with
  | non => exact q_when (b := true) (et_test (ev_op (ev_var rfl) ev_c rv_isN)) (fun _ H1 e1 => one (H1 := H) e1 ev_c ev_c) fun hb => nomatch hb
  | bl b =>
    refine q_when (b := false) (et_test (ev_op (ev_var rfl) ev_c rv_isN)) (fun hb => nomatch hb) fun _ H1 e1 => ?_
    refine q_when (b := decide (V.bl b = V.bl true)) (et_test (ev_op (ev_var rfl) ev_c rv_isT)) (fun hb H2 e2 => one (H1 := H) (e1.trans e2) ev_c ?_) fun hb H2 e2 => ?_
    · rw [V.bl.inj (of_decide_eq_true hb)]
      exact ev_c
    have hf : b = false := by
      cases b with
      | true => exact absurd hb (by decide)
      | false => rfl
    subst hf
    exact q_when (b := true) (et_test (ev_op (ev_var rfl) ev_c rv_isT)) (fun _ H3 e3 => one (H1 := H) ((e1.trans e2).trans e3) ev_c ev_c) fun hb => nomatch hb
  | int i =>
    refine q_when (b := false) (et_test (ev_op (ev_var rfl) ev_c rv_isN)) (fun hb => nomatch hb) fun _ H1 e1 => ?_
    refine q_when (b := false) (et_test (ev_op (ev_var rfl) ev_c rv_isT)) (fun hb => nomatch hb) fun _ H2 e2 => ?_
    refine q_when (b := false) (et_test (ev_op (ev_var rfl) ev_c rv_isT)) (fun hb => nomatch hb) fun _ H3 e3 => ?_
    refine q_when (b := false) (et_B (ev_isiP (ev_var rfl) (.int i) (by show kitB "int" "str" = some false; decide +kernel))) (fun hb => nomatch hb) fun _ H4 e4 => one (H1 := H) (((e1.trans e2).trans e3).trans e4) ev_c (ev_var rfl)
  | str s hs =>
    refine q_when (b := false) (et_test (ev_op (ev_var rfl) ev_c rv_isN)) (fun hb => nomatch hb) fun _ H1 e1 => ?_
    refine q_when (b := false) (et_test (ev_op (ev_var rfl) ev_c rv_isT)) (fun hb => nomatch hb) fun _ H2 e2 => ?_
    refine q_when (b := false) (et_test (ev_op (ev_var rfl) ev_c rv_isT)) (fun hb => nomatch hb) fun _ H3 e3 => ?_
    refine q_when (b := true) (et_B (ev_isiP (ev_var rfl) (.str s) (by show kitB "str" "str" = some true; decide +kernel))) (fun _ H4 e4 => one (H1 := H) (((e1.trans e2).trans e3).trans e4) ev_c (ev_var rfl)) fun hb => nomatch hb
theorem ok_is_integer (D : Dn K mg "is_integer" s_is_integer ["value"]) (z_bool : mg "bool" = none) (z_int : mg "int" = none) (z_isinstance : mg "isinstance" = none) :
    C8.Cal P w K mg base 1 "is_integer" (sp_is_integer K) [] := by
  refine cal_of D sc_is_integer (fun vs H Q E h => ?_) (fun f cdv A outer s H vs Q E hr h => ?_)
  · obtain ⟨_, rfl, _⟩ := h
    rfl
  refine ⟨_, (pss_one (ps_ret (pe_and (pe_callB call_isi (by rfl) z_isinstance (by decide +kernel) (pa_cons (pv 0) (pa_cons (pe_bltn (v := .ty "int") (u := .type "int") rfl z_int (by decide +kernel) rfl) pa_nil))) (pe_one (pe_not (pe_callB call_isi (by rfl) z_isinstance (by decide +kernel) (pa_cons (pv 0) (pa_cons (pe_bltn (v := .ty "bool") (u := .type "bool") rfl z_bool (by decide +kernel) rfl) pa_nil)))))))), ?_⟩
  obtain ⟨x, rfl, hx, q⟩ := h
  exact s_ret (ev_isInt (ev_var rfl) (ev_var rfl) hx) fun H2 e2 => q _ e2
theorem ok_same (D : Dn K mg "same" s_same ["first", "second"]) (c_rank : C8.Cal P w K mg base 2 "rank" (sp_rank K) []) :
    C8.Cal P w K mg base 3 "same" (sp_same K) [] := by
  refine cal_of D sc_same (fun vs H Q E h => ?_) (fun f cdv A outer s H vs Q E hr h => ?_)
  · obtain ⟨_, _, rfl, _⟩ := h
    rfl
  refine ⟨_, (pss_one (ps_ret (pe_cmpR (op_eqD (hu64 hr)) (C8.pe_c c_rank hr (by decide) (by rfl) (pa_cons (pv 0) pa_nil)) (C8.pe_c c_rank hr (by decide) (by rfl) (pa_cons (pv 1) pa_nil)) (nomark _)))), ?_⟩
  obtain ⟨x, y, rfl, hx, hy, q⟩ := h
  exact s_ret (ev_eqD (ed_rk (ec_rank (ev_var rfl) hx) hx) (ed_rk (ec_rank (ev_var rfl) hy) hy) (shaped_rk hx) (shaped_rk hy)) fun H2 e2 => q _ e2
theorem ok_before (D : Dn K mg "before" s_before ["first", "second"]) (c_rank : C8.Cal P w K mg base 2 "rank" (sp_rank K) []) :
    C8.Cal P w K mg base 3 "before" (sp_before K) [] := by
  refine cal_of D sc_before (fun vs H Q E h => ?_) (fun f cdv A outer s H vs Q E hr h => ?_)
  · obtain ⟨_, _, rfl, _⟩ := h
    rfl
  refine ⟨_, (pss_one (ps_ret (pe_cmpR (op_ltD (hu64 hr)) (C8.pe_c c_rank hr (by decide) (by rfl) (pa_cons (pv 0) pa_nil)) (C8.pe_c c_rank hr (by decide) (by rfl) (pa_cons (pv 1) pa_nil)) (nomark _)))), ?_⟩
  obtain ⟨x, y, rfl, hx, hy, q⟩ := h
  exact s_ret (ev_ltD (ed_rk (ec_rank (ev_var rfl) hx) hx) (ed_rk (ec_rank (ev_var rfl) hy) hy) (shaped_rk hx) (shaped_rk hy) (ord_rk hx hy) (by rw [dep_rk hx]; decide)) fun H2 e2 => q _ e2
end

--@SPLIT
def unNames : List Str := ["not", "is null", "negate", "length"]
def binNames : List Str := ["and", "or", "equal", "less", "at most", "same", "coalesce", "add", "join", "least"]
def bdV : V → Prop
  | .int i => -1152921504606846976 ≤ i ∧ i ≤ 1152921504606846976
  | _ => True

theorem cal_no {P : Program} {w : World} {K : PySem.W.Frag} {mg : Str → Option Value} {base : Heap} {x : Str} {st : Stmt} {N ps : List Str} {k : Nat} {sp : Sp} (D : Dn K mg x st ps) (S : FnScope N ps (C8.fnScope st)) (no : ∀ vs H Q E, sp vs H Q E → False) : C8.Cal P w K mg base (k + 1) x sp [] :=
  cal_of D S (fun vs H Q E h => (no vs H Q E h).elim) fun f cdv A outer s H vs Q E hr h => (no vs H Q E h).elim
/-! ### conditions: what they are as data -/
inductive Cnd where
  | col (n : Nat)
  | cst (v : V)
  | un (nm : Str) (a : Cnd)
  | bin (nm : Str) (a b : Cnd)
def vDc : V → PyData
  | .bl b => .bool b
  | .int i => .int i
  | .str s => .str s
  | _ => .none
theorem dp_vDc {K : PySem.W.Frag} {H : Hp} {x : V} (h : Pl x) : Dp K H x (vDc x) := by
  cases h with
  | non => exact .non
  | bl b => exact .bl b
  | int i => exact .int i
  | str s => exact .str s
theorem vDc_is {K : PySem.W.Frag} {H : Hp} {v x : V} (h : Pl x) (hd : Dp K H v (vDc x)) : v = x := by cases h <;> cases hd <;> rfl
def Cnd.d : Cnd → PyData
  | .col n => .tuple [.str "column", .int (n : Int)]
  | .cst v => .tuple [.str "constant", vDc v]
  | .un nm a => .tuple [.str "unary", .str nm, a.d]
  | .bin nm a b => .tuple [.str "binary", .str nm, a.d, b.d]
def Cnd.dep : Cnd → Nat
  | .col _ => 1
  | .cst _ => 1
  | .un _ a => a.dep + 1
  | .bin _ a b => max a.dep b.dep + 1
/-- over w columns, of these names -/
inductive Cnd.ok (w : Nat) : Cnd → Prop where
  | col (n : Nat) (h : n < w) : Cnd.ok w (.col n)
  | cst (v : V) (h : Ok v ∧ bdV v) : Cnd.ok w (.cst v)
  | un (nm : Str) (a : Cnd) (h : nm ∈ unNames) (ha : a.ok w) : Cnd.ok w (.un nm a)
  | bin (nm : Str) (a b : Cnd) (h : nm ∈ binNames) (ha : a.ok w) (hb : b.ok w) : Cnd.ok w (.bin nm a b)
theorem noL_vDc (v : V) : noL (vDc v) = true := by cases v <;> rfl
theorem noL_cx : ∀ e : Cnd, noL e.d = true
  | .col _ => rfl
  | .cst v => by
    show (true && (noL (vDc v) && true)) = true
    rw [noL_vDc]
    rfl
  | .un _ a => by
    show (true && (true && (noL a.d && true))) = true
    rw [noL_cx a]
    rfl
  | .bin _ a b => by
    show (true && (true && (noL a.d && (noL b.d && true)))) = true
    rw [noL_cx a, noL_cx b]
    rfl

/-! ### the three tables -/
def neg3 (x : V) : V := if x = .bl true then .bl false else if x = .bl false then .bl true else .non
def and3 (x y : V) : V := if x = .bl false ∨ y = .bl false then .bl false else if x = .bl true ∧ y = .bl true then .bl true else .non
def or3 (x y : V) : V := if x = .bl true ∨ y = .bl true then .bl true else if x = .bl false ∧ y = .bl false then .bl false else .non
def sp_negated (K : PySem.W.Frag) : Sp := fun vs H Q _ => ∃ x : V, vs = [x] ∧ ∀ H', Ex H H' → Q (neg3 x) H'
def sp_both (K : PySem.W.Frag) : Sp := fun vs H Q _ => ∃ x y : V, vs = [x, y] ∧ ∀ H', Ex H H' → Q (and3 x y) H'
def sp_either (K : PySem.W.Frag) : Sp := fun vs H Q _ => ∃ x y : V, vs = [x, y] ∧ ∀ H', Ex H H' → Q (or3 x y) H'
section
variable {P : Program} {w : World} {K : PySem.W.Frag} {mg : Str → Option Value} {base : Heap}
theorem ok_both (D : Dn K mg "both" s_both ["first", "second"]) :
    C8.Cal P w K mg base 1 "both" (sp_both K) [] := by
  refine cal_of D sc_both (fun vs H Q E h => ?_) (fun f cdv A outer s H vs Q E hr h => ?_)
  · obtain ⟨_, _, rfl, _⟩ := h
    rfl
  refine ⟨_, (pss_cons (ps_if (PW.pt (pw_or (pt_cmpR op_isTF (pv 0) pe_bl (nomark _)) (pw_or1 (pt_cmpR op_isTF (pv 1) pe_bl (nomark _)))))
      (pss_one (ps_ret pe_bl))
      pss_nil)
    (pss_cons (ps_if (PW.pt (pw_and (pt_cmpR op_isTF (pv 0) pe_bl (nomark _)) (pw_and1 (pt_cmpR op_isTF (pv 1) pe_bl (nomark _)))))
      (pss_one (ps_ret pe_bl))
      pss_nil)
    (pss_one (ps_ret pe_non)))), ?_⟩
  obtain ⟨x, y, rfl, q⟩ := h
  refine q_when (b := decide (x = .bl false) || decide (y = .bl false)) (by walk_at "et") (fun hb H1 e1 => s_ret (v := and3 x y) ?_ fun H2 e2 => q _ (e1.trans e2)) fun hb H1 e1 => ?_
  · refine ev_is ev_c ?_
    unfold and3
    rw [if_pos (by rw [Bool.or_eq_true, decide_eq_true_eq, decide_eq_true_eq] at hb; exact hb)]
  have nb : ¬ (x = .bl false ∨ y = .bl false) := by
    intro z
    rw [Bool.or_eq_false_iff, decide_eq_false_iff_not, decide_eq_false_iff_not] at hb
    exact z.elim hb.1 hb.2
  refine q_when (b := decide (x = .bl true) && decide (y = .bl true)) (by walk_at "et") (fun hc H2 e2 => s_ret (v := and3 x y) ?_ fun H3 e3 => q _ ((e1.trans e2).trans e3)) fun hc H2 e2 => s_ret (v := and3 x y) ?_ fun H3 e3 => q _ ((e1.trans e2).trans e3)
  · refine ev_is ev_c ?_
    unfold and3
    rw [if_neg nb, if_pos (by rw [Bool.and_eq_true, decide_eq_true_eq, decide_eq_true_eq] at hc; exact hc)]
  · refine ev_is ev_c ?_
    unfold and3
    rw [if_neg nb, if_neg (fun z => by rw [decide_eq_true z.1, decide_eq_true z.2] at hc; cases hc)]
theorem ok_either (D : Dn K mg "either" s_either ["first", "second"]) :
    C8.Cal P w K mg base 1 "either" (sp_either K) [] := by
  refine cal_of D sc_either (fun vs H Q E h => ?_) (fun f cdv A outer s H vs Q E hr h => ?_)
  · obtain ⟨_, _, rfl, _⟩ := h
    rfl
  refine ⟨_, (pss_cons (ps_if (PW.pt (pw_or (pt_cmpR op_isTF (pv 0) pe_bl (nomark _)) (pw_or1 (pt_cmpR op_isTF (pv 1) pe_bl (nomark _)))))
      (pss_one (ps_ret pe_bl))
      pss_nil)
    (pss_cons (ps_if (PW.pt (pw_and (pt_cmpR op_isTF (pv 0) pe_bl (nomark _)) (pw_and1 (pt_cmpR op_isTF (pv 1) pe_bl (nomark _)))))
      (pss_one (ps_ret pe_bl))
      pss_nil)
    (pss_one (ps_ret pe_non)))), ?_⟩
  obtain ⟨x, y, rfl, q⟩ := h
  refine q_when (b := decide (x = .bl true) || decide (y = .bl true)) (by walk_at "et") (fun hb H1 e1 => s_ret (v := or3 x y) ?_ fun H2 e2 => q _ (e1.trans e2)) fun hb H1 e1 => ?_
  · refine ev_is ev_c ?_
    unfold or3
    rw [if_pos (by rw [Bool.or_eq_true, decide_eq_true_eq, decide_eq_true_eq] at hb; exact hb)]
  have nb : ¬ (x = .bl true ∨ y = .bl true) := by
    intro z
    rw [Bool.or_eq_false_iff, decide_eq_false_iff_not, decide_eq_false_iff_not] at hb
    exact z.elim hb.1 hb.2
  refine q_when (b := decide (x = .bl false) && decide (y = .bl false)) (by walk_at "et") (fun hc H2 e2 => s_ret (v := or3 x y) ?_ fun H3 e3 => q _ ((e1.trans e2).trans e3)) fun hc H2 e2 => s_ret (v := or3 x y) ?_ fun H3 e3 => q _ ((e1.trans e2).trans e3)
  · refine ev_is ev_c ?_
    unfold or3
    rw [if_neg nb, if_pos (by rw [Bool.and_eq_true, decide_eq_true_eq, decide_eq_true_eq] at hc; exact hc)]
  · refine ev_is ev_c ?_
    unfold or3
    rw [if_neg nb, if_neg (fun z => by rw [decide_eq_true z.1, decide_eq_true z.2] at hc; cases hc)]
section
variable {σ : L2.St} {H : Hp} {ta tb : TE} {E : XK} {x y : V}
theorem ec_both (ha : Ev ta σ H x) (hb : Ev tb σ H y) : Ev (tCall (sp_both K) [] E (tCons ta (tCons tb tNil))) σ H (and3 x y) := ev_call (ea_cons ha (ea_cons hb ea_nil)) fun H1 e Q q E => ⟨x, y, rfl, q⟩
theorem ec_either (ha : Ev ta σ H x) (hb : Ev tb σ H y) : Ev (tCall (sp_either K) [] E (tCons ta (tCons tb tNil))) σ H (or3 x y) := ev_call (ea_cons ha (ea_cons hb ea_nil)) fun H1 e Q q E => ⟨x, y, rfl, q⟩
end
end

section
variable {P : Program} {w : World} {K : PySem.W.Frag} {mg : Str → Option Value} {base : Heap}
theorem ok_negated (D : Dn K mg "negated" s_negated ["value"]) :
    C8.Cal P w K mg base 1 "negated" (sp_negated K) [] := by
  refine cal_of D sc_negated (fun vs H Q E h => ?_) (fun f cdv A outer s H vs Q E hr h => ?_)
  · obtain ⟨_, rfl, _⟩ := h
    rfl
  refine ⟨_, (pss_cons (ps_if (pt_cmpR op_isTF (pv 0) pe_bl (nomark _))
      (pss_one (ps_ret pe_bl))
      pss_nil)
    (pss_cons (ps_if (pt_cmpR op_isTF (pv 0) pe_bl (nomark _))
      (pss_one (ps_ret pe_bl))
      pss_nil)
    (pss_one (ps_ret pe_non)))), ?_⟩
  obtain ⟨x, rfl, q⟩ := h
  refine q_when (b := decide (x = .bl true)) (by walk_at "et") (fun hb H1 e1 => s_ret (v := neg3 x) ?_ fun H2 e2 => q _ (e1.trans e2)) fun hb H1 e1 => ?_
  · refine ev_is ev_c ?_
    unfold neg3
    rw [if_pos (of_decide_eq_true hb)]
  refine q_when (b := decide (x = .bl false)) (by walk_at "et") (fun hc H2 e2 => s_ret (v := neg3 x) ?_ fun H3 e3 => q _ ((e1.trans e2).trans e3)) fun hc H2 e2 => s_ret (v := neg3 x) ?_ fun H3 e3 => q _ ((e1.trans e2).trans e3)
  · refine ev_is ev_c ?_
    unfold neg3
    rw [if_neg (of_decide_eq_false hb), if_pos (of_decide_eq_true hc)]
  · refine ev_is ev_c ?_
    unfold neg3
    rw [if_neg (of_decide_eq_false hb), if_neg (of_decide_eq_false hc)]

end
--@SPLIT
/-! ### what an expression is worth in a row -/
def bothOk (x y : V) : Prop := Ok x ∧ Ok y
def anyV (_ _ : V) : Prop := True
def twoI (x y : V) : Prop := ∃ a b : Int, x = .int a ∧ y = .int b
def twoS (x y : V) : Prop := ∃ a b : Str, x = .str a ∧ y = .str b ∧ a.length ≤ 10000 ∧ b.length ≤ 10000
def sameV (x y : V) : V := .bl (PyData.eqv (rkD x) (rkD y))
def lessV (x y : V) : V := .bl (ltD (rkD x) (rkD y))
def mostV (x y : V) : V := .bl (!ltD (rkD y) (rkD x))
def leastV (x y : V) : V := if ltD (rkD y) (rkD x) = true then y else x
def coalV (x y : V) : V := if x = .non then y else x
def addV : V → V → V
  | .int i, .int j => limV (i + j)
  | _, _ => .non
def joinV : V → V → V
  | .str a, .str b => if 10000 < a.length + b.length then .non else .str (a ++ b)
  | _, _ => .non
def isStr : V → Bool
  | .str _ => true
  | _ => false
def negV : V → V
  | .int i => .int (-i)
  | _ => .non
def lenV : V → V
  | .str s => .int (s.length : Int)
  | _ => .non
def alike (x y : V) : Bool := (!decide (x = .non)) && decide (V.int (kr x) = V.int (kr y))
def binV (nm : Str) (x y : V) : V :=
  if nm = "and" then and3 x y else if nm = "or" then or3 x y else if nm = "same" then sameV x y else if nm = "coalesce" then coalV x y
  else if nm = "add" then addV x y else if nm = "join" then joinV x y
  else if alike x y = true then (if nm = "equal" then sameV x y else if nm = "less" then lessV x y else if nm = "at most" then mostV x y else leastV x y) else .non
def unV (nm : Str) (x : V) : V := if nm = "not" then neg3 x else if nm = "is null" then .bl (decide (x = .non)) else if nm = "negate" then negV x else lenV x
def evE (xs : List V) : Cnd → V
  | .col n => xs.getD n .non
  | .cst v => v
  | .un nm a => unV nm (evE xs a)
  | .bin nm a b => binV nm (evE xs a) (evE xs b)
theorem lim_ok (n : Int) : Ok (limV n) := by unfold limV; split; exact .int _; exact .non
theorem strOk_app {a b : Str} (ha : PyData.strOk a = true) (hb : PyData.strOk b = true) : PyData.strOk (a ++ b) = true := by
  unfold PyData.strOk at ha hb ⊢
  show ((a.cps ++ b.cps).all _) = true
  rw [Array.all_append, ha, hb]
  rfl
theorem len_app (a b : Str) : (a ++ b).length = a.length + b.length := Array.size_append
theorem neg_ok (x : V) : Ok (neg3 x) := by unfold neg3; split; exact .bl _; split; exact .bl _; exact .non
theorem and_ok (x y : V) : Ok (and3 x y) := by unfold and3; split; exact .bl _; split; exact .bl _; exact .non
theorem or_ok (x y : V) : Ok (or3 x y) := by unfold or3; split; exact .bl _; split; exact .bl _; exact .non
theorem un_ok (nm : Str) {x : V} (h : Ok x) : Ok (unV nm x) := by
  unfold unV
  split
  · exact neg_ok x
  split
  · exact .bl _
  split
  · cases h <;> first | exact .non | exact .int _
  · cases h <;> first | exact .non | exact .int _
theorem add_ok (x y : V) : Ok (addV x y) := by
  unfold addV
  split
  · exact lim_ok _
  · exact .non
theorem join_ok {x y : V} (hx : Ok x) (hy : Ok y) : Ok (joinV x y) := by
  cases hx with
  | str a ha =>
    cases hy with
    | str b hb =>
      show Ok (if 10000 < a.length + b.length then .non else .str (a ++ b))
      split
      · exact .non
      · exact .str _ ⟨strOk_app ha.1 hb.1, by rw [len_app]; omega⟩
    | _ => exact .non
  | _ => exact .non
theorem bin_ok (nm : Str) {x y : V} (hx : Ok x) (hy : Ok y) : Ok (binV nm x y) := by
  unfold binV
  split
  · exact and_ok x y
  split
  · exact or_ok x y
  split
  · exact .bl _
  split
  · unfold coalV; split <;> assumption
  split
  · exact add_ok x y
  split
  · exact join_ok hx hy
  split
  · split
    · exact .bl _
    split
    · exact .bl _
    split
    · exact .bl _
    · unfold leastV; split <;> assumption
  · exact .non
theorem row_ok {xs : List V} (h : ∀ x ∈ xs, Ok x) (n : Nat) : Ok (xs.getD n .non) := by
  rw [List.getD_eq_getElem?_getD]
  cases e : xs[n]? with
  | none => exact .non
  | some x => exact h x (List.mem_of_getElem? e)
theorem ev_ok {w : Nat} {xs : List V} (h : ∀ x ∈ xs, Ok x) : ∀ {e : Cnd}, e.ok w → Ok (evE xs e)
  | .col n, _ => row_ok h n
  | .cst v, .cst _ hv => hv.1
  | .un nm a, .un _ _ _ ha => un_ok nm (ev_ok h ha)
  | .bin nm a b, .bin _ _ _ _ ha hb => bin_ok nm (ev_ok h ha) (ev_ok h hb)
theorem bd_lim (n : Int) : bdV (limV n) := by
  unfold limV
  split
  · rename_i h
    exact ⟨by omega, by omega⟩
  · trivial
theorem bd_bl (b : Bool) : bdV (.bl b) := trivial
theorem bd_neg (x : V) : bdV (neg3 x) := by unfold neg3; split; trivial; split <;> trivial
theorem bd_and (x y : V) : bdV (and3 x y) := by unfold and3; split; trivial; split <;> trivial
theorem bd_or (x y : V) : bdV (or3 x y) := by unfold or3; split; trivial; split <;> trivial
theorem bd_un (nm : Str) {x : V} (hx : Ok x) (h : bdV x) : bdV (unV nm x) := by
  unfold unV
  split
  · exact bd_neg x
  split
  · trivial
  split
  · cases hx with
    | int i => exact ⟨by have := h.2; omega, by have := h.1; omega⟩
    | _ => trivial
  · cases hx with
    | str s hs => exact ⟨by omega, by have := hs.2; omega⟩
    | _ => trivial
theorem bd_add (x y : V) : bdV (addV x y) := by
  unfold addV
  split
  · exact bd_lim _
  · trivial
theorem bd_join (x y : V) : bdV (joinV x y) := by
  unfold joinV
  split
  · split <;> trivial
  · trivial
theorem bd_bin (nm : Str) {x y : V} (hx : bdV x) (hy : bdV y) : bdV (binV nm x y) := by
  unfold binV
  split
  · exact bd_and x y
  split
  · exact bd_or x y
  split
  · trivial
  split
  · unfold coalV; split <;> assumption
  split
  · exact bd_add x y
  split
  · exact bd_join x y
  split
  · split
    · trivial
    split
    · trivial
    split
    · trivial
    · unfold leastV; split <;> assumption
  · trivial
theorem bd_ev {w : Nat} {xs : List V} (h : ∀ x ∈ xs, Ok x) (hb : ∀ x ∈ xs, bdV x) : ∀ {e : Cnd}, e.ok w → bdV (evE xs e)
  | .col n, _ => by
    show bdV (xs.getD n .non)
    rw [List.getD_eq_getElem?_getD]
    cases e : xs[n]? with
    | none => trivial
    | some x => exact hb x (List.mem_of_getElem? e)
  | .cst v, .cst _ hv => hv.2
  | .un nm a, .un _ _ _ ha => bd_un nm (ev_ok h ha) (bd_ev h hb ha)
  | .bin nm a b, .bin _ _ _ _ ha hb2 => bd_bin nm (bd_ev h hb ha) (bd_ev h hb hb2)
theorem Ok.pl0 {x : V} (h : Ok x) : Pl x := by cases h <;> constructor
inductive Opr2 (P : Program) (w : World) (K : PySem.W.Frag) (mg : Str → Option Value) (base : Heap) (dA dL dI dT : Addr) : Str → V → V → V → Prop
  | any {nm : Str} {x y : V} {f : Addr} {pre : V → V → Prop} {op : V → V → V} : PySem.W.nsIn K dA nm = some (some (.ref f)) → L2.Held P w K mg base 4 f (spBin pre op) → pre x y → Opr2 P w K mg base dA dL dI dT nm x y (op x y)
  | alike {nm : Str} {x y : V} {f : Addr} {op : V → V → V} : PySem.W.nsIn K dA nm = some none → PySem.W.nsIn K dL nm = some (some (.ref f)) → L2.Held P w K mg base 4 f (spBin bothOk op) → Opr2 P w K mg base dA dL dI dT nm x y (if alike x y = true then op x y else .non)
  | nums {nm : Str} {x y : V} {f : Addr} : PySem.W.nsIn K dA nm = some none → PySem.W.nsIn K dL nm = some none → PySem.W.nsIn K dI nm = some (some (.ref f)) → L2.Held P w K mg base 4 f (spBin twoI addV) → Opr2 P w K mg base dA dL dI dT nm x y (addV x y)
  | wrds {nm : Str} {x y : V} {f : Addr} : PySem.W.nsIn K dA nm = some none → PySem.W.nsIn K dL nm = some none → PySem.W.nsIn K dI nm = some none → PySem.W.nsIn K dT nm = some (some (.ref f)) → L2.Held P w K mg base 4 f (spBin twoS joinV) → Opr2 P w K mg base dA dL dI dT nm x y (joinV x y)
theorem rv_inKD {K : PySem.W.Frag} {d : Addr} {z : Str} {r : Option Value} {H : Hp} (e : PySem.W.nsIn K d z = some r) : RV (fun x y H Q => ∃ (z : Str) (r : Option Value), x = .str z ∧ y = .ref d ∧ PySem.W.nsIn K d z = some r ∧ Q (.bl r.isSome) H) (.str z) (.ref d) H (.bl r.isSome) :=
  fun H1 _ _ q => ⟨z, r, rfl, rfl, e, q H1 (Ex.refl H1)⟩
theorem rv_ixKD {K : PySem.W.Frag} {w : World} {d : Addr} {es : Array DictEntry} {n : Nat} {z : Str} {u : Value} {v : V} {H : Hp} (D : KDict K w d es n) (e : PySem.W.nsIn K d z = some (some u)) (r : RelV v u) : RV (rIxD K w) (.ref d) (.str z) H v :=
  fun H1 _ _ q => ⟨d, z, v, rfl, rfl, ⟨es, n, u, D.at_, D.lit, e, r⟩, q H1 (Ex.refl H1)⟩
theorem dp_tupD {K : PySem.W.Frag} {H : Hp} {v : V} {ds : List PyData} (h : Dp K H v (.tuple ds)) : ∃ b ys, v = .ref b ∧ SqT K H b ys ∧ DpAll K H ys ds := by
  cases h with
  | tup hS hd => exact ⟨_, _, rfl, hS, hd⟩
theorem dp_strD {K : PySem.W.Frag} {H : Hp} {v : V} {s : Str} (h : Dp K H v (.str s)) : v = .str s := by cases h; rfl
theorem dp_intD {K : PySem.W.Frag} {H : Hp} {v : V} {n : Int} (h : Dp K H v (.int n)) : v = .int n := by cases h; rfl
def sp__both (K : PySem.W.Frag) : Sp := spBin anyV and3
def sp__either (K : PySem.W.Frag) : Sp := spBin anyV or3
def sp__same (K : PySem.W.Frag) : Sp := spBin bothOk sameV
def sp__equal (K : PySem.W.Frag) : Sp := spBin bothOk sameV
def sp__less (K : PySem.W.Frag) : Sp := spBin bothOk lessV
def sp__at_most (K : PySem.W.Frag) : Sp := spBin bothOk mostV
def sp__least (K : PySem.W.Frag) : Sp := spBin bothOk leastV
def sp__first_known (K : PySem.W.Frag) : Sp := spBin anyV coalV
def sp__add (K : PySem.W.Frag) : Sp := spBin twoI addV
def sp__join (K : PySem.W.Frag) : Sp := spBin twoS joinV
def sp_limited (K : PySem.W.Frag) : Sp := fun vs H Q _ => ∃ n : Int, vs = [.int n] ∧ ∀ H', Ex H H' → Q (limV n) H'
def sp__are_alike (K : PySem.W.Frag) : Sp := fun vs H Q _ => ∃ x y : V, vs = [x, y] ∧ Ok x ∧ Ok y ∧ ∀ H', Ex H H' → Q (.bl (alike x y)) H'
def sp_value_of_two (K : PySem.W.Frag) : Sp := fun vs H Q _ => ∃ (nm : Str) (x y : V), vs = [.str nm, x, y] ∧ nm ∈ binNames ∧ Ok x ∧ Ok y ∧ ∀ H', Ex H H' → Q (binV nm x y) H'
abbrev sp_binary (K : PySem.W.Frag) : Sp := sp_value_of_two K
def sp__negate (K : PySem.W.Frag) : Sp := fun vs H Q _ => ∃ i : Int, vs = [.int i] ∧ ∀ H', Ex H H' → Q (.int (-i)) H'
def sp__length (K : PySem.W.Frag) : Sp := fun vs H Q _ => ∃ s : Str, vs = [.str s] ∧ s.length ≤ 10000 ∧ ∀ H', Ex H H' → Q (.int (s.length : Int)) H'
def sp_value_of_one (K : PySem.W.Frag) : Sp := fun vs H Q _ => ∃ (nm : Str) (x : V), vs = [.str nm, x] ∧ nm ∈ unNames ∧ Ok x ∧ ∀ H', Ex H H' → Q (unV nm x) H'
abbrev sp_unary (K : PySem.W.Frag) : Sp := sp_value_of_one K
/-- a condition as data, of names that are known, n deep at most -/
def CxAt (K : PySem.W.Frag) (H : Hp) (v : V) (e : Cnd) (n : Nat) : Prop := Dp K H v e.d ∧ e.dep ≤ n ∧ ∃ w, e.ok w
theorem CxAt.ex {K : PySem.W.Frag} {H H' : Hp} {v : V} {e : Cnd} {n : Nat} (h : CxAt K H v e n) (x : Ex H H') : CxAt K H' v e n := ⟨ex_dp x h.1, h.2⟩
def spR_evaluate : Nat → PySem.W.Frag → Sp
  | 0, _ => fun _ _ _ _ => False
  | n + 1, K => fun vs H Q _ => ∃ (v : V) (e : Cnd) (a : Addr) (xs : List V), vs = [v, .ref a] ∧ CxAt K H v e (n + 1) ∧ SqL K H a xs ∧ (∀ x ∈ xs, Ok x) ∧ xs.length ≤ 1000 ∧ ∀ H', Ex H H' → Q (evE xs e) H'
def sp_evaluate (K : PySem.W.Frag) : Sp := spR_evaluate 8 K
def sp_holds (K : PySem.W.Frag) : Sp := fun vs H Q _ => ∃ (v : V) (e : Cnd) (a : Addr) (xs : List V), vs = [v, .ref a] ∧ CxAt K H v e 8 ∧ SqL K H a xs ∧ (∀ x ∈ xs, Ok x) ∧ xs.length ≤ 1000 ∧ ∀ H', Ex H H' → Q (.bl (decide (evE xs e = .bl true))) H'
section
variable {P : Program} {w : World} {K : PySem.W.Frag} {mg : Str → Option Value} {base : Heap}
section
variable {σ : L2.St} {H : Hp} {ta tb tc : TE} {E : XK} {x y v : V} {nm : Str} {e : Cnd} {n : Nat} {a : Addr} {xs : List V}
theorem ev_isStr (ha : Ev ta σ H x) (h : Ok x) : Ev (tCB (rIsi K) (tCons ta (tCons (tC (.ty "str")) tNil))) σ H (.bl (isStr x)) := by
  cases h with
  | non => exact ev_isiP (b := false) ha .non (by show kitB "NoneType" "str" = some false; decide +kernel)
  | bl b => exact ev_isiP (b := false) ha (.bl b) (by show kitB "bool" "str" = some false; decide +kernel)
  | int i => exact ev_isiP (b := false) ha (.int i) (by show kitB "int" "str" = some false; decide +kernel)
  | str s _ => exact ev_isiP (b := true) ha (.str s) (by show kitB "str" "str" = some true; decide +kernel)
theorem ec_alike (ha : Ev ta σ H x) (hb : Ev tb σ H y) (h1 : Ok x) (h2 : Ok y) : Ev (tCall (sp__are_alike K) [] E (tCons ta (tCons tb tNil))) σ H (.bl (alike x y)) := ev_call (ea_cons ha (ea_cons hb ea_nil)) fun H1 e Q q E => ⟨x, y, rfl, h1, h2, q⟩
theorem ec_neg3 (ha : Ev ta σ H x) : Ev (tCall (sp_negated K) [] E (tCons ta tNil)) σ H (neg3 x) := ev_call (ea_cons ha ea_nil) fun H1 e Q q E => ⟨x, rfl, q⟩
theorem ec_two (h : nm ∈ binNames) (h1 : Ok x) (h2 : Ok y) (ha : Ev ta σ H (.str nm)) (hb : Ev tb σ H x) (hc : Ev tc σ H y) : Ev (tCall (sp_value_of_two K) [] E (tCons ta (tCons tb (tCons tc tNil)))) σ H (binV nm x y) := ev_call (ea_cons ha (ea_cons hb (ea_cons hc ea_nil))) fun H1 e Q q E => ⟨nm, x, y, rfl, h, h1, h2, q⟩
theorem ec_one (h : nm ∈ unNames) (h1 : Ok x) (ha : Ev ta σ H (.str nm)) (hb : Ev tb σ H x) : Ev (tCall (sp_value_of_one K) [] E (tCons ta (tCons tb tNil))) σ H (unV nm x) := ev_call (ea_cons ha (ea_cons hb ea_nil)) fun H1 e Q q E => ⟨nm, x, rfl, h, h1, q⟩
theorem ec_evalR (ha : Ev ta σ H v) (hb : Ev tb σ H (.ref a)) (he : CxAt K H v e (n + 1)) (hS : SqL K H a xs) (hx : ∀ x ∈ xs, Ok x) (hl : xs.length ≤ 1000) : Ev (tCall (spR_evaluate (n + 1) K) [] E (tCons ta (tCons tb tNil))) σ H (evE xs e) := ev_call (ea_cons ha (ea_cons hb ea_nil)) fun H1 e1 Q q E => ⟨v, e, a, xs, rfl, he.ex e1, ex_l e1 hS, hx, hl, q⟩
theorem ec_eval (ha : Ev ta σ H v) (hb : Ev tb σ H (.ref a)) (he : CxAt K H v e 8) (hS : SqL K H a xs) (hx : ∀ x ∈ xs, Ok x) (hl : xs.length ≤ 1000) : Ev (tCall (sp_evaluate K) [] E (tCons ta (tCons tb tNil))) σ H (evE xs e) := ec_evalR ha hb he hS hx hl
theorem ec_holds (ha : Ev ta σ H v) (hb : Ev tb σ H (.ref a)) (he : CxAt K H v e 8) (hS : SqL K H a xs) (hx : ∀ x ∈ xs, Ok x) (hl : xs.length ≤ 1000) : Ev (tCall (sp_holds K) [] E (tCons ta (tCons tb tNil))) σ H (.bl (decide (evE xs e = .bl true))) := ev_call (ea_cons ha (ea_cons hb ea_nil)) fun H1 e1 Q q E => ⟨v, e, a, xs, rfl, he.ex e1, ex_l e1 hS, hx, hl, q⟩
end
theorem ok__both (D : Dn K mg "_both" s__both ["first", "second"]) (c_both : C8.Cal P w K mg base 1 "both" (sp_both K) []) :
    C8.Cal P w K mg base 2 "_both" (sp__both K) [] := by
  refine cal_of D sc__both (fun vs H Q E h => ?_) (fun f cdv A outer s H vs Q E hr h => ?_)
  · obtain ⟨_, _, rfl, _⟩ := h
    rfl
  refine ⟨_, (pss_one (ps_ret (C8.pe_c c_both hr (by decide) (by rfl) (pa_cons (pv 0) (pa_cons (pv 1) pa_nil))))), ?_⟩
  obtain ⟨x, y, rfl, _, q⟩ := h
  exact s_ret (ec_both (ev_var rfl) (ev_var rfl)) fun H2 e2 => q _ e2
theorem ok__either (D : Dn K mg "_either" s__either ["first", "second"]) (c_either : C8.Cal P w K mg base 1 "either" (sp_either K) []) :
    C8.Cal P w K mg base 2 "_either" (sp__either K) [] := by
  refine cal_of D sc__either (fun vs H Q E h => ?_) (fun f cdv A outer s H vs Q E hr h => ?_)
  · obtain ⟨_, _, rfl, _⟩ := h
    rfl
  refine ⟨_, (pss_one (ps_ret (C8.pe_c c_either hr (by decide) (by rfl) (pa_cons (pv 0) (pa_cons (pv 1) pa_nil))))), ?_⟩
  obtain ⟨x, y, rfl, _, q⟩ := h
  exact s_ret (ec_either (ev_var rfl) (ev_var rfl)) fun H2 e2 => q _ e2
theorem ok__same (D : Dn K mg "_same" s__same ["first", "second"]) (c_same : C8.Cal P w K mg base 3 "same" (sp_same K) []) :
    C8.Cal P w K mg base 4 "_same" (sp__same K) [] := by
  refine cal_of D sc__same (fun vs H Q E h => ?_) (fun f cdv A outer s H vs Q E hr h => ?_)
  · obtain ⟨_, _, rfl, _⟩ := h
    rfl
  refine ⟨_, (pss_one (ps_ret (C8.pe_c c_same hr (by decide) (by rfl) (pa_cons (pv 0) (pa_cons (pv 1) pa_nil))))), ?_⟩
  obtain ⟨x, y, rfl, ⟨hx, hy⟩, q⟩ := h
  exact s_ret (ec_same (ev_var rfl) (ev_var rfl) hx hy) fun H2 e2 => q _ e2
theorem ok__equal (D : Dn K mg "_equal" s__equal ["first", "second"]) (c_same : C8.Cal P w K mg base 3 "same" (sp_same K) []) :
    C8.Cal P w K mg base 4 "_equal" (sp__equal K) [] := by
  refine cal_of D sc__equal (fun vs H Q E h => ?_) (fun f cdv A outer s H vs Q E hr h => ?_)
  · obtain ⟨_, _, rfl, _⟩ := h
    rfl
  refine ⟨_, (pss_one (ps_ret (C8.pe_c c_same hr (by decide) (by rfl) (pa_cons (pv 0) (pa_cons (pv 1) pa_nil))))), ?_⟩
  obtain ⟨x, y, rfl, ⟨hx, hy⟩, q⟩ := h
  exact s_ret (ec_same (ev_var rfl) (ev_var rfl) hx hy) fun H2 e2 => q _ e2
theorem ok__less (D : Dn K mg "_less" s__less ["first", "second"]) (c_before : C8.Cal P w K mg base 3 "before" (sp_before K) []) :
    C8.Cal P w K mg base 4 "_less" (sp__less K) [] := by
  refine cal_of D sc__less (fun vs H Q E h => ?_) (fun f cdv A outer s H vs Q E hr h => ?_)
  · obtain ⟨_, _, rfl, _⟩ := h
    rfl
  refine ⟨_, (pss_one (ps_ret (C8.pe_c c_before hr (by decide) (by rfl) (pa_cons (pv 0) (pa_cons (pv 1) pa_nil))))), ?_⟩
  obtain ⟨x, y, rfl, ⟨hx, hy⟩, q⟩ := h
  exact s_ret (ec_before (ev_var rfl) (ev_var rfl) hx hy) fun H2 e2 => q _ e2
theorem ok__at_most (D : Dn K mg "_at_most" s__at_most ["first", "second"]) (c_before : C8.Cal P w K mg base 3 "before" (sp_before K) []) :
    C8.Cal P w K mg base 4 "_at_most" (sp__at_most K) [] := by
  refine cal_of D sc__at_most (fun vs H Q E h => ?_) (fun f cdv A outer s H vs Q E hr h => ?_)
  · obtain ⟨_, _, rfl, _⟩ := h
    rfl
  refine ⟨_, (pss_one (ps_ret (pe_not (C8.pe_c c_before hr (by decide) (by rfl) (pa_cons (pv 1) (pa_cons (pv 0) pa_nil)))))), ?_⟩
  obtain ⟨x, y, rfl, ⟨hx, hy⟩, q⟩ := h
  exact s_ret (ev_notV (ec_before (ev_var rfl) (ev_var rfl) hy hx)) fun H2 e2 => q _ e2
theorem ok__are_alike (D : Dn K mg "_are_alike" s__are_alike ["first", "second"]) (c_kind_rank : C8.Cal P w K mg base 1 "kind_rank" (sp_kind_rank K) []) :
    C8.Cal P w K mg base 2 "_are_alike" (sp__are_alike K) [] := by
  refine cal_of D sc__are_alike (fun vs H Q E h => ?_) (fun f cdv A outer s H vs Q E hr h => ?_)
  · obtain ⟨_, _, rfl, _⟩ := h
    rfl
  refine ⟨_, (pss_one (ps_ret (pe_and (pe_cmpR op_notN (pv 0) pe_non (nomark _)) (pe_one (pe_cmpR op_eq (C8.pe_c c_kind_rank hr (by decide) (by rfl) (pa_cons (pv 0) pa_nil)) (C8.pe_c c_kind_rank hr (by decide) (by rfl) (pa_cons (pv 1) pa_nil)) (nomark _)))))), ?_⟩
  obtain ⟨x, y, rfl, hx, hy, q⟩ := h
  exact s_ret (ev_andV (ev_op (ev_var rfl) ev_c rv_notN) fun _ => ev_op (ec_kr (ev_var rfl) hx) (ec_kr (ev_var rfl) hy) (rv_eq rfl)) fun H2 e2 => q _ e2
theorem ok__first_known (D : Dn K mg "_first_known" s__first_known ["first", "second"]) :
    C8.Cal P w K mg base 1 "_first_known" (sp__first_known K) [] := by
  refine cal_of D sc__first_known (fun vs H Q E h => ?_) (fun f cdv A outer s H vs Q E hr h => ?_)
  · obtain ⟨_, _, rfl, _⟩ := h
    rfl
  refine ⟨_, (pss_one (ps_ret (pe_ifExp (pt_cmpR op_isN (pv 0) pe_non (nomark _)) (pv 1) (pv 0)))), ?_⟩
  obtain ⟨x, y, rfl, _, q⟩ := h
  refine s_ret (v := coalV x y) (ev_if (b := decide (x = .non)) (et_test (ev_op (ev_var rfl) ev_c rv_isN)) (fun hb => ev_is (ev_var rfl) ?_) fun hb => ev_is (ev_var rfl) ?_) fun H2 e2 => q _ e2
  · unfold coalV; rw [if_pos (of_decide_eq_true hb)]
  · unfold coalV; rw [if_neg (of_decide_eq_false hb)]
theorem ok__least (D : Dn K mg "_least" s__least ["first", "second"]) (c_before : C8.Cal P w K mg base 3 "before" (sp_before K) []) :
    C8.Cal P w K mg base 4 "_least" (sp__least K) [] := by
  refine cal_of D sc__least (fun vs H Q E h => ?_) (fun f cdv A outer s H vs Q E hr h => ?_)
  · obtain ⟨_, _, rfl, _⟩ := h
    rfl
  refine ⟨_, (pss_one (ps_ret (pe_ifExp (pt_val (C8.pe_c c_before hr (by decide) (by rfl) (pa_cons (pv 1) (pa_cons (pv 0) pa_nil)))) (pv 1) (pv 0)))), ?_⟩
  obtain ⟨x, y, rfl, ⟨hx, hy⟩, q⟩ := h
  refine s_ret (v := leastV x y) (ev_if (et_B (ec_before (ev_var rfl) (ev_var rfl) hy hx)) (fun hb => ev_is (ev_var rfl) ?_) fun hb => ev_is (ev_var rfl) ?_) fun H2 e2 => q _ e2
  · unfold leastV; rw [if_pos hb]
  · unfold leastV; rw [if_neg (by rw [hb]; decide)]
theorem ok_limited (D : Dn K mg "limited" s_limited ["number"]) (g_GREATEST : ∃ u, mg "GREATEST" = some u ∧ RelV (.int (1000000000000000)) u) :
    C8.Cal P w K mg base 1 "limited" (sp_limited K) [] := by
  refine cal_of D sc_limited (fun vs H Q E h => ?_) (fun f cdv A outer s H vs Q E hr h => ?_)
  · obtain ⟨_, rfl, _⟩ := h
    rfl
  refine ⟨_, (pss_cons (ps_if (pt_chain op_le op_le (pe_un un_neg (C8.pe_gc rfl g_GREATEST)) (pv 0) (C8.pe_gc rfl g_GREATEST))
      (pss_one (ps_ret (pv 0)))
      pss_nil)
    (pss_one (ps_ret pe_non))), ?_⟩
  obtain ⟨n, rfl, q⟩ := h
  refine q_when (b := decide (-1000000000000000 ≤ n) && decide (n ≤ 1000000000000000)) (et_test (ev_chain (ev_un ev_c ru_neg) (ev_var rfl) rv_I0 (fun _ => ev_c) (fun _ => rv_I0))) (fun hb H1 e1 => s_ret (v := limV n) ?_ fun H2 e2 => q _ (e1.trans e2)) fun hb H1 e1 => s_ret (v := limV n) ?_ fun H2 e2 => q _ (e1.trans e2)
  · rw [Bool.and_eq_true, decide_eq_true_eq, decide_eq_true_eq] at hb
    refine ev_is (ev_var rfl) ?_
    unfold limV
    rw [if_pos hb]
  · refine ev_is ev_c ?_
    unfold limV
    rw [if_neg]
    intro z
    rw [decide_eq_true z.1, decide_eq_true z.2] at hb
    cases hb
theorem ec_lim {σ : L2.St} {H : Hp} {ta : TE} {E : XK} {n : Int} (ha : Ev ta σ H (.int n)) : Ev (tCall (sp_limited K) [] E (tCons ta tNil)) σ H (limV n) := ev_call (ea_cons ha ea_nil) fun H1 e Q q E => ⟨n, rfl, q⟩
theorem ok__add (D : Dn K mg "_add" s__add ["first", "second"]) (c_limited : C8.Cal P w K mg base 1 "limited" (sp_limited K) []) :
    C8.Cal P w K mg base 2 "_add" (sp__add K) [] := by
  refine cal_of D sc__add (fun vs H Q E h => ?_) (fun f cdv A outer s H vs Q E hr h => ?_)
  · obtain ⟨_, _, rfl, _⟩ := h
    rfl
  refine ⟨_, (pss_one (ps_ret (C8.pe_c c_limited hr (by decide) (by rfl) (pa_cons (pe_op op_add (pv 0) (pv 1)) pa_nil)))), ?_⟩
  obtain ⟨x, y, rfl, ⟨a, b, rfl, rfl⟩, q⟩ := h
  exact s_ret (ec_lim (ev_op (ev_var rfl) (ev_var rfl) rv_I0)) fun H2 e2 => q _ e2
theorem ok__join (D : Dn K mg "_join" s__join ["first", "second"]) (z_len : mg "len" = none) (g_MOST : ∃ u, mg "MOST" = some u ∧ RelV (.int (10000)) u) :
    C8.Cal P w K mg base 1 "_join" (sp__join K) [] := by
  refine cal_of D sc__join (fun vs H Q E h => ?_) (fun f cdv A outer s H vs Q E hr h => ?_)
  · obtain ⟨_, _, rfl, _⟩ := h
    rfl
  refine ⟨_, (pss_one (ps_ret (pe_ifExp (pt_cmpR op_gt (pe_op op_add (pe_callB call_len_str (by rfl) z_len PySem.boot_len (pa_cons (pv 0) pa_nil)) (pe_callB call_len_str (by rfl) z_len PySem.boot_len (pa_cons (pv 1) pa_nil))) (C8.pe_gc rfl g_MOST) (nomark _)) pe_non (pe_op op_add_str (pv 0) (pv 1))))), ?_⟩
  obtain ⟨x, y, rfl, ⟨a, b, rfl, rfl, la, lb⟩, q⟩ := h
  refine s_ret (v := joinV (.str a) (.str b)) (ev_if (b := decide ((a.length : Int) + (b.length : Int) > 10000)) (et_test (ev_op (ev_op (ev_lenS (ev_var rfl) (by omega)) (ev_lenS (ev_var rfl) (by omega)) rv_I0) ev_c rv_I0)) (fun hb => ev_is ev_c ?_) fun hb => ?_) fun H2 e2 => q _ e2
  · have := of_decide_eq_true hb
    show _ = if 10000 < a.length + b.length then _ else _
    rw [if_pos (by omega)]
  · have := of_decide_eq_false hb
    have e9 : joinV (.str a) (.str b) = .str (a ++ b) := by
      show (if 10000 < a.length + b.length then _ else _) = _
      rw [if_neg (by omega)]
    rw [e9]
    exact fun H1 e1 Q k => (ev_var rfl) H1 e1 _ fun H2 e2 => (ev_var rfl) H2 (e1.trans e2) _ fun H3 e3 => ⟨a, b, rfl, rfl, sz_of (by omega), k H3 (e2.trans e3)⟩
theorem ok_value_of_two (D : Dn K mg "value_of_two" s_value_of_two ["name", "first", "second"]) (c__are_alike : C8.Cal P w K mg base 2 "_are_alike" (sp__are_alike K) []) (c_is_integer : C8.Cal P w K mg base 1 "is_integer" (sp_is_integer K) []) (z_isinstance : mg "isinstance" = none) (z_str : mg "str" = none) {p_OF_INTEGERS_of_two : Addr} {es_OF_INTEGERS_of_two : Array DictEntry} {n_OF_INTEGERS_of_two : Nat} (g_OF_INTEGERS_of_two : ∃ u, mg "OF_INTEGERS_of_two" = some u ∧ RelV (.ref p_OF_INTEGERS_of_two) u) (h_OF_INTEGERS_of_two : KDict K w p_OF_INTEGERS_of_two es_OF_INTEGERS_of_two n_OF_INTEGERS_of_two) {p_OF_TEXTS_of_two : Addr} {es_OF_TEXTS_of_two : Array DictEntry} {n_OF_TEXTS_of_two : Nat} (g_OF_TEXTS_of_two : ∃ u, mg "OF_TEXTS_of_two" = some u ∧ RelV (.ref p_OF_TEXTS_of_two) u) (h_OF_TEXTS_of_two : KDict K w p_OF_TEXTS_of_two es_OF_TEXTS_of_two n_OF_TEXTS_of_two) {p__OF_ALIKE : Addr} {es__OF_ALIKE : Array DictEntry} {n__OF_ALIKE : Nat} (g__OF_ALIKE : ∃ u, mg "_OF_ALIKE" = some u ∧ RelV (.ref p__OF_ALIKE) u) (h__OF_ALIKE : KDict K w p__OF_ALIKE es__OF_ALIKE n__OF_ALIKE) {p__OF_ANY : Addr} {es__OF_ANY : Array DictEntry} {n__OF_ANY : Nat} (g__OF_ANY : ∃ u, mg "_OF_ANY" = some u ∧ RelV (.ref p__OF_ANY) u) (h__OF_ANY : KDict K w p__OF_ANY es__OF_ANY n__OF_ANY) (tab : ∀ nm x y, nm ∈ binNames → Ok x → Ok y → Opr2 P w K mg base p__OF_ANY p__OF_ALIKE p_OF_INTEGERS_of_two p_OF_TEXTS_of_two nm x y (binV nm x y)) :
    C8.Cal P w K mg base 5 "value_of_two" (sp_value_of_two K) [] := by
  refine cal_of D sc_value_of_two (fun vs H Q E h => ?_) (fun f cdv A outer s H vs Q E hr h => ?_)
  · obtain ⟨_, _, _, rfl, _⟩ := h
    rfl
  refine ⟨_, (pss_cons (ps_if (pt_cmpR (op_in_kd h__OF_ANY) (pv 0) (C8.pe_gc rfl g__OF_ANY) (by with_unfolding_all rfl))
      (pss_cons (ps_set (i := 3) sc_value_of_two.nd rfl (.inl rfl) (pe_ix ix_kdict (C8.pe_gc rfl g__OF_ANY) (pv 0) (fun _ _ => rfl)))
    (pss_one (ps_ret (pe_callH (i := 3) hr rfl (Or.inl rfl) (pa_cons (pv 1) (pa_cons (pv 2) pa_nil))))))
      pss_nil)
    (pss_cons (ps_if (pt_cmpR (op_in_kd h__OF_ALIKE) (pv 0) (C8.pe_gc rfl g__OF_ALIKE) (by with_unfolding_all rfl))
      (pss_cons (ps_set (i := 3) sc_value_of_two.nd rfl (.inl rfl) (pe_ix ix_kdict (C8.pe_gc rfl g__OF_ALIKE) (pv 0) (fun _ _ => rfl)))
    (pss_one (ps_ret (pe_ifExp (pt_val (C8.pe_c c__are_alike hr (by decide) (by rfl) (pa_cons (pv 1) (pa_cons (pv 2) pa_nil)))) (pe_callH (i := 3) hr rfl (Or.inl rfl) (pa_cons (pv 1) (pa_cons (pv 2) pa_nil))) pe_non))))
      pss_nil)
    (pss_cons (ps_if (pt_cmpR (op_in_kd h_OF_INTEGERS_of_two) (pv 0) (C8.pe_gc rfl g_OF_INTEGERS_of_two) (by with_unfolding_all rfl))
      (pss_cons (ps_set (i := 3) sc_value_of_two.nd rfl (.inl rfl) (pe_ix ix_kdict (C8.pe_gc rfl g_OF_INTEGERS_of_two) (pv 0) (fun _ _ => rfl)))
    (pss_one (ps_ret (pe_ifExp (PW.pt (pw_and (pt_val (C8.pe_c c_is_integer hr (by decide) (by rfl) (pa_cons (pv 1) pa_nil))) (pw_and1 (pt_val (C8.pe_c c_is_integer hr (by decide) (by rfl) (pa_cons (pv 2) pa_nil)))))) (pe_callH (i := 3) hr rfl (Or.inl rfl) (pa_cons (pv 1) (pa_cons (pv 2) pa_nil))) pe_non))))
      pss_nil)
    (pss_cons (ps_if (pt_cmpR (op_in_kd h_OF_TEXTS_of_two) (pv 0) (C8.pe_gc rfl g_OF_TEXTS_of_two) (by with_unfolding_all rfl))
      (pss_cons (ps_set (i := 3) sc_value_of_two.nd rfl (.inl rfl) (pe_ix ix_kdict (C8.pe_gc rfl g_OF_TEXTS_of_two) (pv 0) (fun _ _ => rfl)))
    (pss_one (ps_ret (pe_ifExp (PW.pt (pw_and (pt_val (pe_callB call_isi (by rfl) z_isinstance (by decide +kernel) (pa_cons (pv 1) (pa_cons (pe_bltn (v := .ty "str") (u := .type "str") rfl z_str (by decide +kernel) rfl) pa_nil)))) (pw_and1 (pt_val (pe_callB call_isi (by rfl) z_isinstance (by decide +kernel) (pa_cons (pv 2) (pa_cons (pe_bltn (v := .ty "str") (u := .type "str") rfl z_str (by decide +kernel) rfl) pa_nil))))))) (pe_callH (i := 3) hr rfl (Or.inl rfl) (pa_cons (pv 1) (pa_cons (pv 2) pa_nil))) pe_non))))
      pss_nil)
    (pss_cons ps_never
    (pss_one ps_never)))))), ?_⟩
  obtain ⟨nm, x, y, rfl, hnm, hx, hy, q⟩ := h
  have T := tab nm x y hnm hx hy
  have no : ∀ {d : Addr} {H0 : Hp}, PySem.W.nsIn K d nm = some none → EvT (tTest (tOp (fun x y H Q => ∃ (z : Str) (r : Option Value), x = .str z ∧ y = .ref d ∧ PySem.W.nsIn K d z = some r ∧ Q (.bl r.isSome) H) (tVar 0) (tC (.ref d)))) (start n_value_of_two [.str nm, x, y]) H0 false := fun e => et_test (ev_op (ev_var rfl) ev_c (rv_inKD e))
  have yes : ∀ {d f : Addr} {H0 : Hp}, PySem.W.nsIn K d nm = some (some (.ref f)) → EvT (tTest (tOp (fun x y H Q => ∃ (z : Str) (r : Option Value), x = .str z ∧ y = .ref d ∧ PySem.W.nsIn K d z = some r ∧ Q (.bl r.isSome) H) (tVar 0) (tC (.ref d)))) (start n_value_of_two [.str nm, x, y]) H0 true := fun e => et_test (ev_op (ev_var rfl) ev_c (rv_inKD e))
  generalize binV nm x y = z at T q
  cases T with
  | any e1 hh hp =>
    refine q_when (yes e1) (fun _ H1 x1 => ?_) fun hb => nomatch hb
    refine q_asg (ev_op ev_c (ev_var rfl) (rv_ixKD (v := .ref _) h__OF_ANY e1 rfl)) fun H2 x2 => ?_
    exact s_ret (ec_held rfl hh hp (ev_var rfl) (ev_var rfl)) fun H3 x3 => q _ ((x1.trans x2).trans x3)
  | alike e1 e2 hh =>
    refine q_when (no e1) (fun hb => nomatch hb) fun _ H1 x1 => ?_
    refine q_when (yes e2) (fun _ H2 x2 => ?_) fun hb => nomatch hb
    refine q_asg (ev_op ev_c (ev_var rfl) (rv_ixKD (v := .ref _) h__OF_ALIKE e2 rfl)) fun H3 x3 => ?_
    refine s_ret (ev_if (et_B (ec_alike (ev_var rfl) (ev_var rfl) hx hy)) (fun hb => ?_) fun hb => ?_) fun H4 x4 => q _ (((x1.trans x2).trans x3).trans x4)
    · exact ev_is (ec_held rfl hh ⟨hx, hy⟩ (ev_var rfl) (ev_var rfl)) (by rw [if_pos hb])
    · exact ev_is ev_c (by rw [if_neg (by rw [hb]; decide)])
  | nums e1 e2 e3 hh =>
    refine q_when (no e1) (fun hb => nomatch hb) fun _ H1 x1 => ?_
    refine q_when (no e2) (fun hb => nomatch hb) fun _ H2 x2 => ?_
    refine q_when (yes e3) (fun _ H3 x3 => ?_) fun hb => nomatch hb
    refine q_asg (ev_op ev_c (ev_var rfl) (rv_ixKD (v := .ref _) h_OF_INTEGERS_of_two e3 rfl)) fun H4 x4 => ?_
    refine s_ret (ev_if (b := isInt x && isInt y) (et_and (et_B (ec_isint0 (ev_var rfl) hx.pl)) fun _ => et_B (ec_isint0 (ev_var rfl) hy.pl)) (fun hb => ?_) fun hb => ?_) fun H5 x5 => q _ ((((x1.trans x2).trans x3).trans x4).trans x5)
    · cases hx <;> cases hy <;> first | (simp [isInt] at hb; done) | exact ec_held rfl hh ⟨_, _, rfl, rfl⟩ (ev_var rfl) (ev_var rfl)
    · cases hx <;> cases hy <;> first | (simp [isInt] at hb; done) | exact ev_c
  | wrds e1 e2 e3 e4 hh =>
    refine q_when (no e1) (fun hb => nomatch hb) fun _ H1 x1 => ?_
    refine q_when (no e2) (fun hb => nomatch hb) fun _ H2 x2 => ?_
    refine q_when (no e3) (fun hb => nomatch hb) fun _ H3 x3 => ?_
    refine q_when (yes e4) (fun _ H4 x4 => ?_) fun hb => nomatch hb
    refine q_asg (ev_op ev_c (ev_var rfl) (rv_ixKD (v := .ref _) h_OF_TEXTS_of_two e4 rfl)) fun H5 x5 => ?_
    refine s_ret (ev_if (b := isStr x && isStr y) (et_and (et_B (ev_isStr (ev_var rfl) hx)) fun _ => et_B (ev_isStr (ev_var rfl) hy)) (fun hb => ?_) fun hb => ?_) fun H6 x6 => q _ (((((x1.trans x2).trans x3).trans x4).trans x5).trans x6)
    · cases hx with
      | str a ha =>
        cases hy with
        | str b hb2 => exact ec_held rfl hh ⟨_, _, rfl, rfl, ha.2, hb2.2⟩ (ev_var rfl) (ev_var rfl)
        | _ => simp [isStr] at hb
      | _ => simp [isStr] at hb
    · cases hx <;> cases hy <;> first | (simp [isStr] at hb; done) | exact ev_c
theorem ok_binary (D : Dn K mg "binary" s_binary ["name", "first", "second"]) (c_value_of_two : C8.Cal P w K mg base 5 "value_of_two" (sp_value_of_two K) []) :
    C8.Cal P w K mg base 6 "binary" (sp_binary K) [] := by
  refine cal_of D sc_binary (fun vs H Q E h => ?_) (fun f cdv A outer s H vs Q E hr h => ?_)
  · obtain ⟨_, _, _, rfl, _⟩ := h
    rfl
  refine ⟨_, (pss_one (ps_ret (C8.pe_c c_value_of_two hr (by decide) (by rfl) (pa_cons (pv 0) (pa_cons (pv 1) (pa_cons (pv 2) pa_nil)))))), ?_⟩
  obtain ⟨nm, x, y, rfl, hnm, hx, hy, q⟩ := h
  exact s_ret (ec_two hnm hx hy (ev_var rfl) (ev_var rfl) (ev_var rfl)) fun H2 e2 => q _ e2
theorem ok__negate (D : Dn K mg "_negate" s__negate ["number"]) :
    C8.Cal P w K mg base 1 "_negate" (sp__negate K) [] := by
  refine cal_of D sc__negate (fun vs H Q E h => ?_) (fun f cdv A outer s H vs Q E hr h => ?_)
  · obtain ⟨_, rfl, _⟩ := h
    rfl
  refine ⟨_, (pss_one (ps_ret (pe_un un_neg (pv 0)))), ?_⟩
  obtain ⟨i, rfl, q⟩ := h
  exact s_ret (ev_un (ev_var rfl) ru_neg) fun H1 e1 => q H1 e1
theorem ok__length (D : Dn K mg "_length" s__length ["text"]) (z_len : mg "len" = none) :
    C8.Cal P w K mg base 1 "_length" (sp__length K) [] := by
  refine cal_of D sc__length (fun vs H Q E h => ?_) (fun f cdv A outer s H vs Q E hr h => ?_)
  · obtain ⟨_, rfl, _⟩ := h
    rfl
  refine ⟨_, (pss_one (ps_ret (pe_callB call_len_str (by rfl) z_len PySem.boot_len (pa_cons (pv 0) pa_nil)))), ?_⟩
  obtain ⟨s, rfl, hs, q⟩ := h
  exact s_ret (ev_lenS (ev_var rfl) (by omega)) fun H1 e1 => q H1 e1
theorem ok_value_of_one (D : Dn K mg "value_of_one" s_value_of_one ["name", "value"]) (c_is_integer : C8.Cal P w K mg base 1 "is_integer" (sp_is_integer K) []) (c_negated : C8.Cal P w K mg base 1 "negated" (sp_negated K) []) (z_isinstance : mg "isinstance" = none) (z_str : mg "str" = none) {p_OF_INTEGERS_of_one : Addr} {es_OF_INTEGERS_of_one : Array DictEntry} {n_OF_INTEGERS_of_one : Nat} (g_OF_INTEGERS_of_one : ∃ u, mg "OF_INTEGERS_of_one" = some u ∧ RelV (.ref p_OF_INTEGERS_of_one) u) (h_OF_INTEGERS_of_one : KDict K w p_OF_INTEGERS_of_one es_OF_INTEGERS_of_one n_OF_INTEGERS_of_one) {p_OF_TEXTS_of_one : Addr} {es_OF_TEXTS_of_one : Array DictEntry} {n_OF_TEXTS_of_one : Nat} (g_OF_TEXTS_of_one : ∃ u, mg "OF_TEXTS_of_one" = some u ∧ RelV (.ref p_OF_TEXTS_of_one) u) (h_OF_TEXTS_of_one : KDict K w p_OF_TEXTS_of_one es_OF_TEXTS_of_one n_OF_TEXTS_of_one) {fS fT : Addr} (eS : PySem.W.nsIn K p_OF_INTEGERS_of_one "negate" = some (some (.ref fS))) (hS : L2.Held P w K mg base 4 fS (sp__negate K)) (eN : PySem.W.nsIn K p_OF_INTEGERS_of_one "length" = some none) (eT : PySem.W.nsIn K p_OF_TEXTS_of_one "length" = some (some (.ref fT))) (hT : L2.Held P w K mg base 4 fT (sp__length K)) :
    C8.Cal P w K mg base 5 "value_of_one" (sp_value_of_one K) [] := by
  refine cal_of D sc_value_of_one (fun vs H Q E h => ?_) (fun f cdv A outer s H vs Q E hr h => ?_)
  · obtain ⟨_, _, rfl, _⟩ := h
    rfl
  refine ⟨_, (pss_cons (ps_if (pt_cmpR op_eq (pv 0) pe_str (nomark _))
      (pss_one (ps_ret (C8.pe_c c_negated hr (by decide) (by rfl) (pa_cons (pv 1) pa_nil))))
      pss_nil)
    (pss_cons (ps_if (pt_cmpR op_eq (pv 0) pe_str (nomark _))
      (pss_one (ps_ret (pe_cmpR op_isN (pv 1) pe_non (nomark _))))
      pss_nil)
    (pss_cons (ps_if (pt_cmpR (op_in_kd h_OF_INTEGERS_of_one) (pv 0) (C8.pe_gc rfl g_OF_INTEGERS_of_one) (by with_unfolding_all rfl))
      (pss_cons (ps_set (i := 2) sc_value_of_one.nd rfl (.inl rfl) (pe_ix ix_kdict (C8.pe_gc rfl g_OF_INTEGERS_of_one) (pv 0) (fun _ _ => rfl)))
    (pss_one (ps_ret (pe_ifExp (pt_val (C8.pe_c c_is_integer hr (by decide) (by rfl) (pa_cons (pv 1) pa_nil))) (pe_callH (i := 2) hr rfl (Or.inl rfl) (pa_cons (pv 1) pa_nil)) pe_non))))
      pss_nil)
    (pss_cons (ps_if (pt_cmpR (op_in_kd h_OF_TEXTS_of_one) (pv 0) (C8.pe_gc rfl g_OF_TEXTS_of_one) (by with_unfolding_all rfl))
      (pss_cons (ps_set (i := 2) sc_value_of_one.nd rfl (.inl rfl) (pe_ix ix_kdict (C8.pe_gc rfl g_OF_TEXTS_of_one) (pv 0) (fun _ _ => rfl)))
    (pss_one (ps_ret (pe_ifExp (pt_val (pe_callB call_isi (by rfl) z_isinstance (by decide +kernel) (pa_cons (pv 1) (pa_cons (pe_bltn (v := .ty "str") (u := .type "str") rfl z_str (by decide +kernel) rfl) pa_nil)))) (pe_callH (i := 2) hr rfl (Or.inl rfl) (pa_cons (pv 1) pa_nil)) pe_non))))
      pss_nil)
    (pss_cons ps_never
    (pss_one ps_never)))))), ?_⟩
  obtain ⟨nm, x, rfl, hnm, hx, q⟩ := h
  simp only [unNames, List.mem_cons, List.not_mem_nil, or_false] at hnm
  rcases hnm with rfl | rfl | rfl | rfl
  · exact q_when (b := true) (et_test (ev_is (ev_op (ev_var rfl) ev_c (rv_eq rfl)) (by decide +kernel))) (fun _ H1 e1 => s_ret (v := unV "not" x) (ec_neg3 (ev_var rfl)) fun H2 e2 => q H2 (e1.trans e2)) fun h => nomatch h
  · refine q_when (b := false) (et_test (ev_is (ev_op (ev_var rfl) ev_c (rv_eq rfl)) (by decide +kernel))) (fun h => nomatch h) fun _ H1 e1 => ?_
    exact q_when (b := true) (et_test (ev_is (ev_op (ev_var rfl) ev_c (rv_eq rfl)) (by decide +kernel))) (fun _ H2 e2 => s_ret (v := unV "is null" x) (ev_is (ev_op (ev_var rfl) ev_c rv_isN) rfl) fun H3 e3 => q H3 ((e1.trans e2).trans e3)) fun h => nomatch h
  · refine q_when (b := false) (et_test (ev_is (ev_op (ev_var rfl) ev_c (rv_eq rfl)) (by decide +kernel))) (fun h => nomatch h) fun _ H1 e1 => ?_
    refine q_when (b := false) (et_test (ev_is (ev_op (ev_var rfl) ev_c (rv_eq rfl)) (by decide +kernel))) (fun h => nomatch h) fun _ H2 e2 => ?_
    refine q_when (b := true) (et_test (ev_op (ev_var rfl) ev_c (rv_inKD eS))) (fun _ H3 e3 => ?_) fun h => nomatch h
    refine q_asg (ev_op ev_c (ev_var rfl) (rv_ixKD (v := .ref fS) h_OF_INTEGERS_of_one eS rfl)) fun H4 e4 => ?_
    have hv : unV "negate" x = negV x := by unfold unV; rw [if_neg (by decide +kernel), if_neg (by decide +kernel), if_pos (by decide +kernel)]
    refine s_ret (v := unV "negate" x) (ev_if (et_B (ec_isint0 (ev_var rfl) hx.pl)) (fun hb => ?_) fun hb => ?_) fun H5 e5 => q H5 ((e1.trans e2).trans ((e3.trans e4).trans e5))
    · rw [hv]
      cases hx with
      | int i => exact fun H6 e6 Q q => ⟨fS, _, rfl, hS, .int i, rfl, i, rfl, fun H7 e7 => q H7 e7⟩
      | _ => simp [isInt] at hb
    · rw [hv]
      cases hx with
      | int i => simp [isInt] at hb
      | _ => exact ev_c
  · refine q_when (b := false) (et_test (ev_is (ev_op (ev_var rfl) ev_c (rv_eq rfl)) (by decide +kernel))) (fun h => nomatch h) fun _ H1 e1 => ?_
    refine q_when (b := false) (et_test (ev_is (ev_op (ev_var rfl) ev_c (rv_eq rfl)) (by decide +kernel))) (fun h => nomatch h) fun _ H2 e2 => ?_
    refine q_when (b := false) (et_test (ev_op (ev_var rfl) ev_c (rv_inKD eN))) (fun h => nomatch h) fun _ H3 e3 => ?_
    refine q_when (b := true) (et_test (ev_op (ev_var rfl) ev_c (rv_inKD eT))) (fun _ H4 e4 => ?_) fun h => nomatch h
    refine q_asg (ev_op ev_c (ev_var rfl) (rv_ixKD (v := .ref fT) h_OF_TEXTS_of_one eT rfl)) fun H5 e5 => ?_
    have hv : unV "length" x = lenV x := by unfold unV; rw [if_neg (by decide +kernel), if_neg (by decide +kernel), if_neg (by decide +kernel)]
    refine s_ret (v := unV "length" x) (ev_if (et_B (ev_isStr (ev_var rfl) hx)) (fun hb => ?_) fun hb => ?_) fun H6 e6 => q H6 ((e1.trans e2).trans ((e3.trans e4).trans (e5.trans e6)))
    · rw [hv]
      cases hx with
      | str s hs => exact fun H6 e6 Q q => ⟨fT, _, rfl, hT, .str s, rfl, s, rfl, hs.2, fun H7 e7 => q H7 e7⟩
      | _ => simp [isStr] at hb
    · rw [hv]
      cases hx with
      | str s hs => simp [isStr] at hb
      | _ => exact ev_c
theorem ok_unary (D : Dn K mg "unary" s_unary ["name", "value"]) (c_value_of_one : C8.Cal P w K mg base 5 "value_of_one" (sp_value_of_one K) []) :
    C8.Cal P w K mg base 6 "unary" (sp_unary K) [] := by
  refine cal_of D sc_unary (fun vs H Q E h => ?_) (fun f cdv A outer s H vs Q E hr h => ?_)
  · obtain ⟨_, _, rfl, _⟩ := h
    rfl
  refine ⟨_, (pss_one (ps_ret (C8.pe_c c_value_of_one hr (by decide) (by rfl) (pa_cons (pv 0) (pa_cons (pv 1) pa_nil))))), ?_⟩
  obtain ⟨nm, x, rfl, hnm, hx, q⟩ := h
  exact s_ret (ec_one hnm hx (ev_var rfl) (ev_var rfl)) fun H2 e2 => q _ e2
theorem ok_evaluate {rn : Nat} (D : Dn K mg "evaluate" s_evaluate ["expression", "row"]) (c_binary : C8.Cal P w K mg base 6 "binary" (sp_binary K) []) (c_unary : C8.Cal P w K mg base 6 "unary" (sp_unary K) []) (z_len : mg "len" = none) (c_evaluate : C8.Cal P w K mg base (7 + rn) "evaluate" (spR_evaluate rn K) []) :
    C8.Cal P w K mg base (7 + rn + 1) "evaluate" (spR_evaluate (rn + 1) K) [] := by
  refine cal_of D sc_evaluate (fun vs H Q E h => ?_) (fun f cdv A outer s H vs Q E hr h => ?_)
  · obtain ⟨_, _, _, _, rfl, _⟩ := h
    rfl
  refine ⟨_, (pss_cons (ps_set (i := 2) sc_evaluate.nd rfl (.inl rfl) (pe_ix ix_tup (pv 0) pe_int (fun _ _ => rfl)))
    (pss_cons (ps_if (pt_cmpR op_eq (pv 2) pe_str (nomark _))
      (pss_one (ps_ret (pe_ix ix_tup (pv 0) pe_int (fun _ _ => rfl))))
      pss_nil)
    (pss_cons (ps_if (pt_cmpR op_eq (pv 2) pe_str (nomark _))
      (pss_cons (ps_set (i := 3) sc_evaluate.nd rfl (.inl rfl) (pe_ix ix_tup (pv 0) pe_int (fun _ _ => rfl)))
    (pss_one (ps_ret (pe_ifExp (pt_cmpR op_lt (pv 3) (pe_callB call_len_seq (by rfl) z_len PySem.boot_len (pa_cons (pv 1) pa_nil)) (nomark _)) (pe_ix ix_list (pv 1) (pv 3) (fun _ _ => rfl)) pe_non))))
      pss_nil)
    (pss_cons (ps_if (pt_cmpR op_eq (pv 2) pe_str (nomark _))
      (pss_one (ps_ret (C8.pe_c c_unary hr (by omega) (by rfl) (pa_cons (pe_ix ix_tup (pv 0) pe_int (fun _ _ => rfl)) (pa_cons (C8.pe_c c_evaluate hr (Nat.le_refl _) (by rfl) (pa_cons (pe_ix ix_tup (pv 0) pe_int (fun _ _ => rfl)) (pa_cons (pv 1) pa_nil))) pa_nil)))))
      pss_nil)
    (pss_cons (ps_if (pt_cmpR op_eq (pv 2) pe_str (nomark _))
      (pss_one (ps_ret (C8.pe_c c_binary hr (by omega) (by rfl) (pa_cons (pe_ix ix_tup (pv 0) pe_int (fun _ _ => rfl)) (pa_cons (C8.pe_c c_evaluate hr (Nat.le_refl _) (by rfl) (pa_cons (pe_ix ix_tup (pv 0) pe_int (fun _ _ => rfl)) (pa_cons (pv 1) pa_nil))) (pa_cons (C8.pe_c c_evaluate hr (Nat.le_refl _) (by rfl) (pa_cons (pe_ix ix_tup (pv 0) pe_int (fun _ _ => rfl)) (pa_cons (pv 1) pa_nil))) pa_nil))))))
      pss_nil)
    (pss_cons ps_never
    (pss_cons ps_never
    (pss_one ps_never)))))))), ?_⟩
  obtain ⟨v, e, a, xs, rfl, ⟨hd, hdep, wd, hok⟩, hS, hx, hl, q⟩ := h
  have form : ∀ {σ : L2.St} {H0 : Hp} {s t : Str} {b : Bool}, σ[2]? = some (some (.str s)) → decide (V.str s = V.str t) = b → EvT (tTest (tOp rEq (tVar 2) (tC (.str t)))) σ H0 b := fun h0 hb => et_test (ev_is (ev_op (ev_var h0) ev_c (rv_eq rfl)) (by rw [hb]))
  cases hok with
  | col n hn =>
    obtain ⟨b, ys, rfl, hT, hds⟩ := dp_tupD hd
    cases hds with | cons h1 hds =>
    cases hds with | cons h2 hds =>
    cases hds
    cases h1
    cases h2
    have ix : ∀ {σ : L2.St} {H0 : Hp} {i : Nat} {x : V}, σ[0]? = some (some (.ref b)) → Ex H H0 → ([V.str "column", .int (n : Int)] : List V)[i]? = some x → Ev (tOp (rIxT K) (tVar 0) (tC (.int (i : Int)))) σ H0 x := fun h0 e0 hi => ev_op (ev_var h0) ev_c (rv_ixT (ex_t e0 hT) (atI_nat hi))
    refine q_asg (ix (i := 0) rfl (Ex.refl H) rfl) fun H1 e1 => ?_
    refine q_when (form rfl (show decide (V.str "column" = V.str "constant") = false by decide +kernel)) (fun h => nomatch h) fun _ H2 e2 => ?_
    refine q_when (form rfl (show decide (V.str "column" = V.str "column") = true by decide +kernel)) (fun _ H3 e3 => ?_) fun h => nomatch h
    refine q_asg (ix (i := 1) rfl ((e1.trans e2).trans e3) rfl) fun H4 e4 => ?_
    have x4 := ((e1.trans e2).trans e3).trans e4
    refine s_ret (v := evE xs (.col n)) (ev_if (b := decide ((n : Int) < (xs.length : Int))) (et_test (ev_op (ev_var rfl) (ev_len (ev_var rfl) (ex_l x4 hS)) rv_I0)) (fun hb => ?_) fun hb => ?_) fun H5 e5 => q H5 (x4.trans e5)
    · have hlt : n < xs.length := by have := of_decide_eq_true hb; omega
      exact ev_op (ev_var rfl) (ev_var rfl) (rv_ixL (ex_l x4 hS) (atI_nat (by rw [List.getElem?_eq_getElem hlt]; show some xs[n] = some (xs.getD n .non); rw [List.getD_eq_getElem?_getD, List.getElem?_eq_getElem hlt]; rfl)))
    · have hlt : ¬ n < xs.length := by have := of_decide_eq_false hb; omega
      refine ev_is ev_c ?_
      show V.non = xs.getD n .non
      rw [List.getD_eq_getElem?_getD, List.getElem?_eq_none (by omega)]
      rfl
  | cst c hc =>
    obtain ⟨b, ys, rfl, hT, hds⟩ := dp_tupD hd
    cases hds with | cons h1 hds =>
    cases hds with | cons h2 hds =>
    cases hds
    cases h1
    obtain rfl := vDc_is hc.1.pl h2
    refine q_asg (v := .str "constant") (ev_op (ev_var rfl) ev_c (rv_ixT hT (atI_nat (j := 0) rfl))) fun H1 e1 => ?_
    refine q_when (form rfl (show decide (V.str "constant" = V.str "constant") = true by decide +kernel)) (fun _ H2 e2 => ?_) fun h => nomatch h
    exact s_ret (ev_op (ev_var rfl) ev_c (rv_ixT (ex_t (e1.trans e2) hT) (atI_nat (j := 1) rfl))) fun H3 e3 => q H3 ((e1.trans e2).trans e3)
  | un nm x hnm hok1 =>
    obtain ⟨b, ys, rfl, hT, hds⟩ := dp_tupD hd
    cases hds with | cons h1 hds =>
    cases hds with | cons h2 hds =>
    cases hds with | cons h3 hds =>
    cases hds
    cases h1
    cases h2
    refine q_asg (v := .str "unary") (ev_op (ev_var rfl) ev_c (rv_ixT hT (atI_nat (j := 0) rfl))) fun H1 e1 => ?_
    refine q_when (form rfl (show decide (V.str "unary" = V.str "constant") = false by decide +kernel)) (fun h => nomatch h) fun _ H2 e2 => ?_
    refine q_when (form rfl (show decide (V.str "unary" = V.str "column") = false by decide +kernel)) (fun h => nomatch h) fun _ H3 e3 => ?_
    refine q_when (form rfl (show decide (V.str "unary" = V.str "unary") = true by decide +kernel)) (fun _ H4 e4 => ?_) fun h => nomatch h
    have x4 := ((e1.trans e2).trans e3).trans e4
    have hdx : x.dep + 1 ≤ rn + 1 := hdep
    cases rn with
    | zero => cases x <;> simp [Cnd.dep] at hdx
    | succ m =>
    exact s_ret (ec_one hnm (ev_ok hx hok1) (ev_op (ev_var rfl) ev_c (rv_ixT (ex_t x4 hT) (atI_nat (j := 1) rfl))) (ec_evalR (n := m) (e := x) (ev_op (ev_var rfl) ev_c (rv_ixT (ex_t x4 hT) (atI_nat (j := 2) rfl))) (ev_var rfl) ⟨ex_dp x4 h3, by omega, wd, hok1⟩ (ex_l x4 hS) hx hl)) fun H5 e5 => q H5 (x4.trans e5)
  | bin nm x y hnm hok1 hok2 =>
    obtain ⟨b, ys, rfl, hT, hds⟩ := dp_tupD hd
    cases hds with | cons h1 hds =>
    cases hds with | cons h2 hds =>
    cases hds with | cons h3 hds =>
    cases hds with | cons h4 hds =>
    cases hds
    cases h1
    cases h2
    refine q_asg (v := .str "binary") (ev_op (ev_var rfl) ev_c (rv_ixT hT (atI_nat (j := 0) rfl))) fun H1 e1 => ?_
    refine q_when (form rfl (show decide (V.str "binary" = V.str "constant") = false by decide +kernel)) (fun h => nomatch h) fun _ H2 e2 => ?_
    refine q_when (form rfl (show decide (V.str "binary" = V.str "column") = false by decide +kernel)) (fun h => nomatch h) fun _ H3 e3 => ?_
    refine q_when (form rfl (show decide (V.str "binary" = V.str "unary") = false by decide +kernel)) (fun h => nomatch h) fun _ H4 e4 => ?_
    refine q_when (form rfl (show decide (V.str "binary" = V.str "binary") = true by decide +kernel)) (fun _ H5 e5 => ?_) fun h => nomatch h
    have x5 := (((e1.trans e2).trans e3).trans e4).trans e5
    have hdx : max x.dep y.dep + 1 ≤ rn + 1 := hdep
    have hpos : 0 < max x.dep y.dep := by cases x <;> simp [Cnd.dep] <;> omega
    cases rn with
    | zero => omega
    | succ m =>
    exact s_ret (ec_two hnm (ev_ok hx hok1) (ev_ok hx hok2) (ev_op (ev_var rfl) ev_c (rv_ixT (ex_t x5 hT) (atI_nat (j := 1) rfl))) (ec_evalR (n := m) (e := x) (ev_op (ev_var rfl) ev_c (rv_ixT (ex_t x5 hT) (atI_nat (j := 2) rfl))) (ev_var rfl) ⟨ex_dp x5 h3, by omega, wd, hok1⟩ (ex_l x5 hS) hx hl) (ec_evalR (n := m) (e := y) (ev_op (ev_var rfl) ev_c (rv_ixT (ex_t x5 hT) (atI_nat (j := 3) rfl))) (ev_var rfl) ⟨ex_dp x5 h4, by omega, wd, hok2⟩ (ex_l x5 hS) hx hl)) fun H6 e6 => q H6 (x5.trans e6)
end

--@SPLIT
/-! ### texts that are drawn: the words for it -/
def EvLD1 (te : TE) (σ : L2.St) (p : Addr) (H : Hp) (P : List V → Prop) : Prop := ∀ H1, Ex (wo p H) H1 → Dr p H1 → ∀ Q : VK, (∀ l H2 xs, P xs → H1 l = none → Ex (wo p H1) H2 → Dr p H2 → H2 l = some (.lst xs) → Q (.ref l) H2) → te σ H1 Q
theorem dr_ne {p l : Addr} {H : Hp} (d : Dr p H) (h : H l = none) : p ≠ l := fun z => by
  obtain ⟨s, _, e⟩ := d
  rw [z, h] at e
  cases e
theorem Dr.upd {p l : Addr} {H : Hp} {o : HO} (d : Dr p H) (h : p ≠ l) : Dr p (upd H l o) := by
  obtain ⟨s, s0, e⟩ := d
  exact ⟨s, s0, by rw [upd_ne h]; exact e⟩

/-! ### rows: lists of lists -/
theorem call_list_ofK {X : L2.Cx} {K : PySem.W.Frag} (h : X.K = K) : CallR X (.type "list") (rListS K) := h ▸ call_list_of
theorem sl_listK {X : L2.Cx} {K : PySem.W.Frag} (h : X.K = K) : SlR X (rSlL K) := h ▸ sl_list
theorem pi_listK {X : L2.Cx} {K : PySem.W.Frag} {tg e : Expr} {te : TE} (h : X.K = K) (he : PE X e te) : PI X tg e (iList K te) := h ▸ pi_list he
theorem pi_tupK {X : L2.Cx} {K : PySem.W.Frag} {tg e : Expr} {te : TE} (h : X.K = K) (he : PE X e te) : PI X tg e (iTup K te) := h ▸ pi_tup he
def RowAt (H : Hp) (p : Addr) (xs : List V) : Prop := H p = some (.lst xs)
def Mn {α : Type} (R : Hp → Addr → α → Prop) : Prop := ∀ H H' q l, Ex H H' → R H q l → R H' q l
theorem RowAt.mn : Mn RowAt := fun H H' q l e h => e _ _ h
theorem Lst2.mn {α : Type} {R : Hp → Addr → α → Prop} (hm : Mn R) : Mn (Lst2 R) := fun H H' q l e h => h.mono e fun q l h => hm _ _ _ _ e h
/-- what is new since H0 -/
def nu (H0 H : Hp) : Hp := fun a => match H0 a with
  | none => H a
  | some _ => none
theorem nu_le {H0 H : Hp} : Ex (nu H0 H) H := fun a o h => by
  unfold nu at h
  split at h
  · exact h
  · cases h
theorem nu_mono {H0 H1 H2 : Hp} (e : Ex H1 H2) : Ex (nu H0 H1) (nu H0 H2) := fun a o h => by
  unfold nu at h ⊢
  cases z : H0 a with
  | none => rw [z] at h; exact e a o h
  | some u => rw [z] at h; cases h
theorem nu_back {H0 H1 H : Hp} (e : Ex H0 H1) : Ex (nu H1 H) (nu H0 H) := fun a o h => by
  unfold nu at h ⊢
  cases z : H1 a with
  | none => rw [z] at h; rw [fresh_back e z]; exact h
  | some u => rw [z] at h; cases h
theorem nu_at {H0 H : Hp} {p : Addr} {o : HO} (h0 : H0 p = none) (h : H p = some o) : nu H0 H p = some o := by
  unfold nu
  rw [h0]
  exact h
theorem nu_wo {H0 H : Hp} {D : Addr} {o : HO} (h : H0 D = some o) : Ex (nu H0 H) (wo D H) := fun a u ha => by
  have hn : a ≠ D := fun z => by
    unfold nu at ha
    rw [z, h] at ha
    cases ha
  rw [wo_ne hn]
  exact nu_le a u ha
theorem nu_wo2 {H0 H1 H : Hp} {D : Addr} {o : HO} (h : H1 D = some o) (e : Ex H0 H1) : Ex (nu H1 H) (wo D (nu H0 H)) := fun a u ha => by
  have hn : a ≠ D := fun z => by
    unfold nu at ha
    rw [z, h] at ha
    cases ha
  rw [wo_ne hn]
  exact nu_back e a u ha
theorem nu_upd {H0 H : Hp} {p : Addr} {o u : HO} (h : H0 p = some u) : nu H0 (upd H p o) = nu H0 H := by
  funext a
  unfold nu
  cases z : H0 a with
  | none => exact upd_ne (fun e => by rw [e, h] at z; cases z)
  | some v => rfl
theorem wo_nu_upd {H0 H : Hp} {D : Addr} {o : HO} : wo D (nu H0 (upd H D o)) = wo D (nu H0 H) := by
  funext a
  by_cases h : a = D
  · rw [h, wo_self, wo_self]
  · rw [wo_ne h, wo_ne h]
    unfold nu
    rw [upd_ne h]
def EvRn (R : Hp → Addr → Prop) (te : TE) (σ : L2.St) (H : Hp) : Prop := ∀ H1, Ex H H1 → ∀ Q : VK, (∀ p H2, H1 p = none → Ex H1 H2 → R (nu H1 H2) p → Q (.ref p) H2) → te σ H1 Q
def EvRo (R : Hp → Addr → Prop) (te : TE) (σ : L2.St) (H : Hp) : Prop := ∀ H1, Ex H H1 → ∀ Q : VK, (∀ p H2, H1 p = none → Ex H1 H2 → R H2 p → Q (.ref p) H2) → te σ H1 Q
/-- a new list, the items' words stand beside it -/
def Lst3 {α : Type} (R : Hp → Addr → α → Prop) (H : Hp) (p : Addr) (L : List α) : Prop := ∃ qs, H p = some (.lst (qs.map V.ref)) ∧ Al2 R (wo p H) qs L
theorem Lst3.two {α : Type} {R : Hp → Addr → α → Prop} (hm : Mn R) {H : Hp} {p : Addr} {L : List α} (h : Lst3 R H p L) : Lst2 R H p L := by
  obtain ⟨qs, h1, h2⟩ := h
  exact ⟨qs, h1, h2.mono fun q l _ => hm _ _ _ _ (wo_le _ _)⟩
section
variable {K : PySem.W.Frag} {σ : L2.St} {H : Hp} {ta tb te tl : TE} {α : Type} {R : Hp → Addr → α → Prop} {D : Ends} {tz : TS}
theorem EvRn.o {R : Hp → Addr → Prop} (hm : ∀ H H' q, Ex H H' → R H q → R H' q) (h : EvRn R te σ H) : EvRo R te σ H := fun H1 e Q q => h H1 e Q fun p H2 hp e2 hR => q p H2 hp e2 (hm _ _ _ nu_le hR)
theorem q_asgR {i : Nat} {R : Hp → Addr → Prop} (h : EvRn R te σ H) (k : ∀ p H1, H p = none → Ex H H1 → R (nu H H1) p → tz D (σ.set i (some (.ref p))) H1) : tSeq (tAsg te (gName i)) tz D σ H := h H (Ex.refl H) _ k
theorem q_asgO {i : Nat} {R : Hp → Addr → Prop} (h : EvRo R te σ H) (k : ∀ p H1, H p = none → Ex H H1 → R H1 p → tz D (σ.set i (some (.ref p))) H1) : tSeq (tAsg te (gName i)) tz D σ H := h H (Ex.refl H) _ k
theorem s_retR {R : Hp → Addr → Prop} (h : EvRn R te σ H) (k : ∀ p H1, H p = none → Ex H H1 → R (nu H H1) p → D.rt (.ref p) H1) : tRet te D σ H := h H (Ex.refl H) _ k
theorem s_retO {R : Hp → Addr → Prop} (h : EvRo R te σ H) (k : ∀ p H1, H p = none → Ex H H1 → R H1 p → D.rt (.ref p) H1) : tRet te D σ H := h H (Ex.refl H) _ k
theorem rn_list {p : Addr} {xs : List V} (ha : Ev ta σ H (.ref p)) (h : SqL K H p xs) : EvRn (fun H p => RowAt H p xs) (tCB (rListS K) (tCons ta tNil)) σ H := fun H1 e Q q => el_list ha h H1 e Q fun p H2 hp e2 h2 => q p H2 hp e2 (nu_at hp h2)
/-- [a new object for x in xs] -/
theorem er_lcD (hm : Mn R) {a : Addr} {xs : List V} {j : Nat} {vs : List Nat} (f : Nat → α) (h : Ev tl σ H (.ref a)) (hx : SqL K H a xs) (hz : xs.length ≤ 40000) (hw : ∀ x, wipe ((wipe σ vs).set j (some x)) vs = wipe σ vs)
    (he : ∀ (i : Nat) (x : V) (H1 : Hp) (D : Addr), Ex H H1 → H D = none → (∃ ys, H1 D = some (.lst ys)) → xs[i]? = some x → ∀ Q : VK, (∀ p H2, H1 p = none → Ex H1 H2 → R (wo D H2) p (f i) → Q (.ref p) H2) → te ((wipe σ vs).set j (some x)) H1 Q) :
    EvRo (fun H p => Lst3 R H p ((List.range xs.length).map f)) (tLc (iList K tl) (gName j) tYes te vs) σ H := fun H0 e0 Q q => h H0 e0 _ fun H1 e1 => ⟨a, rfl, ⟨xs, ex_l (e0.trans e1) hx⟩, fun D hD =>
  lc_list (xs := xs) (fun i H' => H1 D = none ∧ Ex H1 H' ∧ ∃ qs, H' D = some (.lst (qs.map V.ref)) ∧ Al2 R (wo D H') qs ((List.range i).map f)) ⟨hD, Ex.new hD, [], upd_same, Al2.nil⟩ (fun i H' _ p => ex_l ((e0.trans e1).trans p.2.1) hx)
    (fun i x H' hi p => by
      obtain ⟨p1, p2, qs, p3, p4⟩ := p
      refine ⟨hw x, ?_⟩
      show te ((wipe σ vs).set j (some x)) H' fun y H4 => ∃ acc, H4 D = some (.lst acc) ∧ acc.length < sizeLine ∧ _
      refine he i x H' D ((e0.trans e1).trans p2) (fresh_back (e0.trans e1) hD) ⟨_, p3⟩ hi _ fun r H4 hr e4 hR => ⟨_, e4 _ _ p3, sz_lt ?_, p1, Ex.mut (p2.trans e4) p1, qs ++ [r], by rw [upd_same, List.map_append]; rfl, ?_⟩
      · have := p4.1
        rw [List.length_map, List.length_range] at this
        have := (List.getElem?_eq_some_iff.mp hi).1
        rw [List.length_map]
        omega
      · rw [wo_upd, List.range_succ, List.map_append]
        exact (p4.mono fun q l _ => hm _ _ _ _ (wo_mono e4)).snoc hR)
    (fun H' p => by
      obtain ⟨p1, p2, qs, p3, p4⟩ := p
      exact q D H' (fresh_back e1 p1) (e1.trans p2) ⟨qs, p3, p4⟩)⟩
/-- .. objects that are wholly new -/
theorem er_lcN (hm : Mn R) {a : Addr} {xs : List V} {j : Nat} {vs : List Nat} (f : Nat → α) (h : Ev tl σ H (.ref a)) (hx : SqL K H a xs) (hz : xs.length ≤ 40000) (hw : ∀ x, wipe ((wipe σ vs).set j (some x)) vs = wipe σ vs)
    (he : ∀ (i : Nat) (x : V) (H1 : Hp), Ex H H1 → xs[i]? = some x → EvRn (fun H q => R H q (f i)) te ((wipe σ vs).set j (some x)) H1) :
    EvRn (fun H p => Lst2 R H p ((List.range xs.length).map f)) (tLc (iList K tl) (gName j) tYes te vs) σ H := fun H0 e0 Q q => h H0 e0 _ fun H1 e1 => ⟨a, rfl, ⟨xs, ex_l (e0.trans e1) hx⟩, fun D hD =>
  lc_list (xs := xs) (fun i H' => H1 D = none ∧ Ex H1 H' ∧ ∃ qs, H' D = some (.lst (qs.map V.ref)) ∧ Al2 R (wo D (nu H0 H')) qs ((List.range i).map f)) ⟨hD, Ex.new hD, [], upd_same, Al2.nil⟩ (fun i H' _ p => ex_l ((e0.trans e1).trans p.2.1) hx)
    (fun i x H' hi p => by
      obtain ⟨p1, p2, qs, p3, p4⟩ := p
      refine ⟨hw x, ?_⟩
      show te ((wipe σ vs).set j (some x)) H' fun y H4 => ∃ acc, H4 D = some (.lst acc) ∧ acc.length < sizeLine ∧ _
      refine he i x H' ((e0.trans e1).trans p2) hi H' (Ex.refl H') _ fun r H4 hr e4 hR => ⟨_, e4 _ _ p3, sz_lt ?_, p1, Ex.mut (p2.trans e4) p1, qs ++ [r], by rw [upd_same, List.map_append]; rfl, ?_⟩
      · have := p4.1
        rw [List.length_map, List.length_range] at this
        have := (List.getElem?_eq_some_iff.mp hi).1
        rw [List.length_map]
        omega
      · rw [wo_nu_upd, List.range_succ, List.map_append]
        exact (p4.mono fun q l _ => hm _ _ _ _ (wo_mono (nu_mono e4))).snoc (hm _ _ _ _ (nu_wo2 p3 (e1.trans p2)) hR))
    (fun H' p => by
      obtain ⟨p1, p2, qs, p3, p4⟩ := p
      have hD0 := fresh_back e1 p1
      exact q D H' hD0 (e1.trans p2) ⟨qs, nu_at hD0 p3, p4.mono fun q l _ => hm _ _ _ _ (wo_le _ _)⟩)⟩
/-- [f(x) for x in a tuple] -/
theorem el_lcT {a : Addr} {xs : List V} {j : Nat} {vs : List Nat} (f : Nat → V) (h : Ev tl σ H (.ref a)) (hx : SqT K H a xs) (hz : xs.length ≤ 40000) (hw : ∀ x, wipe ((wipe σ vs).set j (some x)) vs = wipe σ vs)
    (he : ∀ (i : Nat) (x : V) (H1 : Hp), Ex H H1 → xs[i]? = some x → Ev te ((wipe σ vs).set j (some x)) H1 (f i)) :
    EvL (tLc (iTup K tl) (gName j) tYes te vs) σ H ((List.range xs.length).map f) := fun H0 e0 Q q => h H0 e0 _ fun H1 e1 => ⟨a, rfl, ⟨xs, ex_t (e0.trans e1) hx⟩, fun D hD =>
  lc_tup (xs := xs) (fun i H' => H1 D = none ∧ Ex H1 H' ∧ H' D = some (.lst ((List.range i).map f))) ⟨hD, Ex.new hD, upd_same⟩ (fun i H' _ p => ex_t ((e0.trans e1).trans p.2.1) hx)
    (fun i x H' hi p => by
      obtain ⟨p1, p2, p3⟩ := p
      refine ⟨hw x, ?_⟩
      show te ((wipe σ vs).set j (some x)) H' fun y H4 => ∃ acc, H4 D = some (.lst acc) ∧ acc.length < sizeLine ∧ _
      refine he i x H' ((e0.trans e1).trans p2) hi H' (Ex.refl H') _ fun H4 e4 => ⟨_, e4 _ _ p3, sz_lt ?_, p1, Ex.mut (p2.trans e4) p1, by rw [upd_same, List.range_succ, List.map_append]; rfl⟩
      have := (List.getElem?_eq_some_iff.mp hi).1
      rw [List.length_map, List.length_range]
      omega)
    (fun H' p => q D H' (fresh_back e1 p.1) (e1.trans p.2.1) p.2.2)⟩
theorem lc_rangeC {lo c : Int} {n : Nat} {g : TG} {tt : TT} {te : TE} {vs : List Nat} {σ : L2.St} {H1 : Hp} {D : Addr} {Qd : Hp → Prop} (Pv : Nat → Hp → Prop) (h0 : Pv 0 (upd H1 D (.lst [])))
    (hs : ∀ i H, i < n → Pv i H → g (.int (lo + (i : Nat) * c)) (wipe σ vs) H fun σ2 H2 => wipe σ2 vs = wipe σ vs ∧ tt σ2 H2 fun b H3 =>
      if b = true then te σ2 H3 fun y H4 => ∃ acc, H4 D = some (.lst acc) ∧ acc.length < sizeLine ∧ Pv (i + 1) (upd H4 D (.lst (acc ++ [y]))) else Pv (i + 1) H3) (hd : ∀ H, Pv n H → Qd H) :
    ∃ W : Nat → Nat → Hp → Prop, (∃ m, W 0 m (upd H1 D (.lst []))) ∧ ∀ i m H, W i m H →
      ((Itc lo c n).stop i H ∧ Qd H) ∨ ((Itc lo c n).go i H ∧ ∃ Nx : Hp → Prop, (∀ H', Nx H' → ∃ m', m' < m ∧ W (i + 1) m' H') ∧ ∀ x H', (Itc lo c n).yld i H x H' → g x (wipe σ vs) H' fun σ2 H2 => wipe σ2 vs = wipe σ vs ∧ tt σ2 H2 fun b H3 =>
        if b = true then te σ2 H3 fun y H4 => ∃ acc, H4 D = some (.lst acc) ∧ acc.length < sizeLine ∧ Nx (upd H4 D (.lst (acc ++ [y]))) else Nx H3) := by
  refine ⟨fun i m H => m = n - i ∧ i ≤ n ∧ Pv i H, ⟨n, by simp, Nat.zero_le _, h0⟩, ?_⟩
  rintro i m H ⟨rfl, hi, p⟩
  by_cases hlt : i < n
  · refine .inr ⟨hlt, Pv (i + 1), fun H' p' => ⟨n - (i + 1), by omega, rfl, hlt, p'⟩, fun x H' y => ?_⟩
    obtain ⟨e, y⟩ := y
    subst e y
    exact hs i _ hlt p
  · have e : i = n := by omega
    subst e
    exact .inl ⟨Nat.le_refl _, hd H p⟩
def stepsN (n c : Nat) : Nat := if 0 < n then (n - 1) / c + 1 else 0
theorem stepsN_le {n c : Nat} (hc : 0 < c) : stepsN n c ≤ n := by
  unfold stepsN
  split
  · have := Nat.div_le_self (n - 1) c
    omega
  · omega
theorem stepsN_mul {n c : Nat} (hc : 0 < c) : stepsN n c * c ≤ n + c := by
  unfold stepsN
  split
  · have h1 := Nat.div_mul_le_self (n - 1) c
    rw [Nat.add_mul, Nat.one_mul]
    omega
  · omega
theorem RgC.up {n c : Nat} (hn : n ≤ 100000) (hc : 0 < c) (hc2 : c ≤ 100000) : RgC 0 (n : Int) (c : Int) (stepsN n c) := by
  have hr : Builtin.Range.rangeSize 0 (n : Int) (c : Int) = ((stepsN n c : Nat) : Int) := by
    unfold Builtin.Range.rangeSize stepsN
    rw [if_pos (by omega)]
    by_cases h : 0 < n
    · rw [if_pos (by omega), if_pos h]
      have : (n : Int) - 0 - 1 = ((n - 1 : Nat) : Int) := by omega
      rw [this]
      rfl
    · rw [if_neg (by omega), if_neg h]
      rfl
  refine ⟨by omega, by omega, ?_, hr⟩
  have hm := stepsN_mul (n := n) hc
  have hm2 := stepsN_le (n := n) hc
  have e : ((stepsN n c : Nat) : Int) * (c : Int) = ((stepsN n c * c : Nat) : Int) := by rw [Int.natCast_mul]
  unfold Builtin.Range.small
  rw [hr]
  simp only [Builtin.Range.rangeFitsLong, Bool.and_eq_true, Bool.or_eq_true, decide_eq_true_eq, beq_iff_eq, show (c : Int) > 0 by omega, if_true, e, Int.zero_add]
  omega
theorem stepsN_at {n c i : Nat} (hc : 0 < c) (h : i < stepsN n c) : i * c < n := by
  unfold stepsN at h
  split at h
  · have h2 : i ≤ (n - 1) / c := by omega
    have := (Nat.le_div_iff_mul_le hc).mp h2
    omega
  · omega
theorem stepsN_all {n c : Nat} (hc : 0 < c) : n ≤ stepsN n c * c := by
  unfold stepsN
  split
  · have h1 := Nat.div_add_mod (n - 1) c
    have h2 := Nat.mod_lt (n - 1) hc
    rw [Nat.add_mul, Nat.one_mul, Nat.mul_comm]
    omega
  · omega
/-- .. over range(0, n, c) -/
theorem er_lcC (hm : Mn R) {n c : Nat} {tr : TA} {j : Nat} {vs : List Nat} (f : Nat → α) (h : EvA tr σ H [.int 0, .int (n : Int), .int (c : Int)]) (hn : n ≤ 40000) (hc : 0 < c) (hc2 : c ≤ 100000) (hw : ∀ x, wipe ((wipe σ vs).set j (some x)) vs = wipe σ vs)
    (he : ∀ (i : Nat) (H1 : Hp) (D : Addr), Ex H H1 → H D = none → (∃ ys, H1 D = some (.lst ys)) → i < stepsN n c → ∀ Q : VK, (∀ p H2, H1 p = none → Ex H1 H2 → R (wo D H2) p (f i) → Q (.ref p) H2) → te ((wipe σ vs).set j (some (.int ((i * c : Nat) : Int)))) H1 Q) :
    EvRo (fun H p => Lst3 R H p ((List.range (stepsN n c)).map f)) (tLc (iRng3 tr) (gName j) tYes te vs) σ H := fun H0 e0 Q q => h H0 e0 _ fun H1 e1 => ⟨0, (n : Int), (c : Int), stepsN n c, rfl, RgC.up (by omega) hc hc2, fun D hD =>
  lc_rangeC (lo := 0) (c := (c : Int)) (n := stepsN n c) (fun i H' => H1 D = none ∧ Ex H1 H' ∧ ∃ qs, H' D = some (.lst (qs.map V.ref)) ∧ Al2 R (wo D H') qs ((List.range i).map f)) ⟨hD, Ex.new hD, [], upd_same, Al2.nil⟩
    (fun i H' hi p => by
      obtain ⟨p1, p2, qs, p3, p4⟩ := p
      have e9 : (0 : Int) + ((i : Nat) : Int) * (c : Int) = ((i * c : Nat) : Int) := by rw [Int.natCast_mul, Int.zero_add]
      refine ⟨hw _, ?_⟩
      show te ((wipe σ vs).set j (some (.int ((0 : Int) + ((i : Nat) : Int) * (c : Int))))) H' fun y H4 => ∃ acc, H4 D = some (.lst acc) ∧ acc.length < sizeLine ∧ _
      rw [e9]
      refine he i H' D ((e0.trans e1).trans p2) (fresh_back (e0.trans e1) hD) ⟨_, p3⟩ hi _ fun r H4 hr e4 hR => ⟨_, e4 _ _ p3, sz_lt ?_, p1, Ex.mut (p2.trans e4) p1, qs ++ [r], by rw [upd_same, List.map_append]; rfl, ?_⟩
      · have := p4.1
        rw [List.length_map, List.length_range] at this
        have h9 := stepsN_le (n := n) hc
        rw [List.length_map]
        omega
      · rw [wo_upd, List.range_succ, List.map_append]
        exact (p4.mono fun q l _ => hm _ _ _ _ (wo_mono e4)).snoc hR)
    (fun H' p => by
      obtain ⟨p1, p2, qs, p3, p4⟩ := p
      exact q D H' (fresh_back e1 p1) (e1.trans p2) ⟨qs, p3, p4⟩)⟩
theorem cutV_nat {xs : List V} {i j : Nat} : cutV xs (some (i : Int)) (some (j : Int)) = (xs.take j).drop i := by
  unfold cutV
  rw [HT.sIx_nat, HT.sIx_nat, List.drop_take]
  by_cases hi : i ≤ xs.length
  · rw [Nat.min_eq_left hi]
    by_cases hj : j ≤ xs.length
    · rw [Nat.min_eq_left hj]
    · rw [Nat.min_eq_right (show xs.length ≤ j by omega), List.take_of_length_le (by rw [List.length_drop]; omega), List.take_of_length_le (by rw [List.length_drop]; omega)]
  · rw [Nat.min_eq_right (show xs.length ≤ i by omega), List.drop_eq_nil_of_le (Nat.le_refl _), List.drop_eq_nil_of_le (show xs.length ≤ i by omega)]
    simp
def chunk {α : Type} (xs : List α) (c i : Nat) : List α := (xs.take (i * c + c)).drop (i * c)
theorem chunk_flat {α : Type} (xs : List α) (c : Nat) : ∀ n, ((List.range n).map (chunk xs c)).flatten = xs.take (n * c)
  | 0 => by simp
  | n + 1 => by
    rw [List.range_succ, List.map_append, List.flatten_append, chunk_flat xs c n]
    show xs.take (n * c) ++ (chunk xs c n ++ []) = xs.take ((n + 1) * c)
    rw [List.append_nil, Nat.add_mul, Nat.one_mul]
    unfold chunk
    have := List.take_append_drop (n * c) (xs.take (n * c + c))
    rw [List.take_take, Nat.min_eq_left (by omega)] at this
    exact this
theorem chunk_map {α β : Type} (f : α → β) (xs : List α) (c i : Nat) : chunk (xs.map f) c i = (chunk xs c i).map f := by
  unfold chunk
  rw [List.map_drop, List.map_take]
/-- a list of rows, cut -/
theorem Al2.cut {qs : List Addr} {L : List α} (h : Al2 R H qs L) (c i : Nat) : Al2 R H (chunk qs c i) (chunk L c i) := by
  refine ⟨by unfold chunk; rw [List.length_drop, List.length_drop, List.length_take, List.length_take, h.1], fun k q l a b => ?_⟩
  unfold chunk at a b
  rw [List.getElem?_drop, List.getElem?_take] at a b
  split at a
  · rename_i hlt
    rw [if_pos hlt] at b
    exact h.2 _ q l a b
  · cases a
theorem ev_rgl {te : TE} {n : Nat} (h : Ev te σ H (.int (n : Int))) (hn : n ≤ 100000) : EvL (tLstRg (tRg1 te)) σ H ((List.range n).map fun i => V.int ((i : Nat) : Int)) := fun H1 e Q q => h H1 e _ fun H2 e2 => ⟨(n : Int), rfl, RgOk.of_le (by omega) (by omega) (by omega) (by omega), fun p hp => q p _ (fresh_back e2 hp) (e2.trans (Ex.new hp)) (by
  rw [upd_same]
  have : rgV 0 (n : Int) = (List.range n).map fun i => V.int ((i : Nat) : Int) := by
    unfold rgV
    rw [show ((n : Int) - 0).toNat = n by omega]
    exact List.map_congr_left fun i _ => by rw [Int.zero_add]
  rw [this])⟩
end
section
variable {K : PySem.W.Frag} {σ : L2.St} {H : Hp} {p : Addr} {te tn : TE} {R : V → Prop}
/-- [what is drawn for k in range(n)] -/
theorem e1_lcE {j : Nat} {vs : List Nat} {n : Nat} (hn : Ev tn σ (wo p H) (.int (n : Int))) (hm : n ≤ 10000) (hw : ∀ x, wipe ((wipe σ vs).set j (some x)) vs = wipe σ vs)
    (he : ∀ i : Nat, EvD1 te ((wipe σ vs).set j (some (.int (i : Int)))) p H R) : EvLD1 (tLc (iRng1 (tCons tn tNil)) (gName j) tYes te vs) σ p H (fun xs => xs.length = n ∧ ∀ x ∈ xs, R x) := fun H0 e d Q q =>
  hn H0 e _ fun H1 e1 => by
    have d1 := d.ex e1
    refine ⟨(n : Int), rfl, by omega, by omega, fun Dl hD => ?_⟩
    have hpd : p ≠ Dl := dr_ne d1 hD
    refine lc_range (lo := 0) (n := ((n : Int)).toNat) (fun i H' => Ex (wo p H1) H' ∧ Dr p H' ∧ ∃ acc, H' Dl = some (.lst acc) ∧ acc.length = i ∧ ∀ x ∈ acc, R x) ⟨Ex.mut (wo_le p H1) (by rw [wo_ne (Ne.symm hpd)]; exact hD), d1.upd hpd, [], upd_same, rfl, fun x hx => by cases hx⟩ (fun i H' hi pv => ?_) (fun H' pv => ?_)
    · obtain ⟨p1, p2, acc, p3, p4, p5⟩ := pv
      have e0 : (0 : Int) + (i : Int) = (i : Int) := Int.zero_add _
      show wipe ((wipe σ vs).set j (some (.int ((0 : Int) + (i : Int))))) vs = wipe σ vs ∧ te ((wipe σ vs).set j (some (.int ((0 : Int) + (i : Int))))) H' fun y H4 => ∃ acc, H4 Dl = some (.lst acc) ∧ acc.length < sizeLine ∧ _
      rw [e0]
      refine ⟨hw _, he i H' (wx_trans e (wx_trans (wx_of e1) p1)) p2 _ fun y H4 hy e4 d4 => ?_⟩
      refine ⟨acc, e4 Dl _ (by rw [wo_ne (Ne.symm hpd)]; exact p3), sz_lt (by omega), Ex.mut (wx_trans p1 e4) (by rw [wo_ne (Ne.symm hpd)]; exact hD), d4.upd hpd, acc ++ [y], upd_same, by rw [List.length_append, p4]; rfl, fun x hx => ?_⟩
      rcases List.mem_append.mp hx with h | h
      · exact p5 x h
      · rw [List.mem_singleton.mp h]
        exact hy
    · obtain ⟨p1, p2, acc, p3, p4, p5⟩ := pv
      exact q Dl H' acc ⟨by rw [p4]; exact Int.toNat_natCast n, p5⟩ (fresh_back e1 hD) (wx_trans (wx_of e1) p1) p2 p3
theorem q1_asgL {i : Nat} {P : List V → Prop} {D : Ends} {tz : TS} (h : EvLD1 te σ p H P) (d : Dr p H) (k : ∀ l H1 xs, P xs → H l = none → Ex (wo p H) H1 → Dr p H1 → H1 l = some (.lst xs) → tz D (σ.set i (some (.ref l))) H1) : tSeq (tAsg te (gName i)) tz D σ H := h H (wo_le p H) d _ fun l H1 xs hP hl e d1 h1 => k l H1 xs hP hl e d1 h1
end

/-! ### ranks as keys; rows at addresses; rows told once -/
def payN : V → NK
  | .non => .num 0
  | .bl b => .num (if b then 1 else 0)
  | .int i => .num i
  | .str s => .text s
  | _ => .none
def rkN (x : V) : NK := .tup [.num (kr x), payN x]
def rowN (xs : List V) : NK := .tup (xs.map rkN)
theorem nk_rk {H : Hp} {x : V} {p : Addr} (h : Ok x) (hp : H p = some (.tup (rkL x))) : NKey H (rkN x) (.ref p) := by
  refine .tup hp (.cons (.num _) (.cons ?_ .nil))
  cases h with
  | non => exact .num 0
  | bl b => exact .num _
  | int i => exact .num i
  | str s _ => exact .text s
theorem datas_map : ∀ ks : List NK, NestedKey.datas ks = ks.map NestedKey.data
  | [] => rfl
  | k :: r => by rw [NestedKey.datas, datas_map r]; rfl
theorem rk_data {x : V} (h : Ok x) : (rkN x).data = rkD x := by cases h <;> rfl
theorem row_data {xs : List V} (h : ∀ x ∈ xs, Ok x) : (rowN xs).data = .tuple (xs.map rkD) := by
  unfold rowN
  rw [NestedKey.data, datas_map, List.map_map]
  congr 1
  exact List.map_congr_left fun x hx => rk_data (h x hx)
mutual
theorem eqv_data : ∀ a b : NK, PyData.eqv a.data b.data = NestedKey.beq a b
  | .none, .none => rfl
  | .num a, .num b => by
    show (a == b) = decide (a = b)
    rw [Bool.eq_iff_iff, beq_iff_eq, decide_eq_true_eq]
  | .text a, .text b => by
    show (a == b) = decide (a = b)
    rw [Bool.eq_iff_iff, beq_iff_eq, decide_eq_true_eq]
  | .tup a, .tup b => eqvs_data a b
  | .none, .num _ | .none, .text _ | .none, .tup _ => rfl
  | .num _, .none | .num _, .text _ | .num _, .tup _ => rfl
  | .text _, .none | .text _, .num _ | .text _, .tup _ => rfl
  | .tup _, .none | .tup _, .num _ | .tup _, .text _ => rfl
theorem eqvs_data : ∀ a b : List NK, PyData.eqvAll (NestedKey.datas a) (NestedKey.datas b) = NestedKey.beqAll a b
  | [], [] => rfl
  | x :: xs, y :: ys => by
    show (PyData.eqv x.data y.data && PyData.eqvAll (NestedKey.datas xs) (NestedKey.datas ys)) = _
    rw [eqv_data x y, eqvs_data xs ys]
    rfl
  | [], _ :: _ => rfl
  | _ :: _, [] => rfl
end
theorem eqv_key (a b : NK) : PyData.eqv a.data b.data = decide (a = b) := by rw [eqv_data, NestedKey.decide_eq]
theorem dep_rkN (x : V) : (rkN x).depth ≤ 1 := by cases x <;> exact Nat.le_refl 1
theorem deps_rkN : ∀ xs : List V, NestedKey.depthAll (xs.map rkN) ≤ 1
  | [] => Nat.zero_le _
  | x :: r => by
    show max (rkN x).depth (NestedKey.depthAll (r.map rkN)) ≤ 1
    have := dep_rkN x
    have := deps_rkN r
    omega
theorem dep_row (xs : List V) : (rowN xs).depth ≤ 8 := by
  show NestedKey.depthAll (xs.map rkN) + 1 ≤ 8
  have := deps_rkN xs
  omega
section
variable {K : PySem.W.Frag}
mutual
theorem dp_key {H : Hp} : ∀ {k : NK} {v : V}, NKey H k v → Dp K H v k.data
  | _, _, .non => .non
  | _, _, .num i => .int i
  | _, _, .text x => .str x
  | _, _, .tup h hs => .tup (st_of h) (dp_keys hs)
theorem dp_keys {H : Hp} : ∀ {ks : List NK} {vs : List V}, NKeys H ks vs → DpAll K H vs (NestedKey.datas ks)
  | _, _, .nil => .nil
  | _, _, .cons h hs => .cons (dp_key h) (dp_keys hs)
end
theorem nks_len {H : Hp} : ∀ {ks : List NK} {vs : List V}, NKeys H ks vs → vs.length = ks.length
  | _, _, .nil => rfl
  | _, _, .cons _ t => congrArg (· + 1) (nks_len t)
theorem nks_snoc {H : Hp} : ∀ {ks : List NK} {vs : List V} {k : NK} {v : V}, NKeys H ks vs → NKey H k v → NKeys H (ks ++ [k]) (vs ++ [v])
  | _, _, _, _, .nil, h => .cons h .nil
  | _, _, _, _, .cons a t, h => .cons a (nks_snoc t h)
theorem keep_tup {H : Hp} {p : Addr} {o u : HO} (hp : H p = some u) (hu : ∀ xs, u ≠ .tup xs) : ∀ b xs, H b = some (.tup xs) → upd H p o b = some (.tup xs) := fun b xs q => by
  rw [upd_ne fun z => ?_]
  · exact q
  · rw [z, hp] at q
    exact hu _ (Option.some.inj q)
theorem keep_lst {H : Hp} {p : Addr} {o : HO} {ys : List V} (hp : H p = some (.lst ys)) : ∀ b xs, H b = some (.tup xs) → upd H p o b = some (.tup xs) := keep_tup hp fun xs z => nomatch z
theorem keep_new {H : Hp} {p : Addr} {o : HO} (hp : H p = none) : ∀ b xs, H b = some (.tup xs) → upd H p o b = some (.tup xs) := fun b xs q => by
  rw [upd_ne (ne_of_none q hp)]
  exact q
/-- a new tuple that is the key k -/
def EvK (te : TE) (σ : L2.St) (H : Hp) (k : NK) : Prop := ∀ H1, Ex H H1 → ∀ Q : VK, (∀ p H2, H1 p = none → Ex H1 H2 → NKey H2 k (.ref p) → Q (.ref p) H2) → te σ H1 Q
def EvLK (te : TE) (σ : L2.St) (H : Hp) (ks : List NK) : Prop := ∀ H1, Ex H H1 → ∀ Q : VK, (∀ p H2 ys, H1 p = none → Ex H1 H2 → H2 p = some (.lst ys) → NKeys H2 ks ys → Q (.ref p) H2) → te σ H1 Q
variable {σ : L2.St} {H H' : Hp} {ta tb te tl : TE} {x y z v : V} {k : NK} {ks : List NK} {D : Ends} {tz : TS}
theorem ek_rk (h : EvU ta σ H (rkL x)) (hx : Ok x) : EvK ta σ H (rkN x) := fun H1 e Q q => h H1 e _ fun p H2 hp e2 h2 => q p H2 hp e2 (nk_rk hx h2)
theorem ed_key (h : EvK ta σ H k) : EvD K ta σ H k.data := fun H1 e Q q => h H1 e _ fun p H2 _ e2 h2 => q _ H2 e2 (dp_key h2)
theorem q_asgK {i : Nat} (h : EvK te σ H k) (q : ∀ p H1, H p = none → Ex H H1 → NKey H1 k (.ref p) → tz D (σ.set i (some (.ref p))) H1) : tSeq (tAsg te (gName i)) tz D σ H := h H (Ex.refl H) _ fun p H1 hp e h1 => q p H1 hp e h1
theorem s_retK (h : EvK te σ H k) (q : ∀ p H1, H p = none → Ex H H1 → NKey H1 k (.ref p) → D.rt (.ref p) H1) : tRet te D σ H := h H (Ex.refl H) _ fun p H1 hp e h1 => q p H1 hp e h1
theorem ek_tuple (h : EvLK tl σ H ks) : EvK (tCB (fun xs H Q => ∃ p ys, xs = [.ref p] ∧ ((SqL K H p ys ∧ ∀ l, H l = none → Q (.ref l) (upd H l (.tup ys))) ∨ (SqT K H p ys ∧ Q (.ref p) H))) (tCons tl tNil)) σ H (.tup ks) := fun H1 e Q q =>
  h H1 e _ fun p H2 ys _ e2 h2 hd => ⟨p, ys, rfl, .inl ⟨sq_of h2, fun l hl => q l _ (fresh_back e2 hl) (e2.trans (Ex.new hl)) (.tup upd_same (NKeys.mono (keep_new hl) hd))⟩⟩
theorem lk_lcL {a : Addr} {xs : List V} {j : Nat} {vs : List Nat} (f : V → NK) (h : Ev tl σ H (.ref a)) (hx : SqL K H a xs) (hz : xs.length ≤ 40000) (hw : ∀ x, wipe ((wipe σ vs).set j (some x)) vs = wipe σ vs)
    (he : ∀ (x : V) H1, Ex H H1 → x ∈ xs → EvK te ((wipe σ vs).set j (some x)) H1 (f x)) :
    EvLK (tLc (iList K tl) (gName j) tYes te vs) σ H (xs.map f) := fun H0 e0 Q q => h H0 e0 _ fun H1 e1 => ⟨a, rfl, ⟨xs, ex_l (e0.trans e1) hx⟩, fun D hD =>
  lc_list (xs := xs) (fun i H' => H1 D = none ∧ Ex H1 H' ∧ ∃ ys, H' D = some (.lst ys) ∧ NKeys H' ((xs.take i).map f) ys) ⟨hD, Ex.new hD, [], upd_same, .nil⟩ (fun i H' _ p => ex_l ((e0.trans e1).trans p.2.1) hx)
    (fun i x H' hi p => by
      obtain ⟨p1, p2, ys, p3, p4⟩ := p
      refine ⟨hw x, ?_⟩
      show te ((wipe σ vs).set j (some x)) H' fun y H4 => ∃ acc, H4 D = some (.lst acc) ∧ acc.length < sizeLine ∧ _
      refine he x H' ((e0.trans e1).trans p2) (List.mem_of_getElem? hi) H' (Ex.refl H') _ fun y H4 _ e4 hy => ⟨ys, e4 _ _ p3, sz_lt ?_, p1, Ex.mut (p2.trans e4) p1, ys ++ [.ref y], upd_same, ?_⟩
      · have := nks_len p4
        rw [List.length_map, List.length_take] at this
        have := (List.getElem?_eq_some_iff.mp hi).1
        omega
      · rw [List.take_add_one, hi, List.map_append]
        exact nks_snoc (NKeys.mono (keep_lst (e4 _ _ p3)) (NKeys.mono (fun b xs q => e4 b _ q) p4)) (NKey.mono (keep_lst (e4 _ _ p3)) hy))
    (fun H' p => by
      obtain ⟨p1, p2, ys, p3, p4⟩ := p
      rw [List.take_length] at p4
      exact q D H' ys (fresh_back e1 p1) (e1.trans p2) p3 p4)⟩
end
/-! rows -/
inductive RowsAt (H : Hp) : List V → List (List V) → Prop where
  | nil : RowsAt H [] []
  | cons {p : Addr} {xs : List V} {rs : List V} {xss : List (List V)} (h : H p = some (.lst xs)) (t : RowsAt H rs xss) : RowsAt H (.ref p :: rs) (xs :: xss)
theorem RowsAt.len {H : Hp} : ∀ {rs : List V} {xss : List (List V)}, RowsAt H rs xss → rs.length = xss.length
  | _, _, .nil => rfl
  | _, _, .cons _ t => congrArg (· + 1) (RowsAt.len t)
theorem RowsAt.ex {H H' : Hp} (e : Ex H H') : ∀ {rs : List V} {xss : List (List V)}, RowsAt H rs xss → RowsAt H' rs xss
  | _, _, .nil => .nil
  | _, _, .cons h t => .cons (e _ _ h) (RowsAt.ex e t)
theorem RowsAt.upd {H : Hp} {p : Addr} {o : HO} : ∀ {rs : List V} {xss : List (List V)}, RowsAt H rs xss → (∀ r ∈ rs, r ≠ .ref p) → RowsAt (upd H p o) rs xss
  | _, _, .nil, _ => .nil
  | _, _, .cons h t, n => .cons (by rw [upd_ne fun z => n _ List.mem_cons_self (by rw [z])]; exact h) (RowsAt.upd t fun r hr => n r (List.mem_cons_of_mem _ hr))
theorem RowsAt.get {H : Hp} : ∀ {rs : List V} {xss : List (List V)} {i : Nat} {x : V}, RowsAt H rs xss → rs[i]? = some x → ∃ p xs, x = .ref p ∧ H p = some (.lst xs) ∧ xss[i]? = some xs
  | _, _, _, _, .nil, h => by simp at h
  | _, _, 0, _, .cons h t, e => by
    cases e
    exact ⟨_, _, rfl, h, rfl⟩
  | _, _, i + 1, _, .cons h t, e => by
    obtain ⟨p, xs, h1, h2, h3⟩ := RowsAt.get (i := i) t (by simpa using e)
    exact ⟨p, xs, h1, h2, by simpa using h3⟩
theorem RowsAt.snoc {H : Hp} {p : Addr} {xs : List V} : ∀ {rs : List V} {xss : List (List V)}, RowsAt H rs xss → H p = some (.lst xs) → RowsAt H (rs ++ [.ref p]) (xss ++ [xs])
  | _, _, .nil, h => .cons h .nil
  | _, _, .cons a t, h => .cons a (RowsAt.snoc t h)
def Fresh (H : Hp) (rs : List V) : Prop := ∀ r ∈ rs, ∃ p, r = .ref p ∧ H p = none
def OkRw (xs : List V) : Prop := xs.length ≤ 1000 ∧ ∀ x ∈ xs, Ok x
def sp_row_rank (K : PySem.W.Frag) : Sp := fun vs H Q _ => ∃ (a : Addr) (xs : List V), vs = [.ref a] ∧ SqL K H a xs ∧ OkRw xs ∧ ∀ p H', H p = none → Ex H H' → NKey H' (rowN xs) (.ref p) → Q (.ref p) H'
section
variable {P : Program} {w : World} {K : PySem.W.Frag} {mg : Str → Option Value} {base : Heap}
section
variable {σ : L2.St} {H : Hp} {ta tb tc : TE} {E : XK} {x y : V}
theorem ek_row {a : Addr} {xs : List V} (ha : Ev ta σ H (.ref a)) (hS : SqL K H a xs) (hx : OkRw xs) : EvK (tCall (sp_row_rank K) [] E (tCons ta tNil)) σ H (rowN xs) := fun H1 e Q q =>
  ha H1 e _ fun H2 e2 => ⟨a, xs, rfl, ex_l (e.trans e2) hS, hx, fun p H3 hp e3 h3 => q p H3 (fresh_back e2 hp) (e2.trans e3) h3⟩
end
end

--@SPLIT
/-! ### rows of plain values -/
def OkRB (r : List V) : Prop := r.length ≤ 1000 ∧ ∀ x ∈ r, Ok x ∧ bdV x
def OkRs (L : List (List V)) : Prop := L.length ≤ 60 ∧ ∀ r ∈ L, OkRB r
theorem al_getB {H : Hp} {qs : List Addr} {L : List (List V)} {i : Nat} {x : V} (h : Al2 RowAt H qs L) (hi : (qs.map V.ref)[i]? = some x) : ∃ b xs, x = .ref b ∧ H b = some (.lst xs) ∧ L[i]? = some xs ∧ qs[i]? = some b := by
  rw [List.getElem?_map] at hi
  cases e : qs[i]? with
  | none => rw [e] at hi; cases hi
  | some b =>
    rw [e] at hi
    obtain rfl := Option.some.inj hi
    have hl : i < L.length := by rw [← h.1]; exact (List.getElem?_eq_some_iff.mp e).1
    exact ⟨b, L[i], rfl, h.2 i b _ e (List.getElem?_eq_getElem hl), List.getElem?_eq_getElem hl, rfl⟩
theorem map_getD {α : Type} (g : List V → α) : ∀ L : List (List V), (List.range L.length).map (fun i => g (L.getD i [])) = L.map g := fun L => by
  apply List.ext_getElem?
  intro i
  rw [List.getElem?_map, List.getElem?_map]
  by_cases h : i < L.length
  · rw [List.getElem?_range h, List.getElem?_eq_getElem h]
    show some (g (L.getD i [])) = some (g L[i])
    rw [List.getD_eq_getElem?_getD, List.getElem?_eq_getElem h]
    rfl
  · rw [List.getElem?_eq_none (by rw [List.length_range]; omega), List.getElem?_eq_none (by omega)]
    rfl

--@SPLIT
/-! ### the law's rows and expressions -/
def sp__law_cells (K : PySem.W.Frag) : Sp := fun vs H Q _ => ∃ (n w : Nat), vs = [.int (n : Int), .int (w : Int)] ∧ w ≤ 1000 ∧ ∀ p H' xs, H p = none → Ex H H' → H' p = some (.lst xs) → xs.length = w → OkRB xs → Q (.ref p) H'
def sp__law_rowlist (K : PySem.W.Frag) : Sp := fun vs H Q _ => ∃ (a : Addr) (ms : List Nat) (at_ c w : Nat), vs = [.ref a, .int (at_ : Int), .int (c : Int), .int (w : Int)] ∧ SqL K H a (ms.map fun m : Nat => V.int (m : Int)) ∧ at_ + c ≤ ms.length ∧ c ≤ 1000 ∧ w ≤ 1000 ∧
  ∀ p H' L, H p = none → Ex H H' → Lst3 RowAt (nu H H') p L → L.length = c → (∀ r ∈ L, r.length = w ∧ OkRB r) → Q (.ref p) H'
def sp__law_ranks (K : PySem.W.Frag) : Sp := fun vs H Q _ => ∃ (a : Addr) (xs : List V), vs = [.ref a] ∧ SqL K H a xs ∧ OkRw xs ∧ ∀ p H', H p = none → Ex H H' → NKey H' (rowN xs) (.ref p) → Q (.ref p) H'
def sp__law_same_list (K : PySem.W.Frag) : Sp := fun vs H Q _ => ∃ (p q : Addr) (L : List (List V)), vs = [.ref p, .ref q] ∧ Lst2 RowAt H p L ∧ Lst2 RowAt H q L ∧ L.length ≤ 1000 ∧ (∀ r ∈ L, OkRw r) ∧ ∀ H', Ex H H' → Q (.bl true) H'
def CxD (K : PySem.W.Frag) (w n : Nat) (v : V) (H : Hp) : Prop := ∃ e : Cnd, Dp K H v e.d ∧ e.ok w ∧ e.dep ≤ n
def sp__law_simple (K : PySem.W.Frag) : Sp := fun vs H Q _ => ∃ (n w : Nat), vs = [.int (n : Int), .int (w : Int)] ∧ 0 < w ∧ w ≤ 1000 ∧ ∀ v H' (e : Cnd), Ex H H' → Dp K H' v e.d → e.ok w → e.dep ≤ 2 → Q v H'
section
variable {K : PySem.W.Frag} {σ : L2.St} {H : Hp} {ta tb te tl : TE} {E : XK} {D : Ends} {tz : TS}
/-- [..][i], a new list -/
theorem ev_ixN {xs : List V} {i : Nat} {x : V} (ha : EvL ta σ H xs) (hb : ∀ H1, Ex H H1 → Ev tb σ H1 (.int (i : Int))) (hi : xs[i]? = some x) : Ev (tOp (rIxL K) ta tb) σ H x := fun H1 e Q q =>
  ha H1 e _ fun p H2 hp e2 h2 => hb H2 (e.trans e2) H2 (Ex.refl H2) _ fun H3 e3 => rv_ixL (sq_of (e3 _ _ h2)) (atI_nat hi) H3 (Ex.refl H3) Q fun H4 e4 => q H4 ((e2.trans e3).trans e4)
theorem ek_lranks {a : Addr} {xs : List V} (ha : Ev ta σ H (.ref a)) (hS : SqL K H a xs) (hx : OkRw xs) : EvK (tCall (sp__law_ranks K) [] E (tCons ta tNil)) σ H (rowN xs) := fun H1 e Q q =>
  ha H1 e _ fun H2 e2 => ⟨a, xs, rfl, ex_l (e.trans e2) hS, hx, fun p H3 hp e3 h3 => q p H3 (fresh_back e2 hp) (e2.trans e3) h3⟩
theorem sh_rowN {xs : List V} (h : OkRw xs) : SeqAt.shaped (rowN xs).data = true := by rw [row_data h.2]; exact shaped_row h.2
/-- an expression as data -/
def EvCx (K : PySem.W.Frag) (w n : Nat) (te : TE) (σ : L2.St) (H : Hp) : Prop := ∀ H1, Ex H H1 → ∀ Q : VK, (∀ v H2 (e : Cnd), Ex H1 H2 → Dp K H2 v e.d → e.ok w → e.dep ≤ n → Q v H2) → te σ H1 Q
theorem cx_simple {n w : Nat} (ha : Ev ta σ H (.int (n : Int))) (hb : Ev tb σ H (.int (w : Int))) (h0 : 0 < w) (h1 : w ≤ 1000) : EvCx K w 2 (tCall (sp__law_simple K) [] E (tCons ta (tCons tb tNil))) σ H := fun H1 e Q q =>
  ha H1 e _ fun H2 e2 => hb H2 (e.trans e2) _ fun H3 e3 => ⟨n, w, rfl, h0, h1, fun v H4 x e4 hd hw hn => q v H4 x ((e2.trans e3).trans e4) hd hw hn⟩
end
theorem lt7 {r : Nat} {P : V → Prop} {xs : List V} (hl : xs.length = 7) (h : ∀ x ∈ xs, P x) : ∃ x, xs[r % 7]? = some x ∧ P x := by
  have hr : r % 7 < xs.length := by rw [hl]; exact Nat.mod_lt _ (by decide)
  exact ⟨xs[r % 7], List.getElem?_eq_getElem hr, h _ (List.getElem_mem hr)⟩
theorem ltn {r m : Nat} (hm : 0 < m) {P : V → Prop} {xs : List V} (hl : xs.length = m) (h : ∀ x ∈ xs, P x) : ∃ x, xs[r % m]? = some x ∧ P x := by
  have hr : r % m < xs.length := by rw [hl]; exact Nat.mod_lt _ hm
  exact ⟨xs[r % m], List.getElem?_eq_getElem hr, h _ (List.getElem_mem hr)⟩
def OkB (x : V) : Prop := Ok x ∧ bdV x
theorem okb_str {s : Str} (h : PyData.strOk s = true ∧ s.length ≤ 10000) : OkB (.str s) := ⟨.str s h, trivial⟩
theorem okb_small {i : Int} (h : -1152921504606846976 ≤ i ∧ i ≤ 1152921504606846976) : OkB (.int i) := ⟨.int i, h⟩
section
variable {P : Program} {w : World} {K : PySem.W.Frag} {mg : Str → Option Value} {base : Heap}
theorem ok__law_cells (D : Dn K mg "_law_cells" s__law_cells ["number", "width"]) (z_int : mg "int" = none) (z_range : mg "range" = none) :
    C8.Cal P w K mg base 1 "_law_cells" (sp__law_cells K) [] := by
  refine cal_of D sc__law_cells (fun vs H Q E h => ?_) (fun f cdv A outer s H vs Q E hr h => ?_)
  · obtain ⟨_, _, rfl, _⟩ := h
    rfl
  refine ⟨_, (pss_cons (ps_set (i := 2) sc__law_cells.nd rfl (.inl rfl) (pe_lst pa_nil))
    (pss_cons (ps_for PassesOwn.never rfl (pi_range1 rfl z_range (pa_cons (pv 1) pa_nil)) (pg_name (i := 3) sc__law_cells.nd rfl (.inl rfl))
      (pss_cons (ps_set (i := 4) sc__law_cells.nd rfl (.inl rfl) (pe_op op_add (pe_op op_fdiv (pe_callTy call_int1 (by rfl) z_int (by decide +kernel) (pa_cons (pv 0) pa_nil)) (pe_op op_add (pe_op op_mul pe_int (pv 3)) pe_int)) (pe_op op_mul pe_int (pv 3))))
    (pss_one (ps_expr (pe_bm PySem.F.plainAttrs_list PySem.F.slot_list_append PySem.F.type_list_append mt_append (pv 2) (pa_cons (pe_ix ix_list (pe_lst (pa_cons pe_non (pa_cons (pe_op op_mod (pe_op op_fdiv (pv 4) pe_int) pe_int) (pa_cons (pe_op op_sub (pe_op op_mod (pe_op op_fdiv (pv 4) pe_int) pe_int) pe_int) (pa_cons (pe_cmpR op_eq (pe_op op_mod (pe_op op_fdiv (pv 4) pe_int) pe_int) pe_int (nomark _)) (pa_cons (pe_ix ix_str pe_str (pe_op op_mod (pe_op op_fdiv (pv 4) pe_int) pe_int) (fun _ _ => rfl)) (pa_cons (pe_ix ix_list (pe_lst (pa_cons pe_str (pa_cons pe_str (pa_cons pe_str pa_nil)))) (pe_op op_mod (pe_op op_fdiv (pv 4) pe_int) pe_int) (fun _ _ => rfl)) (pa_cons (pe_op op_mod (pe_op op_fdiv (pv 4) pe_int) pe_int) pa_nil)))))))) (pe_op op_mod (pv 4) pe_int) (fun _ _ => rfl)) pa_nil))))))
    (pss_one (ps_ret (pv 2))))), ?_⟩
  obtain ⟨n, wd, rfl, hw, q⟩ := h
  refine q_asgL (el_lst ea_nil (by decide)) fun p H1 hp e1 h1 => ?_
  refine q_forR1 (n := (wd : Int)) (ea_cons (ev_var rfl) ea_nil) ⟨by omega, by omega⟩ (fun i σ' H' => ∃ kv rv xs, σ' = [some (.int (n : Int)), some (.int (wd : Int)), some (.ref p), kv, rv] ∧ Ex H H' ∧ H' p = some (.lst xs) ∧ xs.length = i ∧ ∀ x ∈ xs, OkB x)
    (fun H2 e2 => ⟨none, none, [], rfl, e1.trans e2, e2 _ _ h1, rfl, fun x h => nomatch h⟩) (fun i σ' H' hi pv => ?_) fun σ' H' pv => ?_
  · obtain ⟨kv, rv, xs, rfl, e, hx, hl, ho⟩ := pv
    have hi2 : i < wd := by omega
    refine q_asg (v := .int ((n / (7 * i + 3) + 5 * i : Nat) : Int)) (ev_is (ev_op (ev_op (ev_int (ev_var rfl)) (ev_op (ev_op ev_c (ev_var rfl) (rv_I (.inl ⟨by decide, by decide⟩))) ev_c rv_I0) (rv_I ⟨by omega, by omega⟩)) (ev_op ev_c (ev_var rfl) (rv_I (.inl ⟨by decide, by decide⟩))) rv_I0) (by
      rw [Int.natCast_add, Int.natCast_ediv, Int.natCast_add, Int.natCast_mul, Int.natCast_mul]; rfl)) fun H2 e2 => ?_
    generalize n / (7 * i + 3) + 5 * i = r
    have hab : ∃ c, (PySem.Str.ofString "ab").cps.toList[r / 9 % 2]? = some c ∧ OkB (.str ⟨#[c]⟩) := by
      have : r / 9 % 2 = 0 ∨ r / 9 % 2 = 1 := by omega
      rcases this with h | h <;> rw [h]
      · exact ⟨97, by decide +kernel, okb_str ⟨by decide +kernel, by decide⟩⟩
      · exact ⟨98, by decide +kernel, okb_str ⟨by decide +kernel, by decide⟩⟩
    obtain ⟨c, hc, hcb⟩ := hab
    obtain ⟨t, ht, htb⟩ := ltn (r := r / 9) (m := 3) (P := OkB) (xs := [.str (PySem.Str.ofString ""), .str (PySem.Str.ofString "a b"), .str (PySem.Str.ofString "A")]) (by decide) rfl fun x hx => by
      rcases List.mem_cons.mp hx with z | hx
      · rw [z]; exact okb_str ⟨by decide +kernel, by decide +kernel⟩
      rcases List.mem_cons.mp hx with z | hx
      · rw [z]; exact okb_str ⟨by decide +kernel, by decide +kernel⟩
      rcases List.mem_cons.mp hx with z | hx
      · rw [z]; exact okb_str ⟨by decide +kernel, by decide +kernel⟩
      · cases hx
    obtain ⟨x, hx7, hxb⟩ := lt7 (r := r) (P := OkB) (xs := [.non, .int ((r / 9 % 4 : Nat) : Int), .int (((r / 9 % 4 : Nat) : Int) - 1), .bl (decide (V.int ((r / 9 % 2 : Nat) : Int) = V.int 0)), .str ⟨#[c]⟩, t, .int ((r / 9 % 2 : Nat) : Int)]) rfl fun x hx => by
      rcases List.mem_cons.mp hx with z | hx
      · rw [z]; exact ⟨.non, trivial⟩
      rcases List.mem_cons.mp hx with z | hx
      · rw [z]; exact okb_small ⟨by omega, by omega⟩
      rcases List.mem_cons.mp hx with z | hx
      · rw [z]; exact okb_small ⟨by omega, by omega⟩
      rcases List.mem_cons.mp hx with z | hx
      · rw [z]; exact ⟨.bl _, trivial⟩
      rcases List.mem_cons.mp hx with z | hx
      · rw [z]; exact hcb
      rcases List.mem_cons.mp hx with z | hx
      · rw [z]; exact htb
      rcases List.mem_cons.mp hx with z | hx
      · rw [z]; exact okb_small ⟨by omega, by omega⟩
      · cases hx
    have dm : ∀ {H0 : Hp} (m : Nat) (hm : 0 < m ∧ m < 100), Ev (tOp (rI (fun _ j => 0 < j) fun i j => .int (i % j)) (tOp (rI CDiv fun i j => .int (i / j)) (tVar 4) (tC (.int 9))) (tC (.int (m : Int)))) [some (.int (n : Int)), some (.int (wd : Int)), some (.ref p), some (.int (i : Int)), some (.int (r : Int))] H0 (.int ((r / 9 % m : Nat) : Int)) := fun m hm => ev_is (ev_op (ev_op (ev_var rfl) ev_c (rv_I ⟨by decide, by decide⟩)) ev_c (rv_I (by omega))) (by rw [Int.natCast_emod, Int.natCast_ediv]; rfl)
    refine s_app (v := x) (e2 _ _ hx) (ev_var rfl) (ev_ixN (i := r % 7) (el_lst (ea_cons ev_c (ea_cons (dm 4 (by decide)) (ea_cons (ev_op (dm 4 (by decide)) ev_c rv_I0) (ea_cons (ev_op (dm 2 (by decide)) ev_c (rv_eq rfl)) (ea_cons (ev_op ev_c (dm 2 (by decide)) (rv_ixS (by decide +kernel) (atI_nat hc))) (ea_cons (ev_ixN (i := r / 9 % 3) (el_lst (ea_cons ev_c (ea_cons ev_c (ea_cons ev_c ea_nil))) (by show 3 ≤ 100000; decide)) (fun _ _ => dm 3 (by decide)) ht) (ea_cons (dm 2 (by decide)) ea_nil))))))) (by show 7 ≤ 100000; decide)) (fun _ _ => ev_is (ev_op (ev_var rfl) ev_c (rv_I (by decide))) (by rw [Int.natCast_emod]; rfl)) hx7) (by omega) fun H3 e3 => ?_
    refine ⟨_, _, xs ++ [x], rfl, Ex.mut ((e.trans e2).trans e3) hp, upd_same, by rw [List.length_append, hl]; rfl, fun y hy => ?_⟩
    rcases List.mem_append.mp hy with h | h
    · exact ho y h
    · rw [List.mem_singleton.mp h]; exact hxb
  · obtain ⟨kv, rv, xs, rfl, e, hx, hl, ho⟩ := pv
    rw [show ((wd : Int)).toNat = wd from Int.toNat_natCast _] at hl
    exact s_ret (ev_var rfl) fun H3 e3 => q p H3 xs hp (e.trans e3) (e3 _ _ hx) hl ⟨by omega, ho⟩
theorem ok__law_rowlist (D : Dn K mg "_law_rowlist" s__law_rowlist ["numbers", "at", "count", "width"]) (c__law_cells : C8.Cal P w K mg base 1 "_law_cells" (sp__law_cells K) []) (z_int : mg "int" = none) (z_len : mg "len" = none) (z_list : mg "list" = none) (z_range : mg "range" = none) :
    C8.Cal P w K mg base 2 "_law_rowlist" (sp__law_rowlist K) [] := by
  refine cal_of D sc__law_rowlist (fun vs H Q E h => ?_) (fun f cdv A outer s H vs Q E hr h => ?_)
  · obtain ⟨_, _, _, _, _, rfl, _⟩ := h
    rfl
  refine ⟨_, (pss_cons (ps_set (i := 4) sc__law_rowlist.nd rfl (.inl rfl) (pe_lst pa_nil))
    (pss_cons (ps_for PassesOwn.never rfl (pi_range1 rfl z_range (pa_cons (pv 2) pa_nil)) (pg_name (i := 5) sc__law_rowlist.nd rfl (.inl rfl))
      (pss_one (ps_if (PW.pt (pw_and (pt_cmpR op_gt (pe_callB call_len_seq (by rfl) z_len PySem.boot_len (pa_cons (pv 4) pa_nil)) pe_int (nomark _)) (pw_and1 (pt_cmpR op_eq (pe_op op_mod (pe_callTy call_int1 (by rfl) z_int (by decide +kernel) (pa_cons (pe_ix ix_list (pv 0) (pe_op op_add (pv 1) (pv 5)) (fun _ _ => rfl)) pa_nil)) pe_int) pe_int (nomark _)))))
      (pss_one (ps_expr (pe_bm PySem.F.plainAttrs_list PySem.F.slot_list_append PySem.F.type_list_append mt_append (pv 4) (pa_cons (pe_callTy call_list_of (by rfl) z_list (by decide +kernel) (pa_cons (pe_ix ix_list (pv 4) (pe_op op_mod (pe_op op_fdiv (pe_callTy call_int1 (by rfl) z_int (by decide +kernel) (pa_cons (pe_ix ix_list (pv 0) (pe_op op_add (pv 1) (pv 5)) (fun _ _ => rfl)) pa_nil)) pe_int) (pe_callB call_len_seq (by rfl) z_len PySem.boot_len (pa_cons (pv 4) pa_nil))) (fun _ _ => rfl)) pa_nil)) pa_nil))))
      (pss_one (ps_expr (pe_bm PySem.F.plainAttrs_list PySem.F.slot_list_append PySem.F.type_list_append mt_append (pv 4) (pa_cons (C8.pe_c c__law_cells hr (by decide) (by rfl) (pa_cons (pe_op op_fdiv (pe_callTy call_int1 (by rfl) z_int (by decide +kernel) (pa_cons (pe_ix ix_list (pv 0) (pe_op op_add (pv 1) (pv 5)) (fun _ _ => rfl)) pa_nil)) pe_int) (pa_cons (pv 3) pa_nil))) pa_nil)))))))
    (pss_one (ps_ret (pv 4))))), ?_⟩
  obtain ⟨a, ms, at_, c, wd, rfl, hS, hat, hc, hw, q⟩ := h
  refine q_asgL (el_lst ea_nil (by decide)) fun p H1 hp e1 h1 => ?_
  refine q_forR1 (n := (c : Int)) (ea_cons (ev_var rfl) ea_nil) ⟨by omega, by omega⟩ (fun i σ' H' => ∃ (kv : Option V) (qs : List Addr) (L : List (List V)), σ' = [some (.ref a), some (.int (at_ : Int)), some (.int (c : Int)), some (.int (wd : Int)), some (.ref p), kv] ∧ Ex H H' ∧ H' p = some (.lst (qs.map V.ref)) ∧ Al2 RowAt (wo p (nu H H')) qs L ∧ L.length = i ∧ ∀ r ∈ L, r.length = wd ∧ OkRB r)
    (fun H2 e2 => ⟨none, [], [], rfl, e1.trans e2, e2 _ _ h1, Al2.nil, rfl, fun x h => nomatch h⟩) (fun i σ' H' hi pv => ?_) fun σ' H' pv => ?_
  · obtain ⟨kv, qs, L, rfl, e, hq, hA, hl, ho⟩ := pv
    have hi2 : i < c := by omega
    have hlq : (qs.map V.ref).length = L.length := by rw [List.length_map, hA.1]
    have hmi : at_ + i < ms.length := by omega
    have num : ∀ {H0 : Hp}, Ex H H0 → Ev (tCB (fun xs H Q => (∃ i, xs = [.int i] ∧ Q (.int i) H) ∨ ∃ k, xs = [.bl k] ∧ Q (.int (if k then 1 else 0)) H) (tCons (tOp (rIxL K) (tVar 0) (tOp (rI0 fun i j => .int (i + j)) (tVar 1) (tVar 5))) tNil)) [some (.ref a), some (.int (at_ : Int)), some (.int (c : Int)), some (.int (wd : Int)), some (.ref p), some (.int (i : Int))] H0 (.int ((ms[at_ + i] : Nat) : Int)) := fun e0 =>
      ev_int (ev_op (ev_var rfl) (ev_is (w := .int ((at_ + i : Nat) : Int)) (ev_op (ev_var rfl) (ev_var rfl) rv_I0) (by rw [Int.natCast_add])) (rv_ixL (ex_l e0 hS) (atI_nat (by rw [List.getElem?_map, List.getElem?_eq_getElem hmi]; rfl))))
    generalize ms[at_ + i] = m at num
    have snoc : ∀ {r : Addr} {xs : List V} {H2 : Hp}, Ex H' H2 → H' r = none → H2 r = some (.lst xs) → xs.length = wd ∧ OkRB xs → ∃ (kv : Option V) (qs' : List Addr) (L' : List (List V)), [some (.ref a), some (.int (at_ : Int)), some (.int (c : Int)), some (.int (wd : Int)), some (.ref p), some (.int (i : Int))] = [some (.ref a), some (.int (at_ : Int)), some (.int (c : Int)), some (.int (wd : Int)), some (.ref p), kv] ∧ Ex H (upd H2 p (.lst (qs.map V.ref ++ [.ref r]))) ∧ upd H2 p (.lst (qs.map V.ref ++ [.ref r])) p = some (.lst (qs'.map V.ref)) ∧ Al2 RowAt (wo p (nu H (upd H2 p (.lst (qs.map V.ref ++ [.ref r]))))) qs' L' ∧ L'.length = i + 1 ∧ ∀ r ∈ L', r.length = wd ∧ OkRB r := fun {r xs H2} e2 hr h2 hok => by
      have hrp : r ≠ p := fun z => by rw [z, hq] at hr; cases hr
      refine ⟨_, qs ++ [r], L ++ [xs], rfl, Ex.mut (e.trans e2) hp, by rw [upd_same, List.map_append]; rfl, ?_, by rw [List.length_append, hl]; rfl, fun y hy => ?_⟩
      · rw [wo_nu_upd]
        refine (hA.mono fun q l _ => RowAt.mn _ _ _ _ (wo_mono (nu_mono e2))).snoc ?_
        show wo p (nu H H2) r = _
        rw [wo_ne hrp]
        exact nu_at (fresh_back e hr) h2
      · rcases List.mem_append.mp hy with h | h
        · exact ho y h
        · rw [List.mem_singleton.mp h]; exact hok
    refine s_if (b := decide ((L.length : Int) > 0) && decide (V.int ((m % 4 : Nat) : Int) = V.int 0)) (et_and (et_test (ev_op (ev_is (ev_len (ev_var rfl) (sq_of hq)) (by rw [hlq])) ev_c rv_I0)) fun _ => et_test (ev_op (ev_is (ev_op (num e) ev_c (rv_I (by decide))) (by rw [Int.natCast_emod]; rfl)) ev_c (rv_eq rfl))) (fun hb H2 e2 => ?_) fun hb H2 e2 => ?_
    · rw [Bool.and_eq_true, decide_eq_true_eq] at hb
      have hpos : 0 < L.length := by omega
      have hj : m / 4 % L.length < L.length := Nat.mod_lt _ hpos
      obtain ⟨b, hqb, hbr⟩ := hA.get hj
      have hbr2 : H' b = some (.lst L[m / 4 % L.length]) := nu_le _ _ (wo_le _ _ _ _ hbr)
      refine ⟨.ref p, rfl, Or.inl ⟨rfl, _, sq_of (e2 _ _ hq)⟩, ?_⟩
      have x3 := e2
      refine el_list (K := K) (xs := L[m / 4 % L.length]) (p := b) (ev_op (ev_var rfl) (ev_is (w := .int ((m / 4 % L.length : Nat) : Int)) (ev_op (ev_op (num (e.trans x3)) ev_c (rv_I ⟨by decide, by decide⟩)) (ev_is (ev_len (ev_var rfl) (sq_of (x3 _ _ hq))) (by rw [hlq])) (rv_I (by omega))) (by rw [Int.natCast_emod, Int.natCast_ediv]; rfl)) (rv_ixL (sq_of (x3 _ _ hq)) (atI_nat (by rw [List.getElem?_map, hqb]; rfl)))) (sq_of (x3 _ _ hbr2)) H2 (Ex.refl H2) _ fun r H4 hr e4 h4 => ⟨p, _, .ref r, rfl, rfl, (x3.trans e4) _ _ hq, sz_lt (by rw [hlq]; omega), ?_⟩
      exact snoc (x3.trans e4) (fresh_back x3 hr) h4 (ho _ (List.getElem_mem hj))
    · refine ⟨.ref p, rfl, Or.inl ⟨rfl, _, sq_of (e2 _ _ hq)⟩, ?_⟩
      have x3 := e2
      refine (ev_is (w := .int ((m / 4 : Nat) : Int)) (ev_op (num (e.trans x3)) ev_c (rv_I ⟨by decide, by decide⟩)) (by rw [Int.natCast_ediv]; rfl)) H2 (Ex.refl H2) _ fun H4 e4 => ⟨.int (wd : Int), rfl, m / 4, wd, rfl, hw, fun r H6 xs hr e6 h6 hxl hxo => ⟨p, _, .ref r, rfl, rfl, ((x3.trans e4).trans e6) _ _ hq, sz_lt (by rw [hlq]; omega), ?_⟩⟩
      exact snoc ((x3.trans e4).trans e6) (fresh_back (x3.trans e4) hr) h6 ⟨hxl, hxo⟩
  · obtain ⟨kv, qs, L, rfl, e, hq, hA, hl, ho⟩ := pv
    rw [show ((c : Int)).toNat = c from Int.toNat_natCast _] at hl
    refine s_ret (ev_var rfl) fun H3 e3 => q p H3 L hp (e.trans e3) ⟨qs, nu_at hp (e3 _ _ hq), hA.mono fun q l _ => RowAt.mn _ _ _ _ (wo_mono (nu_mono e3))⟩ hl ho
theorem ok__law_ranks (D : Dn K mg "_law_ranks" s__law_ranks ["row"]) (c__law_rank : C8.Cal P w K mg base 1 "_law_rank" (sp__law_rank K) []) (z_tuple : mg "tuple" = none) :
    C8.Cal P w K mg base 2 "_law_ranks" (sp__law_ranks K) [] := by
  refine cal_of D sc__law_ranks (fun vs H Q E h => ?_) (fun f cdv A outer s H vs Q E hr h => ?_)
  · obtain ⟨_, _, rfl, _⟩ := h
    rfl
  refine ⟨_, (pss_one (ps_ret (pe_callTy call_tuple_of (by rfl) z_tuple (by decide +kernel) (pa_cons (pe_lc (own := [("value", 1)]) (g := gName 1) (tt := tYes) rfl sc__law_ranks.nd (pi_list (pv 0)) (blkOk_by (N := n__law_ranks) (sc := C8.fnScope s__law_ranks) (by decide +kernel)) (fun _ _ _ _ _ => pg_name (i := 1) sc__law_ranks.nd rfl (Or.inl rfl)) (fun _ _ _ _ _ => pts_nil) (fun _ _ _ _ _ => (C8.pe_c c__law_rank hr (by decide) (by rfl) (pa_cons (pv 1) pa_nil)))) pa_nil)))), ?_⟩
  obtain ⟨a, xs, rfl, hS, hx, q⟩ := h
  exact s_retK (ek_tuple (lk_lcL rkN (ev_var rfl) hS (by have := hx.1; omega) (fun _ => rfl) fun x H1 e1 hm => ek_rk (ec_lrank (ev_var rfl) (hx.2 x hm)) (hx.2 x hm))) q
theorem ok__law_same_list (D : Dn K mg "_law_same_list" s__law_same_list ["told", "due"]) (c__law_ranks : C8.Cal P w K mg base 2 "_law_ranks" (sp__law_ranks K) []) (z_isinstance : mg "isinstance" = none) (z_len : mg "len" = none) (z_list : mg "list" = none) (z_range : mg "range" = none) :
    C8.Cal P w K mg base 3 "_law_same_list" (sp__law_same_list K) [] := by
  refine cal_of D sc__law_same_list (fun vs H Q E h => ?_) (fun f cdv A outer s H vs Q E hr h => ?_)
  · obtain ⟨_, _, _, rfl, _⟩ := h
    rfl
  refine ⟨_, (pss_cons (ps_if (PW.pt (pw_or (pt_not (pt_val (pe_callB call_isi (by rfl) z_isinstance (by decide +kernel) (pa_cons (pv 0) (pa_cons (pe_bltn (v := .ty "list") (u := .type "list") rfl z_list (by decide +kernel) rfl) pa_nil))))) (pw_or1 (pt_cmpR op_ne (pe_callB call_len_seq (by rfl) z_len PySem.boot_len (pa_cons (pv 0) pa_nil)) (pe_callB call_len_seq (by rfl) z_len PySem.boot_len (pa_cons (pv 1) pa_nil)) (nomark _)))))
      (pss_one (ps_ret pe_bl))
      pss_nil)
    (pss_cons (ps_for PassesOwn.never rfl (pi_range1 rfl z_range (pa_cons (pe_callB call_len_seq (by rfl) z_len PySem.boot_len (pa_cons (pv 1) pa_nil)) pa_nil)) (pg_name (i := 2) sc__law_same_list.nd rfl (.inl rfl))
      (pss_one (ps_if (PW.pt (pw_or (pt_not (pt_val (pe_callB call_isi (by rfl) z_isinstance (by decide +kernel) (pa_cons (pe_ix ix_list (pv 0) (pv 2) (fun _ _ => rfl)) (pa_cons (pe_bltn (v := .ty "list") (u := .type "list") rfl z_list (by decide +kernel) rfl) pa_nil))))) (pw_or1 (pt_cmpR (op_neD (hu64 hr)) (C8.pe_c c__law_ranks hr (by decide) (by rfl) (pa_cons (pe_ix ix_list (pv 0) (pv 2) (fun _ _ => rfl)) pa_nil)) (C8.pe_c c__law_ranks hr (by decide) (by rfl) (pa_cons (pe_ix ix_list (pv 1) (pv 2) (fun _ _ => rfl)) pa_nil)) (nomark _)))))
      (pss_one (ps_ret pe_bl))
      pss_nil)))
    (pss_one (ps_ret pe_bl)))), ?_⟩
  obtain ⟨p, q', L, rfl, ⟨ps, hp, hA⟩, ⟨qs, hq, hB⟩, hz, hL, q⟩ := h
  have lenE : (ps.map V.ref).length = L.length := by rw [List.length_map, hA.1]
  have lenM : (qs.map V.ref).length = L.length := by rw [List.length_map, hB.1]
  refine q_when (b := !true || !decide (V.int ((L.length : Nat) : Int) = V.int ((L.length : Nat) : Int))) (et_or (et_not (et_B (ev_isi' (T := "list") (ev_var rfl) (tx_lst hp) (by decide +kernel)))) fun _ => et_test (ev_op (ev_is (ev_len (ev_var rfl) (sq_of hp)) (by rw [lenE])) (ev_is (ev_len (ev_var rfl) (sq_of hq)) (by rw [lenM])) (rv_ne rfl))) (fun hb => by simp at hb) fun _ H1 e1 => ?_
  refine q_forR1 (n := (L.length : Int)) (ea_cons (ev_is (ev_len (ev_var rfl) (sq_of (e1 _ _ hq))) (by rw [lenM])) ea_nil) ⟨by omega, by omega⟩ (fun i σ' H' => ∃ kv, σ' = [some (.ref p), some (.ref q'), kv] ∧ Ex H H') (fun H2 e2 => ⟨none, rfl, e1.trans e2⟩) (fun i σ' H' hi pv => ?_) fun σ' H' pv => ?_
  · obtain ⟨kv, rfl, e⟩ := pv
    have hi2 : i < L.length := by omega
    obtain ⟨pi, hpi, hpl⟩ := hA.get hi2
    obtain ⟨qi, hqi, hql⟩ := hB.get hi2
    have hok := hL _ (List.getElem_mem hi2)
    generalize L[i] = r at hpl hql hok
    have told : ∀ {σ : L2.St} {H0 : Hp}, σ[0]? = some (some (.ref p)) → σ[2]? = some (some (.int (i : Int))) → Ex H H0 → Ev (tOp (rIxL K) (tVar 0) (tVar 2)) σ H0 (.ref pi) := fun h0 h2 e0 => ev_op (ev_var h0) (ev_var h2) (rv_ixL (sq_of (e0 _ _ hp)) (atI_nat (by rw [List.getElem?_map, hpi]; rfl)))
    have due : ∀ {σ : L2.St} {H0 : Hp}, σ[1]? = some (some (.ref q')) → σ[2]? = some (some (.int (i : Int))) → Ex H H0 → Ev (tOp (rIxL K) (tVar 1) (tVar 2)) σ H0 (.ref qi) := fun h0 h2 e0 => ev_op (ev_var h0) (ev_var h2) (rv_ixL (sq_of (e0 _ _ hq)) (atI_nat (by rw [List.getElem?_map, hqi]; rfl)))
    have sh := sh_rowN hok
    have er := PySem.SeqAt.eqv_refl _ (SeqAt.canLay_of_shaped sh)
    refine s_when (b := !true || !PyData.eqv (rowN r).data (rowN r).data) (et_or (et_not (et_B (ev_isi' (T := "list") (told rfl rfl e) (tx_lst (e _ _ hpl)) (by decide +kernel)))) fun _ => et_test (ev_neD (ed_key (ek_lranks (told rfl rfl e) (sq_of (e _ _ hpl)) hok)) (ed_key (ek_lranks (due rfl rfl e) (sq_of (e _ _ hql)) hok)) sh sh)) (fun hb => by rw [er] at hb; cases hb) fun _ H2 e2 => ⟨_, rfl, e.trans e2⟩
  · obtain ⟨kv, rfl, e⟩ := pv
    exact s_ret ev_c fun H5 e5 => q H5 (e.trans e5)
theorem ok__law_simple (D : Dn K mg "_law_simple" s__law_simple ["number", "width"]) (z_int : mg "int" = none) :
    C8.Cal P w K mg base 1 "_law_simple" (sp__law_simple K) [] := by
  refine cal_of D sc__law_simple (fun vs H Q E h => ?_) (fun f cdv A outer s H vs Q E hr h => ?_)
  · obtain ⟨_, _, rfl, _⟩ := h
    rfl
  refine ⟨_, (pss_cons (ps_set (i := 2) sc__law_simple.nd rfl (.inl rfl) (pe_op op_fdiv (pe_callTy call_int1 (by rfl) z_int (by decide +kernel) (pa_cons (pv 0) pa_nil)) pe_int))
    (pss_cons (ps_set (i := 3) sc__law_simple.nd rfl (.inl rfl) (pe_tup (pa_cons pe_str (pa_cons (pe_op op_mod (pv 2) (pv 1)) pa_nil))))
    (pss_cons (ps_set (i := 4) sc__law_simple.nd rfl (.inl rfl) (pe_tup (pa_cons pe_str (pa_cons (pe_op op_mod (pe_op op_fdiv (pv 2) (pv 1)) (pv 1)) pa_nil))))
    (pss_cons (ps_set (i := 5) sc__law_simple.nd rfl (.inl rfl) (pe_op op_mod (pe_callTy call_int1 (by rfl) z_int (by decide +kernel) (pa_cons (pv 0) pa_nil)) pe_int))
    (pss_cons (ps_if (pt_cmpR op_le (pv 5) pe_int (nomark _))
      (pss_one (ps_ret (pv 3)))
      pss_nil)
    (pss_cons (ps_if (pt_cmpR op_eq (pv 5) pe_int (nomark _))
      (pss_one (ps_ret (pe_tup (pa_cons pe_str (pa_cons (pe_ix ix_list (pe_lst (pa_cons pe_str (pa_cons pe_str (pa_cons pe_str (pa_cons pe_str pa_nil))))) (pe_op op_mod (pe_op op_fdiv (pv 2) pe_int) pe_int) (fun _ _ => rfl)) (pa_cons (pv 3) (pa_cons (pv 4) pa_nil)))))))
      pss_nil)
    (pss_cons (ps_if (pt_cmpR op_eq (pv 5) pe_int (nomark _))
      (pss_one (ps_ret (pe_tup (pa_cons pe_str (pa_cons (pe_ix ix_list (pe_lst (pa_cons pe_str (pa_cons pe_str (pa_cons pe_str (pa_cons pe_str pa_nil))))) (pe_op op_mod (pe_op op_fdiv (pv 2) pe_int) pe_int) (fun _ _ => rfl)) (pa_cons (pv 3) pa_nil))))))
      pss_nil)
    (pss_cons (ps_if (pt_cmpR op_eq (pv 5) pe_int (nomark _))
      (pss_one (ps_ret (pe_tup (pa_cons pe_str (pa_cons (pe_ix ix_list (pe_lst (pa_cons pe_str (pa_cons pe_str (pa_cons pe_str (pa_cons pe_str pa_nil))))) (pe_op op_mod (pe_op op_fdiv (pv 2) pe_int) pe_int) (fun _ _ => rfl)) (pa_cons (pv 3) (pa_cons (pv 4) pa_nil)))))))
      pss_nil)
    (pss_one (ps_ret (pe_tup (pa_cons pe_str (pa_cons (pe_ix ix_list (pe_lst (pa_cons pe_non (pa_cons pe_int (pa_cons pe_bl (pa_cons pe_str pa_nil))))) (pe_op op_mod (pe_op op_fdiv (pv 2) pe_int) pe_int) (fun _ _ => rfl)) pa_nil))))))))))))), ?_⟩
  obtain ⟨n, wd, rfl, h0, h1, q⟩ := h
  refine q_asg (v := .int ((n / 6 : Nat) : Int)) (ev_is (ev_op (ev_int (ev_var rfl)) ev_c (rv_I ⟨by decide, by decide⟩)) (by rw [Int.natCast_ediv]; rfl)) fun H1 e1 => ?_
  refine q_asgU (xs := [.str "column", .int ((n / 6 % wd : Nat) : Int)]) (eu_tup (ea_cons ev_c (ea_cons (ev_is (ev_op (ev_var rfl) (ev_var rfl) (rv_I (by omega))) (by rw [Int.natCast_emod])) ea_nil)) (by show 2 ≤ 100000; decide)) fun p1 H2 hp1 e2 h2 => ?_
  refine q_asgU (xs := [.str "column", .int ((n / 6 / wd % wd : Nat) : Int)]) (eu_tup (ea_cons ev_c (ea_cons (ev_is (ev_op (ev_op (ev_var rfl) (ev_var rfl) (rv_I ⟨by omega, by omega⟩)) (ev_var rfl) (rv_I (by omega))) (by rw [Int.natCast_emod, Int.natCast_ediv, Int.natCast_ediv]; rfl)) ea_nil)) (by show 2 ≤ 100000; decide)) fun p2 H3 hp2 e3 h3 => ?_
  refine q_asg (v := .int ((n % 6 : Nat) : Int)) (ev_is (ev_op (ev_int (ev_var rfl)) ev_c (rv_I (by decide))) (by rw [Int.natCast_emod]; rfl)) fun H4 e4 => ?_
  have x4 := ((e1.trans e2).trans e3).trans e4
  have l1 : n / 6 % wd < wd := Nat.mod_lt _ h0
  have l2 : n / 6 / wd % wd < wd := Nat.mod_lt _ h0
  generalize n / 6 % wd = c1 at h2 l1
  generalize n / 6 / wd % wd = c2 at h3 l2
  generalize n / 6 = r
  have h2' := (e3.trans e4) _ _ h2
  have h3' := e4 _ _ h3
  have d1 : ∀ H', Ex H4 H' → Dp K H' (.ref p1) (Cnd.col c1).d := fun H' e' => .tup (st_of (e' _ _ h2')) (.cons (.str _) (.cons (.int _) .nil))
  have d2 : ∀ H', Ex H4 H' → Dp K H' (.ref p2) (Cnd.col c2).d := fun H' e' => .tup (st_of (e' _ _ h3')) (.cons (.str _) (.cons (.int _) .nil))
  have ix : ∀ {H0 : Hp} {m : Nat}, Ev (tOp (rI (fun _ j => 0 < j) fun i j => .int (i % j)) (tOp (rI CDiv fun i j => .int (i / j)) (tVar 2) (tC (.int 36))) (tC (.int ((4 : Nat) : Int)))) [some (.int (n : Int)), some (.int (wd : Int)), some (.int (r : Int)), some (.ref p1), some (.ref p2), some (.int (m : Int))] H0 (.int ((r / 36 % 4 : Nat) : Int)) := ev_is (ev_op (ev_op (ev_var rfl) ev_c (rv_I ⟨by decide, by decide⟩)) ev_c (rv_I (by decide))) (by rw [Int.natCast_emod, Int.natCast_ediv]; rfl)
  refine q_when (b := decide (((n % 6 : Nat) : Int) ≤ 1)) (et_test (ev_op (ev_var rfl) ev_c rv_I0)) (fun _ H5 e5 => s_ret (ev_var rfl) fun H6 e6 => q _ H6 (.col c1) (x4.trans (e5.trans e6)) (d1 _ (e5.trans e6)) (.col _ l1) (by show 1 ≤ 2; decide)) fun _ H5 e5 => ?_
  refine q_when (b := decide (V.int ((n % 6 : Nat) : Int) = V.int 2)) (et_test (ev_op (ev_var rfl) ev_c (rv_eq rfl))) (fun _ H6 e6 => ?_) fun _ H6 e6 => ?_
  · obtain ⟨x, hx, s, rfl, hs⟩ := ltn (r := r / 36) (m := 4) (P := fun v => ∃ s, v = .str s ∧ s ∈ binNames) (xs := [.str "coalesce", .str "add", .str "join", .str "least"]) (by decide) rfl fun x hx => by
      simp only [List.mem_cons, List.not_mem_nil, or_false] at hx
      rcases hx with rfl | rfl | rfl | rfl <;> exact ⟨_, rfl, by decide +kernel⟩
    exact s_retU (eu_tup (ea_cons ev_c (ea_cons (ev_ixN (i := r / 36 % 4) (el_lst (ea_cons ev_c (ea_cons ev_c (ea_cons ev_c (ea_cons ev_c ea_nil)))) (by show 4 ≤ 100000; decide)) (fun _ _ => ix) hx) (ea_cons (ev_var rfl) (ea_cons (ev_var rfl) ea_nil)))) (by show 4 ≤ 100000; decide)) fun p H7 hp e7 h7 => q _ H7 (.bin s (.col c1) (.col c2)) (x4.trans ((e5.trans e6).trans e7)) (.tup (st_of h7) (.cons (.str _) (.cons (.str _) (.cons (d1 _ ((e5.trans e6).trans e7)) (.cons (d2 _ ((e5.trans e6).trans e7)) .nil))))) (.bin _ _ _ hs (.col _ l1) (.col _ l2)) (by show 2 ≤ 2; decide)
  refine q_when (b := decide (V.int ((n % 6 : Nat) : Int) = V.int 3)) (et_test (ev_op (ev_var rfl) ev_c (rv_eq rfl))) (fun _ H7 e7 => ?_) fun _ H7 e7 => ?_
  · obtain ⟨x, hx, s, rfl, hs⟩ := ltn (r := r / 36) (m := 4) (P := fun v => ∃ s, v = .str s ∧ s ∈ unNames) (xs := [.str "is null", .str "not", .str "negate", .str "length"]) (by decide) rfl fun x hx => by
      simp only [List.mem_cons, List.not_mem_nil, or_false] at hx
      rcases hx with rfl | rfl | rfl | rfl <;> exact ⟨_, rfl, by decide +kernel⟩
    exact s_retU (eu_tup (ea_cons ev_c (ea_cons (ev_ixN (i := r / 36 % 4) (el_lst (ea_cons ev_c (ea_cons ev_c (ea_cons ev_c (ea_cons ev_c ea_nil)))) (by show 4 ≤ 100000; decide)) (fun _ _ => ix) hx) (ea_cons (ev_var rfl) ea_nil))) (by show 3 ≤ 100000; decide)) fun p H8 hp e8 h8 => q _ H8 (.un s (.col c1)) (x4.trans (((e5.trans e6).trans e7).trans e8)) (.tup (st_of h8) (.cons (.str _) (.cons (.str _) (.cons (d1 _ (((e5.trans e6).trans e7).trans e8)) .nil)))) (.un _ _ hs (.col _ l1)) (by show 2 ≤ 2; decide)
  refine q_when (b := decide (V.int ((n % 6 : Nat) : Int) = V.int 4)) (et_test (ev_op (ev_var rfl) ev_c (rv_eq rfl))) (fun _ H8 e8 => ?_) fun _ H8 e8 => ?_
  · obtain ⟨x, hx, s, rfl, hs⟩ := ltn (r := r / 36) (m := 4) (P := fun v => ∃ s, v = .str s ∧ s ∈ binNames) (xs := [.str "equal", .str "less", .str "same", .str "at most"]) (by decide) rfl fun x hx => by
      simp only [List.mem_cons, List.not_mem_nil, or_false] at hx
      rcases hx with rfl | rfl | rfl | rfl <;> exact ⟨_, rfl, by decide +kernel⟩
    have x8 := ((e5.trans e6).trans e7).trans e8
    exact s_retU (eu_tup (ea_cons ev_c (ea_cons (ev_ixN (i := r / 36 % 4) (el_lst (ea_cons ev_c (ea_cons ev_c (ea_cons ev_c (ea_cons ev_c ea_nil)))) (by show 4 ≤ 100000; decide)) (fun _ _ => ix) hx) (ea_cons (ev_var rfl) (ea_cons (ev_var rfl) ea_nil)))) (by show 4 ≤ 100000; decide)) fun p H9 hp e9 h9 => q _ H9 (.bin s (.col c1) (.col c2)) (x4.trans (x8.trans e9)) (.tup (st_of h9) (.cons (.str _) (.cons (.str _) (.cons (d1 _ (x8.trans e9)) (.cons (d2 _ (x8.trans e9)) .nil))))) (.bin _ _ _ hs (.col _ l1) (.col _ l2)) (by show 2 ≤ 2; decide)
  · obtain ⟨x, hx, hb⟩ := ltn (r := r / 36) (m := 4) (P := OkB) (xs := [.non, .int 1, .bl true, .str "a"]) (by decide) rfl fun x hx => by
      simp only [List.mem_cons, List.not_mem_nil, or_false] at hx
      rcases hx with rfl | rfl | rfl | rfl
      · exact ⟨.non, trivial⟩
      · exact okb_small ⟨by decide, by decide⟩
      · exact ⟨.bl _, trivial⟩
      · exact okb_str ⟨by decide +kernel, by decide +kernel⟩
    have x8 := ((e5.trans e6).trans e7).trans e8
    exact s_retU (eu_tup (ea_cons ev_c (ea_cons (ev_ixN (i := r / 36 % 4) (el_lst (ea_cons ev_c (ea_cons ev_c (ea_cons ev_c (ea_cons ev_c ea_nil)))) (by show 4 ≤ 100000; decide)) (fun _ _ => ix) hx) ea_nil)) (by show 2 ≤ 100000; decide)) fun p H9 hp e9 h9 => q _ H9 (.cst x) (x4.trans (x8.trans e9)) (.tup (st_of h9) (.cons (.str _) (.cons (dp_vDc hb.1.pl) .nil))) (.cst _ hb) (by show 1 ≤ 2; decide)
end

--@SPLIT
/-! ### a lambda without a cell is called: its own rule (imports: KE.KLam, HandS.Lambda) -/
section
variable {P : Program} {w : World} {K : PySem.W.Frag} {mg : Str → Option Value}
theorem lam_run {q : Str} {params : Arguments} {bodyE : Expr} {scope : Scope} {pm ctv : Value} {N ps : List Str} {k : Nat} {f c' : Addr} {A : Around} {outer : List Env} {s : Shared} {H : Hp} {args : Args} {us : List Value} {vs : List V} {Q : VK} {base : Heap}
    (hf : s.heap.get? f = some (PySem.W.kla_obj "<lambda>" q params bodyE scope [] pm c' ctv)) (hc : s.heap.CodeRec (.ref c') q) (S : FnScope N ps scope) (room : Room (k + 1) A) (env : Env0 P w K mg base A outer s H)
    (bi : BindsTo s (PySem.W.kla_fn "<lambda>" q params bodyE scope [] pm (.ref c') ctv) args (ps.zip us)) (rv : Vals vs us) (len : vs.length = ps.length)
    (body : Room k (A.deeper (envOfC q scope s.heap.objs.size f (.ref c'))) → ∃ t, PE (cxOf C8.CX0 P w K mg base N q scope f (.ref c') A outer s H C8.E0).nox bodyE t ∧ t (start N vs) H Q) :
    codeAny (model P w) A (.call (.ref f) args) (CR C8.CX0 outer P w H s Q C8.E0) s := by
  have sub : ∀ b o, base.get? b = some o → s.heap.get? b = some o := fun b o e => (env.bs b o e).1
  have noLim := env.mod.nolimit.keeps sub
  refine PySem.W.kla_callFunE room.depth hf rfl S.co S.gen rfl hc ?_
  apply bi
  apply wpAny_newFunctionEnv_cells S.kind
  · rintro ⟨n, v⟩ hy
    have hp := S.par n (List.of_mem_zip hy).1
    exact hp.imp id fun c => ⟨c, PySem.W.cellsFrom_some _ _ _ (.inl c)⟩
  intro e he s1 made
  subst he
  obtain ⟨t, ht, hq⟩ := body (room.deeper _)
  have inv := inv_start (CX := C8.CX0) (E := C8.E0) (N := N) (qual := q) (scope := scope) (f := f) (cd := .ref c') S room.hd env len rv made
  refine ⟨noLim.keeps made.toInCall.keep, PySem.W.kla_codeExpr ?_⟩
  refine wpAny_mono (ht.nox.run [] s1 _ H _ inv hq) ?_ fun _ _ z => z
  intro u s' ⟨v, H', J, r, q⟩
  exact ⟨v, H', J.os, J.bare, J.base, J.hok, r, q⟩
end

/-! ### a def whose code object is told; a key lambda -/
def DnC (K : PySem.W.Frag) (mg : Str → Option Value) (x : Str) (st : Stmt) (ps : List Str) (cd : Value) : Prop := ∃ f fd, C8.Def K mg x st f fd ∧ Binds K fd ps [] ∧ fd.code = cd
section
variable {P : Program} {w : World} {K : PySem.W.Frag} {mg : Str → Option Value} {base : Heap}
theorem dnC_mk {x : Str} {st : Stmt} {f : Addr} {oc : Value} {od an : Option Addr} {osl : Array (Option Value)} {kV doc pm cdv ct : Value} {ps : List Str}
    (l : K.lookup f = some ⟨oc, od, .func (PySem.W.fnOf x x (C8.fnArgs st) (C8.fnBody st) (C8.fnScope st) .none kV doc pm an cdv ct), osl⟩)
    (c : PySem.W.codeIn K cdv x = true) (k : PySem.W.keepIn K (.ref f) = true) (m : mg x = some (.ref f))
    (h : ∀ (kV doc pm : Value) (an : Option Addr) (cdv ct : Value) (us : List Value), us.length = ps.length → bindArgs (PySem.W.fnOf x x (C8.fnArgs st) (C8.fnBody st) (C8.fnScope st) .none kV doc pm an cdv ct) ⟨us, []⟩ = pure (ps.zip us)) : DnC K mg x st ps cdv :=
  ⟨f, _, def_mk l c k m, C8.Fun.binds (def_mk l c k m).fn rfl h, rfl⟩
theorem cal_cd {x : Str} {st : Stmt} {N ps : List Str} {k : Nat} {sp : Sp} {cd : Value} (D : DnC K mg x st ps cd) (S : FnScope N ps (C8.fnScope st)) (len : ∀ vs H Q E, sp vs H Q E → vs.length = ps.length)
    (hbody : ∀ (f : Addr) (A : Around) (outer : List Env) (s : Shared) (H : Hp) (vs : List V) (Q : VK) (E : XK), Room k (A.deeper (envOfC x (C8.fnScope st) s.heap.objs.size f cd)) → sp vs H Q E →
      ∃ t, PSs (cxOf C8.CX0 P w K mg base N x (C8.fnScope st) f cd A outer s H E).nox (C8.fnBody st) t ∧ t { nx := fun _ H' => Q .non H', rt := Q } (start N vs) H) : C8.Cal P w K mg base (k + 1) x sp [] := by
  obtain ⟨f, fd, F, b, hc⟩ := D
  obtain ⟨oc, od, dV, kV, doc, pm, an, cdv, ct, osl, rfl, lk, hcd⟩ := F.fn.ex
  obtain rfl : cdv = cd := hc
  exact ⟨f, _, ps, [], fn_of lk hcd S len (fun A outer s H vs Q E hr hsp => let ⟨t, h, q⟩ := hbody f A outer s H vs Q E hr hsp; ⟨t, h.nox, q⟩), F.mgf, F.kp, b, .nil⟩
end
/-! ### the table of a def's code; the heap without tables -/
def tabOf (K : PySem.W.Frag) (x : Str) : Addr := match PySem.W.nsIn K mainGlobals x with
  | some (some (.ref f)) => match K.lookup f with
    | some ⟨_, _, .func fd, _⟩ => match fd.code with
      | .ref c => match K.lookup c with
        | some ⟨_, _, .fields vs, _⟩ => match vs.getD 11 .none with
          | .ref P => P
          | _ => 0
        | _ => 0
      | _ => 0
    | _ => 0
  | _ => 0
def noT (H : Hp) : Hp := fun a => match H a with
  | some (.tbl _) => none
  | o => o
theorem noT_at {H : Hp} {a : Addr} {o : HO} (h : H a = some o) (n : ∀ ps, o ≠ .tbl ps) : noT H a = some o := by
  unfold noT
  rw [h]
  cases o <;> first | rfl | exact absurd rfl (n _)
theorem noT_le (H : Hp) : Ex (noT H) H := fun a o h => by
  unfold noT at h
  split at h
  · cases h
  · exact h
theorem noT_no {H : Hp} {a : Addr} {ps : Array Value} : noT H a ≠ some (.tbl ps) := fun h => by
  unfold noT at h
  split at h
  · cases h
  · rename_i n
    exact n ps h
theorem ex_noT {H H' : Hp} (e : LamX.ExtN H H') : Ex (noT H) H' := fun a o h => e a o (noT_le _ _ _ h) fun ps z => noT_no (z ▸ h)
theorem noT_mono {H H' : Hp} (e : Ex (noT H) H') : Ex (noT H) (noT H') := fun a o h => noT_at (e a o h) fun ps z => noT_no (z ▸ h)
theorem noT_trans {H1 H2 H3 : Hp} (a : Ex (noT H1) H2) (b : Ex (noT H2) H3) : Ex (noT H1) H3 := (noT_mono a).trans b
section
variable {K : PySem.W.Frag} {H : Hp}
theorem rd_noT {a : Addr} {u : HO} (h : Rd H a u) (n : ∀ ps, u ≠ .tbl ps) : Rd (noT H) a u := h.imp (fun h => noT_at h n) fun ⟨o, h⟩ => ⟨o, noT_at h fun ps z => nomatch z⟩
theorem sq_noT {a : Addr} {xs : List V} (h : SqL K H a xs) : SqL K (noT H) a xs := h.imp (fun h => rd_noT h fun ps z => nomatch z) id
theorem st_noT {a : Addr} {xs : List V} (h : SqT K H a xs) : SqT K (noT H) a xs := h.imp (fun h => rd_noT h fun ps z => nomatch z) id
mutual
theorem dp_noT : ∀ {v : V} {d : PyData}, Dp K H v d → Dp K (noT H) v d
  | _, _, .non => .non
  | _, _, .bl b => .bl b
  | _, _, .int i => .int i
  | _, _, .str x => .str x
  | _, _, .lst h a => .lst (sq_noT h) (dps_noT a)
  | _, _, .tup h a => .tup (st_noT h) (dps_noT a)
theorem dps_noT : ∀ {vs : List V} {ds : List PyData}, DpAll K H vs ds → DpAll K (noT H) vs ds
  | _, _, .nil => .nil
  | _, _, .cons h t => .cons (dp_noT h) (dps_noT t)
end
end

--@SPLIT
/-! ### a lambda that captures one name, handed to a def that calls it: the cell is tracked while that def runs (imports: HandS.Nested) -/
def ExO (c : Addr) (o : Obj) : HO := .ext fun h => h.get? c = some o
def ClO (f c' : Addr) (q : Str) (params : Arguments) (body : Expr) (scope : Scope) (cl : List (Str × Addr)) : HO := .ext fun h => ∃ pm ctv, h.get? f = some (PySem.W.kla_obj "<lambda>" q params body scope cl pm c' ctv)
theorem exO_ok {P : Program} {w : World} {H : Hp} {h : Heap} {c : Addr} {o : Obj} (e : h.get? c = some o) : ObjOk P w H h c (ExO c o) := ⟨e, ⟨_, e⟩, fun _ _ a k => k _ a⟩
theorem exO_at {P : Program} {w : World} {H : Hp} {h : Heap} {c : Addr} {o : Obj} (hok : HOk P w H h) (e : H c = some (ExO c o)) : h.get? c = some o := (hok c _ e).1
theorem clO_ok {P : Program} {w : World} {H : Hp} {h : Heap} {f c' : Addr} {q : Str} {params : Arguments} {body : Expr} {scope : Scope} {cl : List (Str × Addr)} {pm ctv : Value} (e : h.get? f = some (PySem.W.kla_obj "<lambda>" q params body scope cl pm c' ctv)) : ObjOk P w H h f (ClO f c' q params body scope cl) :=
  ⟨⟨pm, ctv, e⟩, ⟨_, e⟩, fun h1 h2 ⟨pm, ctv, e⟩ k => ⟨pm, ctv, k _ e⟩⟩
theorem wo_n {H : Hp} {c b : Addr} (h : H b = none) : wo c H b = none := by
  by_cases e : b = c
  · rw [e]; exact wo_self _ _
  · rw [wo_ne e]; exact h
section
variable {P : Program} {w : World} {K : PySem.W.Frag} {mg : Str → Option Value} {base : Heap} {H : Hp} {c : Addr} {o : Obj} {A : Around} {outer : List Env} {s : Shared}
theorem hok_wo {h : Heap} (hok : HOk P w H h) (hc : H c = some (ExO c o)) : HOk P w (wo c H) h := fun a u e => by
  have ne : a ≠ c := fun z => by rw [z, wo_self] at e; cases e
  rw [wo_ne ne] at e
  refine (hok a u e).stay (fun b v _ q => q) (fun b q => ?_) fun b xs q => ?_
  · rw [wo_ne fun z => by rw [z, hc] at q; cases q]; exact q
  · rw [wo_ne fun z => by rw [z, hc] at q; cases q]; exact q
theorem hok_up {h : Heap} (hok : HOk P w H h) (hn : H c = none) (e : h.get? c = some o) : HOk P w (upd H c (ExO c o)) h := fun a u ea => by
  by_cases z : a = c
  · subst z
    rw [upd_same] at ea
    cases ea
    exact exO_ok e
  · rw [upd_ne z] at ea
    exact (hok a u ea).stay (fun b v _ q => q) (fun b q => by rw [upd_ne (ne_of_none q hn)]; exact q) fun b xs q => by rw [upd_ne (ne_of_none q hn)]; exact q
theorem env_wo (e : Env0 P w K mg base A outer s H) (hc : H c = some (ExO c o)) : Env0 P w K mg base A outer s (wo c H) :=
  ⟨e.frames, e.mod, fun b ob q => ⟨(e.bs b ob q).1, wo_n (e.bs b ob q).2⟩, e.bsz, e.funs, fun b q => wo_n (e.frf b q), hok_wo e.hok hc, e.bare⟩
/-- what ran while the cell was not tracked -/
theorem ce_re {Q : VK} {u : Value} {s' : Shared} (e : Env0 P w K mg base A outer s H) (hc : H c = some (ExO c o)) (h : CE outer P w (wo c H) s (fun v H' => Q v (upd H' c (ExO c o))) u s') : CE outer P w H s Q u s' := by
  obtain ⟨v, H', os, bare, un, hok, r, q⟩ := h
  have hg := exO_at e.hok hc
  have nf : c ∉ frs outer := fun z => by have := e.frf c z; rw [hc] at this; cases this
  have g' := un.keep c o hg (wo_self _ _) nf List.not_mem_nil
  have n' := un.free c o hg (wo_self _ _) List.not_mem_nil
  have ne : ∀ {b : Addr} {x : HO}, H b = some x → (∀ y, x ≠ ExO c y) → b ≠ c := fun {b x} hb hx z => by
    rw [z, hc] at hb
    exact hx o (Option.some.inj hb).symm
  refine ⟨v, upd H' c (ExO c o), os, bare, ⟨fun b ob e1 hn => un.keep b ob e1 (wo_n hn), fun b ob e1 hn => un.slot b ob e1 (wo_n hn), fun b ob e1 hn hx => ?_, un.there, fun b xs hb => ?_, fun b ob x hb => ?_, fun b ps hb => ?_⟩, hok_up hok n' g', r, q⟩
  · rw [upd_ne fun z => by rw [z, hc] at hn; cases hn]
    exact un.free b ob e1 (wo_n hn) hx
  · have z := ne hb fun y z => nomatch z
    rw [upd_ne z]
    exact un.tups b xs ((wo_ne z).trans hb)
  · have z := ne hb fun y z => nomatch z
    rw [upd_ne z]
    exact un.frzs b ob x ((wo_ne z).trans hb)
  · have z := ne hb fun y z => nomatch z
    rw [upd_ne z]
    exact un.tbls b ps ((wo_ne z).trans hb)
theorem env_up (e : Env0 P w K mg base A outer s H) (hn : H c = none) (hg : s.heap.get? c = some o) (hb : base.get? c = none) (nf : c ∉ frs outer) : Env0 P w K mg base A outer s (upd H c (ExO c o)) :=
  ⟨e.frames, e.mod, fun b ob q => ⟨(e.bs b ob q).1, by rw [upd_ne fun z => by rw [z, hb] at q; cases q]; exact (e.bs b ob q).2⟩, e.bsz, e.funs, fun b q => by rw [upd_ne fun z => nf (by rw [← z]; exact q)]; exact e.frf b q, hok_up e.hok hn hg, e.bare⟩
/-- what ran while the cell was tracked, and is so still -/
theorem ce_un {Q : VK} {u : Value} {s' : Shared} (hn : H c = none) (nf : c ∉ frs outer) (hg : s.heap.get? c = some o) (h : CE outer P w (upd H c (ExO c o)) s (fun v H' => H' c = some (ExO c o) ∧ Q v (wo c H')) u s') : CE outer P w H s Q u s' := by
  obtain ⟨v, H', os, bare, un, hok, r, hc, q⟩ := h
  have g' := exO_at hok hc
  have ne : ∀ {b : Addr} {x : HO}, H b = some x → b ≠ c := fun hb => ne_of_none hb hn
  refine ⟨v, wo c H', os, bare, ⟨fun b ob e1 h0 hf hx => ?_, fun b ob e1 h0 hf hx => ?_, fun b ob e1 h0 hx => ?_, un.there, fun b xs hb => ?_, fun b ob x hb => ?_, fun b ps hb => ?_⟩, hok_wo hok hc, r, q⟩
  · by_cases z : b = c
    · subst z
      rw [hg] at e1
      rw [← e1]
      exact g'
    · exact un.keep b ob e1 ((upd_ne z).trans h0) hf hx
  · have z : b ≠ c := fun z => nf (by rw [← z]; exact hf)
    exact un.slot b ob e1 ((upd_ne z).trans h0) hf hx
  · by_cases z : b = c
    · rw [z]; exact wo_self _ _
    · exact wo_n (un.free b ob e1 ((upd_ne z).trans h0) hx)
  · rw [wo_ne (ne hb)]
    exact un.tups b xs ((upd_ne (ne hb)).trans hb)
  · rw [wo_ne (ne hb)]
    exact un.frzs b ob x ((upd_ne (ne hb)).trans hb)
  · obtain ⟨more, z⟩ := un.tbls b ps ((upd_ne (ne hb)).trans hb)
    exact ⟨more, by rw [wo_ne (ne hb)]; exact z⟩
end
/-! ### what can be called: f, from the heap H on -/
structure CallH (P : Program) (w : World) (K : PySem.W.Frag) (mg : Str → Option Value) (base : Heap) (k : Nat) (H : Hp) (f : Addr) (sp : Sp) : Prop where
  fn : ∀ (H1 : Hp) (h : Heap), Ex H H1 → HOk P w H1 h → PySem.W.FnAt f h
  run : ∀ (A : Around) (outer : List Env) (s : Shared) (H1 : Hp) (us : List Value) (vs : List V) (Q : VK), Ex H H1 → Room k A → Env0 P w K mg base A outer s H1 → Vals vs us → sp vs H1 Q C8.E0 → codeAny (model P w) A (.call (.ref f) ⟨us, []⟩) (CR C8.CX0 outer P w H1 s Q C8.E0) s
theorem CallH.ex {P : Program} {w : World} {K : PySem.W.Frag} {mg : Str → Option Value} {base : Heap} {k : Nat} {H H' : Hp} {f : Addr} {sp : Sp} (c : CallH P w K mg base k H f sp) (e : Ex H H') : CallH P w K mg base k H' f sp := ⟨fun H1 h e1 => c.fn H1 h (e.trans e1), fun A outer s H1 us vs Q e1 => c.run A outer s H1 us vs Q (e.trans e1)⟩
def tCallC (P : Program) (w : World) (K : PySem.W.Frag) (mg : Str → Option Value) (base : Heap) (i k : Nat) (t : TA) : TE := fun σ H Q => ∃ f sp, σ[i]? = some (some (.ref f)) ∧ CallH P w K mg base k H f sp ∧ t σ H fun vs H1 => Ex H H1 ∧ sp vs H1 Q C8.E0
theorem pe_callC {X : Cx} {x : Str} {p pos : Pos} {e : Expr} {es : List Expr} {t : TA} {i k : Nat} (hr : Room k X.A) (hN : X.N[i]? = some x) (hv : Vis X.env.scope x) (ha : PA X (e :: es) t)
    (hd : (x == ("__debug__" : Str)) = false := by decide) (hcd : (x == ("__classdict__" : Str)) = false := by decide)
    (he : starEach (e :: es) X.env = (false, eval e X.env) :: starEach es X.env := by rfl) (hpl : (backTo pos (starEach es X.env)).any (·.1) = false := by rfl) : PE X (.Call (.Name x p) (e :: es) [] pos) (tCallC X.prog X.w X.K X.mg X.base i k t) := by
  refine ⟨fun pins s σ H Q I h => ?_⟩
  obtain ⟨f, sp, hs, C, ht⟩ := h
  refine wpAny_Call_Name_kw (thn ((pe_var (pos := p) hN hv hd hcd).run pins s σ H (fun v H1 => v = .ref f ∧ H1 = H) I ⟨.ref f, hs, rfl, rfl⟩) fun u s1 ⟨v, H1, I1, r1, q1⟩ => ?_)
  obtain ⟨ev, eH⟩ := q1
  subst ev
  rw [eH] at I1
  obtain rfl : u = Value.ref f := r1
  refine PySem.W.callWith_F (first := []) (C.fn H _ (Ex.refl H) I1.hok) (thn (ha.run pos pins s1 σ H _ I1 ht) fun us s2 ⟨vs, H2, I2, r, ex, q⟩ => ⟨C.fn H2 _ ex I2.hok, ?_⟩) he hpl
  show wpAny _ _ (call (.ref f) us) _ _ _
  refine wpAny_call (codeAny_mono (C.run X.A X.stack s2 H2 us vs Q ex hr I2.env0 r q) fun r s' hq => ?_)
  cases r with
  | error e => exact False.elim hq
  | ok fl =>
    cases fl with
    | ret u => exact I2.after hq
    | next => exact False.elim hq
    | brk => exact False.elim hq
    | cont => exact False.elim hq
theorem pe_callCK {X : Cx} {P : Program} {w : World} {K : PySem.W.Frag} {mg : Str → Option Value} {base : Heap} {x : Str} {p pos : Pos} {e : Expr} {es : List Expr} {t : TA} {i k : Nat} (h1 : X.prog = P) (h2 : X.w = w) (h3 : X.K = K) (h4 : X.mg = mg) (h5 : X.base = base) (hr : Room k X.A) (hN : X.N[i]? = some x) (ha : PA X (e :: es) t) (hv : Vis X.env.scope x := by first | exact Or.inl rfl | exact Or.inr (Or.inl rfl) | exact Or.inr (Or.inr rfl))
    (hd : (x == ("__debug__" : Str)) = false := by decide) (hcd : (x == ("__classdict__" : Str)) = false := by decide)
    (he : starEach (e :: es) X.env = (false, eval e X.env) :: starEach es X.env := by rfl) (hpl : (backTo pos (starEach es X.env)).any (·.1) = false := by rfl) : PE X (.Call (.Name x p) (e :: es) [] pos) (tCallC P w K mg base i k t) := by
  subst h1 h2 h3 h4 h5
  exact pe_callC hr hN hv ha hd hcd he hpl
/-! ### such a lambda is called -/
section
variable {P : Program} {w : World} {K : PySem.W.Frag} {mg : Str → Option Value} {base : Heap}
theorem lam_runF {F : NdefX.NF} {bodyE : Expr} {pm ctv : Value} {N ps fr : List Str} {k : Nat} {f : Addr} {A : Around} {outer : List Env} {s : Shared} {H : Hp} {us : List Value} {vs : List V} {ws : List (Option V)} {Q : VK}
    (hf : s.heap.get? f = some (PySem.W.kla_obj "<lambda>" F.qual F.params bodyE F.scope F.cl pm F.c ctv)) (hc : s.heap.CodeRec (.ref F.c) F.qual) (S : NdefX.NScope N ps fr F.scope) (room : Room (k + 1) A) (env : Env0 P w K mg base A outer s H)
    (bi : bindArgs (PySem.W.kla_fn "<lambda>" F.qual F.params bodyE F.scope F.cl pm (.ref F.c) ctv) ⟨us, []⟩ = pure (ps.zip us)) (rv : Vals vs us) (len : vs.length = ps.length) (C : NdefX.CellsAt F.cl fr ws s.heap H)
    (body : Room k (A.deeper (NdefX.envF F f s.heap.objs.size)) → ∃ t, PE (NdefX.ncx C8.CX0 P w K mg base N F f A outer s H C8.E0).nox bodyE t ∧ t (NdefX.startF N vs ws) H Q) :
    codeAny (model P w) A (.call (.ref f) ⟨us, []⟩) (CR C8.CX0 outer P w H s Q C8.E0) s := by
  have lim : s.heap.NoLimit := env.mod.nolimit.keeps fun b o e => (env.bs b o e).1
  refine PySem.W.kla_callFunE room.depth hf rfl S.co S.gen rfl hc ?_
  rw [bi]
  refine wpAny_pure (wpAny_newFunctionEnv S.nocell (fun ⟨n, _⟩ hy => S.par n (List.of_mem_zip hy).1) (fun h₁ hns hsb => ⟨lim.fresh _ hsb, ?_⟩) S.kind)
  have kp : ∀ b o, s.heap.get? b = some o → h₁.get? b = some o := fun b o e => hsb.extBut b o (Nat.ne_of_lt (Heap.lt_size e)) (Heap.get?_push_of_some _ e)
  obtain ⟨t, ht, hq⟩ := body (room.deeper _)
  have I : Inv (NdefX.ncx C8.CX0 P w K mg base N F f A outer s H C8.E0) [] (NdefX.startF N vs ws) H { s with heap := h₁, toks := s.toks + (ps.zip us).length } := NdefX.inv_startN S room.hd env len rv C hns kp
  refine PySem.W.kla_codeExpr ?_
  refine wpAny_mono (ht.nox.run [] _ (NdefX.startF N vs ws) H _ I hq) ?_ fun _ _ z => z
  intro u s' ⟨v, H', J, r, q⟩
  exact ⟨v, H', J.os, J.bare, J.base, J.hok, r, q⟩
theorem cell_look {cl : List (Str × Addr)} {y z : Str} {c b : Addr} (hcl : cl = [(y, c)]) (h : cl.lookup z = some b) : z = y ∧ b = c := by
  subst hcl
  by_cases e : z = y
  · subst e
    have : ([(z, c)] : List (Str × Addr)).lookup z = some c := by simp [List.lookup]
    rw [this] at h
    exact ⟨rfl, (Option.some.inj h).symm⟩
  · have e' : (z == y) = false := beq_eq_false_iff_ne.mpr e
    simp [List.lookup, e'] at h
/-- one captured name: y, of value x -/
theorem callH_lam {f c' c : Addr} {q y : Str} {params : Arguments} {bodyE : Expr} {scope : Scope} {N ps : List Str} {k : Nat} {H : Hp} {o : Obj} {u : Value} {x : V} {sp : Sp}
    (h1 : H f = some (ClO f c' q params bodyE scope [(y, c)])) (h2 : H c' = some (LamX.CodeO c' q)) (h3 : H c = some (ExO c o)) (ho : o.data = .cell (some u)) (ru : RelV x u) (S : NdefX.NScope N ps [y] scope)
    (bind : ∀ (q : Str) (cl : List (Str × Addr)) (pm cv ctv : Value) (us : List Value), us.length = ps.length → bindArgs (PySem.W.kla_fn "<lambda>" q params bodyE scope cl pm cv ctv) ⟨us, []⟩ = pure (ps.zip us))
    (len : ∀ vs H1 Q, sp vs H1 Q C8.E0 → vs.length = ps.length)
    (body : ∀ (A : Around) (outer : List Env) (s : Shared) (H1 : Hp) (vs : List V) (Q : VK), Ex H H1 → Room k (A.deeper (NdefX.envF ⟨"<lambda>", q, params, [], scope, [(y, c)], c'⟩ f s.heap.objs.size)) → sp vs H1 Q C8.E0 →
      ∃ t, PE (NdefX.ncx C8.CX0 P w K mg base N ⟨"<lambda>", q, params, [], scope, [(y, c)], c'⟩ f A outer s (wo c H1) C8.E0).nox bodyE t ∧ t (NdefX.startF N vs [some x]) (wo c H1) fun v H' => Q v (upd H' c (ExO c o))) : CallH P w K mg base (k + 1) H f sp := by
  refine ⟨fun H1 h e hok => ?_, fun A outer s H1 us vs Q e hr env rv hsp => ?_⟩
  · obtain ⟨pm, ctv, z⟩ := (show ObjOk P w H1 h f (ClO f c' q params bodyE scope [(y, c)]) from hok f _ (e _ _ h1)).1
    exact ⟨_, _, _, _, z⟩
  · have hc1 := e _ _ h3
    obtain ⟨pm, ctv, z⟩ := (show ObjOk P w H1 s.heap f (ClO f c' q params bodyE scope [(y, c)]) from env.hok f _ (e _ _ h1)).1
    have hcd := NdefX.codeO_at env.hok (e _ _ h2)
    have hl := len _ _ _ hsp
    have hg := exO_at env.hok hc1
    have cells : NdefX.CellsAt [(y, c)] [y] [some x] s.heap (wo c H1) := by
      refine ⟨rfl, fun a b hb => ?_, fun a a' b h1 h2 => (cell_look rfl h1).1.trans (cell_look rfl h2).1.symm, fun i a ha => ?_⟩
      · obtain ⟨rfl, rfl⟩ := cell_look rfl hb
        exact ⟨wo_self _ _, _, o, hg, ho⟩
      · cases i with
        | zero =>
          cases ha
          refine ⟨c, by simp [List.lookup], fun v hv => ?_⟩
          cases hv
          exact ⟨u, ru, o, hg, ho⟩
        | succ i => simp at ha
    have run := lam_runF (F := ⟨"<lambda>", q, params, [], scope, [(y, c)], c'⟩) (bodyE := bodyE) (k := k) (Q := fun v H' => Q v (upd H' c (ExO c o))) z hcd S hr (env_wo env hc1) (bind _ _ _ _ _ us (by rw [← rv.length]; exact hl)) rv hl cells fun rm => body A outer s H1 vs Q e rm hsp
    refine codeAny_mono run fun r s' hq => ?_
    cases r with
    | error e => exact False.elim hq
    | ok fl =>
      cases fl with
      | ret u => exact ce_re env hc1 hq
      | next => exact False.elim hq
      | brk => exact False.elim hq
      | cont => exact False.elim hq
end

--@SPLIT
/-! ### a lambda that captures one name is made, and handed to a def by its name -/
def tLambF (P : Addr) (q : Str) (params : Arguments) (body : Expr) (scope : Scope) (cl : List (Str × Addr)) : TE := fun σ H Q => LamX.TabS H P q ∧ ∀ f c' H1, H f = none → LamX.ExtN H H1 → (∀ b o, b ≠ P → H b = some o → H1 b = some o) → LamX.TabS H1 P q → H1 f = some (ClO f c' q params body scope cl) → H1 c' = some (LamX.CodeO c' q) → Q (.ref f) H1
theorem pe_lambF {X : Cx} {c P : Addr} {params : Arguments} {body : Expr} {scope : Scope} {cl : List (Str × Addr)} {pos : Pos} (TB : LamX.TabB X.base X.mg c P) (hcode : X.env.code = .ref c) (hcl : cloFrom X.env.cells scope.names [] = cl) (hfree : ∀ y ∈ scope.names, y.2 = .free → X.env.scope.names.lookup y.1 = some .cell ∨ X.env.scope.names.lookup y.1 = some .free) (hdef : defaultsOf params X.env = ([], []) := by rfl) :
    PE X (.Lambda params body scope pos) (tLambF P (X.env.qual ++ "<lambda>") params body scope cl) := by
  refine ⟨fun pins s σ H Q I h => ?_⟩
  obtain ⟨⟨ps, hP, ht, ha⟩, k⟩ := h
  have hfr : ∀ y ∈ scope.names, y.2 = .free → ∃ c, X.env.cells.lookup y.1 = some c := fun y hy e => (hfree y hy e).elim (fun z => I.ok.has _ (.inl z)) fun z => I.ok.has _ (.inr z)
  refine PySem.W.kla_eval hdef ?_
  have bP : s.heap.BuiltinsAt X.mg P := TB.bm.keeps I.bk
  have hP' : s.heap.get? P = some { cls := .none, data := .fields ps } := I.hok P _ hP
  have end_ : ∀ {H2 : Hp} {h2 : Heap} {t2 : Nat} {c' : Addr} {pm ctv : Value}, Inv X pins σ H2 { s with heap := h2, toks := t2 } → LamX.ExtN H H2 → (∀ b o, b ≠ P → H b = some o → H2 b = some o) → LamX.TabS H2 P (X.env.qual ++ "<lambda>") → H2 c' = some (LamX.CodeO c' (X.env.qual ++ "<lambda>")) → H h2.objs.size = none →
      ∃ (x : V) (H' : Hp), Inv X pins σ H' { s with heap := h2.push (PySem.W.kla_obj "<lambda>" (X.env.qual ++ "<lambda>") params body scope cl pm c' ctv), toks := t2 } ∧ L2.RelV x (.ref h2.objs.size) ∧ Q x H' := fun {H2 h2 t2 c' pm ctv} J e1 e2 e3 e4 n0 => by
    have nF : H2 h2.objs.size = none := J.hok.fresh (Nat.le_refl _)
    have hat := Heap.get?_push_size h2 (o := PySem.W.kla_obj "<lambda>" (X.env.qual ++ "<lambda>") params body scope cl pm c' ctv) rfl
    have up : ∀ b o, H2 b = some o → upd H2 h2.objs.size (ClO h2.objs.size c' (X.env.qual ++ "<lambda>") params body scope cl) b = some o := fun b o e => by rw [upd_ne (fun z => by rw [z, nF] at e; cases e)]; exact e
    exact ⟨.ref h2.objs.size, _, J.laid (t' := t2) (a := h2.objs.size) (o := ClO h2.objs.size c' (X.env.qual ++ "<lambda>") params body scope cl) (fun _ _ q => Heap.get?_push_of_some _ q) (Nat.le_refl _) (clO_ok hat), rfl, k _ c' _ n0 (e1.trans (.of up)) (fun b o hb e => up b o (e2 b o hb e)) (e3.ext up) upd_same (up _ _ e4)⟩
  cases hc : codeAmong pos ps.toList with
  | none =>
    refine PySem.W.kla_makeFunction (closure_ok hfr) I.ok.glob (I.mod.glob.keeps I.bk) hcode (TB.code.keeps I.bk) hP' ht hc TB.gP bP fun c' ctv h' tk hx hge hlt hrec htb => ?_
    rw [hcl]
    obtain ⟨c2, oc, vs, t, e2, hoc, hd, hv⟩ := hrec
    cases e2
    have J := LamX.inv_table (t' := tk) (q := X.env.qual ++ "<lambda>") (c := c') (more := #[rawInt pos.line, rawInt pos.col, .ref c']) I hP hx htb hge ⟨oc, vs, t, hoc, hd, hv⟩
    have nC : H c' = none := I.hok.fresh hge
    have nPc : P ≠ c' := fun z => by rw [← z, hP] at nC; cases nC
    have other : ∀ b o, b ≠ P → H b = some o → upd (upd H P (.tbl (ps ++ #[rawInt pos.line, rawInt pos.col, .ref c']))) c' (LamX.CodeO c' (X.env.qual ++ "<lambda>")) b = some o := fun b o hb e => by
      rw [upd_ne (fun z => by rw [z, nC] at e; cases e), upd_ne hb]; exact e
    have hE : LamX.ExtN H (upd (upd H P (.tbl (ps ++ #[rawInt pos.line, rawInt pos.col, .ref c']))) c' (LamX.CodeO c' (X.env.qual ++ "<lambda>"))) := fun b o e n => other b o (fun z => by rw [z, hP] at e; exact n ps (Option.some.inj e).symm) e
    have eL : (ps ++ #[rawInt pos.line, rawInt pos.col, .ref c']).toList = ps.toList ++ [rawInt pos.line, rawInt pos.col, .ref c'] := by simp
    have hT : LamX.TabS (upd (upd H P (.tbl (ps ++ #[rawInt pos.line, rawInt pos.col, .ref c']))) c' (LamX.CodeO c' (X.env.qual ++ "<lambda>"))) P (X.env.qual ++ "<lambda>") := by
      refine ⟨_, by rw [upd_ne nPc, upd_same], by rw [eL]; exact PySem.TriplesOk_snoc _ _ _ _ ht, fun p' cv hcv => ?_⟩
      rw [eL] at hcv
      rcases LamX.among_app _ ht hcv with z | z
      · obtain ⟨c0, e1, e2⟩ := ha p' cv z
        exact ⟨c0, e1, hE _ _ e2 LamX.codeO_ne⟩
      · exact ⟨c', z, upd_same⟩
    exact end_ J hE other hT upd_same (I.hok.fresh (Nat.le_trans hge (Nat.le_of_lt hlt)))
  | some cv =>
    obtain ⟨c', e, hco⟩ := ha pos cv hc
    subst e
    refine PySem.W.kla_makeFunctionHit (closure_ok hfr) I.ok.glob (I.mod.glob.keeps I.bk) hcode (TB.code.keeps I.bk) hP' ht hc bP fun ctv h' tk hx hsz => ?_
    rw [hcl]
    have J : Inv X pins σ H { s with heap := h', toks := tk } := I.kept hx
    exact end_ J (LamX.ExtN.refl H) (fun b o _ e => e) ⟨ps, hP, ht, ha⟩ hco (J.hok.fresh (Nat.le_refl _))
/-- g(.., a lambda that captures y, ..): while g runs, y's cell is tracked -/
def cellAt (cells : List (Str × Addr)) (y : Str) : Addr := (cells.lookup y).getD 0
def tCallL (cells : List (Str × Addr)) (y : Str) (j : Nat) (sp : Sp) (t : TA) : TE := fun σ H Q => ∃ x, σ[j]? = some (some x) ∧ t σ H fun vs H1 => ∀ (o : Obj) (u : Value), H1 (cellAt cells y) = none → o.data = .cell (some u) → L2.RelV x u →
  sp vs (upd H1 (cellAt cells y) (ExO (cellAt cells y) o)) (fun v H' => H' (cellAt cells y) = some (ExO (cellAt cells y) o) ∧ Q v (wo (cellAt cells y) H')) C8.E0
theorem pe_cLam {X : Cx} {g y : Str} {j k l : Nat} {sp : Sp} {p pos : Pos} {e : Expr} {es : List Expr} {t : TA} (c : C8.Cal X.prog X.w X.K X.mg X.base k g sp []) (hr : Room l X.A) (hk : k ≤ l) (hg : Gl X g) (hN : X.N[j]? = some y) (hv : X.env.scope.names.lookup y = some .cell) (hfn : X.fn y = true) (ha : PA X (e :: es) t)
    (hdb : (g == ("__debug__" : Str)) = false := by decide) (he : starEach (e :: es) X.env = (false, eval e X.env) :: starEach es X.env := by rfl) (hpl : (backTo pos (starEach es X.env)).any (·.1) = false := by rfl) :
    PE X (.Call (.Name g p) (e :: es) [] pos) (tCallL X.env.cells y j sp t) := by
  refine ⟨fun pins s σ H Q I h => ?_⟩
  obtain ⟨x, hx, ht⟩ := h
  obtain ⟨f, fd, ps, ds, F, hm, kp, b, d⟩ := c.ex
  refine wpAny_Call_Name_kw (ld_glob I hg hm ?_ hdb)
  refine PySem.W.callWith_K (h₀ := X.base) I.ok.mod.kin kp (thn (ha.run pos pins s σ H _ I ht) fun us s1 ⟨vs, H1, I1, r, q⟩ => ⟨I1.kIn, ?_⟩) he hpl
  obtain ⟨m, hn, hl⟩ := I1.loc
  obtain ⟨u, ru, lk⟩ := hl j y x hN hx (.inr (.inl hv))
  rcases lk with ⟨z, _⟩ | ⟨_, a, hca, ob, hob, hd⟩
  · have z' : X.env.scope.names.lookup y = some .local := z
    rw [hv] at z'
    cases z'
  have ea : cellAt X.env.cells y = a := by unfold cellAt; rw [hca]; rfl
  have hn1 := I1.freeC y a hca
  have hge := I1.ok.cab y a hfn hca
  have hb0 : X.base.get? a = none := Heap.get?_none_of_le (Nat.le_trans I1.ok.bsz hge)
  have nfo : a ∉ frs X.outer := fun z => by
    obtain ⟨_, o, ho, _⟩ := I1.ok.funs.mem z
    exact Nat.lt_irrefl _ (Nat.lt_of_lt_of_le (Heap.lt_size ho) hge)
  have nf : a ∉ frs X.stack := fun z => by
    rcases I1.ok.stk with w | ⟨w, w2⟩
    · rw [w] at z; exact nfo z
    · rw [w] at z
      have z2 : a ∈ (X.env :: X.outer).filterMap (·.frame) := z
      rw [List.filterMap_cons_some w2] at z2
      rcases List.mem_cons.mp z2 with z3 | z3
      · obtain ⟨o2, es2, ep2, e2, d2, _⟩ := hn
        rw [← z3, hob] at e2
        cases e2
        rw [hd] at d2
        cases d2
      · exact nfo z3
  have q2 := q ob u (by rw [ea]; exact hn1) hd ru
  rw [ea] at q2
  have ds0 : ds = [] := by cases d; rfl
  subst ds0
  have hlen := F.len _ _ _ _ q2
  refine wpAny_call (codeAny_mono (F.run X.A X.stack s1 (upd H1 a (ExO a ob)) ⟨us, []⟩ us vs _ _ (hr.mono hk) (env_up I1.env0 hn1 hob hb0 nf) ?_ r q2) fun r s' hq => ?_)
  · have hb := b s1 us I1.kIn (by rw [List.append_nil, ← r.length]; exact hlen)
    rw [List.append_nil] at hb
    exact hb
  · cases r with
    | error e => exact False.elim hq
    | ok fl =>
      cases fl with
      | ret u => exact I1.after (ce_un hn1 nf hob hq)
      | next => exact False.elim hq
      | brk => exact False.elim hq
      | cont => exact False.elim hq

--@SPLIT
/-! ### the program: joins of rows by a function of two rows -/
def NewRow (H0 : Hp) (H : Hp) (q : Addr) (r : List V) : Prop := H0 q = none ∧ H q = some (.lst r)
theorem NewRow.mn {H0 : Hp} : Mn (NewRow H0) := fun H H' q l e h => ⟨h.1, e _ _ h.2⟩
theorem NewRow.back {H0 H1 H : Hp} {q : Addr} {r : List V} (e : Ex H0 H1) (h : NewRow H1 H q r) : NewRow H0 H q r := ⟨fresh_back e h.1, h.2⟩
theorem nu_new {H0 H : Hp} {q : Addr} {r : List V} (h : RowAt (nu H0 H) q r) : NewRow H0 H q r := by
  have h' : nu H0 H q = some (.lst r) := h
  refine ⟨?_, nu_le _ _ h'⟩
  unfold nu at h'
  split at h'
  · assumption
  · cases h'
/-- f of two rows -/
def spFun (K : PySem.W.Frag) (okr : List V → List V → Prop) (φ : List V → List V → V) : Sp := fun vs H Q _ => ∃ (a b : Addr) (r s : List V), vs = [.ref a, .ref b] ∧ SqL K H a r ∧ SqL K H b s ∧ okr r s ∧ ∀ H', Ex H H' → Q (φ r s) H'
def isTrue (v : V) : Bool := decide (v = .bl true)
def isFalse (v : V) : Bool := decide (v = .bl false)
def pairsL (φ : List V → List V → V) (row : List V) (right : List (List V)) : List (List V) := (right.filter fun s => isTrue (φ row s)).map (row ++ ·)
def kinds36 : List Str := ["inner", "left", "some", "none", "never"]
def rowsLeft (kind : Str) (w : Nat) (φ : List V → List V → V) (row : List V) (right : List (List V)) : List (List V) :=
  if kind = "inner" then pairsL φ row right
  else if kind = "left" then (if pairsL φ row right = [] then [row ++ List.replicate w .non] else pairsL φ row right)
  else if kind = "never" then (if (right.all fun s => isFalse (φ row s)) = true then [row] else [])
  else if (right.any fun s => isTrue (φ row s)) = decide (kind = "some") then [row] else []
def joinR (kind : Str) (w : Nat) (φ : List V → List V → V) (left right : List (List V)) : List (List V) := left.flatMap fun r => rowsLeft kind w φ r right
section
variable {K : PySem.W.Frag} {σ : L2.St} {H : Hp} {ta tb te tl : TE} {t : TT} {tu tz : TS} {D : Ends} {α : Type} {R : Hp → Addr → α → Prop}
/-- [a new object for x in xs if ..] -/
theorem er_lcNF (hm : Mn R) {a : Addr} {xs : List V} {j : Nat} {vs : List Nat} (f : Nat → Bool) (g : Nat → α) (h : Ev tl σ H (.ref a)) (hx : SqL K H a xs) (hz : xs.length ≤ 40000) (hw : ∀ x, wipe ((wipe σ vs).set j (some x)) vs = wipe σ vs)
    (ht : ∀ (i : Nat) (x : V) (H1 : Hp), Ex H H1 → xs[i]? = some x → EvT t ((wipe σ vs).set j (some x)) H1 (f i))
    (he : ∀ (i : Nat) (x : V) (H1 : Hp), Ex H H1 → xs[i]? = some x → EvRn (fun H q => R H q (g i)) te ((wipe σ vs).set j (some x)) H1) :
    EvRn (fun H p => Lst2 R H p (((List.range xs.length).filter f).map g)) (tLc (iList K tl) (gName j) t te vs) σ H := fun H0 e0 Q q => h H0 e0 _ fun H1 e1 => ⟨a, rfl, ⟨xs, ex_l (e0.trans e1) hx⟩, fun D hD =>
  lc_list (xs := xs) (fun i H' => H1 D = none ∧ Ex H1 H' ∧ ∃ qs, H' D = some (.lst (qs.map V.ref)) ∧ Al2 R (wo D (nu H0 H')) qs (((List.range i).filter f).map g)) ⟨hD, Ex.new hD, [], upd_same, Al2.nil⟩ (fun i H' _ p => ex_l ((e0.trans e1).trans p.2.1) hx)
    (fun i x H' hi p => by
      obtain ⟨p1, p2, qs, p3, p4⟩ := p
      refine ⟨hw x, ht i x H' ((e0.trans e1).trans p2) hi H' (Ex.refl H') _ fun H3 e3 => ?_⟩
      have p4' : Al2 R (wo D (nu H0 H3)) qs (((List.range i).filter f).map g) := p4.mono fun q l _ => hm _ _ _ _ (wo_mono (nu_mono e3))
      cases hf : f i with
      | false =>
        show H1 D = none ∧ _
        refine ⟨p1, p2.trans e3, qs, e3 _ _ p3, ?_⟩
        rw [List.range_succ, List.filter_append, List.filter_cons_of_neg (by rw [hf]; decide)]
        show Al2 R _ qs (((List.range i).filter f ++ []).map g)
        rw [List.append_nil]
        exact p4'
      | true =>
        show te ((wipe σ vs).set j (some x)) H3 fun y H4 => ∃ acc, H4 D = some (.lst acc) ∧ acc.length < sizeLine ∧ _
        have p3' := e3 _ _ p3
        refine he i x H3 (((e0.trans e1).trans p2).trans e3) hi H3 (Ex.refl H3) _ fun r H4 hr e4 hR => ⟨_, e4 _ _ p3', sz_lt ?_, p1, Ex.mut ((p2.trans e3).trans e4) p1, qs ++ [r], by rw [upd_same, List.map_append]; rfl, ?_⟩
        · have h1 := p4.1
          have h2 := List.length_filter_le f (List.range i)
          rw [List.length_map] at h1
          rw [List.length_range] at h2
          have := (List.getElem?_eq_some_iff.mp hi).1
          rw [List.length_map]
          omega
        · rw [wo_nu_upd, List.range_succ, List.filter_append, List.filter_cons_of_pos hf, List.map_append]
          exact (p4'.mono fun q l _ => hm _ _ _ _ (wo_mono (nu_mono e4))).snoc (hm _ _ _ _ (nu_wo2 p3' ((e1.trans p2).trans e3)) hR))
    (fun H' p => by
      obtain ⟨p1, p2, qs, p3, p4⟩ := p
      have hD0 := fresh_back e1 p1
      exact q D H' hD0 (e1.trans p2) ⟨qs, nu_at hD0 p3, p4.mono fun q l _ => hm _ _ _ _ (wo_le _ _)⟩)⟩
theorem el_catNN {xs ys : List V} (ha : EvL ta σ H xs) (hb : EvL tb σ H ys) (hz : xs.length + ys.length ≤ 100000) : EvL (tOp rCat ta tb) σ H (xs ++ ys) := fun H1 e Q q =>
  ha H1 e _ fun a H2 _ e2 h2 => hb H2 (e.trans e2) _ fun b H3 _ e3 h3 => ⟨a, b, xs, ys, rfl, rfl, e3 _ _ h2, h3, sz_of hz, fun p hp => q p _ (fresh_back (e2.trans e3) hp) ((e2.trans e3).trans (Ex.new hp)) upd_same⟩
theorem el_rep {xs : List V} {n : Nat} (ha : EvL ta σ H xs) (hb : ∀ H1, Ex H H1 → Ev tb σ H1 (.int (n : Int))) (hz : xs.length * n ≤ 100000) (hn : n ≤ 1000) : EvL (tOp rRep ta tb) σ H (List.replicate n xs).flatten := fun H1 e Q q =>
  ha H1 e _ fun a H2 _ e2 h2 => hb H2 (e.trans e2) H2 (Ex.refl H2) _ fun H3 e3 => ⟨a, (n : Int), xs, rfl, rfl, e3 _ _ h2, by omega, by omega, sz_of (by rw [Int.toNat_natCast]; exact hz), fun p hp => by
    rw [Int.toNat_natCast]
    exact q p _ (fresh_back (e2.trans e3) hp) ((e2.trans e3).trans (Ex.new hp)) upd_same⟩
theorem rn_of {xs : List V} (h : EvL te σ H xs) : EvRn (fun H p => RowAt H p xs) te σ H := fun H1 e Q q => h H1 e _ fun p H2 hp e2 h2 => q p H2 hp e2 (nu_at hp h2)
/-- [a new row] -/
theorem rl_one {xs : List V} (h : EvL te σ H xs) : EvRn (fun H p => Lst2 RowAt H p [xs]) (tLst (tCons te tNil)) σ H := fun H1 e Q q =>
  h H1 e (fun x Hx => [x].length ≤ sizeLine ∧ ∀ l, Hx l = none → Q (.ref l) (upd Hx l (.lst [x]))) fun p H2 hp e2 h2 => ⟨sz_of (by show 1 ≤ 100000; decide), fun l hl => q l _ (fresh_back e2 hl) (e2.trans (Ex.new hl)) ⟨[p], nu_at (fresh_back e2 hl) upd_same, by
    refine ⟨rfl, fun i q l' a b => ?_⟩
    cases i with
    | zero => cases a; cases b; exact nu_at hp (Ex.new hl _ _ h2)
    | succ i => simp at a⟩⟩
theorem rl_nil : EvRn (fun H p => Lst2 RowAt H p []) (tLst tNil) σ H := fun H1 e Q q => ⟨sz_of (by decide), fun l hl => q l _ hl (Ex.new hl) ⟨[], nu_at hl upd_same, Al2.nil⟩⟩
theorem ern_if {R : Hp → Addr → Prop} {b : Bool} (h : EvT t σ H b) (h1 : b = true → EvRn R ta σ H) (h2 : b = false → EvRn R tb σ H) (hR : ∀ H0 H1 H2 q, Ex H0 H1 → R (nu H1 H2) q → R (nu H0 H2) q) : EvRn R (tIf t ta tb) σ H := fun H1 e Q q => h H1 e _ fun H2 e2 => by
  cases b with
  | true => exact h1 rfl H2 (e.trans e2) Q fun p H3 hp e3 k => q p H3 (fresh_back e2 hp) (e2.trans e3) (hR _ _ _ _ e2 k)
  | false => exact h2 rfl H2 (e.trans e2) Q fun p H3 hp e3 k => q p H3 (fresh_back e2 hp) (e2.trans e3) (hR _ _ _ _ e2 k)
theorem lst2_nu {H0 H1 H2 : Hp} {q : Addr} {L : List (List V)} (e : Ex H0 H1) (h : Lst2 RowAt (nu H1 H2) q L) : Lst2 RowAt (nu H0 H2) q L := Lst2.mn RowAt.mn _ _ _ _ (nu_back e) h
theorem lst2_new {H0 H : Hp} {q : Addr} {L : List (List V)} (h : Lst2 RowAt (nu H0 H) q L) : Lst2 (NewRow H0) H q L := by
  obtain ⟨qs, h1, h2⟩ := h
  exact ⟨qs, nu_le _ _ h1, h2.mono fun q l _ h => nu_new h⟩
variable {P : Program} {w : World} {mg : Str → Option Value} {base : Heap}
theorem ec_fun {i k : Nat} {f a b : Addr} {r s : List V} {okr : List V → List V → Prop} {φ : List V → List V → V} (hσ : σ[i]? = some (some (.ref f))) (C : CallH P w K mg base k H f (spFun K okr φ)) (ja : Ev ta σ H (.ref a)) (jb : Ev tb σ H (.ref b)) (ha : SqL K H a r) (hb : SqL K H b s) (ho : okr r s) :
    Ev (tCallC P w K mg base i k (tCons ta (tCons tb tNil))) σ H (φ r s) := fun H1 e Q q => ⟨f, _, hσ, C.ex e, ja H1 e _ fun H2 e2 => jb H2 (e.trans e2) _ fun H3 e3 => ⟨e2.trans e3, a, b, r, s, rfl, ex_l ((e.trans e2).trans e3) ha, ex_l ((e.trans e2).trans e3) hb, ho, fun H4 e4 => q H4 ((e2.trans e3).trans e4)⟩⟩
theorem et_isT {v : V} (h : Ev te σ H v) : EvT (tTest (tOp rIsT te (tC (.bl true)))) σ H (isTrue v) := et_test (ev_op h ev_c rv_isT)
end
/-- a filter by places -/
theorem filter_at {α : Type} (p : α → Bool) (d : α) (L : List α) : ((List.range L.length).filter fun i => p (L.getD i d)).map (fun i => L.getD i d) = L.filter p := by
  have h : ∀ n, n ≤ L.length → ((List.range n).filter fun i => p (L.getD i d)).map (fun i => L.getD i d) = (L.take n).filter p := by
    intro n
    induction n with
    | zero => intro _; rfl
    | succ n ih =>
      intro hn
      have hx : L[n]? = some L[n] := List.getElem?_eq_getElem (by omega)
      have hg : L.getD n d = L[n] := by rw [List.getD_eq_getElem?_getD, hx]; rfl
      rw [List.range_succ, List.filter_append, List.map_append, ih (by omega), List.take_add_one, hx, List.filter_append]
      congr 1
      show ([n].filter fun i => p (L.getD i d)).map _ = [L[n]].filter p
      rw [List.filter_cons, List.filter_cons, hg]
      cases p L[n]
      · rfl
      · show [L.getD n d] = [L[n]]
        rw [hg]
  have := h L.length (Nat.le_refl _)
  rw [List.take_length] at this
  exact this

--@SPLIT
/-! ### the program: joins read -/
def sp__pairs_of (P : Program) (w : World) (K : PySem.W.Frag) (mg : Str → Option Value) (base : Heap) : Sp := fun vs H Q _ => ∃ (a f b : Addr) (row : List V) (R : List (List V)) (okr : List V → List V → Prop) (φ : List V → List V → V), vs = [.ref a, .ref f, .ref b] ∧ SqL K H a row ∧ Lst2 RowAt H b R ∧ CallH P w K mg base 30 H f (spFun K okr φ) ∧ (∀ s ∈ R, okr row s ∧ s.length ≤ 1000) ∧ R.length ≤ 60 ∧ row.length ≤ 1000 ∧
  ∀ p H', H p = none → Ex H H' → Lst2 RowAt (nu H H') p (pairsL φ row R) → Q (.ref p) H'
def sp__has_pair (P : Program) (w : World) (K : PySem.W.Frag) (mg : Str → Option Value) (base : Heap) : Sp := fun vs H Q _ => ∃ (a f b : Addr) (row : List V) (R : List (List V)) (okr : List V → List V → Prop) (φ : List V → List V → V), vs = [.ref a, .ref f, .ref b] ∧ SqL K H a row ∧ Lst2 RowAt H b R ∧ CallH P w K mg base 30 H f (spFun K okr φ) ∧ (∀ s ∈ R, okr row s) ∧ R.length ≤ 60 ∧
  ∀ H', Ex H H' → Q (.bl (R.any fun s => isTrue (φ row s))) H'
def sp__is_never (P : Program) (w : World) (K : PySem.W.Frag) (mg : Str → Option Value) (base : Heap) : Sp := fun vs H Q _ => ∃ (a f b : Addr) (row : List V) (R : List (List V)) (okr : List V → List V → Prop) (φ : List V → List V → V), vs = [.ref a, .ref f, .ref b] ∧ SqL K H a row ∧ Lst2 RowAt H b R ∧ CallH P w K mg base 30 H f (spFun K okr φ) ∧ (∀ s ∈ R, okr row s) ∧ R.length ≤ 60 ∧
  ∀ H', Ex H H' → Q (.bl (R.all fun s => isFalse (φ row s))) H'
def sp__rows_of_left (P : Program) (w : World) (K : PySem.W.Frag) (mg : Str → Option Value) (base : Heap) : Sp := fun vs H Q _ => ∃ (kind : Str) (wd : Nat) (a f b : Addr) (row : List V) (R : List (List V)) (okr : List V → List V → Prop) (φ : List V → List V → V), vs = [.str kind, .int (wd : Int), .ref a, .ref f, .ref b] ∧ kind ∈ kinds36 ∧ wd ≤ 1000 ∧ SqL K H a row ∧ Lst2 RowAt H b R ∧ CallH P w K mg base 30 H f (spFun K okr φ) ∧ (∀ s ∈ R, okr row s ∧ s.length ≤ 1000) ∧ R.length ≤ 60 ∧ row.length ≤ 1000 ∧
  ∀ p H', H p = none → Ex H H' → Lst2 RowAt (nu H H') p (rowsLeft kind wd φ row R) → Q (.ref p) H'
def sp_join_by (P : Program) (w : World) (K : PySem.W.Frag) (mg : Str → Option Value) (base : Heap) : Sp := fun vs H Q _ => ∃ (kind : Str) (wd : Nat) (f a b : Addr) (L R : List (List V)) (okr : List V → List V → Prop) (φ : List V → List V → V), vs = [.str kind, .int (wd : Int), .ref f, .ref a, .ref b] ∧ kind ∈ kinds36 ∧ wd ≤ 1000 ∧ Lst2 RowAt H a L ∧ Lst2 RowAt H b R ∧ CallH P w K mg base 30 H f (spFun K okr φ) ∧ (∀ r ∈ L, r.length ≤ 1000 ∧ ∀ s ∈ R, okr r s ∧ s.length ≤ 1000) ∧ L.length ≤ 60 ∧ R.length ≤ 60 ∧
  ∀ p H', H p = none → Ex H H' → Lst2 (NewRow H) H' p (joinR kind wd φ L R) → Q (.ref p) H'
section
variable {K : PySem.W.Frag} {σ : L2.St} {H : Hp} {ta tb te tl : TE} {t : TT} {tu tz : TS} {D : Ends} {P : Program} {w : World} {mg : Str → Option Value} {base : Heap}
theorem rows_len {kind : Str} {wd : Nat} {φ : List V → List V → V} {row : List V} {R : List (List V)} : (rowsLeft kind wd φ row R).length ≤ R.length + 1 := by
  have hp : (pairsL φ row R).length ≤ R.length := by
    unfold pairsL
    rw [List.length_map]
    exact List.length_filter_le _ _
  unfold rowsLeft
  repeat' split
  all_goals first | omega | (show 1 ≤ _; omega) | (show 0 ≤ _; omega)
end
section
variable {P : Program} {w : World} {K : PySem.W.Frag} {mg : Str → Option Value} {base : Heap}
theorem ok__pairs_of (D : Dn K mg "_pairs_of" s__pairs_of ["row", "value_of", "right"]) (z_list : mg "list" = none) :
    C8.Cal P w K mg base 31 "_pairs_of" (sp__pairs_of P w K mg base) [] := by
  refine cal_of D sc__pairs_of (fun vs H Q E h => ?_) (fun f cdv A outer s H vs Q E hr h => ?_)
  · obtain ⟨_, _, _, _, _, _, _, rfl, _⟩ := h
    rfl
  refine ⟨_, (pss_one (ps_ret (pe_lc (own := [("other", 3)]) (g := gName 3) rfl sc__pairs_of.nd (pi_list (pv 2)) (blkOk_by (N := n__pairs_of) (sc := C8.fnScope s__pairs_of) (by decide +kernel)) (fun _ _ _ _ _ => pg_name (i := 3) sc__pairs_of.nd rfl (Or.inl rfl)) (fun _ _ _ _ _ => (pts_one (pt_cmpR op_isTF (pe_callCK (P := P) (w := w) (K := K) (mg := mg) (base := base) (i := 1) rfl rfl rfl rfl rfl hr rfl (pa_cons (pv 0) (pa_cons (pv 3) pa_nil))) pe_bl (nomark _)))) (fun _ _ _ _ _ => (pe_op op_cat (pe_callTy (call_list_ofK (K := K) rfl) (by rfl) z_list (by decide +kernel) (pa_cons (pv 0) pa_nil)) (pe_callTy (call_list_ofK (K := K) rfl) (by rfl) z_list (by decide +kernel) (pa_cons (pv 3) pa_nil))))))), ?_⟩
  obtain ⟨a, f, b, row, R, okr, φ, rfl, ha, ⟨qs, hb, hA⟩, C, ho, hl, hrl, q⟩ := h
  have hn : (qs.map V.ref).length = R.length := by rw [List.length_map, hA.1]
  refine s_retR (R := fun H p => Lst2 RowAt H p (((List.range (qs.map V.ref).length).filter fun i => isTrue (φ row (R.getD i []))).map fun i => row ++ R.getD i [])) (er_lcNF RowAt.mn (fun i => isTrue (φ row (R.getD i []))) (fun i => row ++ R.getD i []) (ev_var rfl) (sq_of hb) (by omega) (fun _ => rfl) (fun i x H1 e1 hi => ?_) fun i x H1 e1 hi => ?_) fun p H1 hp e1 hR => q p H1 hp e1 ?_
  · obtain ⟨c, s, rfl, hc, hs, _⟩ := al_getB hA hi
    rw [List.getD_eq_getElem?_getD, hs]
    exact et_isT (ec_fun rfl (C.ex e1) (ev_var rfl) (ev_var rfl) (ex_l e1 ha) (sq_of (e1 _ _ hc)) (ho s (List.mem_of_getElem? hs)).1)
  · obtain ⟨c, s, rfl, hc, hs, _⟩ := al_getB hA hi
    rw [List.getD_eq_getElem?_getD, hs]
    have hsl := (ho s (List.mem_of_getElem? hs)).2
    exact rn_of (el_catNN (el_list (ev_var rfl) (ex_l e1 ha)) (el_list (ev_var rfl) (sq_of (e1 _ _ hc))) (by show row.length + s.length ≤ 100000; omega))
  · rw [hn] at hR
    unfold pairsL
    rw [← filter_at (fun s => isTrue (φ row s)) [] R, List.map_map]
    exact hR
theorem ok__has_pair (D : Dn K mg "_has_pair" s__has_pair ["row", "value_of", "right"]) :
    C8.Cal P w K mg base 31 "_has_pair" (sp__has_pair P w K mg base) [] := by
  refine cal_of D sc__has_pair (fun vs H Q E h => ?_) (fun f cdv A outer s H vs Q E hr h => ?_)
  · obtain ⟨_, _, _, _, _, _, _, rfl, _⟩ := h
    rfl
  refine ⟨_, (pss_cons (ps_for PassesOwn.never rfl (pi_list (pv 2)) (pg_name (i := 3) sc__has_pair.nd rfl (.inl rfl))
      (pss_one (ps_if (pt_cmpR op_isTF (pe_callC (i := 1) hr rfl (Or.inl rfl) (pa_cons (pv 0) (pa_cons (pv 3) pa_nil))) pe_bl (nomark _))
      (pss_one (ps_ret pe_bl))
      pss_nil)))
    (pss_one (ps_ret pe_bl))), ?_⟩
  obtain ⟨a, f, b, row, R, okr, φ, rfl, ha, ⟨qs, hb, hA⟩, C, ho, hl, q⟩ := h
  have hn : (qs.map V.ref).length = R.length := by rw [List.length_map, hA.1]
  refine q_forLn (xs := qs.map V.ref) (ev_var rfl) (sq_of hb) (fun i σ' H' => ∃ ov, σ' = [some (.ref a), some (.ref f), some (.ref b), ov] ∧ Ex H H' ∧ (R.any fun s => isTrue (φ row s)) = ((R.drop i).any fun s => isTrue (φ row s))) (fun H1 e => ⟨none, rfl, e, rfl⟩) (fun i σ' H' _ pv => ?_) (fun i x σ' H' hi pv => ?_) fun σ' H' pv => ?_
  · obtain ⟨_, _, e, _⟩ := pv
    exact sq_of (e _ _ hb)
  · obtain ⟨ov, rfl, e, hq⟩ := pv
    obtain ⟨c, s, rfl, hc, hs, _⟩ := al_getB hA hi
    have hdrop : R.drop i = s :: R.drop (i + 1) := by rw [List.drop_eq_getElem_cons (List.getElem?_eq_some_iff.mp hs).1, (List.getElem?_eq_some_iff.mp hs).2]
    rw [hdrop, List.any_cons] at hq
    refine s_when (et_isT (ec_fun rfl (C.ex e) (ev_var rfl) (ev_var rfl) (ex_l e ha) (sq_of (e _ _ hc)) (ho s (List.mem_of_getElem? hs)))) (fun h1 H2 e2 => ?_) fun h1 H2 e2 => ?_
    · exact s_ret (v := .bl (R.any fun s => isTrue (φ row s))) (ev_is ev_c (by rw [hq, h1]; rfl)) fun H3 e3 => q H3 ((e.trans e2).trans e3)
    · exact ⟨_, rfl, e.trans e2, by rw [hq, h1]; rfl⟩
  · obtain ⟨ov, rfl, e, hq⟩ := pv
    rw [hn, List.drop_length] at hq
    exact s_ret (v := .bl (R.any fun s => isTrue (φ row s))) (ev_is ev_c (by rw [hq]; rfl)) fun H3 e3 => q H3 (e.trans e3)
theorem ok__is_never (D : Dn K mg "_is_never" s__is_never ["row", "value_of", "right"]) :
    C8.Cal P w K mg base 31 "_is_never" (sp__is_never P w K mg base) [] := by
  refine cal_of D sc__is_never (fun vs H Q E h => ?_) (fun f cdv A outer s H vs Q E hr h => ?_)
  · obtain ⟨_, _, _, _, _, _, _, rfl, _⟩ := h
    rfl
  refine ⟨_, (pss_cons (ps_for PassesOwn.never rfl (pi_list (pv 2)) (pg_name (i := 3) sc__is_never.nd rfl (.inl rfl))
      (pss_one (ps_if (pt_cmpR op_notTF (pe_callC (i := 1) hr rfl (Or.inl rfl) (pa_cons (pv 0) (pa_cons (pv 3) pa_nil))) pe_bl (nomark _))
      (pss_one (ps_ret pe_bl))
      pss_nil)))
    (pss_one (ps_ret pe_bl))), ?_⟩
  obtain ⟨a, f, b, row, R, okr, φ, rfl, ha, ⟨qs, hb, hA⟩, C, ho, hl, q⟩ := h
  have hn : (qs.map V.ref).length = R.length := by rw [List.length_map, hA.1]
  refine q_forLn (xs := qs.map V.ref) (ev_var rfl) (sq_of hb) (fun i σ' H' => ∃ ov, σ' = [some (.ref a), some (.ref f), some (.ref b), ov] ∧ Ex H H' ∧ (R.all fun s => isFalse (φ row s)) = ((R.drop i).all fun s => isFalse (φ row s))) (fun H1 e => ⟨none, rfl, e, rfl⟩) (fun i σ' H' _ pv => ?_) (fun i x σ' H' hi pv => ?_) fun σ' H' pv => ?_
  · obtain ⟨_, _, e, _⟩ := pv
    exact sq_of (e _ _ hb)
  · obtain ⟨ov, rfl, e, hq⟩ := pv
    obtain ⟨c, s, rfl, hc, hs, _⟩ := al_getB hA hi
    have hdrop : R.drop i = s :: R.drop (i + 1) := by rw [List.drop_eq_getElem_cons (List.getElem?_eq_some_iff.mp hs).1, (List.getElem?_eq_some_iff.mp hs).2]
    rw [hdrop, List.all_cons] at hq
    refine s_when (b := !isFalse (φ row s)) (et_test (ev_op (ec_fun rfl (C.ex e) (ev_var rfl) (ev_var rfl) (ex_l e ha) (sq_of (e _ _ hc)) (ho s (List.mem_of_getElem? hs))) ev_c rv_notT)) (fun h1 H2 e2 => ?_) fun h1 H2 e2 => ?_
    · have h2 : isFalse (φ row s) = false := by simpa using h1
      exact s_ret (v := .bl (R.all fun s => isFalse (φ row s))) (ev_is ev_c (by rw [hq, h2]; rfl)) fun H3 e3 => q H3 ((e.trans e2).trans e3)
    · have h2 : isFalse (φ row s) = true := by simpa using h1
      exact ⟨_, rfl, e.trans e2, by rw [hq, h2]; rfl⟩
  · obtain ⟨ov, rfl, e, hq⟩ := pv
    rw [hn, List.drop_length] at hq
    exact s_ret (v := .bl (R.all fun s => isFalse (φ row s))) (ev_is ev_c (by rw [hq]; rfl)) fun H3 e3 => q H3 (e.trans e3)
end

--@SPLIT
/-! ### the program: joins read, further -/
section
variable {K : PySem.W.Frag} {σ : L2.St} {H : Hp} {ta tb tc te tl : TE} {t : TT} {tu tz : TS} {D : Ends} {P : Program} {w : World} {mg : Str → Option Value} {base : Heap} {E : XK}
variable {a f b : Addr} {row : List V} {R : List (List V)} {okr : List V → List V → Prop} {φ : List V → List V → V}
theorem er_pairs (ja : Ev ta σ H (.ref a)) (jf : Ev tb σ H (.ref f)) (jb : Ev tc σ H (.ref b)) (ha : SqL K H a row) (hb : Lst2 RowAt H b R) (C : CallH P w K mg base 30 H f (spFun K okr φ)) (ho : ∀ s ∈ R, okr row s ∧ s.length ≤ 1000) (hl : R.length ≤ 60) (hrl : row.length ≤ 1000) :
    EvRn (fun H p => Lst2 RowAt H p (pairsL φ row R)) (tCall (sp__pairs_of P w K mg base) [] E (tCons ta (tCons tb (tCons tc tNil)))) σ H := fun H1 e Q q =>
  ja H1 e _ fun H2 e2 => jf H2 (e.trans e2) _ fun H3 e3 => jb H3 ((e.trans e2).trans e3) _ fun H4 e4 => by
    have x := (e2.trans e3).trans e4
    exact ⟨a, f, b, row, R, okr, φ, rfl, ex_l (e.trans x) ha, hb.mono (e.trans x) fun q l h => RowAt.mn _ _ _ _ (e.trans x) h, C.ex (e.trans x), ho, hl, hrl, fun p H5 hp e5 hR => q p H5 (fresh_back x hp) (x.trans e5) (lst2_nu x hR)⟩
theorem ec_has (ja : Ev ta σ H (.ref a)) (jf : Ev tb σ H (.ref f)) (jb : Ev tc σ H (.ref b)) (ha : SqL K H a row) (hb : Lst2 RowAt H b R) (C : CallH P w K mg base 30 H f (spFun K okr φ)) (ho : ∀ s ∈ R, okr row s) (hl : R.length ≤ 60) : Ev (tCall (sp__has_pair P w K mg base) [] E (tCons ta (tCons tb (tCons tc tNil)))) σ H (.bl (R.any fun s => isTrue (φ row s))) :=
  ev_call (ea_cons ja (ea_cons jf (ea_cons jb ea_nil))) fun H1 e1 Q q E => ⟨a, f, b, row, R, okr, φ, rfl, ex_l e1 ha, hb.mono e1 fun q l h => RowAt.mn _ _ _ _ e1 h, C.ex e1, ho, hl, fun H2 e2 => q H2 e2⟩
theorem ec_never (ja : Ev ta σ H (.ref a)) (jf : Ev tb σ H (.ref f)) (jb : Ev tc σ H (.ref b)) (ha : SqL K H a row) (hb : Lst2 RowAt H b R) (C : CallH P w K mg base 30 H f (spFun K okr φ)) (ho : ∀ s ∈ R, okr row s) (hl : R.length ≤ 60) : Ev (tCall (sp__is_never P w K mg base) [] E (tCons ta (tCons tb (tCons tc tNil)))) σ H (.bl (R.all fun s => isFalse (φ row s))) :=
  ev_call (ea_cons ja (ea_cons jf (ea_cons jb ea_nil))) fun H1 e1 Q q E => ⟨a, f, b, row, R, okr, φ, rfl, ex_l e1 ha, hb.mono e1 fun q l h => RowAt.mn _ _ _ _ e1 h, C.ex e1, ho, hl, fun H2 e2 => q H2 e2⟩
theorem et_truL {a : Addr} {xs : List V} (h : Ev te σ H (.ref a)) (hx : SqL K H a xs) : EvT (fun σ H Q => te σ H fun x H' => ∃ k, TruV K x H' k ∧ Q k H') σ H (!xs.isEmpty) := fun H1 e Q q => h H1 e _ fun H2 e2 => ⟨!xs.isEmpty, .inl ⟨xs, ex_l (e.trans e2) hx, rfl⟩, q H2 e2⟩
theorem q_if2 {u v : TS} {b : Bool} (h : EvT t σ H b) (h1 : b = true → ∀ H1, Ex H H1 → u { D with nx := tz D } σ H1) (h2 : b = false → ∀ H1, Ex H H1 → v { D with nx := tz D } σ H1) : tSeq (tIfS t u v) tz D σ H := s_if (D := { D with nx := tz D }) h h1 h2
theorem in_two {kind : Str} (h : kind ∈ kinds36) : inV (.str kind) [.str "inner", .str "left"] = (decide (kind = "inner") || decide (kind = "left")) := by
  simp only [kinds36, List.mem_cons, List.not_mem_nil, or_false] at h
  rcases h with rfl | rfl | rfl | rfl | rfl <;> decide +kernel
theorem rep_flat {x : V} : ∀ n : Nat, (List.replicate n [x]).flatten = List.replicate n x
  | 0 => rfl
  | n + 1 => by
    rw [List.replicate_succ, List.flatten_cons, rep_flat n]
    rfl
theorem str_eq {s k : Str} : decide (V.str s = V.str k) = decide (s = k) := by
  rw [Bool.eq_iff_iff, decide_eq_true_eq, decide_eq_true_eq]
  exact ⟨fun z => V.str.inj z, fun z => by rw [z]⟩
end
section
variable {P : Program} {w : World} {K : PySem.W.Frag} {mg : Str → Option Value} {base : Heap}
theorem ok__rows_of_left (D : Dn K mg "_rows_of_left" s__rows_of_left ["kind", "width", "row", "value_of", "right"]) (c__has_pair : C8.Cal P w K mg base 31 "_has_pair" (sp__has_pair P w K mg base) []) (c__is_never : C8.Cal P w K mg base 31 "_is_never" (sp__is_never P w K mg base) []) (c__pairs_of : C8.Cal P w K mg base 31 "_pairs_of" (sp__pairs_of P w K mg base) []) (z_list : mg "list" = none) :
    C8.Cal P w K mg base 32 "_rows_of_left" (sp__rows_of_left P w K mg base) [] := by
  refine cal_of D sc__rows_of_left (fun vs H Q E h => ?_) (fun f cdv A outer s H vs Q E hr h => ?_)
  · obtain ⟨_, _, _, _, _, _, _, _, _, rfl, _⟩ := h
    rfl
  refine ⟨_, (pss_cons (ps_if (pt_cmpR op_in_seq (pv 0) (pe_tup (pa_cons pe_str (pa_cons pe_str pa_nil))) (by with_unfolding_all rfl))
      (pss_cons (ps_set (i := 5) sc__rows_of_left.nd rfl (.inl rfl) (C8.pe_c c__pairs_of hr (by decide) (by rfl) (pa_cons (pv 2) (pa_cons (pv 3) (pa_cons (pv 4) pa_nil)))))
    (pss_cons (ps_if (PW.pt (pw_and (pt_cmpR op_eq (pv 0) pe_str (nomark _)) (pw_and1 (pt_not (pt_truth (pv 5) (by intro _; rfl))))))
      (pss_one (ps_expr (pe_bm PySem.F.plainAttrs_list PySem.F.slot_list_append PySem.F.type_list_append mt_append (pv 5) (pa_cons (pe_op op_cat (pe_callTy call_list_of (by rfl) z_list (by decide +kernel) (pa_cons (pv 2) pa_nil)) (pe_op op_rep (pe_lst (pa_cons pe_non pa_nil)) (pv 1))) pa_nil))))
      pss_nil)
    (pss_one (ps_ret (pv 5)))))
      pss_nil)
    (pss_cons (ps_if (pt_cmpR op_eq (pv 0) pe_str (nomark _))
      (pss_one (ps_set (i := 6) sc__rows_of_left.nd rfl (.inl rfl) (C8.pe_c c__is_never hr (by decide) (by rfl) (pa_cons (pv 2) (pa_cons (pv 3) (pa_cons (pv 4) pa_nil))))))
      (pss_one (ps_set (i := 6) sc__rows_of_left.nd rfl (.inl rfl) (pe_cmpR op_eq (C8.pe_c c__has_pair hr (by decide) (by rfl) (pa_cons (pv 2) (pa_cons (pv 3) (pa_cons (pv 4) pa_nil)))) (pe_cmpR op_eq (pv 0) pe_str (nomark _)) (nomark _)))))
    (pss_one (ps_ret (pe_ifExp (pt_val (pv 6)) (pe_lst (pa_cons (pe_callTy call_list_of (by rfl) z_list (by decide +kernel) (pa_cons (pv 2) pa_nil)) pa_nil)) (pe_lst pa_nil)))))), ?_⟩
  obtain ⟨kind, wd, a, f, b, row, R, okr, φ, rfl, hk, hw, ha, hb, C, ho, hl, hrl, q⟩ := h
  refine q_when (b := decide (kind = "inner") || decide (kind = "left")) (et_test (ev_is (ev_inU (ev_var rfl) (eu_tup (ea_cons ev_c (ea_cons ev_c ea_nil)) (by show 2 ≤ 100000; decide)) rfl rfl) ?_)) (fun h1 H1 e1 => ?_) fun h1 H1 e1 => ?_
  · rw [in_two hk]
  · refine q_asgR (er_pairs (ev_var rfl) (ev_var rfl) (ev_var rfl) (ex_l e1 ha) (hb.mono e1 fun q l h => RowAt.mn _ _ _ _ e1 h) (C.ex e1) ho hl hrl) fun p H2 hp e2 hR => ?_
    obtain ⟨qs, g1, g2⟩ := hR
    have hp0 := fresh_back e1 hp
    have g1' := nu_le _ _ g1
    have hnil : (qs.map V.ref).isEmpty = (pairsL φ row R).isEmpty := by
      rw [Bool.eq_iff_iff, List.isEmpty_iff, List.isEmpty_iff]
      have := g2.1
      constructor
      · intro z
        rw [List.map_eq_nil_iff] at z
        rw [z] at this
        exact List.eq_nil_of_length_eq_zero this.symm
      · intro z
        rw [z] at this
        rw [List.eq_nil_of_length_eq_zero this]
        rfl
    refine q_when (b := decide (kind = "left") && (pairsL φ row R).isEmpty) (et_is (et_and (et_test (ev_op (ev_var rfl) ev_c (rv_eq rfl))) fun _ => et_not (et_truL (ev_var rfl) (sq_of g1'))) (by rw [str_eq, Bool.not_not, hnil])) (fun h2 H3 e3 => ?_) fun h2 H3 e3 => ?_
    · rw [Bool.and_eq_true, decide_eq_true_eq, List.isEmpty_iff] at h2
      have hq0 : qs = [] := by
        have := g2.1
        rw [h2.2] at this
        exact List.eq_nil_of_length_eq_zero this
      subst hq0
      have x3 := e1.trans (e2.trans e3)
      refine q_appL (l := p) (xs := []) (e3 _ _ g1') (ev_var rfl) (el_catNN (el_list (ev_var rfl) (ex_l x3 ha)) (el_rep (n := wd) (el_lst (ea_cons ev_c ea_nil) (by show 1 ≤ 100000; decide)) (fun _ _ => ev_var rfl) (by show 1 * wd ≤ 100000; omega) hw) (by rw [rep_flat, List.length_replicate]; omega)) (by show 0 < 100000; decide) fun r H4 hr e4 h4 => ?_
      have hrp : r ≠ p := fun z => by rw [z, e3 _ _ g1'] at hr; cases hr
      have hrow : rowsLeft kind wd φ row R = [row ++ List.replicate wd .non] := by
        unfold rowsLeft
        rw [h2.1, if_neg (by decide), if_pos rfl, if_pos h2.2]
      refine s_ret (ev_var rfl) fun H5 e5 => q p H5 hp0 ((e1.trans (Ex.mut (e2.trans (e3.trans e4)) hp)).trans e5) ⟨[r], nu_at hp0 (e5 _ _ upd_same), by rw [hrow]; rfl, fun i q' l' a' b' => ?_⟩
      rw [hrow] at b'
      cases i with
      | zero =>
        cases a'
        cases b'
        refine nu_at (fresh_back (e1.trans (e2.trans e3)) hr) (e5 _ _ ?_)
        rw [upd_ne hrp, h4]
        rw [rep_flat]
      | succ i => simp at a'
    · have hrow : rowsLeft kind wd φ row R = pairsL φ row R := by
        unfold rowsLeft
        rw [Bool.or_eq_true, decide_eq_true_eq, decide_eq_true_eq] at h1
        rcases h1 with z | z
        · rw [if_pos z]
        · rw [z, if_neg (by decide), if_pos rfl]
          rw [z] at h2
          split
          · rename_i y
            rw [y] at h2
            simp at h2
          · rfl
      refine s_ret (ev_var rfl) fun H4 e4 => q p H4 hp0 ((e1.trans e2).trans (e3.trans e4)) ?_
      rw [hrow]
      exact ⟨qs, nu_at hp0 ((e3.trans e4) _ _ g1'), g2.mono fun q' l _ h => nu_mono (e3.trans e4) _ _ (nu_back e1 _ _ h)⟩
  · have hb1 := hb.mono e1 fun q l h => RowAt.mn _ _ _ _ e1 h
    have hnot : kind ≠ "inner" ∧ kind ≠ "left" := by
      rw [Bool.or_eq_false_iff, decide_eq_false_iff_not, decide_eq_false_iff_not] at h1
      exact h1
    have fin : ∀ {σ2 : L2.St} {H2 : Hp} {st : Bool}, σ2[2]? = some (some (.ref a)) → σ2[6]? = some (some (.bl st)) → Ex H H2 → (if st = true then [row] else []) = rowsLeft kind wd φ row R → tRet (tIf (tB (tVar 6)) (tLst (tCons (tCB (rListS K) (tCons (tVar 2) tNil)) tNil)) (tLst tNil)) { nx := fun _ H' => Q .non H', rt := Q } σ2 H2 := fun {σ2 H2 st} s2 s6 e hst => by
      refine s_retR (R := fun H p => Lst2 RowAt H p (rowsLeft kind wd φ row R)) (ern_if (b := st) (et_B (ev_var s6)) (fun hb => ?_) (fun hb => ?_) fun H0 H1 H2 q e k => lst2_nu e k) fun p H3 hp e3 hR => q p H3 (fresh_back e hp) (e.trans e3) (lst2_nu e hR)
      · rw [← hst, if_pos hb]
        exact rl_one (el_list (ev_var s2) (ex_l e ha))
      · rw [← hst, hb]
        exact rl_nil
    refine q_if2 (b := decide (kind = "never")) (et_test (ev_is (ev_op (ev_var rfl) ev_c (rv_eq rfl)) (by rw [str_eq]))) (fun h2 H2 e2 => ?_) fun h2 H2 e2 => ?_
    · have x2 := e1.trans e2
      refine s_asg (ec_never (ev_var rfl) (ev_var rfl) (ev_var rfl) (ex_l x2 ha) (hb.mono x2 fun q l h => RowAt.mn _ _ _ _ x2 h) (C.ex x2) (fun s hs => (ho s hs).1) hl) fun H3 e3 => fin rfl rfl (x2.trans e3) ?_
      unfold rowsLeft
      rw [if_neg hnot.1, if_neg hnot.2, if_pos (of_decide_eq_true h2)]
    · have x2 := e1.trans e2
      refine s_asg (v := .bl (decide (V.bl (R.any fun s => isTrue (φ row s)) = V.bl (decide (kind = "some"))))) (ev_op (ec_has (ev_var rfl) (ev_var rfl) (ev_var rfl) (ex_l x2 ha) (hb.mono x2 fun q l h => RowAt.mn _ _ _ _ x2 h) (C.ex x2) (fun s hs => (ho s hs).1) hl) (ev_is (ev_op (ev_var rfl) ev_c (rv_eq rfl)) (by rw [str_eq])) (rv_eq rfl)) fun H3 e3 => fin rfl rfl (x2.trans e3) ?_
      unfold rowsLeft
      rw [if_neg hnot.1, if_neg hnot.2, if_neg (of_decide_eq_false h2)]
      by_cases z : (R.any fun s => isTrue (φ row s)) = decide (kind = "some")
      · rw [if_pos z, z, if_pos (by simp)]
      · rw [if_neg z, if_neg (by simpa using z)]
end

--@SPLIT
/-! ### the program: joins read, the whole -/
section
variable {K : PySem.W.Frag} {σ : L2.St} {H : Hp} {ta tb tc td te tl : TE} {t : TT} {tu tz : TS} {D : Ends} {P : Program} {w : World} {mg : Str → Option Value} {base : Heap} {E : XK}
theorem s_extRn {l : Addr} {xs : List V} {L : List (List V)} (hl : H l = some (.lst xs)) (ha : Ev ta σ H (.ref l)) (h : EvRn (fun H p => Lst2 RowAt H p L) te σ H) (hz : xs.length + L.length ≤ 100000) (k : ∀ qs H1, Ex H H1 → Al2 (NewRow H) H1 qs L → D.nx σ (upd H1 l (.lst (xs ++ qs.map V.ref)))) :
    tDrop (tBM K "list" rExtend ta (tCons te tNil)) D σ H := ha H (Ex.refl H) _ fun H1 e1 =>
  ⟨Or.inl ⟨rfl, _, sq_of (e1 l _ hl)⟩, h H1 e1 _ fun p H2 hp e2 hR => by
    obtain ⟨qs, g1, g2⟩ := hR
    exact ⟨l, p, xs, qs.map V.ref, rfl, rfl, e2 l _ (e1 l _ hl), nu_le _ _ g1, sz_of (by rw [List.length_map, g2.1]; exact hz), k qs H2 (e1.trans e2) (g2.mono fun q l _ h => NewRow.back e1 (nu_new h))⟩⟩
theorem er_left {kind : Str} {wd : Nat} {a f b : Addr} {row : List V} {R : List (List V)} {okr : List V → List V → Prop} {φ : List V → List V → V} {t0 t1 t2 t3 t4 : TE} (j0 : Ev t0 σ H (.str kind)) (j1 : Ev t1 σ H (.int (wd : Int))) (ja : Ev t2 σ H (.ref a)) (jf : Ev t3 σ H (.ref f)) (jb : Ev t4 σ H (.ref b)) (hk : kind ∈ kinds36) (hw : wd ≤ 1000) (ha : SqL K H a row) (hb : Lst2 RowAt H b R) (C : CallH P w K mg base 30 H f (spFun K okr φ)) (ho : ∀ s ∈ R, okr row s ∧ s.length ≤ 1000) (hl : R.length ≤ 60) (hrl : row.length ≤ 1000) :
    EvRn (fun H p => Lst2 RowAt H p (rowsLeft kind wd φ row R)) (tCall (sp__rows_of_left P w K mg base) [] E (tCons t0 (tCons t1 (tCons t2 (tCons t3 (tCons t4 tNil)))))) σ H := fun H1 e Q q =>
  (ea_cons j0 (ea_cons j1 (ea_cons ja (ea_cons jf (ea_cons jb ea_nil))))) H1 e _ fun H4 x =>
    ⟨kind, wd, a, f, b, row, R, okr, φ, rfl, hk, hw, ex_l (e.trans x) ha, hb.mono (e.trans x) fun q l h => RowAt.mn _ _ _ _ (e.trans x) h, C.ex (e.trans x), ho, hl, hrl, fun p H5 hp e5 hR => q p H5 (fresh_back x hp) (x.trans e5) (lst2_nu x hR)⟩
end
theorem ec_evalN {K : PySem.W.Frag} {σ : L2.St} {H : Hp} {ta tb : TE} {E : XK} {v : V} {e : Cnd} {xs : List V} (ha : Ev ta σ H v) (hb : EvL tb σ H xs) (he : CxAt K H v e 8) (hx : ∀ x ∈ xs, Ok x) (hl : xs.length ≤ 1000) : Ev (tCall (sp_evaluate K) [] E (tCons ta (tCons tb tNil))) σ H (evE xs e) := fun H1 ex Q q =>
  ha H1 ex _ fun H2 e2 => hb H2 (ex.trans e2) _ fun p H3 hp e3 h3 => (ec_eval (K := K) (σ := σ) (ta := tC v) (tb := tC (.ref p)) (E := E) ev_c ev_c (he.ex ((ex.trans e2).trans e3)) (sq_of h3) hx hl) H3 (Ex.refl _) Q fun H4 e4 => q H4 ((e2.trans e3).trans e4)
theorem Al2.app36 {α : Type} {R : Hp → Addr → α → Prop} {H : Hp} {qs rs : List Addr} {L M : List α} (h : Al2 R H qs L) (h2 : Al2 R H rs M) : Al2 R H (qs ++ rs) (L ++ M) := by
  refine ⟨by rw [List.length_append, List.length_append, h.1, h2.1], fun i q l a b => ?_⟩
  by_cases hi : i < qs.length
  · rw [List.getElem?_append_left hi] at a
    rw [List.getElem?_append_left (by rw [← h.1]; exact hi)] at b
    exact h.2 i q l a b
  · rw [List.getElem?_append_right (by omega)] at a
    rw [List.getElem?_append_right (by rw [← h.1]; omega)] at b
    rw [← h.1] at b
    exact h2.2 _ q l a b
theorem join_snoc {kind : Str} {wd : Nat} {φ : List V → List V → V} {L R : List (List V)} {i : Nat} {r : List V} (h : L[i]? = some r) : joinR kind wd φ (L.take (i + 1)) R = joinR kind wd φ (L.take i) R ++ rowsLeft kind wd φ r R := by
  unfold joinR
  rw [List.take_add_one, h, List.flatMap_append]
  show _ ++ (rowsLeft kind wd φ r R ++ []) = _
  rw [List.append_nil]
theorem join_len {kind : Str} {wd : Nat} {φ : List V → List V → V} {R : List (List V)} : ∀ L : List (List V), (joinR kind wd φ L R).length ≤ L.length * (R.length + 1)
  | [] => Nat.zero_le _
  | r :: L => by
    have h1 := join_len (kind := kind) (wd := wd) (φ := φ) (R := R) L
    have h2 : (rowsLeft kind wd φ r R).length ≤ R.length + 1 := rows_len
    show (rowsLeft kind wd φ r R ++ joinR kind wd φ L R).length ≤ (L.length + 1) * (R.length + 1)
    rw [List.length_append, Nat.add_mul, Nat.one_mul]
    omega
def lamQ (x : Str) : Str := (x ++ ".<locals>.") ++ "<lambda>"
def JT (K : PySem.W.Frag) (H : Hp) : Prop := LamX.TabS H (tabOf K "join_rows") (lamQ "join_rows")
/-- keep of what is there -/
def Kp (H H' : Hp) : Prop := ∀ b, H b ≠ none → H' b ≠ none
theorem Kp.of {H H' : Hp} (e : Ex H H') : Kp H H' := fun b hb z => by
  cases hq : H b with
  | none => exact hb hq
  | some o => rw [e _ _ hq] at z; cases z
theorem Kp.trans {H H1 H2 : Hp} (a : Kp H H1) (b : Kp H1 H2) : Kp H H2 := fun x hx => b x (a x hx)
theorem Kp.back {H H' : Hp} {p : Addr} (a : Kp H H') (h : H' p = none) : H p = none := by
  cases hq : H p with
  | none => rfl
  | some o => exact absurd h (a p fun z => by rw [hq] at z; cases z)
def sp_join_rows (K : PySem.W.Frag) : Sp := fun vs H Q _ => ∃ (kind : Str) (wd : Nat) (v : V) (e : Cnd) (u : Nat) (a b : Addr) (L R : List (List V)), vs = [.str kind, .int (wd : Int), v, .ref a, .ref b] ∧ kind ∈ kinds36 ∧ wd ≤ 1000 ∧ Dp K H v e.d ∧ e.ok u ∧ e.dep ≤ 8 ∧ Lst2 RowAt H a L ∧ Lst2 RowAt H b R ∧ (∀ r ∈ L, r.length ≤ 400 ∧ OkRB r) ∧ (∀ r ∈ R, r.length ≤ 400 ∧ OkRB r) ∧ L.length ≤ 60 ∧ R.length ≤ 60 ∧ JT K H ∧
  ∀ p H', H p = none → Ex (noT H) H' → JT K H' → Kp H H' → Lst2 (NewRow H) H' p (joinR kind wd (fun r s => evE (r ++ s) e) L R) → Q (.ref p) H'
section
variable {P : Program} {w : World} {K : PySem.W.Frag} {mg : Str → Option Value} {base : Heap}
theorem nsc36 {scope : Scope} (h : NdefX.nscB ["row", "other", "condition"] ["row", "other"] ["condition"] scope = true) : NdefX.NScope ["row", "other", "condition"] ["row", "other"] ["condition"] scope := NdefX.nscope_by h
theorem ok_join_by (D : Dn K mg "join_by" s_join_by ["kind", "width", "value_of", "left", "right"]) (c__rows_of_left : C8.Cal P w K mg base 32 "_rows_of_left" (sp__rows_of_left P w K mg base) []) :
    C8.Cal P w K mg base 33 "join_by" (sp_join_by P w K mg base) [] := by
  refine cal_of D sc_join_by (fun vs H Q E h => ?_) (fun f cdv A outer s H vs Q E hr h => ?_)
  · obtain ⟨_, _, _, _, _, _, _, _, _, rfl, _⟩ := h
    rfl
  refine ⟨_, (pss_cons (ps_set (i := 5) sc_join_by.nd rfl (.inl rfl) (pe_lst pa_nil))
    (pss_cons (ps_for PassesOwn.never rfl (pi_list (pv 3)) (pg_name (i := 6) sc_join_by.nd rfl (.inl rfl))
      (pss_one (ps_expr (pe_bm PySem.F.plainAttrs_list PySem.F.slot_list_extend PySem.F.type_list_extend mt_extend (pv 5) (pa_cons (C8.pe_c c__rows_of_left hr (by decide) (by rfl) (pa_cons (pv 0) (pa_cons (pv 1) (pa_cons (pv 6) (pa_cons (pv 2) (pa_cons (pv 4) pa_nil)))))) pa_nil)))))
    (pss_one (ps_ret (pv 5))))), ?_⟩
  obtain ⟨kind, wd, f, a, b, L, R, okr, φ, rfl, hk, hw, ⟨qs, ha, hA⟩, hb, C, ho, hlL, hlR, q⟩ := h
  have hn : (qs.map V.ref).length = L.length := by rw [List.length_map, hA.1]
  refine q_asgL (el_lst ea_nil (by decide)) fun p H1 hp e1 h1 => ?_
  refine q_forLn (xs := qs.map V.ref) (ev_var rfl) (sq_of (e1 _ _ ha)) (fun i σ' H' => ∃ ps rv, σ' = [some (.str kind), some (.int (wd : Int)), some (.ref f), some (.ref a), some (.ref b), some (.ref p), rv] ∧ Ex H H' ∧ H' p = some (.lst (ps.map V.ref)) ∧ Al2 (NewRow H) (wo p H') ps (joinR kind wd φ (L.take i) R)) (fun H2 e2 => ⟨[], none, rfl, e1.trans e2, e2 _ _ h1, Al2.nil⟩) (fun i σ' H' _ pv => ?_) (fun i x σ' H' hi pv => ?_) fun σ' H' pv => ?_
  · obtain ⟨_, _, _, e, _⟩ := pv
    exact sq_of (e _ _ ha)
  · obtain ⟨ps, rv, rfl, e, hps, hB⟩ := pv
    obtain ⟨c, r, rfl, hc, hr', _⟩ := al_getB hA hi
    obtain ⟨hrl, hrs⟩ := ho r (List.mem_of_getElem? hr')
    have hpl : ps.length ≤ 60 * 61 := by
      have h1 := join_len (kind := kind) (wd := wd) (φ := φ) (R := R) (L.take i)
      have h2 := hB.1
      have h3 : (L.take i).length ≤ 60 := by rw [List.length_take]; omega
      have h4 : (L.take i).length * (R.length + 1) ≤ 60 * 61 := Nat.mul_le_mul h3 (by omega)
      omega
    have hrw : (rowsLeft kind wd φ r R).length ≤ R.length + 1 := rows_len
    refine s_extRn (l := p) (xs := ps.map V.ref) hps (ev_var rfl) (er_left (ev_var rfl) (ev_var rfl) (ev_var rfl) (ev_var rfl) (ev_var rfl) hk hw (sq_of (e _ _ hc)) (hb.mono e fun q l h => RowAt.mn _ _ _ _ e h) (C.ex e) hrs hlR hrl) (by rw [List.length_map]; omega) fun rs H2 e2 hR => ?_
    refine ⟨ps ++ rs, _, rfl, Ex.mut (e.trans e2) hp, by rw [upd_same, List.map_append], ?_⟩
    rw [join_snoc hr', wo_upd]
    refine (hB.mono fun q l _ h => NewRow.mn _ _ _ _ (wo_mono e2) h).app36 (hR.mono fun q l _ h => ?_)
    have hne : q ≠ p := fun z => by rw [z] at h; rw [h.1] at hps; cases hps
    exact ⟨fresh_back e h.1, (wo_ne hne).trans h.2⟩
  · obtain ⟨ps, rv, rfl, e, hps, hB⟩ := pv
    rw [hn, List.take_length] at hB
    exact s_ret (ev_var rfl) fun H3 e3 => q p H3 hp (e.trans e3) ⟨ps, e3 _ _ hps, hB.mono fun q l _ h => NewRow.mn _ _ _ _ e3 (NewRow.mn _ _ _ _ (wo_le _ _) h)⟩
theorem ok_join_rows {lc : Addr} (D : DnC K mg "join_rows" s_join_rows ["kind", "width", "condition", "left", "right"] (.ref lc)) (TB : LamX.TabB base mg lc (tabOf K "join_rows")) (c_join_by : C8.Cal P w K mg base 33 "join_by" (sp_join_by P w K mg base) []) (c_evaluate : C8.Cal P w K mg base 15 "evaluate" (sp_evaluate K) []) (z_list : mg "list" = none) :
    C8.Cal P w K mg base 34 "join_rows" (sp_join_rows K) [] := by
  refine cal_cd D sc_join_rows (fun vs H Q E h => ?_) (fun f A outer s H vs Q E hr h => ?_)
  · obtain ⟨_, _, _, _, _, _, _, _, _, rfl, _⟩ := h
    rfl
  refine ⟨_, (pss_one (ps_ret (pe_cLam c_join_by hr (by decide) (by rfl) (j := 2) rfl rfl rfl (pa_cons (pv 0) (pa_cons (pv 1) (pa_cons (pe_lambF TB rfl rfl (NdefX.ndef_free (sc := C8.fnScope s_join_rows) (fr := ["condition"]) (by decide +kernel))) (pa_cons (pv 3) (pa_cons (pv 4) pa_nil)))))))), ?_⟩
  obtain ⟨kind, wd, v, e, u, a, b, L, R, rfl, hk, hw, hd, he, hdep, hL, hR, oL, oR, hlL, hlR, hT, q⟩ := h
  refine ⟨v, rfl, .str kind, rfl, .int (wd : Int), rfl, hT, fun f c' H1 hf ext oth tab hF hC => ⟨.ref a, rfl, .ref b, rfl, fun o x hn ho ru => ?_⟩⟩
  have hF' : H1 f = some (ClO f c' (lamQ "join_rows") _ _ _ [("condition", cellAt _ "condition")]) := hF
  generalize cellAt _ _ = c at hn hF' ⊢
  have tab' : JT K H1 := tab
  have hC' : H1 c' = some (LamX.CodeO c' (lamQ "join_rows")) := hC
  clear hF hC tab
  have k1 : Kp H H1 := fun b hb z => by
    by_cases hz : b = tabOf K "join_rows"
    · obtain ⟨ps0, h0, _⟩ := tab'
      rw [hz, h0] at z
      cases z
    · cases hq : H b with
      | none => exact hb hq
      | some o => rw [oth b o hz hq] at z; cases z
  have x1 : Ex (noT H) H1 := ex_noT ext
  have up : Ex H1 (upd H1 c (ExO c o)) := Ex.new hn
  have x2 : Ex (noT H) (upd H1 c (ExO c o)) := x1.trans up
  have C : CallH P w K mg base 30 (upd H1 c (ExO c o)) f (spFun K (fun r s => (r.length ≤ 400 ∧ OkRB r) ∧ s.length ≤ 400 ∧ OkRB s) fun r s => evE (r ++ s) e) := by
    refine callH_lam (k := 29) (N := ["row", "other", "condition"]) (ps := ["row", "other"]) (x := v) (u := x) (up _ _ hF') (up _ _ hC') upd_same ho ru (nsc36 (by decide +kernel)) (fun _ _ _ _ _ us hl => match us, hl with | [_, _], _ => rfl) (fun vs H2 Q h => ?_) fun A outer s H2 vs Q e2 rm h => ?_
    · obtain ⟨_, _, _, _, rfl, _⟩ := h
      rfl
    · obtain ⟨a2, b2, r, s2, rfl, ha, hb, ⟨⟨l1, o1⟩, l2, o2⟩, q⟩ := h
      have hcc : H2 c = some (ExO c o) := e2 _ _ upd_same
      refine ⟨_, C8.pe_c c_evaluate rm (by decide) (by rfl) (pa_cons (pv 2) (pa_cons (pe_op op_cat (pe_callTy call_list_of (by rfl) z_list (by decide +kernel) (pa_cons (pv 0) pa_nil)) (pe_callTy call_list_of (by rfl) z_list (by decide +kernel) (pa_cons (pv 1) pa_nil))) pa_nil)), ?_⟩
      have wsq : ∀ {b : Addr} {zs : List V}, SqL K H2 b zs → SqL K (wo c H2) b zs := fun {b zs} h => by
        rcases h with h | h
        · rcases h with h | ⟨ob, h⟩
          · exact .inl (.inl (by rw [wo_ne fun z => by rw [z, hcc] at h; cases h]; exact h))
          · exact .inl (.inr ⟨ob, by rw [wo_ne fun z => by rw [z, hcc] at h; cases h]; exact h⟩)
        · exact .inr h
      have hd2 : Dp K (wo c H2) v e.d := ex_dp (fun b ob hb => by
        have h1 := e2 _ _ (x2 _ _ hb)
        rw [wo_ne fun z => by
          have h2 := x1 _ _ hb
          rw [z, hn] at h2
          cases h2]
        exact h1) (dp_noT hd)
      refine (ec_evalN (K := K) (v := v) (e := e) (xs := r ++ s2) (ev_var rfl) (el_catNN (el_list (ev_var rfl) (wsq ha)) (el_list (ev_var rfl) (wsq hb)) (by omega)) ⟨hd2, hdep, u, he⟩ (fun z hz => ?_) (by rw [List.length_append]; omega)) (wo c H2) (Ex.refl _) _ fun H3 e3 => q _ fun b ob hb => ?_
      · rcases List.mem_append.mp hz with h | h
        · exact (o1.2 z h).1
        · exact (o2.2 z h).1
      · by_cases hz : b = c
        · rw [hz, hcc] at hb
          rw [hz, upd_same]
          exact hb
        · rw [upd_ne hz]
          exact e3 _ _ ((wo_ne hz).trans hb)
  refine ⟨kind, wd, f, a, b, L, R, _, _, rfl, hk, hw, ?_, ?_, C, fun r hr => ⟨by have := (oL r hr).1; omega, fun s hs => ⟨⟨oL r hr, oR s hs⟩, by have := (oR s hs).1; omega⟩⟩, hlL, hlR, fun p H2 hp e2 hR2 => ⟨e2 _ _ upd_same, ?_⟩⟩
  · obtain ⟨qs, g1, g2⟩ := hL
    exact ⟨qs, x2 _ _ (noT_at g1 fun ps z => nomatch z), g2.mono fun q l _ h => x2 _ _ (noT_at h fun ps z => nomatch z)⟩
  · obtain ⟨qs, g1, g2⟩ := hR
    exact ⟨qs, x2 _ _ (noT_at g1 fun ps z => nomatch z), g2.mono fun q l _ h => x2 _ _ (noT_at h fun ps z => nomatch z)⟩
  have hp1 : H1 p = none := fresh_back up hp
  have x3 : Ex H1 (wo c H2) := fun b ob hb => by
    have hz : b ≠ c := fun z => by rw [z, hn] at hb; cases hb
    rw [wo_ne hz]
    exact e2 _ _ (up _ _ hb)
  have hpc : p ≠ c := fun z => by rw [z, upd_same] at hp; cases hp
  obtain ⟨qs, g1, g2⟩ := hR2
  refine q p (wo c H2) (k1.back hp1) (x1.trans x3) (tab'.ext fun b o h => x3 b _ h) (k1.trans (Kp.of x3)) ⟨qs, (wo_ne hpc).trans g1, g2.mono fun q l _ h => ?_⟩
  have hqc : q ≠ c := fun z => by have := h.1; rw [z, upd_same] at this; cases this
  exact ⟨k1.back (fresh_back up h.1), (wo_ne hqc).trans h.2⟩
end

--@SPLIT
/-! ### the law's condition, its due rows -/
def sp__law_condition (K : PySem.W.Frag) : Sp := fun vs H Q _ => ∃ (n w : Nat), vs = [.int (n : Int), .int (w : Int)] ∧ 0 < w ∧ w ≤ 1000 ∧ ∀ v H' (e : Cnd), Ex H H' → Dp K H' v e.d → e.ok w → e.dep ≤ 4 → Q v H'
section
variable {K : PySem.W.Frag} {σ : L2.St} {H : Hp} {ta tb tc te tl tn : TE} {D : Ends} {E : XK} {tz : TS}
theorem sd_ret {d : PyData} (h : EvD K te σ H d) (k : ∀ v H1, Ex H H1 → Dp K H1 v d → D.rt v H1) : tRet te D σ H := h H (Ex.refl H) _ k
theorem q_asgCx {i w n : Nat} (h : EvCx K w n te σ H) (k : ∀ v H1 (e : Cnd), Ex H H1 → Dp K H1 v e.d → e.ok w → e.dep ≤ n → tz D (σ.set i (some v)) H1) : tSeq (tAsg te (gName i)) tz D σ H := h H (Ex.refl H) _ k
theorem ed_bin {nm : Str} {a b : Cnd} (hn : Ev tn σ H (.str nm)) (ha : EvD K ta σ H a.d) (hb : EvD K tb σ H b.d) : EvD K (tTup (tCons (tC (.str "binary")) (tCons tn (tCons ta (tCons tb tNil))))) σ H (Cnd.bin nm a b).d :=
  ed_tupU (ud_tup (ad_cons (ed_val ev_c (.str _)) (ad_cons (ed_val hn (.str _)) (ad_cons ha (ad_cons hb ad_nil)))) (by show 4 ≤ 100000; decide))
theorem ed_un {nm : Str} {a : Cnd} (hn : Ev tn σ H (.str nm)) (ha : EvD K ta σ H a.d) : EvD K (tTup (tCons (tC (.str "unary")) (tCons tn (tCons ta tNil)))) σ H (Cnd.un nm a).d :=
  ed_tupU (ud_tup (ad_cons (ed_val ev_c (.str _)) (ad_cons (ed_val hn (.str _)) (ad_cons ha ad_nil))) (by show 3 ≤ 100000; decide))
end
section
variable {P : Program} {w : World} {K : PySem.W.Frag} {mg : Str → Option Value} {base : Heap}
theorem ok__law_condition (D : Dn K mg "_law_condition" s__law_condition ["number", "width"]) (c__law_simple : C8.Cal P w K mg base 1 "_law_simple" (sp__law_simple K) []) (z_int : mg "int" = none) :
    C8.Cal P w K mg base 2 "_law_condition" (sp__law_condition K) [] := by
  refine cal_of D sc__law_condition (fun vs H Q E h => ?_) (fun f cdv A outer s H vs Q E hr h => ?_)
  · obtain ⟨_, _, rfl, _⟩ := h
    rfl
  refine ⟨_, (pss_cons (ps_set (i := 2) sc__law_condition.nd rfl (.inl rfl) (C8.pe_c c__law_simple hr (by decide) (by rfl) (pa_cons (pe_op op_fdiv (pv 0) pe_int) (pa_cons (pv 1) pa_nil))))
    (pss_cons (ps_set (i := 3) sc__law_condition.nd rfl (.inl rfl) (C8.pe_c c__law_simple hr (by decide) (by rfl) (pa_cons (pe_op op_fdiv (pv 0) pe_int) (pa_cons (pv 1) pa_nil))))
    (pss_cons (ps_set (i := 4) sc__law_condition.nd rfl (.inl rfl) (pe_op op_mod (pe_callTy call_int1 (by rfl) z_int (by decide +kernel) (pa_cons (pv 0) pa_nil)) pe_int))
    (pss_cons (ps_if (pt_cmpR op_le (pv 4) pe_int (nomark _))
      (pss_one (ps_ret (pe_tup (pa_cons pe_str (pa_cons (pe_ix ix_list (pe_lst (pa_cons pe_str (pa_cons pe_str (pa_cons pe_str pa_nil)))) (pv 4) (fun _ _ => rfl)) (pa_cons (pv 2) (pa_cons (pv 3) pa_nil)))))))
      pss_nil)
    (pss_cons (ps_if (pt_cmpR op_eq (pv 4) pe_int (nomark _))
      (pss_one (ps_ret (pe_tup (pa_cons pe_str (pa_cons pe_str (pa_cons (pe_tup (pa_cons pe_str (pa_cons pe_str (pa_cons (pv 2) (pa_cons (pv 3) pa_nil))))) (pa_cons (pe_tup (pa_cons pe_str (pa_cons pe_str (pa_cons (pv 3) pa_nil)))) pa_nil)))))))
      pss_nil)
    (pss_cons (ps_if (pt_cmpR op_eq (pv 4) pe_int (nomark _))
      (pss_one (ps_ret (pe_tup (pa_cons pe_str (pa_cons pe_str (pa_cons (pe_tup (pa_cons pe_str (pa_cons pe_str (pa_cons (pv 2) (pa_cons (pv 3) pa_nil))))) (pa_cons (pe_tup (pa_cons pe_str (pa_cons pe_str (pa_cons (pv 3) (pa_cons (pv 2) pa_nil))))) pa_nil)))))))
      pss_nil)
    (pss_cons (ps_if (pt_cmpR op_eq (pv 4) pe_int (nomark _))
      (pss_one (ps_ret (pe_tup (pa_cons pe_str (pa_cons pe_bl pa_nil)))))
      pss_nil)
    (pss_cons (ps_if (pt_cmpR op_eq (pv 4) pe_int (nomark _))
      (pss_one (ps_ret (pe_tup (pa_cons pe_str (pa_cons pe_str (pa_cons (pe_tup (pa_cons pe_str (pa_cons pe_str (pa_cons (pv 2) (pa_cons (pv 3) pa_nil))))) pa_nil))))))
      pss_nil)
    (pss_one (ps_ret (pv 2))))))))))), ?_⟩
  obtain ⟨n, wd, rfl, h0, hw, q⟩ := h
  refine q_asgCx (cx_simple (n := n / 8) (w := wd) (ev_is (ev_op (ev_var rfl) ev_c (rv_I ⟨by decide, by decide⟩)) (by rw [Int.natCast_ediv]; rfl)) (ev_var rfl) h0 hw) fun v1 H1 e1 x1 d1 o1 p1 => ?_
  refine q_asgCx (cx_simple (n := n / 4099) (w := wd) (ev_is (ev_op (ev_var rfl) ev_c (rv_I ⟨by decide, by decide⟩)) (by rw [Int.natCast_ediv]; rfl)) (ev_var rfl) h0 hw) fun v2 H2 e2 x2 d2 o2 p2 => ?_
  have d1' := ex_dp x2 d1
  refine q_asg (v := .int ((n % 8 : Nat) : Int)) (ev_is (ev_op (ev_int (ev_var rfl)) ev_c (rv_I (by decide))) (by rw [Int.natCast_emod]; rfl)) fun H3 x3 => ?_
  have hc : n % 8 < 8 := Nat.mod_lt _ (by decide)
  generalize n % 8 = c at hc
  have g1 : ∀ {σ2 : L2.St} {H4 : Hp}, σ2[2]? = some (some v1) → Ex H3 H4 → EvD K (tVar 2) σ2 H4 e1.d := fun s x => ed_val (ev_var s) (ex_dp (x3.trans x) d1')
  have g2 : ∀ {σ2 : L2.St} {H4 : Hp}, σ2[3]? = some (some v2) → Ex H3 H4 → EvD K (tVar 3) σ2 H4 e2.d := fun s x => ed_val (ev_var s) (ex_dp (x3.trans x) d2)
  have x0 := (x1.trans x2).trans x3
  have eq : ∀ {σ2 : L2.St} {H4 : Hp} {a b : Cnd} {ta tb : TE}, EvD K ta σ2 H4 a.d → EvD K tb σ2 H4 b.d → EvD K (tTup (tCons (tC (.str "binary")) (tCons (tC (.str "equal")) (tCons ta (tCons tb tNil))))) σ2 H4 (Cnd.bin "equal" a b).d := fun a b => ed_bin ev_c a b
  have okb : ∀ {nm : Str} {a b : Cnd}, nm ∈ binNames → a.ok wd → b.ok wd → (Cnd.bin nm a b).ok wd := fun h a b => .bin _ _ _ h a b
  refine q_when (b := decide ((c : Int) ≤ 2)) (et_test (ev_op (ev_var rfl) ev_c rv_I0)) (fun hb H4 x4 => ?_) fun hb H4 x4 => ?_
  · have hc3 : c < 3 := by have := of_decide_eq_true hb; omega
    obtain ⟨x, hx, s, rfl, hs⟩ : ∃ x, ([.str "equal", .str "less", .str "same"] : List V)[c]? = some x ∧ ∃ s, x = .str s ∧ s ∈ binNames := by
      rcases (show c = 0 ∨ c = 1 ∨ c = 2 by omega) with rfl | rfl | rfl <;> exact ⟨_, rfl, _, rfl, by decide +kernel⟩
    exact sd_ret (ed_bin (ev_ixN (i := c) (el_lst (ea_cons ev_c (ea_cons ev_c (ea_cons ev_c ea_nil))) (by show 3 ≤ 100000; decide)) (fun _ _ => ev_var rfl) hx) (g1 rfl x4) (g2 rfl x4)) fun v H5 x5 hd => q v H5 _ ((x0.trans x4).trans x5) hd (okb hs o1 o2) (by show max _ _ + 1 ≤ 4; omega)
  refine q_when (b := decide (V.int (c : Int) = V.int 3)) (et_test (ev_op (ev_var rfl) ev_c (rv_eq rfl))) (fun _ H5 x5 => ?_) fun _ H5 x5 => ?_
  · have y := x4.trans x5
    exact sd_ret (ed_bin ev_c (eq (g1 rfl y) (g2 rfl y)) (ed_un ev_c (g2 rfl y))) fun v H6 x6 hd => q v H6 (.bin "and" (.bin "equal" e1 e2) (.un "is null" e2)) ((x0.trans y).trans x6) hd (okb (by decide +kernel) (okb (by decide +kernel) o1 o2) (.un _ _ (by decide +kernel) o2)) (by show max (max _ _ + 1) (_ + 1) + 1 ≤ 4; omega)
  refine q_when (b := decide (V.int (c : Int) = V.int 4)) (et_test (ev_op (ev_var rfl) ev_c (rv_eq rfl))) (fun _ H6 x6 => ?_) fun _ H6 x6 => ?_
  · have y := (x4.trans x5).trans x6
    exact sd_ret (ed_bin ev_c (ed_bin ev_c (g1 rfl y) (g2 rfl y)) (eq (g2 rfl y) (g1 rfl y))) fun v H7 x7 hd => q v H7 (.bin "or" (.bin "at most" e1 e2) (.bin "equal" e2 e1)) ((x0.trans y).trans x7) hd (okb (by decide +kernel) (okb (by decide +kernel) o1 o2) (okb (by decide +kernel) o2 o1)) (by show max (max _ _ + 1) (max _ _ + 1) + 1 ≤ 4; omega)
  refine q_when (b := decide (V.int (c : Int) = V.int 5)) (et_test (ev_op (ev_var rfl) ev_c (rv_eq rfl))) (fun _ H7 x7 => ?_) fun _ H7 x7 => ?_
  · have y := ((x4.trans x5).trans x6).trans x7
    exact sd_ret (ed_tupU (ud_tup (ad_cons (ed_val ev_c (.str _)) (ad_cons (ed_val ev_c (.bl true)) ad_nil)) (by show 2 ≤ 100000; decide))) fun v H8 x8 hd => q v H8 (.cst (.bl true)) ((x0.trans y).trans x8) hd (.cst _ ⟨.bl _, trivial⟩) (by show 1 ≤ 4; decide)
  refine q_when (b := decide (V.int (c : Int) = V.int 6)) (et_test (ev_op (ev_var rfl) ev_c (rv_eq rfl))) (fun _ H8 x8 => ?_) fun _ H8 x8 => ?_
  · have y := (((x4.trans x5).trans x6).trans x7).trans x8
    exact sd_ret (ed_un ev_c (eq (g1 rfl y) (g2 rfl y))) fun v H9 x9 hd => q v H9 (.un "not" (.bin "equal" e1 e2)) ((x0.trans y).trans x9) hd (.un _ _ (by decide +kernel) (okb (by decide +kernel) o1 o2)) (by show max _ _ + 1 + 1 ≤ 4; omega)
  · have y := (((x4.trans x5).trans x6).trans x7).trans x8
    exact sd_ret (g1 rfl y) fun v H9 x9 hd => q v H9 e1 ((x0.trans y).trans x9) hd o1 (by omega)
end

--@SPLIT
/-! ### the law's due rows -/
theorem Al2.pick {α : Type} {R : Hp → Addr → α → Prop} {H : Hp} {qs : List Addr} {L : List α} {d : α} (h : Al2 R H qs L) {is : List Nat} (hi : ∀ i ∈ is, i < L.length) : Al2 R H (is.map fun i => qs.getD i 0) (is.map fun i => L.getD i d) := by
  refine ⟨by rw [List.length_map, List.length_map], fun n q l a b => ?_⟩
  rw [List.getElem?_map] at a b
  cases e : is[n]? with
  | none => rw [e] at a; cases a
  | some i =>
    rw [e] at a b
    obtain rfl := Option.some.inj a
    obtain rfl := Option.some.inj b
    have hl := hi i (List.mem_of_getElem? e)
    have hq : i < qs.length := by rw [h.1]; exact hl
    show R H (qs.getD i 0) (L.getD i d)
    rw [List.getD_eq_getElem?_getD, List.getD_eq_getElem?_getD, List.getElem?_eq_getElem hl, List.getElem?_eq_getElem hq]
    exact h.2 i _ _ (List.getElem?_eq_getElem hq) (List.getElem?_eq_getElem hl)
theorem given_all36 {n : Nat} {v : Nat → V} : given n (fun _ => true) v = (List.range n).map v := by
  unfold given
  rw [List.filter_eq_self.mpr fun _ _ => rfl]
theorem range_fill (x : V) (n : Nat) : (List.range n).map (fun _ => x) = List.replicate n x := by
  rw [List.eq_replicate_iff]
  exact ⟨by rw [List.length_map, List.length_range], fun b hb => by obtain ⟨_, _, e⟩ := List.mem_map.mp hb; exact e.symm⟩
theorem filter_full {α : Type} {p : α → Bool} : ∀ {l : List α}, decide (((l.filter p).length : Int) = (l.length : Int)) = l.all p
  | [] => rfl
  | x :: l => by
    have ih := filter_full (p := p) (l := l)
    have hle := List.length_filter_le p l
    rw [List.all_cons, ← ih]
    cases h : p x with
    | true =>
      rw [List.filter_cons_of_pos h, Bool.true_and]
      exact decide_eq_decide.mpr (by rw [List.length_cons, List.length_cons]; omega)
    | false =>
      rw [List.filter_cons_of_neg (by rw [h]; decide), Bool.false_and]
      exact decide_eq_false (by rw [List.length_cons]; omega)
theorem filter_any {α : Type} {p : α → Bool} : ∀ {l : List α}, decide (((l.filter p).length : Int) > 0) = l.any p
  | [] => rfl
  | x :: l => by
    rw [List.any_cons, ← filter_any (p := p) (l := l)]
    cases h : p x with
    | true =>
      rw [List.filter_cons_of_pos h, Bool.true_or]
      exact decide_eq_true (by rw [List.length_cons]; omega)
    | false => rw [List.filter_cons_of_neg (by rw [h]; decide), Bool.false_or]
def sp__law_due (K : PySem.W.Frag) : Sp := fun vs H Q _ => ∃ (kind : Str) (a b : Addr) (v : V) (wd u : Nat) (row : List V) (R : List (List V)) (e : Cnd), vs = [.str kind, .ref a, .ref b, v, .int (wd : Int)] ∧ kind ∈ kinds36 ∧ H a = some (.lst row) ∧ Lst2 RowAt H b R ∧ Dp K H v e.d ∧ e.ok u ∧ e.dep ≤ 8 ∧ wd ≤ 400 ∧ (row.length ≤ 400 ∧ OkRB row) ∧ (∀ r ∈ R, r.length ≤ 400 ∧ OkRB r) ∧ R.length ≤ 60 ∧
  ∀ p H', H p = none → Ex H H' → Lst2 RowAt H' p (rowsLeft kind wd (fun r s => evE (r ++ s) e) row R) → Q (.ref p) H'
section
variable {K : PySem.W.Frag} {σ : L2.St} {H : Hp} {ta tb te tl : TE} {t : TT} {tu tz : TS} {D : Ends} {E : XK}
theorem el_catV {l b : Addr} {xs ys : List V} (ha : Ev ta σ H (.ref l)) (hb : Ev tb σ H (.ref b)) (h1 : H l = some (.lst xs)) (h2 : H b = some (.lst ys)) (hz : xs.length + ys.length ≤ 100000) : EvL (tOp rCat ta tb) σ H (xs ++ ys) := fun H1 e Q q =>
  ha H1 e _ fun H2 e2 => hb H2 (e.trans e2) _ fun H3 e3 => ⟨l, b, xs, ys, rfl, rfl, ((e.trans e2).trans e3) _ _ h1, ((e.trans e2).trans e3) _ _ h2, sz_of hz, fun p hp => q p _ (fresh_back (e2.trans e3) hp) ((e2.trans e3).trans (Ex.new hp)) upd_same⟩
theorem el_lcA {a : Addr} {xs : List V} {tl : TE} {j : Nat} {vs : List Nat} (v : Nat → V) (h : Ev tl σ H (.ref a)) (hx : SqL K H a xs) (hz : xs.length ≤ 40000) (hw : ∀ x, wipe ((wipe σ vs).set j (some x)) vs = wipe σ vs)
    (he : ∀ (i : Nat) (x : V) H1, Ex H H1 → xs[i]? = some x → Ev te ((wipe σ vs).set j (some x)) H1 (v i)) : EvL (tLc (iList K tl) (gName j) tYes te vs) σ H ((List.range xs.length).map v) := by
  have q := el_lcL (K := K) (t := tYes) (te := te) (fun _ => true) v h hx hz hw (fun i x H1 _ _ => fun H2 e Q q => q H2 (Ex.refl H2)) fun i x H1 e hi _ => he i x H1 e hi
  rw [given_all36] at q
  exact q
theorem el_lcRA {ta : TA} {j : Nat} {vs : List Nat} {n : Nat} (v : Nat → V) (h : EvA ta σ H [.int (n : Int)]) (hn : n ≤ 40000) (hw : ∀ x, wipe ((wipe σ vs).set j (some x)) vs = wipe σ vs)
    (he : ∀ (i : Nat) H1, Ex H H1 → i < n → Ev te ((wipe σ vs).set j (some (.int (i : Int)))) H1 (v i)) : EvL (tLc (iRng1 ta) (gName j) tYes te vs) σ H ((List.range n).map v) := by
  have q := el_lcR1 (t := tYes) (te := te) (fun _ => true) v h ⟨by omega, by omega⟩ hw (fun i H1 _ _ => fun H2 e Q q => q H2 (Ex.refl H2)) fun i H1 e hi _ => he i H1 e (by omega)
  rw [given_all36, Int.toNat_natCast] at q
  exact q
/-- [the row itself] -/
theorem ro_one {a : Addr} {xs : List V} (h : Ev te σ H (.ref a)) (ha : H a = some (.lst xs)) : EvRo (fun H p => Lst2 RowAt H p [xs]) (tLst (tCons te tNil)) σ H := fun H1 e Q q =>
  h H1 e (fun x Hx => [x].length ≤ sizeLine ∧ ∀ l, Hx l = none → Q (.ref l) (upd Hx l (.lst [x]))) fun H2 e2 => ⟨sz_of (by show 1 ≤ 100000; decide), fun l hl => q l _ (fresh_back e2 hl) (e2.trans (Ex.new hl)) ⟨[a], upd_same, rfl, fun i q l' x y => by
    cases i with
    | zero => cases x; cases y; exact Ex.new hl _ _ ((e.trans e2) _ _ ha)
    | succ i => simp at x⟩⟩
theorem ro_nil : EvRo (fun H p => Lst2 RowAt H p []) (tLst tNil) σ H := fun H1 e Q q => ⟨sz_of (by decide), fun l hl => q l _ hl (Ex.new hl) ⟨[], upd_same, Al2.nil⟩⟩
end
section
variable {P : Program} {w : World} {K : PySem.W.Frag} {mg : Str → Option Value} {base : Heap}
theorem ok__law_due (D : Dn K mg "_law_due" s__law_due ["kind", "row", "right", "condition", "width"]) (c_evaluate : C8.Cal P w K mg base 15 "evaluate" (sp_evaluate K) []) (z_len : mg "len" = none) (z_range : mg "range" = none) :
    C8.Cal P w K mg base 16 "_law_due" (sp__law_due K) [] := by
  refine cal_of D sc__law_due (fun vs H Q E h => ?_) (fun f cdv A outer s H vs Q E hr h => ?_)
  · obtain ⟨_, _, _, _, _, _, _, _, _, rfl, _⟩ := h
    rfl
  refine ⟨_, (pss_cons (ps_set (i := 5) sc__law_due.nd rfl (.inr rfl) (pe_lc (own := [("other", 8)]) (g := gName 8) (tt := tYes) rfl sc__law_due.nd (pi_list (pv 2)) (blkOk_by (N := n__law_due) (sc := C8.fnScope s__law_due) (by decide +kernel)) (fun _ _ _ _ _ => pg_name (i := 8) sc__law_due.nd rfl (Or.inl rfl)) (fun _ _ _ _ _ => pts_nil) (fun _ _ _ _ _ => (C8.pe_c c_evaluate hr (by decide) (by rfl) (pa_cons (pv 3) (pa_cons (pe_op op_cat (pv 1) (pv 8)) pa_nil))))))
    (pss_cons (ps_setLc (i := 6) (own := [("k", 9)]) (g := gName 9) rfl sc__law_due.nd rfl rfl (sw_true rfl rfl rfl (by decide +kernel)) (pi_range1 rfl z_range (pa_cons (pe_callB call_len_seq (by rfl) z_len PySem.boot_len (pa_cons (pv 2) pa_nil)) pa_nil)) (blkOk_by (N := n__law_due) (sc := C8.fnScope s__law_due) (by decide +kernel)) (fun _ _ _ _ _ => pg_name (i := 9) sc__law_due.nd rfl (Or.inl rfl)) (fun _ _ _ _ _ => (pts_one (pt_cmpR op_isTF (pe_ix (ix_listK (K := K) rfl) (pv 5) (pv 9) (fun _ _ => rfl)) pe_bl (nomark _)))) (fun _ _ _ _ _ => (pe_ix (ix_listK (K := K) rfl) (pv 2) (pv 9) (fun _ _ => rfl))))
    (pss_cons (ps_if (PW.pt (pw_or (pt_cmpR op_eq (pv 0) pe_str (nomark _)) (pw_or1 (PW.pt (pw_and (pt_cmpR op_eq (pv 0) pe_str (nomark _)) (pw_and1 (pt_cmpR op_gt (pe_callB call_len_seq (by rfl) z_len PySem.boot_len (pa_cons (pv 6) pa_nil)) pe_int (nomark _))))))))
      (pss_one (ps_ret (pe_lc (own := [("other", 8)]) (g := gName 8) (tt := tYes) rfl sc__law_due.nd (pi_list (pv 6)) (blkOk_by (N := n__law_due) (sc := C8.fnScope s__law_due) (by decide +kernel)) (fun _ _ _ _ _ => pg_name (i := 8) sc__law_due.nd rfl (Or.inl rfl)) (fun _ _ _ _ _ => pts_nil) (fun _ _ _ _ _ => (pe_op op_cat (pv 1) (pv 8))))))
      pss_nil)
    (pss_cons (ps_if (pt_cmpR op_eq (pv 0) pe_str (nomark _))
      (pss_one (ps_ret (pe_lst (pa_cons (pe_op op_cat (pv 1) (pe_lc (own := [("k", 9)]) (g := gName 9) (tt := tYes) rfl sc__law_due.nd (pi_range1 rfl z_range (pa_cons (pv 4) pa_nil)) (blkOk_by (N := n__law_due) (sc := C8.fnScope s__law_due) (by decide +kernel)) (fun _ _ _ _ _ => pg_name (i := 9) sc__law_due.nd rfl (Or.inl rfl)) (fun _ _ _ _ _ => pts_nil) (fun _ _ _ _ _ => pe_non))) pa_nil))))
      pss_nil)
    (pss_cons (ps_setLc (i := 7) (own := [("value", 10)]) (g := gName 10) rfl sc__law_due.nd rfl rfl (sw_true rfl rfl rfl (by decide +kernel)) (pi_list (pv 5)) (blkOk_by (N := n__law_due) (sc := C8.fnScope s__law_due) (by decide +kernel)) (fun _ _ _ _ _ => pg_name (i := 10) sc__law_due.nd rfl (Or.inl rfl)) (fun _ _ _ _ _ => (pts_one (pt_cmpR op_isTF (pv 10) pe_bl (nomark _)))) (fun _ _ _ _ _ => (pv 10)))
    (pss_cons (ps_if (PW.pt (pw_or (PW.pt (pw_and (pt_cmpR op_eq (pv 0) pe_str (nomark _)) (pw_and1 (pt_cmpR op_gt (pe_callB call_len_seq (by rfl) z_len PySem.boot_len (pa_cons (pv 6) pa_nil)) pe_int (nomark _))))) (pw_or1 (PW.pt (pw_and (pt_cmpR op_eq (pv 0) pe_str (nomark _)) (pw_and1 (pt_cmpR op_eq (pe_callB call_len_seq (by rfl) z_len PySem.boot_len (pa_cons (pv 6) pa_nil)) pe_int (nomark _))))))))
      (pss_one (ps_ret (pe_lst (pa_cons (pv 1) pa_nil))))
      pss_nil)
    (pss_cons (ps_if (PW.pt (pw_and (pt_cmpR op_eq (pv 0) pe_str (nomark _)) (pw_and1 (pt_cmpR op_eq (pe_callB call_len_seq (by rfl) z_len PySem.boot_len (pa_cons (pv 7) pa_nil)) (pe_callB call_len_seq (by rfl) z_len PySem.boot_len (pa_cons (pv 2) pa_nil)) (nomark _)))))
      (pss_one (ps_ret (pe_lst (pa_cons (pv 1) pa_nil))))
      pss_nil)
    (pss_one (ps_ret (pe_lst pa_nil)))))))))), ?_⟩
  obtain ⟨kind, a, b, v, wd, u, row, R, e, rfl, hk, ha, ⟨qs, hb, hA⟩, hd, he, hdep, hw, ⟨hrl, oR⟩, oRs, hl, q⟩ := h
  have hn : (qs.map V.ref).length = R.length := by rw [List.length_map, hA.1]
  have okE : ∀ s ∈ R, Ok (evE (row ++ s) e) := fun s hs => ev_ok (fun z hz => by
    rcases List.mem_append.mp hz with h | h
    · exact (oR.2 z h).1
    · exact ((oRs s hs).2.2 z h).1) he
  generalize hφ : (fun s => evE (row ++ s) e) = φ at okE
  have hφs : ∀ s, evE (row ++ s) e = φ s := fun s => by rw [← hφ]
  refine q_asgL (xs := (List.range R.length).map fun i => φ (R.getD i [])) (by
    have qq := el_lcA (K := K) (σ := [some (.str kind), some (.ref a), some (.ref b), some v, some (.int (wd : Int)), none, none, none, none, none, none]) (H := H) (te := tCall (sp_evaluate K) [] C8.E0 (tCons (tVar 3) (tCons (tOp rCat (tVar 1) (tVar 8)) tNil))) (tl := tVar 2) (j := 8) (vs := [8]) (fun i => φ (R.getD i [])) (ev_var rfl) (sq_of hb) (by omega) (fun _ => rfl) fun i x H1 e1 hi => by
      obtain ⟨c, s, rfl, hc, hs, _⟩ := al_getB hA hi
      have hm := List.mem_of_getElem? hs
      rw [List.getD_eq_getElem?_getD, hs, ← hφs]
      exact ec_evalN (K := K) (v := v) (e := e) (xs := row ++ s) (ev_var rfl) (el_catV (ev_var rfl) (ev_var rfl) (e1 _ _ ha) (e1 _ _ hc) (by have := (oRs s hm).1; omega)) ⟨ex_dp e1 hd, hdep, u, he⟩ (fun z hz => by
        rcases List.mem_append.mp hz with h | h
        · exact (oR.2 z h).1
        · exact ((oRs s hm).2.2 z h).1) (by rw [List.length_append]; have := (oRs s hm).1; omega)
    rw [hn] at qq
    exact qq) fun pv H1 hpv e1 h1 => ?_
  have dd : ∀ {Hx : Hp}, Ex H Hx → SqL K Hx b (qs.map V.ref) := fun ex => sq_of (ex _ _ hb)
  have hvl : ((List.range R.length).map fun i => φ (R.getD i [])).length = R.length := by rw [List.length_map, List.length_range]
  refine q_asgL (xs := ((List.range R.length).filter fun i => isTrue (φ (R.getD i []))).map fun i => V.ref (qs.getD i 0)) (by
    have qq := el_lcR1 (ta := tCons (tCB (rLenS K) (tCons (tVar 2) tNil)) tNil) (σ := [some (.str kind), some (.ref a), some (.ref b), some v, some (.int (wd : Int)), some (.ref pv), none, none, none, none, none]) (H := H1) (j := 9) (vs := [9]) (n := (R.length : Int)) (te := tOp (rIxL K) (tVar 2) (tVar 9)) (t := tTest (tOp rIsT (tOp (rIxL K) (tVar 5) (tVar 9)) (tC (.bl true))))
      (fun i => isTrue (φ (R.getD i []))) (fun i => V.ref (qs.getD i 0)) (ea_cons (ev_is (ev_len (ev_var rfl) (dd e1)) (by rw [hn])) ea_nil) ⟨by omega, by omega⟩ (fun _ => rfl) (fun i Hx ex hi => ?_) fun i Hx ex hi _ => ?_
    · rw [Int.toNat_natCast] at qq
      exact qq
    · have hil : i < R.length := by omega
      exact et_isT (ev_op (ev_var rfl) (ev_var rfl) (rv_ixL (sq_of (ex _ _ h1)) (atI_nat (by rw [List.getElem?_map, List.getElem?_range hil]; rfl))))
    · have hil : i < R.length := by omega
      have hiq : i < qs.length := by rw [hA.1]; exact hil
      exact ev_op (ev_var rfl) (ev_var rfl) (rv_ixL (dd (e1.trans ex)) (atI_nat (by rw [List.getElem?_map, List.getElem?_eq_getElem hiq, List.getD_eq_getElem?_getD, List.getElem?_eq_getElem hiq]; rfl)))) fun pt H2 hpt e2 h2 => ?_
  have x2 := e1.trans e2
  have hT : Lst2 RowAt H2 pt (R.filter fun s => isTrue (φ s)) := by
    refine ⟨((List.range R.length).filter fun i => isTrue (φ (R.getD i []))).map fun i => qs.getD i 0, by rw [h2, List.map_map]; rfl, ?_⟩
    rw [← filter_at (fun s => isTrue (φ s)) [] R]
    exact (hA.pick fun i hi => List.mem_range.mp (List.mem_filter.mp hi).1).mono fun q l _ h => RowAt.mn _ _ _ _ x2 h
  obtain ⟨ts, t1, t2⟩ := hT
  have htl : (ts.map V.ref).length = (R.filter fun s => isTrue (φ s)).length := by rw [List.length_map, t2.1]
  have hfl := List.length_filter_le (fun s => isTrue (φ s)) R
  have lenT : ∀ {σ2 : L2.St} {Hx : Hp}, σ2[6]? = some (some (.ref pt)) → Ex H2 Hx → Ev (tCB (rLenS K) (tCons (tVar 6) tNil)) σ2 Hx (.int (((R.filter fun s => isTrue (φ s)).length : Nat) : Int)) := fun s ex => ev_is (ev_len (ev_var s) (sq_of (ex _ _ t1))) (by rw [htl])
  have hpairs : pairsL (fun r s => evE (r ++ s) e) row R = (R.filter fun s => isTrue (φ s)).map (row ++ ·) := by
    unfold pairsL
    simp only [hφs]
  refine q_when (b := decide (kind = "inner") || (decide (kind = "left") && (R.any fun s => isTrue (φ s)))) (et_is (et_or (et_test (ev_op (ev_var rfl) ev_c (rv_eq rfl))) fun _ => et_and (et_test (ev_op (ev_var rfl) ev_c (rv_eq rfl))) fun _ => et_test (ev_op (lenT rfl (Ex.refl _)) ev_c rv_I0)) (by rw [str_eq, str_eq, filter_any])) (fun hb3 H3 e3 => ?_) fun hb3 H3 e3 => ?_
  · refine s_retR (R := fun H p => Lst2 RowAt H p (((List.range (ts.map V.ref).length).map fun i => row ++ (R.filter fun s => isTrue (φ s)).getD i []))) (er_lcN RowAt.mn (fun i => row ++ (R.filter fun s => isTrue (φ s)).getD i []) (ev_var rfl) (sq_of (e3 _ _ t1)) (by omega) (fun _ => rfl) fun i x H4 e4 hi => ?_) fun p H4 hp e4 hR => q p H4 (fresh_back (x2.trans e3) hp) ((x2.trans e3).trans e4) ?_
    · obtain ⟨c, s, rfl, hc, hs, _⟩ := al_getB t2 hi
      have hm := (List.mem_filter.mp (List.mem_of_getElem? hs)).1
      rw [List.getD_eq_getElem?_getD, hs]
      exact rn_of (el_catV (ev_var rfl) (ev_var rfl) (((x2.trans e3).trans e4) _ _ ha) ((e3.trans e4) _ _ hc) (by show row.length + s.length ≤ 100000; have := (oRs s hm).1; omega))
    · rw [htl, map_getD (fun s => row ++ s)] at hR
      have hrow : rowsLeft kind wd (fun r s => evE (r ++ s) e) row R = (R.filter fun s => isTrue (φ s)).map (row ++ ·) := by
        unfold rowsLeft
        rw [hpairs]
        rw [Bool.or_eq_true, Bool.and_eq_true, decide_eq_true_eq, decide_eq_true_eq, List.any_eq_true] at hb3
        rcases hb3 with z | ⟨z, s, hs1, hs2⟩
        · rw [if_pos z]
        · rw [z, if_neg (by decide), if_pos rfl, if_neg fun y => ?_]
          have := List.map_eq_nil_iff.mp y
          have h5 := (List.mem_filter (p := fun s => isTrue (φ s))).mpr ⟨hs1, hs2⟩
          rw [this] at h5
          cases h5
      rw [hrow]
      exact Lst2.mn RowAt.mn _ _ _ _ nu_le hR
  have x3 := x2.trans e3
  refine q_when (b := decide (kind = "left")) (et_test (ev_is (ev_op (ev_var rfl) ev_c (rv_eq rfl)) (by rw [str_eq]))) (fun hb4 H4 e4 => ?_) fun hb4 H4 e4 => ?_
  · have hkl := of_decide_eq_true hb4
    have x4 := x3.trans e4
    refine s_retR (R := fun H p => Lst2 RowAt H p [row ++ List.replicate wd .non]) (rl_one ?_) fun p H5 hp e5 hR => q p H5 (fresh_back x4 hp) (x4.trans e5) ?_
    · have h9 := el_lcRA (ta := tCons (tVar 4) tNil) (σ := [some (.str kind), some (.ref a), some (.ref b), some v, some (.int (wd : Int)), some (.ref pv), some (.ref pt), none, none, none, none]) (H := H4) (j := 9) (vs := [9]) (n := wd) (te := tC .non) (fun _ => V.non) (ea_cons (ev_var rfl) ea_nil) (by omega) (fun _ => rfl) fun i H5 _ _ => ev_c
      rw [range_fill] at h9
      exact fun H5 e5 Q k => (ev_var (i := 1) (v := .ref a) (H := H4) rfl) H5 e5 _ fun H6 e6 => h9 H6 (e5.trans e6) _ fun c H7 hc e7 h7 => ⟨a, c, row, _, rfl, rfl, ((x4.trans e5).trans (e6.trans e7)) _ _ ha, h7, sz_of (by rw [List.length_replicate]; omega), fun p hp => k p _ (fresh_back (e6.trans e7) hp) ((e6.trans e7).trans (Ex.new hp)) upd_same⟩
    · have hrow : rowsLeft kind wd (fun r s => evE (r ++ s) e) row R = [row ++ List.replicate wd .non] := by
        unfold rowsLeft
        rw [hpairs]
        rw [hkl] at hb3 ⊢
        rw [if_neg (by decide), if_pos rfl, if_pos]
        rw [show decide ((PySem.Str.ofString "left") = (PySem.Str.ofString "inner")) = false from by decide, show decide ((PySem.Str.ofString "left") = (PySem.Str.ofString "left")) = true from by decide, Bool.false_or, Bool.true_and, List.any_eq_false] at hb3
        rw [List.map_eq_nil_iff, List.filter_eq_nil_iff]
        exact hb3
      rw [hrow]
      exact Lst2.mn RowAt.mn _ _ _ _ nu_le hR
  have x4 := x3.trans e4
  have hk1 : kind ≠ "left" := of_decide_eq_false hb4
  have hk0 : kind ≠ "inner" := fun z => by rw [z] at hb3; simp at hb3
  have hbase : rowsLeft kind wd (fun r s => evE (r ++ s) e) row R = if kind = "never" then (if (R.all fun s => isFalse (φ s)) = true then [row] else []) else if (R.any fun s => isTrue (φ s)) = decide (kind = "some") then [row] else [] := by
    unfold rowsLeft
    rw [if_neg hk0, if_neg hk1]
    simp only [hφs]
  refine q_asgL (el_lcL (K := K) (xs := (List.range R.length).map fun i => φ (R.getD i [])) (fun i => isFalse (φ (R.getD i []))) (fun i => φ (R.getD i [])) (ev_var rfl) (sq_of ((e2.trans (e3.trans e4)) _ _ h1)) (by rw [hvl]; omega) (fun _ => rfl) (fun i x Hx ex hi => ?_) fun i x Hx ex hi _ => ?_) fun pf H5 hpf e5 h5 => ?_
  · have hil : i < R.length := by rw [← hvl]; exact (List.getElem?_eq_some_iff.mp hi).1
    rw [List.getElem?_map, List.getElem?_range hil] at hi
    obtain rfl := Option.some.inj hi
    exact et_test (ev_op (ev_var rfl) ev_c rv_isT)
  · have hil : i < R.length := by rw [← hvl]; exact (List.getElem?_eq_some_iff.mp hi).1
    rw [List.getElem?_map, List.getElem?_range hil] at hi
    obtain rfl := Option.some.inj hi
    exact ev_var rfl
  have hfalse : (given ((List.range R.length).map fun i => φ (R.getD i [])).length (fun i => isFalse (φ (R.getD i []))) fun i => φ (R.getD i [])).length = (R.filter fun s => isFalse (φ s)).length := by
    rw [hvl]
    unfold given
    rw [← filter_at (fun s => isFalse (φ s)) [] R, List.length_map, List.length_map]
  have x5 := x4.trans e5
  refine q_when (b := (decide (kind = "some") && R.any fun s => isTrue (φ s)) || (decide (kind = "none") && !R.any fun s => isTrue (φ s))) (et_is (et_or (et_and (et_test (ev_op (ev_var rfl) ev_c (rv_eq rfl))) fun _ => et_test (ev_op (lenT rfl ((e3.trans e4).trans e5)) ev_c rv_I0)) fun _ => et_and (et_test (ev_op (ev_var rfl) ev_c (rv_eq rfl))) fun _ => et_test (ev_op (lenT rfl ((e3.trans e4).trans e5)) ev_c (rv_eq rfl))) ?_) (fun hb6 H6 e6 => ?_) fun hb6 H6 e6 => ?_
  · rw [str_eq, str_eq, filter_any]
    congr 2
    rw [← filter_any]
    by_cases z : (R.filter fun s => isTrue (φ s)).length = 0
    · rw [z]; decide
    · rw [decide_eq_true (show (((R.filter fun s => isTrue (φ s)).length : Nat) : Int) > 0 by omega)]
      exact decide_eq_false fun y => z (by have := V.int.inj y; omega)
  · have x6 := x5.trans e6
    refine s_retO (ro_one (ev_var rfl) (x6 _ _ ha)) fun p H7 hp e7 hR => q p H7 (fresh_back x6 hp) (x6.trans e7) ?_
    have : rowsLeft kind wd (fun r s => evE (r ++ s) e) row R = [row] := by
      rw [hbase]
      rw [Bool.or_eq_true, Bool.and_eq_true, Bool.and_eq_true, decide_eq_true_eq, decide_eq_true_eq] at hb6
      rcases hb6 with ⟨z, y⟩ | ⟨z, y⟩
      · rw [z, if_neg (by decide), y, if_pos (by decide)]
      · rw [Bool.not_eq_true'] at y
        rw [z, if_neg (by decide), y, if_pos (by decide)]
    rw [this]
    exact hR
  have x6 := x5.trans e6
  refine q_when (b := decide (kind = "never") && R.all fun s => isFalse (φ s)) (et_is (et_and (et_test (ev_op (ev_var rfl) ev_c (rv_eq rfl))) fun _ => et_test (ev_op (ev_is (ev_len (ev_var rfl) (sq_of (e6 _ _ h5))) (by rw [hfalse])) (ev_is (ev_len (ev_var rfl) (dd x6)) (by rw [hn])) (rv_eq rfl))) ?_) (fun hb7 H7 e7 => ?_) fun hb7 H7 e7 => ?_
  · rw [str_eq, ← filter_full]
    congr 1
    exact decide_eq_decide.mpr ⟨fun z => V.int.inj z, fun z => by rw [z]⟩
  · have x7 := x6.trans e7
    refine s_retO (ro_one (ev_var rfl) (x7 _ _ ha)) fun p H8 hp e8 hR => q p H8 (fresh_back x7 hp) (x7.trans e8) ?_
    rw [Bool.and_eq_true, decide_eq_true_eq] at hb7
    rw [hbase, if_pos hb7.1, if_pos hb7.2]
    exact hR
  · have x7 := x6.trans e7
    refine s_retO ro_nil fun p H8 hp e8 hR => q p H8 (fresh_back x7 hp) (x7.trans e8) ?_
    have : rowsLeft kind wd (fun r s => evE (r ++ s) e) row R = [] := by
      rw [hbase]
      simp only [kinds36, List.mem_cons, List.not_mem_nil, or_false] at hk
      rcases hk with z | z | z | z | z
      · exact absurd z hk0
      · exact absurd z hk1
      · rw [z] at hb6 ⊢
        rw [if_neg (by decide), if_neg]
        intro y
        rw [y] at hb6
        revert hb6
        decide
      · rw [z] at hb6 ⊢
        rw [if_neg (by decide), if_neg]
        intro y
        rw [y] at hb6
        revert hb6
        decide
      · rw [z] at hb7 ⊢
        rw [if_pos rfl, if_neg]
        intro y
        rw [y] at hb7
        revert hb7
        decide
    rw [this]
    exact hR
end

--@SPLIT
/-! ### how much is shown (as for the sister law) -/
theorem sh_v {x : V} (h : OkB x) : shB (vDc x) ≤ 100002 ∧ shOk (vDc x) = true := by
  obtain ⟨h1, h2⟩ := h
  cases h1 with
  | non => exact ⟨by show 2000 ≤ 100002; decide, rfl⟩
  | bl b => exact ⟨by show 2000 ≤ 100002; decide, rfl⟩
  | int i =>
    refine ⟨by show 2000 ≤ 100002; decide, ?_⟩
    have h3 : -1152921504606846976 ≤ i ∧ i ≤ 1152921504606846976 := h2
    show decide (i.natAbs.log2 < 1920) = true
    refine decide_eq_true ?_
    by_cases z : i.natAbs = 0
    · rw [z]; decide
    · exact Nat.lt_of_lt_of_le ((Nat.log2_lt z).mpr (show i.natAbs < 2 ^ 61 by omega)) (by decide)
  | str s hs => exact ⟨by show 10 * s.length + 2 ≤ 100002; omega, hs.1⟩
theorem sh_row : ∀ {r : List V}, (∀ x ∈ r, OkB x) → shBs (r.map vDc) ≤ 100004 * r.length ∧ shOks (r.map vDc) = true
  | [], _ => ⟨Nat.le_refl _, rfl⟩
  | x :: r, h => by
    obtain ⟨a1, a2⟩ := sh_v (h x List.mem_cons_self)
    obtain ⟨b1, b2⟩ := sh_row fun y hy => h y (List.mem_cons_of_mem _ hy)
    refine ⟨?_, ?_⟩
    · show shB (vDc x) + 2 + shBs (r.map vDc) ≤ 100004 * (r.length + 1)
      omega
    · show (shOk (vDc x) && shOks (r.map vDc)) = true
      rw [a2, b2]
      rfl
def rowD (r : List V) : PyData := .list (r.map vDc)
theorem sh_rows : ∀ {L : List (List V)}, (∀ r ∈ L, r.length ≤ 3 ∧ OkRB r) → shBs (L.map rowD) ≤ 300018 * L.length ∧ shOks (L.map rowD) = true
  | [], _ => ⟨Nat.le_refl _, rfl⟩
  | x :: r, h => by
    obtain ⟨hl, ho⟩ := h x List.mem_cons_self
    obtain ⟨a1, a2⟩ := sh_row (r := x) fun y hy => ho.2 y hy
    obtain ⟨b1, b2⟩ := sh_rows fun y hy => h y (List.mem_cons_of_mem _ hy)
    have hl2 : 100004 * x.length ≤ 300012 := by omega
    refine ⟨?_, ?_⟩
    · show 4 + shBs (x.map vDc) + 2 + shBs (r.map rowD) ≤ 300018 * (r.length + 1)
      omega
    · show (shOks (x.map vDc) && shOks (r.map rowD)) = true
      rw [a2, b2]
      rfl
theorem nm_len {nm : Str} (h : nm ∈ unNames ∨ nm ∈ binNames) : nm.length ≤ 10 ∧ PyData.strOk nm = true := by
  simp only [unNames, binNames, List.mem_cons, List.not_mem_nil, or_false] at h
  rcases h with (h | h | h | h) | (h | h | h | h | h | h | h | h | h | h) <;> subst h <;> exact ⟨by decide +kernel, by decide +kernel⟩
theorem sh_cx {w : Nat} (hw : w ≤ 1000) : ∀ {e : Cnd}, e.ok w → shB e.d ≤ 100500 * 3 ^ e.dep ∧ shOk e.d = true
  | .col n, .col _ h => ⟨by show 4 + (10 * (PySem.Str.ofString "column").length + 2 + 2 + (2000 + 2 + 0)) ≤ 100500 * 3 ^ 1; decide +kernel, by
    show (PyData.strOk (PySem.Str.ofString "column") && (decide ((n : Int).natAbs.log2 < 1920) && true)) = true
    rw [show PyData.strOk (PySem.Str.ofString "column") = true from by decide +kernel]
    show (decide (n.log2 < 1920) && true) = true
    rw [decide_eq_true, Bool.and_true]
    by_cases z : n = 0
    · rw [z]; decide
    · exact Nat.lt_of_lt_of_le ((Nat.log2_lt z).mpr (show n < 2 ^ 61 by omega)) (by decide)⟩
  | .cst v, .cst _ h => by
    obtain ⟨a1, a2⟩ := sh_v h
    refine ⟨?_, ?_⟩
    · show 4 + (10 * (PySem.Str.ofString "constant").length + 2 + 2 + (shB (vDc v) + 2 + 0)) ≤ 100500 * 3 ^ 1
      have : (PySem.Str.ofString "constant").length = 8 := by decide +kernel
      rw [this]
      omega
    · show (PyData.strOk (PySem.Str.ofString "constant") && (shOk (vDc v) && true)) = true
      rw [show PyData.strOk (PySem.Str.ofString "constant") = true from by decide +kernel, a2]
      rfl
  | .un nm a, .un _ _ h ha => by
    obtain ⟨a1, a2⟩ := sh_cx hw ha
    obtain ⟨n1, n2⟩ := nm_len (.inl h)
    refine ⟨?_, ?_⟩
    · show 4 + (10 * (PySem.Str.ofString "unary").length + 2 + 2 + (10 * nm.length + 2 + 2 + (shB a.d + 2 + 0))) ≤ 100500 * 3 ^ (a.dep + 1)
      have : (PySem.Str.ofString "unary").length = 5 := by decide +kernel
      have hp : 0 < 3 ^ a.dep := Nat.pow_pos (by decide)
      rw [this, Nat.pow_succ]
      omega
    · show (PyData.strOk (PySem.Str.ofString "unary") && (PyData.strOk nm && (shOk a.d && true))) = true
      rw [show PyData.strOk (PySem.Str.ofString "unary") = true from by decide +kernel, n2, a2]
      rfl
  | .bin nm a b, .bin _ _ _ h ha hb => by
    obtain ⟨a1, a2⟩ := sh_cx hw ha
    obtain ⟨b1, b2⟩ := sh_cx hw hb
    obtain ⟨n1, n2⟩ := nm_len (.inr h)
    refine ⟨?_, ?_⟩
    · show 4 + (10 * (PySem.Str.ofString "binary").length + 2 + 2 + (10 * nm.length + 2 + 2 + (shB a.d + 2 + (shB b.d + 2 + 0)))) ≤ 100500 * 3 ^ (max a.dep b.dep + 1)
      have : (PySem.Str.ofString "binary").length = 6 := by decide +kernel
      have h1 : 3 ^ a.dep ≤ 3 ^ max a.dep b.dep := Nat.pow_le_pow_right (by decide) (by omega)
      have h2 : 3 ^ b.dep ≤ 3 ^ max a.dep b.dep := Nat.pow_le_pow_right (by decide) (by omega)
      have hp : 0 < 3 ^ max a.dep b.dep := Nat.pow_pos (by decide)
      rw [this, Nat.pow_succ]
      omega
    · show (PyData.strOk (PySem.Str.ofString "binary") && (PyData.strOk nm && (shOk a.d && (shOk b.d && true)))) = true
      rw [show PyData.strOk (PySem.Str.ofString "binary") = true from by decide +kernel, n2, a2, b2]
      rfl
theorem depth_vDc (v : V) : (vDc v).depth = 0 := by cases v <;> rfl
theorem depth_cx : ∀ e : Cnd, e.d.depth ≤ e.dep
  | .col _ => Nat.le_refl 1
  | .cst v => by
    show max 0 (max (vDc v).depth 0) + 1 ≤ 1
    rw [depth_vDc]
    decide
  | .un _ a => by
    have := depth_cx a
    show max 0 (max 0 (max a.d.depth 0)) + 1 ≤ a.dep + 1
    omega
  | .bin _ a b => by
    have h1 := depth_cx a
    have h2 := depth_cx b
    show max 0 (max 0 (max a.d.depth (max b.d.depth 0))) + 1 ≤ max a.dep b.dep + 1
    omega
theorem depths_vDc : ∀ r : List V, PyData.depthAll (r.map vDc) = 0
  | [] => rfl
  | x :: r => by
    show max (vDc x).depth (PyData.depthAll (r.map vDc)) = 0
    rw [depth_vDc, depths_vDc r]
    rfl
theorem depths_rows : ∀ L : List (List V), PyData.depthAll (L.map rowD) ≤ 1
  | [] => Nat.zero_le _
  | r :: L => by
    have := depths_rows L
    show max (PyData.depthAll (r.map vDc) + 1) (PyData.depthAll (L.map rowD)) ≤ 1
    rw [depths_vDc]
    omega
theorem dp_cells {K : PySem.W.Frag} {H : Hp} : ∀ {r : List V}, (∀ x ∈ r, OkB x) → DpAll K H r (r.map vDc)
  | [], _ => .nil
  | x :: r, h => .cons (dp_vDc (h x List.mem_cons_self).1.pl) (dp_cells fun y hy => h y (List.mem_cons_of_mem _ hy))
theorem al2_rows {K : PySem.W.Frag} {H : Hp} : ∀ {qs : List Addr} {L : List (List V)}, Al2 RowAt H qs L → (∀ r ∈ L, OkRB r) → DpAll K H (qs.map V.ref) (L.map rowD)
  | [], [], _, _ => .nil
  | [], _ :: _, h, _ => absurd h.1 (by simp)
  | _ :: _, [], h, _ => absurd h.1 (by simp)
  | q :: qs, r :: L, h, ho => .cons (.lst (sq_of (h.2 0 q r rfl rfl)) (dp_cells (ho r List.mem_cons_self).2)) (al2_rows ⟨by have := h.1; simpa using this, fun i q l a b => h.2 (i + 1) q l (by simpa using a) (by simpa using b)⟩ fun x hx => ho x (List.mem_cons_of_mem _ hx))
theorem dp_rows {K : PySem.W.Frag} {H : Hp} {p : Addr} {L : List (List V)} (h : Lst2 RowAt H p L) (ho : ∀ r ∈ L, OkRB r) : Dp K H (.ref p) (.list (L.map rowD)) := by
  obtain ⟨qs, h1, h2⟩ := h
  exact .lst (sq_of h1) (al2_rows h2 ho)

def keptD (L R : List (List V)) (e : Cnd) : PyData := .tuple [.list (L.map rowD), .list (R.map rowD), e.d]
theorem kept_sh {L R : List (List V)} {e : Cnd} {w : Nat} (hw : w ≤ 1000) (hL : L.length ≤ 7) (hR : R.length ≤ 7) (oL : ∀ r ∈ L, r.length ≤ 3 ∧ OkRB r) (oR : ∀ r ∈ R, r.length ≤ 3 ∧ OkRB r) (he : e.ok w) (hd : e.dep ≤ 4) : shOk (keptD L R e) = true ∧ shB (keptD L R e) ≤ 16000000 ∧ (keptD L R e).depth ≤ 60 := by
  obtain ⟨a1, a2⟩ := sh_rows oL
  obtain ⟨b1, b2⟩ := sh_rows oR
  obtain ⟨c1, c2⟩ := sh_cx hw he
  have hp : 3 ^ e.dep ≤ 3 ^ 4 := Nat.pow_le_pow_right (by decide) hd
  refine ⟨?_, ?_, ?_⟩
  · show (shOks (L.map rowD) && (shOks (R.map rowD) && (shOk e.d && true))) = true
    rw [a2, b2, c2]
    rfl
  · show 4 + (4 + shBs (L.map rowD) + 2 + (4 + shBs (R.map rowD) + 2 + (shB e.d + 2 + 0))) ≤ 16000000
    omega
  · have h1 := depths_rows L
    have h2 := depths_rows R
    have h3 := depth_cx e
    show max (PyData.depthAll (L.map rowD) + 1) (max (PyData.depthAll (R.map rowD) + 1) (max e.d.depth 0)) + 1 ≤ 60
    omega
section
variable {K : PySem.W.Frag} {σ : L2.St} {H : Hp} {ta tb tc td te tl tn : TE} {tr : TA} {E : XK} {D : Ends} {tz : TS}
theorem ev_shownL {d : PyData} (ha : EvD K ta σ H d) (hr : ∀ v H1, Dp K H1 v d → ∃ a, v = .ref a) (h1 : shOk d = true) (h2 : shB d ≤ 16000000) (h3 : d.depth ≤ 60) : Ev (tCB (rRepr K) (tCons ta tNil)) σ H (.str d.shown) := fun H1 e Q q =>
  ha H1 e _ fun v H2 e2 hd => by
    obtain ⟨a, rfl⟩ := hr v H2 hd
    obtain ⟨a1, a2, a3⟩ := shown_le d h1
    exact ⟨a, d, rfl, hd, a2, a3, h3, Nat.le_trans a1 (Nat.le_trans h2 (by decide)), q H2 e2⟩
theorem q_rowlistW {i : Nat} {a : Addr} {ms : List Nat} {at_ c wd : Nat} (h : EvA tr σ H [.ref a, .int (at_ : Int), .int (c : Int), .int (wd : Int)]) (hS : SqL K H a (ms.map fun m : Nat => V.int (m : Int))) (hc : at_ + c ≤ ms.length) (hc2 : c ≤ 1000) (hw : wd ≤ 1000)
    (k : ∀ p H1 L, H p = none → Ex H H1 → Lst2 RowAt H1 p L → L.length = c → (∀ r ∈ L, r.length = wd ∧ OkRB r) → tz D (σ.set i (some (.ref p))) H1) : tSeq (tAsg (tCall (sp__law_rowlist K) [] E tr) (gName i)) tz D σ H :=
  h H (Ex.refl H) _ fun H1 e1 => ⟨a, ms, at_, c, wd, rfl, ex_l e1 hS, hc, hc2, hw, fun p H2 L hp e2 hL hl ho => by
    obtain ⟨qs, h1, h2⟩ := hL
    exact k p H2 L (fresh_back e1 hp) (e1.trans e2) ⟨qs, nu_le _ _ h1, h2.mono fun q l _ h => nu_le _ _ (wo_le _ _ _ _ h)⟩ hl ho⟩
theorem ec_slistL {p q : Addr} {L : List (List V)} {E : XK} (ha : Ev ta σ H (.ref p)) (hb : ∀ H1, Ex H H1 → Ev tb σ H1 (.ref q)) (hp : Lst2 RowAt H p L) (hq : Lst2 RowAt H q L) (hl : L.length ≤ 1000) (ho : ∀ r ∈ L, OkRw r) : Ev (tCall (sp__law_same_list K) [] E (tCons ta (tCons tb tNil))) σ H (.bl true) := fun H1 e Q k =>
  ha H1 e _ fun H2 e2 => hb H2 (e.trans e2) H2 (Ex.refl H2) _ fun H3 e3 => ⟨p, q, L, rfl, hp.mono ((e.trans e2).trans e3) fun q l h => RowAt.mn _ _ _ _ ((e.trans e2).trans e3) h, hq.mono ((e.trans e2).trans e3) fun q l h => RowAt.mn _ _ _ _ ((e.trans e2).trans e3) h, hl, ho, fun H4 e4 => k H4 ((e2.trans e3).trans e4)⟩
theorem q_asgC5 {sp : Sp} {i : Nat} {E : XK} {xs : List V} {ta : TA} (ha : EvA ta σ H xs) (k : ∀ H1, Ex H H1 → sp (xs ++ []) H1 (fun v H2 => tz D (σ.set i (some v)) H2) E) : tSeq (tAsg (tCall sp [] E ta) (gName i)) tz D σ H := ha H (Ex.refl H) _ fun H1 e1 => k H1 e1
theorem kn_asg {sp : Sp} {i l : Nat} {E : XK} {xs : List V} {ta : TA} (ha : EvA ta σ H xs) (k : ∀ H1, Ex H H1 → sp (xs ++ []) H1 (fun v H2 => tz D (σ.set i (some v)) H2) E) : tSeq (tAsg (tCall sp [] E ta) (gName i)) tz D σ H := q_asgC5 ha k
end

--@SPLIT
/-! ### the law -/
theorem jt_mk {K : PySem.W.Frag} {H : Hp} {P1 : Addr} (e1 : tabOf K "join_rows" = P1) (h1 : H P1 = some (.tbl #[])) : JT K H := by
  unfold JT
  rw [e1]
  exact LamX.TabS.nil h1
theorem tabS_upd {H : Hp} {P p : Addr} {q : Str} {xs : List V} {o : HO} (h : LamX.TabS H P q) (hp : H p = some (.lst xs)) : LamX.TabS (upd H p o) P q := by
  obtain ⟨ps, h1, h2, h3⟩ := h
  refine ⟨ps, by rw [upd_ne fun z => by rw [z, hp] at h1; cases h1]; exact h1, h2, fun pos cv hc => ?_⟩
  obtain ⟨c, e1, e2⟩ := h3 pos cv hc
  exact ⟨c, e1, by rw [upd_ne fun z => by rw [z, hp] at e2; exact absurd (Option.some.inj e2) (by unfold LamX.CodeO; intro y; cases y)]; exact e2⟩
theorem left_ok {kind : Str} {wd : Nat} {φ : List V → List V → V} {row : List V} {R : List (List V)} (hw : wd ≤ 400) (h : row.length ≤ 400 ∧ OkRB row) (hR : ∀ r ∈ R, r.length ≤ 400 ∧ OkRB r) : ∀ r ∈ rowsLeft kind wd φ row R, OkRw r ∧ row.length ≤ r.length := by
  have hp : ∀ r ∈ pairsL φ row R, OkRw r ∧ row.length ≤ r.length := fun r hr => by
    obtain ⟨s, hs, rfl⟩ := List.mem_map.mp hr
    have o := hR s (List.mem_filter.mp hs).1
    refine ⟨⟨by rw [List.length_append]; omega, fun x hx => ?_⟩, by rw [List.length_append]; omega⟩
    rcases List.mem_append.mp hx with z | z
    · exact (h.2.2 x z).1
    · exact (o.2.2 x z).1
  have h1 : OkRw row := ⟨h.2.1, fun x hx => (h.2.2 x hx).1⟩
  intro r hr
  unfold rowsLeft at hr
  repeat' split at hr
  all_goals first
    | exact hp r hr
    | (rw [List.mem_singleton] at hr; rw [hr]; first
        | exact ⟨h1, Nat.le_refl _⟩
        | (refine ⟨⟨by rw [List.length_append, List.length_replicate]; omega, fun x hx => ?_⟩, by rw [List.length_append]; omega⟩
           rcases List.mem_append.mp hx with z | z
           · exact h1.2 x z
           · rw [(List.mem_replicate.mp z).2]; exact .non))
    | cases hr
section
variable {P : Program} {w : World} {K : PySem.W.Frag} {mg : Str → Option Value} {base : Heap}
theorem ok_law {fa : Addr} {s : Shared} {H : Hp} {a : Addr} {ns : List Int} {cdv : Value} (c__law_condition : C8.Cal P w K mg base 2 "_law_condition" (sp__law_condition K) []) (c__law_due : C8.Cal P w K mg base 16 "_law_due" (sp__law_due K) []) (c__law_numbers : C8.Cal P w K mg base 1 "_law_numbers" (sp__law_numbers K) []) (c__law_rowlist : C8.Cal P w K mg base 2 "_law_rowlist" (sp__law_rowlist K) []) (c__law_same_list : C8.Cal P w K mg base 3 "_law_same_list" (sp__law_same_list K) []) (c_join_rows : C8.Cal P w K mg base 34 "join_rows" (sp_join_rows K) []) (z_int : mg "int" = none) (z_repr : mg "repr" = none) (hT : JT K H) (h63 : ns.length ≤ 63) (hS : SqL K H a (ns.map V.int))
    (hr : Room 34 (callerA.deeper (envOfC "law" (C8.fnScope s_law) s.heap.objs.size fa cdv))) :
    ∃ t, PSs (cxOf C8.CX0 P w K mg base n_law "law" (C8.fnScope s_law) fa cdv callerA [] s H C8.E0).nox (C8.fnBody s_law) t ∧ t { nx := fun _ _ => V.non = .bl true, rt := fun v _ => v = .bl true } (start n_law [.ref a]) H := by
  refine ⟨_, (pss_cons (ps_set (i := 1) sc_law.nd rfl (.inl rfl) (C8.pe_c c__law_numbers hr (by decide) (by rfl) (pa_cons (pv 0) (pa_cons pe_int pa_nil))))
    (pss_cons (ps_set (i := 2) sc_law.nd rfl (.inl rfl) (pe_op op_add pe_int (pe_op op_mod (pe_callTy call_int1 (by rfl) z_int (by decide +kernel) (pa_cons (pe_ix ix_list (pv 1) pe_int (fun _ _ => rfl)) pa_nil)) pe_int)))
    (pss_cons (ps_set (i := 3) sc_law.nd rfl (.inl rfl) (pe_op op_add pe_int (pe_op op_mod (pe_op op_fdiv (pe_callTy call_int1 (by rfl) z_int (by decide +kernel) (pa_cons (pe_ix ix_list (pv 1) pe_int (fun _ _ => rfl)) pa_nil)) pe_int) pe_int)))
    (pss_cons (ps_set (i := 4) sc_law.nd rfl (.inl rfl) (C8.pe_c c__law_rowlist hr (by decide) (by rfl) (pa_cons (pv 1) (pa_cons pe_int (pa_cons (pe_op op_mod (pe_callTy call_int1 (by rfl) z_int (by decide +kernel) (pa_cons (pe_ix ix_list (pv 1) pe_int (fun _ _ => rfl)) pa_nil)) pe_int) (pa_cons (pv 2) pa_nil))))))
    (pss_cons (ps_set (i := 5) sc_law.nd rfl (.inl rfl) (C8.pe_c c__law_rowlist hr (by decide) (by rfl) (pa_cons (pv 1) (pa_cons pe_int (pa_cons (pe_op op_mod (pe_op op_fdiv (pe_callTy call_int1 (by rfl) z_int (by decide +kernel) (pa_cons (pe_ix ix_list (pv 1) pe_int (fun _ _ => rfl)) pa_nil)) pe_int) pe_int) (pa_cons (pv 3) pa_nil))))))
    (pss_cons (ps_set (i := 6) sc_law.nd rfl (.inl rfl) (C8.pe_c c__law_condition hr (by decide) (by rfl) (pa_cons (pe_ix ix_list (pv 1) pe_int (fun _ _ => rfl)) (pa_cons (pe_op op_add (pv 2) (pv 3)) pa_nil))))
    (pss_cons (ps_set (i := 7) sc_law.nd rfl (.inl rfl) (pe_callB (call_repr rfl (hu64 hr)) (by rfl) z_repr (by decide +kernel) (pa_cons (pe_tup (pa_cons (pv 4) (pa_cons (pv 5) (pa_cons (pv 6) pa_nil)))) pa_nil)))
    (pss_cons (ps_for PassesOwn.never rfl (pi_list (pe_lst (pa_cons pe_str (pa_cons pe_str (pa_cons pe_str (pa_cons pe_str (pa_cons pe_str pa_nil))))))) (pg_name (i := 8) sc_law.nd rfl (.inl rfl))
      (pss_cons (ps_set (i := 9) sc_law.nd rfl (.inl rfl) (pe_lst pa_nil))
    (pss_cons (ps_for PassesOwn.never rfl (pi_list (pv 4)) (pg_name (i := 10) sc_law.nd rfl (.inl rfl))
      (pss_one (ps_set (i := 9) sc_law.nd rfl (.inl rfl) (pe_op op_cat (pv 9) (C8.pe_c c__law_due hr (by decide) (by rfl) (pa_cons (pv 8) (pa_cons (pv 10) (pa_cons (pv 5) (pa_cons (pv 6) (pa_cons (pv 3) pa_nil))))))))))
    (pss_cons (ps_set (i := 11) sc_law.nd rfl (.inl rfl) (C8.pe_c c_join_rows hr (by decide) (by rfl) (pa_cons (pv 8) (pa_cons (pv 3) (pa_cons (pv 6) (pa_cons (pv 4) (pa_cons (pv 5) pa_nil)))))))
    (pss_cons (ps_if (pt_not (pt_val (C8.pe_c c__law_same_list hr (by decide) (by rfl) (pa_cons (pv 11) (pa_cons (pv 9) pa_nil)))))
      (pss_one (ps_ret pe_bl))
      pss_nil)
    (pss_cons (ps_for PassesOwn.never rfl (pi_list (pv 11)) (pg_name (i := 10) sc_law.nd rfl (.inl rfl))
      (pss_one (ps_expr (pe_bm PySem.F.plainAttrs_list PySem.F.slot_list_append PySem.F.type_list_append mt_append (pv 10) (pa_cons pe_int pa_nil)))))
    (pss_one (ps_if (pt_cmpR op_ne (pe_callB (call_repr rfl (hu64 hr)) (by rfl) z_repr (by decide +kernel) (pa_cons (pe_tup (pa_cons (pv 4) (pa_cons (pv 5) (pa_cons (pv 6) pa_nil)))) pa_nil)) (pv 7) (nomark _))
      (pss_one (ps_ret pe_bl))
      pss_nil))))))))
    (pss_one (ps_ret pe_bl)))))))))), ?_⟩
  have n1 : ∀ k, 0 ≤ cellN ns k := cellN_nn ns
  refine q_asgL (xs := (lawN ns 18).map V.int) (el_call (ea_cons (ev_var rfl) (ea_cons ev_c ea_nil)) fun H1 e Q q E => ⟨a, ns, 18, rfl, ex_l e hS, h63, by decide, q⟩) fun p1 H1 hp1 e1 h1 => ?_
  have idx : ∀ {σ : L2.St} {H' : Hp} {ta : TE} {i : Nat}, σ[1]? = some (some (V.ref p1)) → H' p1 = some (.lst ((lawN ns 18).map V.int)) → Ev ta σ H' (.int (i : Int)) → i < 18 → Ev (tOp (rIxL K) (tVar 1) ta) σ H' (.int (cellN ns i)) := fun hσ e ha hi => ev_op (ev_var hσ) ha (rv_ixL (sq_of e) (lawN_at hi))
  obtain ⟨c0, hc0⟩ := Int.eq_ofNat_of_zero_le (n1 0)
  obtain ⟨c1, hc1⟩ := Int.eq_ofNat_of_zero_le (n1 1)
  obtain ⟨c2, hc2⟩ := Int.eq_ofNat_of_zero_le (n1 2)
  have hms : (lawN ns 18).map V.int = ((lawN ns 18).map Int.toNat).map fun m : Nat => V.int (m : Int) := by
    rw [List.map_map]
    refine List.map_congr_left fun i hi => ?_
    show V.int i = V.int ((i.toNat : Nat) : Int)
    rw [Int.toNat_of_nonneg (lawN_nn i hi)]
  have i0 : ∀ {σ : L2.St} {H' : Hp}, σ[1]? = some (some (V.ref p1)) → H' p1 = some (.lst ((lawN ns 18).map V.int)) → Ev (tOp (rIxL K) (tVar 1) (tC (.int 0))) σ H' (.int (c0 : Int)) := fun hσ e => ev_is (idx (i := 0) hσ e ev_c (by decide)) (by rw [hc0])
  have i1 : ∀ {σ : L2.St} {H' : Hp}, σ[1]? = some (some (V.ref p1)) → H' p1 = some (.lst ((lawN ns 18).map V.int)) → Ev (tOp (rIxL K) (tVar 1) (tC (.int 1))) σ H' (.int (c1 : Int)) := fun hσ e => ev_is (idx (i := 1) hσ e ev_c (by decide)) (by rw [hc1])
  have i2 : ∀ {σ : L2.St} {H' : Hp}, σ[1]? = some (some (V.ref p1)) → H' p1 = some (.lst ((lawN ns 18).map V.int)) → Ev (tOp (rIxL K) (tVar 1) (tC (.int 2))) σ H' (.int (c2 : Int)) := fun hσ e => ev_is (idx (i := 2) hσ e ev_c (by decide)) (by rw [hc2])
  have hf0 : 0 < 1 + c0 % 3 := by omega
  have hf3 : 1 + c0 % 3 ≤ 3 := by omega
  refine q_asg (v := .int ((1 + c0 % 3 : Nat) : Int)) (ev_is (ev_op ev_c (ev_op (ev_int (i0 rfl h1)) ev_c (rv_I (by decide))) rv_I0) (by rw [Int.natCast_add, Int.natCast_emod]; rfl)) fun H2 e2 => ?_
  generalize 1 + c0 % 3 = fst at hf0 hf3
  have hw0 : 0 < 1 + c0 / 3 % 3 := by omega
  have hw3 : 1 + c0 / 3 % 3 ≤ 3 := by omega
  refine q_asg (v := .int ((1 + c0 / 3 % 3 : Nat) : Int)) (ev_is (ev_op ev_c (ev_op (ev_op (ev_int (i0 rfl (e2 _ _ h1))) ev_c (rv_I ⟨by decide, by decide⟩)) ev_c (rv_I (by decide))) rv_I0) (by rw [Int.natCast_add, Int.natCast_emod, Int.natCast_ediv]; rfl)) fun H3 e3 => ?_
  generalize 1 + c0 / 3 % 3 = wd at hw0 hw3
  have x3 := e2.trans e3
  have hat : ∀ {Hx : Hp}, Ex H1 Hx → SqL K Hx p1 (((lawN ns 18).map Int.toNat).map fun m : Nat => V.int (m : Int)) := fun ex => by rw [← hms]; exact sq_of (ex _ _ h1)
  refine q_rowlistW (K := K) (c := c1 % 8) (at_ := 3) (wd := fst) (ms := (lawN ns 18).map Int.toNat) (ea_cons (ev_var rfl) (ea_cons ev_c (ea_cons (ev_is (ev_op (ev_int (i1 rfl (x3 _ _ h1))) ev_c (rv_I (by decide))) (by rw [Int.natCast_emod]; rfl)) (ea_cons (ev_var rfl) ea_nil)))) (hat x3) (by rw [List.length_map, lawN_len]; omega) (by omega) (by omega) fun p H4 L hp e4 hL hlL oL => ?_
  obtain ⟨qs, g1, g2⟩ := hL
  have x4 := x3.trans e4
  refine q_rowlistW (K := K) (c := c1 / 8 % 8) (at_ := 10) (wd := wd) (ms := (lawN ns 18).map Int.toNat) (ea_cons (ev_var rfl) (ea_cons ev_c (ea_cons (ev_is (ev_op (ev_op (ev_int (i1 rfl (x4 _ _ h1))) ev_c (rv_I ⟨by decide, by decide⟩)) ev_c (rv_I (by decide))) (by rw [Int.natCast_emod, Int.natCast_ediv]; rfl)) (ea_cons (ev_var rfl) ea_nil)))) (hat x4) (by rw [List.length_map, lawN_len]; omega) (by omega) (by omega) fun pr H5 R hpr e5 hR hlR oR => ?_
  obtain ⟨rs, r1, r2⟩ := hR
  have x5 := x4.trans e5
  refine q_asgC5 (ea_cons (i2 rfl (x5 _ _ h1)) (ea_cons (ev_is (w := .int ((fst + wd : Nat) : Int)) (ev_op (ev_var rfl) (ev_var rfl) rv_I0) (by rw [Int.natCast_add])) ea_nil)) fun H6 e6 => ⟨c2, fst + wd, rfl, by omega, by omega, fun v H7 ce e7 hd he hdep => ?_⟩
  have x7 := e6.trans e7
  obtain ⟨k1, k2, k3⟩ := kept_sh (L := L) (R := R) (e := ce) (w := fst + wd) (by omega) (by omega) (by omega) (fun r hr => ⟨by rw [(oL r hr).1]; exact hf3, (oL r hr).2⟩) (fun r hr => ⟨by rw [(oR r hr).1]; exact hw3, (oR r hr).2⟩) he hdep
  have leftAt : ∀ {Hx : Hp}, Ex (noT H7) Hx → Hx p = some (.lst (qs.map V.ref)) ∧ Al2 RowAt Hx qs L := fun ex => ⟨ex _ _ (noT_at ((e5.trans x7) _ _ g1) fun ps z => nomatch z), g2.mono fun q l _ h => ex _ _ (noT_at ((e5.trans x7) _ _ h) fun ps z => nomatch z)⟩
  have rightAt : ∀ {Hx : Hp}, Ex (noT H7) Hx → Lst2 RowAt Hx pr R := fun ex => ⟨rs, ex _ _ (noT_at (x7 _ _ r1) fun ps z => nomatch z), r2.mono fun q l _ h => ex _ _ (noT_at (x7 _ _ h) fun ps z => nomatch z)⟩
  have shown : ∀ {σ : L2.St} {Hx : Hp}, σ[4]? = some (some (V.ref p)) → σ[5]? = some (some (V.ref pr)) → σ[6]? = some (some v) → Ex (noT H7) Hx → Ev (tCB (rRepr K) (tCons (tTup (tCons (tVar 4) (tCons (tVar 5) (tCons (tVar 6) tNil)))) tNil)) σ Hx (.str (keptD L R ce).shown) := fun h4 h5 h6 ex => ev_shownL (ed_tupU (ud_tup (ad_cons (ed_val (ev_var h4) (dp_rows ⟨qs, (leftAt ex).1, (leftAt ex).2⟩ fun r hr => (oL r hr).2)) (ad_cons (ed_val (ev_var h5) (dp_rows (rightAt ex) fun r hr => (oR r hr).2)) (ad_cons (ed_val (ev_var h6) (ex_dp ex (dp_noT hd))) ad_nil))) (by show 3 ≤ 100000; decide))) ref_tup k1 k2 k3
  refine q_asg (shown rfl rfl rfl (noT_le _)) fun H8 e8 => ?_
  have hT8 : JT K H8 := hT.ext fun b o h => ((((e1.trans x5).trans x7).trans e8)) b _ h
  have okRow : ∀ {r : List V} {n : Nat}, n ≤ 3 → r.length = n ∧ OkRB r → r.length ≤ 400 ∧ OkRB r := fun h h2 => ⟨by rw [h2.1]; omega, h2.2⟩
  refine q_forNLn (xs := kinds36.map V.str) (el_lst (ea_cons ev_c (ea_cons ev_c (ea_cons ev_c (ea_cons ev_c (ea_cons ev_c ea_nil))))) (by show 5 ≤ 100000; decide)) (fun q i σ' H' => ∃ kv dv rv tv, σ' = [some (.ref a), some (.ref p1), some (.int (fst : Int)), some (.int (wd : Int)), some (.ref p), some (.ref pr), some v, some (.str (keptD L R ce).shown), kv, dv, rv, tv] ∧ Ex (noT H7) H' ∧ JT K H' ∧ H' q = some (.lst (kinds36.map V.str))) (fun q H' hq e h => ⟨none, none, none, none, rfl, (noT_le _).trans (e8.trans e), hT8.ext fun b o h => e b _ h, h⟩) (fun q i σ' H' _ pv => ?_) (fun q i x σ' H' hi pv => ?_) fun q σ' H' pv => ?_
  · obtain ⟨_, _, _, _, _, _, _, h⟩ := pv
    exact sq_of h
  · obtain ⟨kv, dv, rv, tv, rfl, ex, hTx, hq⟩ := pv
    obtain ⟨kind, hk, rfl⟩ : ∃ kind, kind ∈ kinds36 ∧ x = .str kind := by
      have hm := List.mem_of_getElem? hi
      obtain ⟨k, hk, e⟩ := List.mem_map.mp hm
      exact ⟨k, hk, e.symm⟩
    clear hi
    have oLr : ∀ r ∈ L, r.length ≤ 400 ∧ OkRB r := fun r hr => okRow hf3 (oL r hr)
    have oRr : ∀ r ∈ R, r.length ≤ 400 ∧ OkRB r := fun r hr => okRow hw3 (oR r hr)
    have hl60 : L.length ≤ 60 := by omega
    have hr60 : R.length ≤ 60 := by omega
    have hqn : (qs.map V.ref).length = L.length := by rw [List.length_map, (leftAt ex).2.1]
    refine q_asgL (el_lst ea_nil (by decide)) fun du0 H9 hdu0 e9 h9 => ?_
    have ex9 := ex.trans e9
    refine q_forLn (xs := qs.map V.ref) (ev_var rfl) (sq_of (leftAt ex9).1) (fun j σ' Hx => ∃ du rv, σ' = [some (.ref a), some (.ref p1), some (.int (fst : Int)), some (.int (wd : Int)), some (.ref p), some (.ref pr), some v, some (.str (keptD L R ce).shown), some (.str kind), some (.ref du), rv, tv] ∧ Ex H9 Hx ∧ Lst2 RowAt Hx du (joinR kind wd (fun r s => evE (r ++ s) ce) (L.take j) R)) (fun Hx e => ⟨du0, rv, rfl, e, [], e _ _ h9, Al2.nil⟩) (fun j σ' Hx _ pv => ?_) (fun j x σ' Hx hj pv => ?_) fun σ' H10 pv => ?_
    · obtain ⟨_, _, _, e, _⟩ := pv
      exact sq_of (leftAt (ex9.trans e)).1
    · obtain ⟨du, rv, rfl, e, ds, d1, d2⟩ := pv
      have exx := ex9.trans e
      obtain ⟨b, r, rfl, hb, hr', _⟩ := al_getB (leftAt exx).2 hj
      have hm := List.mem_of_getElem? hr'
      rw [join_snoc hr']
      have hlen := join_len (kind := kind) (wd := wd) (φ := fun r s => evE (r ++ s) ce) (R := R) (L.take j)
      have hdl := d2.1
      generalize joinR kind wd (fun r s => evE (r ++ s) ce) (L.take j) R = J at d2 hlen hdl
      have hlt : (L.take j).length * (R.length + 1) ≤ 60 * 61 := Nat.mul_le_mul (by rw [List.length_take]; omega) (by omega)
      refine ⟨.ref du, rfl, (ea_cons (ev_var rfl) (ea_cons (ev_var rfl) (ea_cons (ev_var rfl) (ea_cons (ev_var rfl) (ea_cons (ev_var rfl) ea_nil))))) Hx (Ex.refl Hx) _ fun H2 e2 => ⟨kind, b, pr, v, wd, fst + wd, r, R, ce, rfl, hk, e2 _ _ hb, rightAt (exx.trans e2), ex_dp (exx.trans e2) (dp_noT hd), he, by omega, by omega, oLr r hm, oRr, hr60, fun p2 H3 hp2 e3 hR3 => ?_⟩⟩
      obtain ⟨es, k1', k2'⟩ := hR3
      have x3' := e2.trans e3
      have hel := k2'.1
      have hrl : (rowsLeft kind wd (fun r s => evE (r ++ s) ce) r R).length ≤ R.length + 1 := rows_len
      refine ⟨du, p2, _, _, rfl, rfl, x3' _ _ d1, k1', sz_of (by rw [List.length_map, List.length_map]; omega), fun p3 hp3 => ⟨p3, _, rfl, (e.trans x3').trans (Ex.new hp3), ds ++ es, by rw [upd_same, List.map_append], ?_⟩⟩
      exact (d2.mono fun q l _ h => RowAt.mn _ _ _ _ (x3'.trans (Ex.new hp3)) h).app36 (k2'.mono fun q l _ h => RowAt.mn _ _ _ _ (Ex.new hp3) h)
    · obtain ⟨du, rv, rfl, e10, hdue⟩ := pv
      rw [hqn, List.take_length] at hdue
      have ex10 := ex9.trans e10
      have x10 := e9.trans e10
      have hT10 : JT K H10 := hTx.ext fun b o h => x10 b _ h
      refine q_asgC5 (ea_cons (ev_var rfl) (ea_cons (ev_var rfl) (ea_cons (ev_var rfl) (ea_cons (ev_var rfl) (ea_cons (ev_var rfl) ea_nil))))) fun H11 e11 => ⟨kind, wd, v, ce, fst + wd, p, pr, L, R, rfl, hk, by omega, ex_dp (ex10.trans e11) (dp_noT hd), he, by omega, ⟨qs, (leftAt (ex10.trans e11)).1, (leftAt (ex10.trans e11)).2⟩, rightAt (ex10.trans e11), oLr, oRr, hl60, hr60, hT10.ext fun b o h => e11 b _ h, fun tp H12 htp x12 hT12 kp12 htold => ?_⟩
      have hJ := join_len (kind := kind) (wd := wd) (φ := fun r s => evE (r ++ s) ce) (R := R) L
      have hJ2 : L.length * (R.length + 1) ≤ 7 * 8 := Nat.mul_le_mul (by omega) (by omega)
      have oJ : ∀ r ∈ joinR kind wd (fun r s => evE (r ++ s) ce) L R, OkRw r ∧ 0 < r.length := fun r hr => by
        obtain ⟨l, hl, hr2⟩ := List.mem_flatMap.mp hr
        have h1 := left_ok (by omega) (oLr l hl) oRr r hr2
        exact ⟨h1.1, by have := (oL l hl).1; have := h1.2; omega⟩
      generalize joinR kind wd (fun r s => evE (r ++ s) ce) L R = J at hdue htold hJ oJ
      obtain ⟨ts, t1, t2⟩ := htold
      have dueX : Lst2 RowAt H12 du J := by
        obtain ⟨ds, d1, d2⟩ := hdue
        exact ⟨ds, x12 _ _ (noT_at (e11 _ _ d1) fun ps z => nomatch z), d2.mono fun q l _ h => x12 _ _ (noT_at (e11 _ _ h) fun ps z => nomatch z)⟩
      refine q_when (b := false) (et_is (et_not (et_B (ec_slistL (K := K) (p := tp) (q := du) (L := J) (ev_var rfl) (fun _ _ => ev_var rfl) ⟨ts, t1, t2.mono fun q l _ h => h.2⟩ dueX (by omega) fun r hr => (oJ r hr).1))) rfl) (fun z => by cases z) fun _ H13 e13 => ?_
      have x13 : Ex (noT H11) H13 := x12.trans e13
      have t1' := e13 _ _ t1
      have t2' : Al2 (NewRow H11) H13 ts J := t2.mono fun q l _ h => NewRow.mn _ _ _ _ e13 h
      have hT13 : JT K H13 := hT12.ext fun b o h => e13 b _ h
      refine q_forLn (xs := ts.map V.ref) (ev_var rfl) (sq_of t1') (fun i σ' H' => ∃ rv, σ' = [some (.ref a), some (.ref p1), some (.int (fst : Int)), some (.int (wd : Int)), some (.ref p), some (.ref pr), some v, some (.str (keptD L R ce).shown), some (.str kind), some (.ref du), rv, some (.ref tp)] ∧ Ex (noT H11) H' ∧ JT K H' ∧ H' tp = some (.lst (ts.map V.ref)) ∧ ∀ q ∈ ts, ∃ xs, H' q = some (.lst xs) ∧ xs.length ≤ 2000 + i) (fun H' e => ⟨rv, rfl, x13.trans e, hT13.ext fun b o h => e b _ h, e _ _ t1', fun q hq => ?_⟩) (fun i σ' H' _ pv => ?_) (fun i x σ' H' hi pv => ?_) fun σ' H14 pv => ?_
      · obtain ⟨i, hi, eq⟩ := List.getElem_of_mem hq
        have hil : i < J.length := by rw [← t2'.1]; exact hi
        have hrow := t2'.2 i q J[i] (by rw [List.getElem?_eq_getElem hi, eq]) (List.getElem?_eq_getElem hil)
        exact ⟨_, e _ _ hrow.2, by have := (oJ _ (List.getElem_mem hil)).1.1; omega⟩
      · obtain ⟨_, _, _, _, h, _⟩ := pv
        exact sq_of h
      · obtain ⟨rv, rfl, e, hTT, h, hq⟩ := pv
        rw [List.getElem?_map] at hi
        cases h9 : ts[i]? with
        | none => rw [h9] at hi; cases hi
        | some q =>
          rw [h9] at hi
          obtain rfl := Option.some.inj hi
          have hmem := List.mem_of_getElem? h9
          have hil : i < J.length := by rw [← t2'.1]; exact (List.getElem?_eq_some_iff.mp h9).1
          have hrow := t2'.2 i q J[i] h9 (List.getElem?_eq_getElem hil)
          obtain ⟨xs, hx, hxl⟩ := hq q hmem
          have hne : tp ≠ q := fun z => by
            have h1 := t1'
            rw [z, hrow.2] at h1
            have h2 : J[i] = ts.map V.ref := HO.lst.inj (Option.some.inj h1)
            have h3 := oJ _ (List.getElem_mem hil)
            rw [h2] at h3
            cases ts with
            | nil => exact absurd h3.2 (by show ¬ 0 < 0; decide)
            | cons q0 r => cases h3.1.2 (.ref q0) List.mem_cons_self
          refine s_app (xs := xs) hx (ev_var rfl) ev_c (by have := (List.getElem?_eq_some_iff.mp h9).1; have := t2'.1; omega) fun H2 e2 => ⟨_, rfl, ?_, tabS_upd (hTT.ext fun b o h => e2 b _ h) (e2 _ _ hx), ?_, fun q2 hq2 => ?_⟩
          · refine Ex.mut (e.trans e2) ?_
            unfold noT
            rw [hrow.1]
          · rw [upd_ne hne]
            exact e2 _ _ h
          · by_cases hz : q2 = q
            · subst hz
              exact ⟨_, upd_same, by rw [List.length_append]; show _ + 1 ≤ _; omega⟩
            · obtain ⟨xs2, hx2, hl2⟩ := hq q2 hq2
              exact ⟨xs2, by rw [upd_ne hz]; exact e2 _ _ hx2, by omega⟩
      · obtain ⟨rv, rfl, e14, hT14, _, _⟩ := pv
        have z14 : Ex (noT H7) H14 := (noT_mono (ex10.trans e11)).trans e14
        refine s_when (b := false) (et_test (ev_is (ev_op (shown rfl rfl rfl z14) (ev_var rfl) (rv_ne rfl)) (by rw [decide_eq_true rfl]; rfl))) (fun z => by cases z) fun _ H15 e15 => ?_
        exact ⟨_, _, _, _, rfl, z14.trans e15, hT14.ext fun b o h => e15 b _ h, e15 _ _ (e14 _ _ (noT_at ((x10.trans e11) _ _ hq) fun ps z => nomatch z))⟩
  · exact s_ret (v := .bl true) ev_c fun H2 e2 => rfl
end

--@SPLIT
/-! ### the end of a law whose def shows things and whose program makes key lambdas: tables of code objects stand in H from the start -/
section
variable {P : Program} {w : World} {K : PySem.W.Frag} {mg mb : Str → Option Value}
/-- what is tracked when the law is called: the script, the empty tables -/
def AtFirst (K : PySem.W.Frag) (a : Addr) (ts : List Addr) (H : Hp) : Prop := (∀ b ∈ ts, H b = some (.tbl #[])) ∧ ∀ b u, H b = some u → (b ∈ ts ∧ u = .tbl #[]) ∨ (b = a ∧ K.lookup a = none ∧ ∃ o ys, u = .frz o (.lst ys))
def Tabled (s₁ : Shared) (K : PySem.W.Frag) (cs : List (Addr × Addr)) : Prop := ∀ p ∈ cs, s₁.heap.get? p.2 = some { cls := .none, data := .fields #[] } ∧ K.lookup p.2 = none ∧ PySem.W.CodeHd s₁.heap p.1 p.2
def MainMod (s₁ : Shared) (mg : Str → Option Value) : Prop := ∃ (bm : Addr) (ob : Obj), mg "__builtins__" = some (.ref bm) ∧ bm ≠ builtinsNs ∧ s₁.heap.get? bm = some ob ∧ ob.cls = .type "module" ∧ ob.dict = some builtinsNs ∧ ob.data = .plain
theorem tab_core {fa a : Addr} {s₁ : Shared} {vs : List Value} {cs : List (Addr × Addr)} (H : Hp) (KX : K.In s₁.heap) (hns : s₁.heap.Ns mainGlobals mg) (hb : s₁.heap.Ns builtinsNs mb) (hbb : ∀ x : Str, x ≠ "__name__" → mb x = bootBuiltins x) (hlim : s₁.heap.NoLimit) (hg : s₁.gens = #[])
    (hC : Tabled s₁ K cs) (hM : MainMod s₁ mg) (ha : s₁.heap.get? a = some { cls := .type "list", data := .seq vs.toArray }) (hok : HOk P w H s₁.heap) (hF : AtFirst K a (cs.map (·.2)) H)
    (body : ∀ base : Heap, K.In base → base.Ns mainGlobals mg → (∀ p ∈ cs, LamX.TabB base mg p.1 p.2) → Env0 P w K mg base callerA [] s₁ H → codeAny (model P w) callerA (.call (.ref fa) ⟨[.ref a], []⟩) (CR C8.CX0 [] P w H s₁ (fun v _ => v = .bl true) C8.E0) s₁) :
    codeAny (model P w) callerA (.call (.ref fa) ⟨[.ref a], []⟩) (Done s₁) s₁ := by
  obtain ⟨_, only⟩ := hF
  have isT : ∀ b ∈ cs.map (·.2), s₁.heap.get? b = some { cls := .none, data := .fields #[] } ∧ K.lookup b = none := fun b hb => by
    obtain ⟨p, hp, rfl⟩ := List.mem_map.mp hb
    exact ⟨(hC p hp).1, (hC p hp).2.1⟩
  -- an object that is no list and no empty table is not tracked
  have free : ∀ {b : Addr} {o : Obj}, s₁.heap.get? b = some o → (∀ xs n, o.data = .seq xs n → False) → (o.data = .fields #[] → False) → (hidT s₁.heap H).get? b = some o := fun {b o} e n1 n2 => hidT_get e (by
    cases q : H b with
    | none => rfl
    | some u =>
      rcases only b u q with ⟨h1, _⟩ | ⟨h1, _⟩
      · rw [(isT b h1).1] at e
        cases e
        exact (n2 rfl).elim
      · rw [h1, ha] at e
        cases e
        exact (n1 _ _ rfl).elim)
  have ns : ∀ {b : Addr} {m : Str → Option Value}, s₁.heap.Ns b m → (hidT s₁.heap H).Ns b m := by
    rintro b m ⟨o, es, ep, e, d, r⟩
    exact ⟨o, es, ep, free e (fun xs n z => nomatch d.symm.trans z) (fun z => nomatch d.symm.trans z), d, r⟩
  have inK : K.In (hidT s₁.heap H) := fun b o e => hidT_get (KX b o e) (by
    cases q : H b with
    | none => rfl
    | some u =>
      rcases only b u q with ⟨h1, _⟩ | ⟨h1, h2, _⟩
      · rw [(isT b h1).2] at e
        cases e
      · rw [h1, h2] at e
        cases e)
  have tabB : ∀ p ∈ cs, LamX.TabB (hidT s₁.heap H) mg p.1 p.2 := fun p hp => by
    obtain ⟨h1, h2, h3⟩ := hC p hp
    refine ⟨?_, ?_, fun z => ?_⟩
    · obtain ⟨o, us, file, tf, flags, tg, inF, text, tt, e1, r1, r2, r3, r⟩ := h3
      refine ⟨o, us, file, tf, flags, tg, inF, text, tt, free e1 (fun xs n z => nomatch r2.symm.trans z) (fun z => ?_), r1, r2, r3, r⟩
      cases r2.symm.trans z
      simp at r3
    · obtain ⟨bm, ob, b1, b2, b3, b4, b5, b6⟩ := hM
      refine ⟨bm, ob, b1, b2, fun q => ?_, fun q => ?_, free b3 (fun xs n z => nomatch b6.symm.trans z) (fun z => nomatch b6.symm.trans z), b4, b5, b6⟩
      · obtain ⟨o, es, ep, e, hd, _⟩ := hns
        rw [q, e] at b3
        cases b3
        cases hd.symm.trans b6
      · rw [q, h1] at b3
        cases b3
        cases b6
    · obtain ⟨o, es, ep, e, hd, _⟩ := hns
      rw [z, h1] at e
      cases e
      cases hd
  obtain ⟨mc, l1, l2⟩ := hlim
  have env : Env0 P w K mg (hidT s₁.heap H) callerA [] s₁ H :=
    { frames := rfl, mod := ⟨inK, ns hns, ⟨mb, ns hb, hbb⟩, ⟨mc, ns l1, l2⟩⟩, bs := fun b o e => of_hidT e, bsz := Nat.le_of_eq (hidT_size _ _), funs := trivial, frf := fun b z => (List.not_mem_nil z).elim, hok := hok, bare := .of_eq hg }
  refine codeAny_mono (body _ inK (ns hns) tabB env) ?_
  intro r s' z
  match r, z with
  | .error e, z => exact (show False from z).elim
  | .ok .next, z => exact (show False from z).elim
  | .ok .brk, z => exact (show False from z).elim
  | .ok .cont, z => exact (show False from z).elim
  | .ok (.ret u), ⟨v, H', os, bare, un, hok', rel, q⟩ =>
    obtain rfl : v = .bl true := q
    have eu : u = Value.bool true := rel
    subst eu
    have tabK : ∀ p ∈ cs, H p.2 = some (.tbl #[]) → ∃ more : Array Value, s'.heap.get? p.2 = some { cls := .none, data := .fields more } := fun p hp e => by
      obtain ⟨more, h⟩ := un.tbls p.2 #[] e
      exact ⟨_, hok' p.2 _ h⟩
    have each : ∀ b o, s₁.heap.get? b = some o → s'.heap.get? b = some o ∨ ∃ p ∈ cs, p.2 = b ∧ H b = some (.tbl #[]) := fun b o e => by
      cases hq : H b with
      | none => exact .inl (un.keep b o e hq (fun z => (List.not_mem_nil z).elim) List.not_mem_nil)
      | some u =>
        rcases only b u hq with ⟨h1, rfl⟩ | ⟨_, _, o2, ys, rfl⟩
        · obtain ⟨p, hp, e1⟩ := List.mem_map.mp h1
          exact .inr ⟨p, hp, e1, rfl⟩
        · obtain ⟨w1, _⟩ := hok b _ hq
          obtain ⟨w2, _⟩ := hok' b _ (un.frzs b o2 _ hq)
          rw [e] at w1
          cases w1
          exact .inl w2
    refine ⟨rfl, ⟨fun b o e => ?_, fun b o e => ?_⟩, os, bare⟩
    · rcases each b o e with h | ⟨p, hp, rfl, hq⟩
      · exact .inl h
      · obtain ⟨more, hm⟩ := tabK p hp hq
        obtain ⟨h1, _, h3⟩ := hC p hp
        cases h1.symm.trans e
        exact .inr (.inl ⟨(h3.tab h1).isCodeTable, rfl, #[], more, rfl, (Array.empty_append (xs := more)).symm ▸ hm⟩)
    · rcases each b o e with h | ⟨p, hp, rfl, hq⟩
      · exact ⟨o, h⟩
      · obtain ⟨more, hm⟩ := tabK p hp hq
        exact ⟨_, hm⟩
theorem tab_call {fa a : Addr} {s₁ : Shared} {vs : List Value} {ns : List Int} {cs : List (Addr × Addr)} (KX : K.In s₁.heap) (hns : s₁.heap.Ns mainGlobals mg) (hb : s₁.heap.Ns builtinsNs mb) (hbb : ∀ x : Str, x ≠ "__name__" → mb x = bootBuiltins x) (hlim : s₁.heap.NoLimit) (hg : s₁.gens = #[])
    (hC : Tabled s₁ K cs) (hM : MainMod s₁ mg) (ha : s₁.heap.get? a = some { cls := .type "list", data := .seq vs.toArray }) (hi : IntsAre vs ns) (hl : ns.length ≤ sizeLine)
    (body : ∀ (H : Hp) (base : Heap), K.In base → base.Ns mainGlobals mg → (∀ p ∈ cs, LamX.TabB base mg p.1 p.2) → (∀ p ∈ cs, H p.2 = some (.tbl #[])) → SqL K H a (ns.map V.int) → Env0 P w K mg base callerA [] s₁ H → codeAny (model P w) callerA (.call (.ref fa) ⟨[.ref a], []⟩) (CR C8.CX0 [] P w H s₁ (fun v _ => v = .bl true) C8.E0) s₁) :
    codeAny (model P w) callerA (.call (.ref fa) ⟨[.ref a], []⟩) (Done s₁) s₁ := by
  have rv := vals_ints hi
  have aT : a ∉ cs.map (·.2) := fun z => by
    obtain ⟨p, hp, e⟩ := List.mem_map.mp z
    have q := (hC p hp).1
    rw [e, ha] at q
    cases q
  have tabAt : ∀ b ∈ cs.map (·.2), s₁.heap.get? b = some { cls := .none, data := .fields #[] } := fun b hb => by
    obtain ⟨p, hp, rfl⟩ := List.mem_map.mp hb
    exact (hC p hp).1
  let H0 : Hp := fun b => if b ∈ cs.map (·.2) then some (.tbl #[]) else none
  have h0 : ∀ b u, H0 b = some u → b ∈ cs.map (·.2) ∧ u = .tbl #[] := fun b u z => by
    by_cases h : b ∈ cs.map (·.2)
    · exact ⟨h, (Option.some.inj ((if_pos h).symm.trans z)).symm⟩
    · cases (if_neg h).symm.trans z
  have h0at : ∀ b ∈ cs.map (·.2), H0 b = some (.tbl #[]) := fun b h => if_pos h
  have ok0 : HOk P w H0 s₁.heap := fun b u z => by
    obtain ⟨h1, rfl⟩ := h0 b u z
    exact tabAt b h1
  clear_value H0
  cases hk : K.lookup a with
  | some o =>
    cases (KX a o hk).symm.trans ha
    refine tab_core H0 KX hns hb hbb hlim hg hC hM ha ok0 ⟨h0at, fun b u z => .inl (h0 b u z)⟩ fun base i1 i2 i3 i4 => body _ base i1 i2 i3 (fun p hp => h0at _ (List.mem_map.mpr ⟨p, hp, rfl⟩)) (.inr ⟨_, vs.toArray, _, hk, rfl, rfl, rfl, ?_, by simpa using rv⟩) i4
    rw [List.size_toArray, hi.length]
    exact hl
  | none =>
    have old : ∀ b ∈ cs.map (·.2), upd H0 a (.frz { cls := .type "list", data := .seq vs.toArray } (.lst (ns.map V.int))) b = some (.tbl #[]) := fun b hb => by
      rw [upd_ne fun z : b = a => aT (by rw [← z]; exact hb)]
      exact h0at b hb
    have two : ∀ b u, upd H0 a (.frz { cls := .type "list", data := .seq vs.toArray } (.lst (ns.map V.int))) b = some u → (b ∈ cs.map (·.2) ∧ u = .tbl #[]) ∨ (b = a ∧ u = .frz { cls := .type "list", data := .seq vs.toArray } (.lst (ns.map V.int))) := fun b u z => by
      by_cases e : b = a
      · subst e
        rw [upd_same] at z
        exact .inr ⟨rfl, (Option.some.inj z).symm⟩
      · rw [upd_ne e] at z
        exact .inl (h0 b u z)
    refine tab_core (upd H0 a (.frz { cls := .type "list", data := .seq vs.toArray } (.lst (ns.map V.int)))) KX hns hb hbb hlim hg hC hM ha (fun b u z => ?_) ⟨old, fun b u z => ?_⟩ fun base i1 i2 i3 i4 => body _ base i1 i2 i3 (fun p hp => old _ (List.mem_map.mpr ⟨p, hp, rfl⟩)) (.inl (.inr ⟨_, upd_same⟩)) i4
    · rcases two b u z with ⟨h1, rfl⟩ | ⟨rfl, rfl⟩
      · exact tabAt b h1
      · exact ⟨ha, by rw [List.length_map]; exact hl, vs, _, rv, ha⟩
    · rcases two b u z with h | ⟨rfl, rfl⟩
      · exact .inl h
      · exact .inr ⟨rfl, hk, _, _, rfl⟩
end
/-- the end of such a law -/
theorem walk_tab {l : PySem.W.OpenLaw} {n k : Nat} {q : Program} {loose : List Str} {XP : (Str → Option Value) → Heap → Prop} {YP : World → Heap → Prop} {d : DefRec} {K : Params → PySem.W.Frag} {st : Stmt} {N : List Str}
    (hn : l.most = some n) (hn2 : n ≤ sizeLine) (hdf : d.params.defaults = []) (hr : Room (k + 1) callerA) (hY : ∀ (w : World) (h : Heap), YP w h → (K w.params).In h) (S : FnScope N ["script"] (C8.fnScope st))
    (F : ∀ (w : World) (mg : Str → Option Value) (fa : Addr) (h : Heap), YP w h → (K w.params).In h → h.Ns mainGlobals mg → mg d.name = some (.ref fa) →
      ∃ cs : List (Addr × Addr), (∀ p ∈ cs, PySem.W.CodeHd h p.1 p.2 ∧ h.get? p.2 = some { cls := .none, data := .fields #[] }) ∧ (∀ p ∈ cs, (K w.params).lookup p.2 = none) ∧
      ∃ fd : FuncData, C8.Def (K w.params) mg "law" st fa fd ∧ (∀ (s : Shared) (u : Value), BindsTo s fd ⟨[u], []⟩ [("script", u)]) ∧
        ∀ (base : Heap) (s : Shared) (H : Hp) (a : Addr) (ns : List Int) (cdv : Value), (K w.params).In base → base.Ns mainGlobals mg → (∀ p ∈ cs, LamX.TabB base mg p.1 p.2) → (∀ p ∈ cs, H p.2 = some (.tbl #[])) → ns.length ≤ n → SqL (K w.params) H a (ns.map V.int) →
          Room k (callerA.deeper (envOfC "law" (C8.fnScope st) s.heap.objs.size fa cdv)) →
          ∃ t, PSs (cxOf C8.CX0 l.prog w (K w.params) mg base N "law" (C8.fnScope st) fa cdv callerA [] s H C8.E0).nox (C8.fnBody st) t ∧ t { nx := fun _ _ => V.non = .bl true, rt := fun v _ => v = .bl true } (start N [.ref a]) H) :
    PySem.W.WalkO q loose XP YP l.row.toRowW d [] (fun f vs => PySem.call f vs) := by
  refine Att.attach_callB hn hdf ?_
  intro w s₀ s₁ mg mb fa o pm cd doc a vs ns G Y ho hd hcd hmg hobj hints hlen hbits hg
  obtain ⟨cs, t1, t2, fd, D, bi, body⟩ := F w mg fa _ Y (hY w _ Y) G.T.g hmg
  apply tab_call (hY w _ Y) G.T.g G.T.b G.T.builtins G.T.nolimit hg (fun p hp => ⟨(t1 p hp).2, t2 p hp, (t1 p hp).1⟩) G.T.bmain hobj hints (Nat.le_trans hlen hn2)
  intro H base i1 i2 i3 i4 hS env
  exact run_here (us := [.ref a]) (vs := [.ref a]) D S hr env (bi s₁ (.ref a)) (.cons rfl .nil) rfl fun cdv room => body base s₁ H a ns cdv i1 i2 i3 i4 hlen hS room
theorem tabOf_eq {K : PySem.W.Frag} {x : Str} {f c P : Addr} {fd : FuncData} {oc o2 : Value} {od d2 : Option Addr} {sl s2 : Array (Option Value)} {vs : Array Value} (a : PySem.W.nsIn K mainGlobals x = some (some (.ref f))) (l : K.lookup f = some ⟨oc, od, .func fd, sl⟩) (hc : fd.code = .ref c) (lc : K.lookup c = some ⟨o2, d2, .fields vs, s2⟩) (hv : vs.getD 11 .none = .ref P) : tabOf K x = P := by
  unfold tabOf
  rw [a]
  simp only [l, hc, lc, hv]

--@SPLIT
theorem all_mk {P : Program} {w : World} {K : PySem.W.Frag} {h : Heap} {mg : Str → Option Value} {fa : Addr} (X : K.In h) (G : h.Ns mainGlobals mg) (hfa : mg "law" = some (.ref fa))
    {f0 : Addr} {od0 an0 : Option Addr} {sl0 : Array (Option Value)} {oc0 kV0 dc0 pm0 cd0 ct0 : Value} (a0 : PySem.W.nsIn K mainGlobals "kind_rank" = some (some (.ref f0))) (l0 : K.lookup f0 = some ⟨oc0, od0, .func (PySem.W.fnOf "kind_rank" "kind_rank" (C8.fnArgs s_kind_rank) (C8.fnBody s_kind_rank) (C8.fnScope s_kind_rank) .none kV0 dc0 pm0 an0 cd0 ct0), sl0⟩) (b0 : PySem.W.codeIn K cd0 "kind_rank" = true) (k0 : PySem.W.keepIn K (.ref f0) = true)
    {f1 : Addr} {od1 an1 : Option Addr} {sl1 : Array (Option Value)} {oc1 kV1 dc1 pm1 cd1 ct1 : Value} (a1 : PySem.W.nsIn K mainGlobals "is_integer" = some (some (.ref f1))) (l1 : K.lookup f1 = some ⟨oc1, od1, .func (PySem.W.fnOf "is_integer" "is_integer" (C8.fnArgs s_is_integer) (C8.fnBody s_is_integer) (C8.fnScope s_is_integer) .none kV1 dc1 pm1 an1 cd1 ct1), sl1⟩) (b1 : PySem.W.codeIn K cd1 "is_integer" = true) (k1 : PySem.W.keepIn K (.ref f1) = true)
    {f2 : Addr} {od2 an2 : Option Addr} {sl2 : Array (Option Value)} {oc2 kV2 dc2 pm2 cd2 ct2 : Value} (a2 : PySem.W.nsIn K mainGlobals "rank" = some (some (.ref f2))) (l2 : K.lookup f2 = some ⟨oc2, od2, .func (PySem.W.fnOf "rank" "rank" (C8.fnArgs s_rank) (C8.fnBody s_rank) (C8.fnScope s_rank) .none kV2 dc2 pm2 an2 cd2 ct2), sl2⟩) (b2 : PySem.W.codeIn K cd2 "rank" = true) (k2 : PySem.W.keepIn K (.ref f2) = true)
    {f3 : Addr} {od3 an3 : Option Addr} {sl3 : Array (Option Value)} {oc3 kV3 dc3 pm3 cd3 ct3 : Value} (a3 : PySem.W.nsIn K mainGlobals "same" = some (some (.ref f3))) (l3 : K.lookup f3 = some ⟨oc3, od3, .func (PySem.W.fnOf "same" "same" (C8.fnArgs s_same) (C8.fnBody s_same) (C8.fnScope s_same) .none kV3 dc3 pm3 an3 cd3 ct3), sl3⟩) (b3 : PySem.W.codeIn K cd3 "same" = true) (k3 : PySem.W.keepIn K (.ref f3) = true)
    {f4 : Addr} {od4 an4 : Option Addr} {sl4 : Array (Option Value)} {oc4 kV4 dc4 pm4 cd4 ct4 : Value} (a4 : PySem.W.nsIn K mainGlobals "before" = some (some (.ref f4))) (l4 : K.lookup f4 = some ⟨oc4, od4, .func (PySem.W.fnOf "before" "before" (C8.fnArgs s_before) (C8.fnBody s_before) (C8.fnScope s_before) .none kV4 dc4 pm4 an4 cd4 ct4), sl4⟩) (b4 : PySem.W.codeIn K cd4 "before" = true) (k4 : PySem.W.keepIn K (.ref f4) = true)
    {f5 : Addr} {od5 an5 : Option Addr} {sl5 : Array (Option Value)} {oc5 kV5 dc5 pm5 cd5 ct5 : Value} (a5 : PySem.W.nsIn K mainGlobals "limited" = some (some (.ref f5))) (l5 : K.lookup f5 = some ⟨oc5, od5, .func (PySem.W.fnOf "limited" "limited" (C8.fnArgs s_limited) (C8.fnBody s_limited) (C8.fnScope s_limited) .none kV5 dc5 pm5 an5 cd5 ct5), sl5⟩) (b5 : PySem.W.codeIn K cd5 "limited" = true) (k5 : PySem.W.keepIn K (.ref f5) = true)
    {f6 : Addr} {od6 an6 : Option Addr} {sl6 : Array (Option Value)} {oc6 kV6 dc6 pm6 cd6 ct6 : Value} (a6 : PySem.W.nsIn K mainGlobals "negated" = some (some (.ref f6))) (l6 : K.lookup f6 = some ⟨oc6, od6, .func (PySem.W.fnOf "negated" "negated" (C8.fnArgs s_negated) (C8.fnBody s_negated) (C8.fnScope s_negated) .none kV6 dc6 pm6 an6 cd6 ct6), sl6⟩) (b6 : PySem.W.codeIn K cd6 "negated" = true) (k6 : PySem.W.keepIn K (.ref f6) = true)
    {f7 : Addr} {od7 an7 : Option Addr} {sl7 : Array (Option Value)} {oc7 kV7 dc7 pm7 cd7 ct7 : Value} (a7 : PySem.W.nsIn K mainGlobals "both" = some (some (.ref f7))) (l7 : K.lookup f7 = some ⟨oc7, od7, .func (PySem.W.fnOf "both" "both" (C8.fnArgs s_both) (C8.fnBody s_both) (C8.fnScope s_both) .none kV7 dc7 pm7 an7 cd7 ct7), sl7⟩) (b7 : PySem.W.codeIn K cd7 "both" = true) (k7 : PySem.W.keepIn K (.ref f7) = true)
    {f8 : Addr} {od8 an8 : Option Addr} {sl8 : Array (Option Value)} {oc8 kV8 dc8 pm8 cd8 ct8 : Value} (a8 : PySem.W.nsIn K mainGlobals "either" = some (some (.ref f8))) (l8 : K.lookup f8 = some ⟨oc8, od8, .func (PySem.W.fnOf "either" "either" (C8.fnArgs s_either) (C8.fnBody s_either) (C8.fnScope s_either) .none kV8 dc8 pm8 an8 cd8 ct8), sl8⟩) (b8 : PySem.W.codeIn K cd8 "either" = true) (k8 : PySem.W.keepIn K (.ref f8) = true)
    {f9 : Addr} {od9 an9 : Option Addr} {sl9 : Array (Option Value)} {oc9 kV9 dc9 pm9 cd9 ct9 : Value} (a9 : PySem.W.nsIn K mainGlobals "_negate" = some (some (.ref f9))) (l9 : K.lookup f9 = some ⟨oc9, od9, .func (PySem.W.fnOf "_negate" "_negate" (C8.fnArgs s__negate) (C8.fnBody s__negate) (C8.fnScope s__negate) .none kV9 dc9 pm9 an9 cd9 ct9), sl9⟩) (b9 : PySem.W.codeIn K cd9 "_negate" = true) (k9 : PySem.W.keepIn K (.ref f9) = true)
    {f10 : Addr} {od10 an10 : Option Addr} {sl10 : Array (Option Value)} {oc10 kV10 dc10 pm10 cd10 ct10 : Value} (a10 : PySem.W.nsIn K mainGlobals "_length" = some (some (.ref f10))) (l10 : K.lookup f10 = some ⟨oc10, od10, .func (PySem.W.fnOf "_length" "_length" (C8.fnArgs s__length) (C8.fnBody s__length) (C8.fnScope s__length) .none kV10 dc10 pm10 an10 cd10 ct10), sl10⟩) (b10 : PySem.W.codeIn K cd10 "_length" = true) (k10 : PySem.W.keepIn K (.ref f10) = true)
    {f11 : Addr} {od11 an11 : Option Addr} {sl11 : Array (Option Value)} {oc11 kV11 dc11 pm11 cd11 ct11 : Value} (a11 : PySem.W.nsIn K mainGlobals "value_of_one" = some (some (.ref f11))) (l11 : K.lookup f11 = some ⟨oc11, od11, .func (PySem.W.fnOf "value_of_one" "value_of_one" (C8.fnArgs s_value_of_one) (C8.fnBody s_value_of_one) (C8.fnScope s_value_of_one) .none kV11 dc11 pm11 an11 cd11 ct11), sl11⟩) (b11 : PySem.W.codeIn K cd11 "value_of_one" = true) (k11 : PySem.W.keepIn K (.ref f11) = true)
    {f12 : Addr} {od12 an12 : Option Addr} {sl12 : Array (Option Value)} {oc12 kV12 dc12 pm12 cd12 ct12 : Value} (a12 : PySem.W.nsIn K mainGlobals "_both" = some (some (.ref f12))) (l12 : K.lookup f12 = some ⟨oc12, od12, .func (PySem.W.fnOf "_both" "_both" (C8.fnArgs s__both) (C8.fnBody s__both) (C8.fnScope s__both) .none kV12 dc12 pm12 an12 cd12 ct12), sl12⟩) (b12 : PySem.W.codeIn K cd12 "_both" = true) (k12 : PySem.W.keepIn K (.ref f12) = true)
    {f13 : Addr} {od13 an13 : Option Addr} {sl13 : Array (Option Value)} {oc13 kV13 dc13 pm13 cd13 ct13 : Value} (a13 : PySem.W.nsIn K mainGlobals "_either" = some (some (.ref f13))) (l13 : K.lookup f13 = some ⟨oc13, od13, .func (PySem.W.fnOf "_either" "_either" (C8.fnArgs s__either) (C8.fnBody s__either) (C8.fnScope s__either) .none kV13 dc13 pm13 an13 cd13 ct13), sl13⟩) (b13 : PySem.W.codeIn K cd13 "_either" = true) (k13 : PySem.W.keepIn K (.ref f13) = true)
    {f14 : Addr} {od14 an14 : Option Addr} {sl14 : Array (Option Value)} {oc14 kV14 dc14 pm14 cd14 ct14 : Value} (a14 : PySem.W.nsIn K mainGlobals "_same" = some (some (.ref f14))) (l14 : K.lookup f14 = some ⟨oc14, od14, .func (PySem.W.fnOf "_same" "_same" (C8.fnArgs s__same) (C8.fnBody s__same) (C8.fnScope s__same) .none kV14 dc14 pm14 an14 cd14 ct14), sl14⟩) (b14 : PySem.W.codeIn K cd14 "_same" = true) (k14 : PySem.W.keepIn K (.ref f14) = true)
    {f15 : Addr} {od15 an15 : Option Addr} {sl15 : Array (Option Value)} {oc15 kV15 dc15 pm15 cd15 ct15 : Value} (a15 : PySem.W.nsIn K mainGlobals "_first_known" = some (some (.ref f15))) (l15 : K.lookup f15 = some ⟨oc15, od15, .func (PySem.W.fnOf "_first_known" "_first_known" (C8.fnArgs s__first_known) (C8.fnBody s__first_known) (C8.fnScope s__first_known) .none kV15 dc15 pm15 an15 cd15 ct15), sl15⟩) (b15 : PySem.W.codeIn K cd15 "_first_known" = true) (k15 : PySem.W.keepIn K (.ref f15) = true)
    {f16 : Addr} {od16 an16 : Option Addr} {sl16 : Array (Option Value)} {oc16 kV16 dc16 pm16 cd16 ct16 : Value} (a16 : PySem.W.nsIn K mainGlobals "_equal" = some (some (.ref f16))) (l16 : K.lookup f16 = some ⟨oc16, od16, .func (PySem.W.fnOf "_equal" "_equal" (C8.fnArgs s__equal) (C8.fnBody s__equal) (C8.fnScope s__equal) .none kV16 dc16 pm16 an16 cd16 ct16), sl16⟩) (b16 : PySem.W.codeIn K cd16 "_equal" = true) (k16 : PySem.W.keepIn K (.ref f16) = true)
    {f17 : Addr} {od17 an17 : Option Addr} {sl17 : Array (Option Value)} {oc17 kV17 dc17 pm17 cd17 ct17 : Value} (a17 : PySem.W.nsIn K mainGlobals "_less" = some (some (.ref f17))) (l17 : K.lookup f17 = some ⟨oc17, od17, .func (PySem.W.fnOf "_less" "_less" (C8.fnArgs s__less) (C8.fnBody s__less) (C8.fnScope s__less) .none kV17 dc17 pm17 an17 cd17 ct17), sl17⟩) (b17 : PySem.W.codeIn K cd17 "_less" = true) (k17 : PySem.W.keepIn K (.ref f17) = true)
    {f18 : Addr} {od18 an18 : Option Addr} {sl18 : Array (Option Value)} {oc18 kV18 dc18 pm18 cd18 ct18 : Value} (a18 : PySem.W.nsIn K mainGlobals "_at_most" = some (some (.ref f18))) (l18 : K.lookup f18 = some ⟨oc18, od18, .func (PySem.W.fnOf "_at_most" "_at_most" (C8.fnArgs s__at_most) (C8.fnBody s__at_most) (C8.fnScope s__at_most) .none kV18 dc18 pm18 an18 cd18 ct18), sl18⟩) (b18 : PySem.W.codeIn K cd18 "_at_most" = true) (k18 : PySem.W.keepIn K (.ref f18) = true)
    {f19 : Addr} {od19 an19 : Option Addr} {sl19 : Array (Option Value)} {oc19 kV19 dc19 pm19 cd19 ct19 : Value} (a19 : PySem.W.nsIn K mainGlobals "_least" = some (some (.ref f19))) (l19 : K.lookup f19 = some ⟨oc19, od19, .func (PySem.W.fnOf "_least" "_least" (C8.fnArgs s__least) (C8.fnBody s__least) (C8.fnScope s__least) .none kV19 dc19 pm19 an19 cd19 ct19), sl19⟩) (b19 : PySem.W.codeIn K cd19 "_least" = true) (k19 : PySem.W.keepIn K (.ref f19) = true)
    {f20 : Addr} {od20 an20 : Option Addr} {sl20 : Array (Option Value)} {oc20 kV20 dc20 pm20 cd20 ct20 : Value} (a20 : PySem.W.nsIn K mainGlobals "_add" = some (some (.ref f20))) (l20 : K.lookup f20 = some ⟨oc20, od20, .func (PySem.W.fnOf "_add" "_add" (C8.fnArgs s__add) (C8.fnBody s__add) (C8.fnScope s__add) .none kV20 dc20 pm20 an20 cd20 ct20), sl20⟩) (b20 : PySem.W.codeIn K cd20 "_add" = true) (k20 : PySem.W.keepIn K (.ref f20) = true)
    {f21 : Addr} {od21 an21 : Option Addr} {sl21 : Array (Option Value)} {oc21 kV21 dc21 pm21 cd21 ct21 : Value} (a21 : PySem.W.nsIn K mainGlobals "_join" = some (some (.ref f21))) (l21 : K.lookup f21 = some ⟨oc21, od21, .func (PySem.W.fnOf "_join" "_join" (C8.fnArgs s__join) (C8.fnBody s__join) (C8.fnScope s__join) .none kV21 dc21 pm21 an21 cd21 ct21), sl21⟩) (b21 : PySem.W.codeIn K cd21 "_join" = true) (k21 : PySem.W.keepIn K (.ref f21) = true)
    {f22 : Addr} {od22 an22 : Option Addr} {sl22 : Array (Option Value)} {oc22 kV22 dc22 pm22 cd22 ct22 : Value} (a22 : PySem.W.nsIn K mainGlobals "_are_alike" = some (some (.ref f22))) (l22 : K.lookup f22 = some ⟨oc22, od22, .func (PySem.W.fnOf "_are_alike" "_are_alike" (C8.fnArgs s__are_alike) (C8.fnBody s__are_alike) (C8.fnScope s__are_alike) .none kV22 dc22 pm22 an22 cd22 ct22), sl22⟩) (b22 : PySem.W.codeIn K cd22 "_are_alike" = true) (k22 : PySem.W.keepIn K (.ref f22) = true)
    {f23 : Addr} {od23 an23 : Option Addr} {sl23 : Array (Option Value)} {oc23 kV23 dc23 pm23 cd23 ct23 : Value} (a23 : PySem.W.nsIn K mainGlobals "value_of_two" = some (some (.ref f23))) (l23 : K.lookup f23 = some ⟨oc23, od23, .func (PySem.W.fnOf "value_of_two" "value_of_two" (C8.fnArgs s_value_of_two) (C8.fnBody s_value_of_two) (C8.fnScope s_value_of_two) .none kV23 dc23 pm23 an23 cd23 ct23), sl23⟩) (b23 : PySem.W.codeIn K cd23 "value_of_two" = true) (k23 : PySem.W.keepIn K (.ref f23) = true)
    {f24 : Addr} {od24 an24 : Option Addr} {sl24 : Array (Option Value)} {oc24 kV24 dc24 pm24 cd24 ct24 : Value} (a24 : PySem.W.nsIn K mainGlobals "unary" = some (some (.ref f24))) (l24 : K.lookup f24 = some ⟨oc24, od24, .func (PySem.W.fnOf "unary" "unary" (C8.fnArgs s_unary) (C8.fnBody s_unary) (C8.fnScope s_unary) .none kV24 dc24 pm24 an24 cd24 ct24), sl24⟩) (b24 : PySem.W.codeIn K cd24 "unary" = true) (k24 : PySem.W.keepIn K (.ref f24) = true)
    {f25 : Addr} {od25 an25 : Option Addr} {sl25 : Array (Option Value)} {oc25 kV25 dc25 pm25 cd25 ct25 : Value} (a25 : PySem.W.nsIn K mainGlobals "binary" = some (some (.ref f25))) (l25 : K.lookup f25 = some ⟨oc25, od25, .func (PySem.W.fnOf "binary" "binary" (C8.fnArgs s_binary) (C8.fnBody s_binary) (C8.fnScope s_binary) .none kV25 dc25 pm25 an25 cd25 ct25), sl25⟩) (b25 : PySem.W.codeIn K cd25 "binary" = true) (k25 : PySem.W.keepIn K (.ref f25) = true)
    {f26 : Addr} {od26 an26 : Option Addr} {sl26 : Array (Option Value)} {oc26 kV26 dc26 pm26 cd26 ct26 : Value} (a26 : PySem.W.nsIn K mainGlobals "evaluate" = some (some (.ref f26))) (l26 : K.lookup f26 = some ⟨oc26, od26, .func (PySem.W.fnOf "evaluate" "evaluate" (C8.fnArgs s_evaluate) (C8.fnBody s_evaluate) (C8.fnScope s_evaluate) .none kV26 dc26 pm26 an26 cd26 ct26), sl26⟩) (b26 : PySem.W.codeIn K cd26 "evaluate" = true) (k26 : PySem.W.keepIn K (.ref f26) = true)
    {f27 : Addr} {od27 an27 : Option Addr} {sl27 : Array (Option Value)} {oc27 kV27 dc27 pm27 cd27 ct27 : Value} (a27 : PySem.W.nsIn K mainGlobals "_pairs_of" = some (some (.ref f27))) (l27 : K.lookup f27 = some ⟨oc27, od27, .func (PySem.W.fnOf "_pairs_of" "_pairs_of" (C8.fnArgs s__pairs_of) (C8.fnBody s__pairs_of) (C8.fnScope s__pairs_of) .none kV27 dc27 pm27 an27 cd27 ct27), sl27⟩) (b27 : PySem.W.codeIn K cd27 "_pairs_of" = true) (k27 : PySem.W.keepIn K (.ref f27) = true)
    {f28 : Addr} {od28 an28 : Option Addr} {sl28 : Array (Option Value)} {oc28 kV28 dc28 pm28 cd28 ct28 : Value} (a28 : PySem.W.nsIn K mainGlobals "_has_pair" = some (some (.ref f28))) (l28 : K.lookup f28 = some ⟨oc28, od28, .func (PySem.W.fnOf "_has_pair" "_has_pair" (C8.fnArgs s__has_pair) (C8.fnBody s__has_pair) (C8.fnScope s__has_pair) .none kV28 dc28 pm28 an28 cd28 ct28), sl28⟩) (b28 : PySem.W.codeIn K cd28 "_has_pair" = true) (k28 : PySem.W.keepIn K (.ref f28) = true)
    {f29 : Addr} {od29 an29 : Option Addr} {sl29 : Array (Option Value)} {oc29 kV29 dc29 pm29 cd29 ct29 : Value} (a29 : PySem.W.nsIn K mainGlobals "_is_never" = some (some (.ref f29))) (l29 : K.lookup f29 = some ⟨oc29, od29, .func (PySem.W.fnOf "_is_never" "_is_never" (C8.fnArgs s__is_never) (C8.fnBody s__is_never) (C8.fnScope s__is_never) .none kV29 dc29 pm29 an29 cd29 ct29), sl29⟩) (b29 : PySem.W.codeIn K cd29 "_is_never" = true) (k29 : PySem.W.keepIn K (.ref f29) = true)
    {f30 : Addr} {od30 an30 : Option Addr} {sl30 : Array (Option Value)} {oc30 kV30 dc30 pm30 cd30 ct30 : Value} (a30 : PySem.W.nsIn K mainGlobals "_rows_of_left" = some (some (.ref f30))) (l30 : K.lookup f30 = some ⟨oc30, od30, .func (PySem.W.fnOf "_rows_of_left" "_rows_of_left" (C8.fnArgs s__rows_of_left) (C8.fnBody s__rows_of_left) (C8.fnScope s__rows_of_left) .none kV30 dc30 pm30 an30 cd30 ct30), sl30⟩) (b30 : PySem.W.codeIn K cd30 "_rows_of_left" = true) (k30 : PySem.W.keepIn K (.ref f30) = true)
    {f31 : Addr} {od31 an31 : Option Addr} {sl31 : Array (Option Value)} {oc31 kV31 dc31 pm31 cd31 ct31 : Value} (a31 : PySem.W.nsIn K mainGlobals "join_by" = some (some (.ref f31))) (l31 : K.lookup f31 = some ⟨oc31, od31, .func (PySem.W.fnOf "join_by" "join_by" (C8.fnArgs s_join_by) (C8.fnBody s_join_by) (C8.fnScope s_join_by) .none kV31 dc31 pm31 an31 cd31 ct31), sl31⟩) (b31 : PySem.W.codeIn K cd31 "join_by" = true) (k31 : PySem.W.keepIn K (.ref f31) = true)
    {f32 c32 P32 : Addr} {od32 an32 : Option Addr} {sl32 : Array (Option Value)} {oc32 kV32 dc32 pm32 ct32 : Value} {o232 : Value} {d232 : Option Addr} {vs32 : Array Value} {s232 : Array (Option Value)} (a32 : PySem.W.nsIn K mainGlobals "join_rows" = some (some (.ref f32))) (l32 : K.lookup f32 = some ⟨oc32, od32, .func (PySem.W.fnOf "join_rows" "join_rows" (C8.fnArgs s_join_rows) (C8.fnBody s_join_rows) (C8.fnScope s_join_rows) .none kV32 dc32 pm32 an32 (Value.ref c32) ct32), sl32⟩) (b32 : PySem.W.codeIn K (Value.ref c32) "join_rows" = true) (k32 : PySem.W.keepIn K (.ref f32) = true) (lc32 : K.lookup c32 = some ⟨o232, d232, .fields vs32, s232⟩) (vt32 : vs32.getD 11 .none = .ref P32)
    {f33 : Addr} {od33 an33 : Option Addr} {sl33 : Array (Option Value)} {oc33 kV33 dc33 pm33 cd33 ct33 : Value} (a33 : PySem.W.nsIn K mainGlobals "_law_numbers" = some (some (.ref f33))) (l33 : K.lookup f33 = some ⟨oc33, od33, .func (PySem.W.fnOf "_law_numbers" "_law_numbers" (C8.fnArgs s__law_numbers) (C8.fnBody s__law_numbers) (C8.fnScope s__law_numbers) .none kV33 dc33 pm33 an33 cd33 ct33), sl33⟩) (b33 : PySem.W.codeIn K cd33 "_law_numbers" = true) (k33 : PySem.W.keepIn K (.ref f33) = true)
    {f34 : Addr} {od34 an34 : Option Addr} {sl34 : Array (Option Value)} {oc34 kV34 dc34 pm34 cd34 ct34 : Value} (a34 : PySem.W.nsIn K mainGlobals "_law_rank" = some (some (.ref f34))) (l34 : K.lookup f34 = some ⟨oc34, od34, .func (PySem.W.fnOf "_law_rank" "_law_rank" (C8.fnArgs s__law_rank) (C8.fnBody s__law_rank) (C8.fnScope s__law_rank) .none kV34 dc34 pm34 an34 cd34 ct34), sl34⟩) (b34 : PySem.W.codeIn K cd34 "_law_rank" = true) (k34 : PySem.W.keepIn K (.ref f34) = true)
    {f35 : Addr} {od35 an35 : Option Addr} {sl35 : Array (Option Value)} {oc35 kV35 dc35 pm35 cd35 ct35 : Value} (a35 : PySem.W.nsIn K mainGlobals "_law_cells" = some (some (.ref f35))) (l35 : K.lookup f35 = some ⟨oc35, od35, .func (PySem.W.fnOf "_law_cells" "_law_cells" (C8.fnArgs s__law_cells) (C8.fnBody s__law_cells) (C8.fnScope s__law_cells) .none kV35 dc35 pm35 an35 cd35 ct35), sl35⟩) (b35 : PySem.W.codeIn K cd35 "_law_cells" = true) (k35 : PySem.W.keepIn K (.ref f35) = true)
    {f36 : Addr} {od36 an36 : Option Addr} {sl36 : Array (Option Value)} {oc36 kV36 dc36 pm36 cd36 ct36 : Value} (a36 : PySem.W.nsIn K mainGlobals "_law_rowlist" = some (some (.ref f36))) (l36 : K.lookup f36 = some ⟨oc36, od36, .func (PySem.W.fnOf "_law_rowlist" "_law_rowlist" (C8.fnArgs s__law_rowlist) (C8.fnBody s__law_rowlist) (C8.fnScope s__law_rowlist) .none kV36 dc36 pm36 an36 cd36 ct36), sl36⟩) (b36 : PySem.W.codeIn K cd36 "_law_rowlist" = true) (k36 : PySem.W.keepIn K (.ref f36) = true)
    {f37 : Addr} {od37 an37 : Option Addr} {sl37 : Array (Option Value)} {oc37 kV37 dc37 pm37 cd37 ct37 : Value} (a37 : PySem.W.nsIn K mainGlobals "_law_ranks" = some (some (.ref f37))) (l37 : K.lookup f37 = some ⟨oc37, od37, .func (PySem.W.fnOf "_law_ranks" "_law_ranks" (C8.fnArgs s__law_ranks) (C8.fnBody s__law_ranks) (C8.fnScope s__law_ranks) .none kV37 dc37 pm37 an37 cd37 ct37), sl37⟩) (b37 : PySem.W.codeIn K cd37 "_law_ranks" = true) (k37 : PySem.W.keepIn K (.ref f37) = true)
    {f38 : Addr} {od38 an38 : Option Addr} {sl38 : Array (Option Value)} {oc38 kV38 dc38 pm38 cd38 ct38 : Value} (a38 : PySem.W.nsIn K mainGlobals "_law_same_list" = some (some (.ref f38))) (l38 : K.lookup f38 = some ⟨oc38, od38, .func (PySem.W.fnOf "_law_same_list" "_law_same_list" (C8.fnArgs s__law_same_list) (C8.fnBody s__law_same_list) (C8.fnScope s__law_same_list) .none kV38 dc38 pm38 an38 cd38 ct38), sl38⟩) (b38 : PySem.W.codeIn K cd38 "_law_same_list" = true) (k38 : PySem.W.keepIn K (.ref f38) = true)
    {f39 : Addr} {od39 an39 : Option Addr} {sl39 : Array (Option Value)} {oc39 kV39 dc39 pm39 cd39 ct39 : Value} (a39 : PySem.W.nsIn K mainGlobals "_law_simple" = some (some (.ref f39))) (l39 : K.lookup f39 = some ⟨oc39, od39, .func (PySem.W.fnOf "_law_simple" "_law_simple" (C8.fnArgs s__law_simple) (C8.fnBody s__law_simple) (C8.fnScope s__law_simple) .none kV39 dc39 pm39 an39 cd39 ct39), sl39⟩) (b39 : PySem.W.codeIn K cd39 "_law_simple" = true) (k39 : PySem.W.keepIn K (.ref f39) = true)
    {f40 : Addr} {od40 an40 : Option Addr} {sl40 : Array (Option Value)} {oc40 kV40 dc40 pm40 cd40 ct40 : Value} (a40 : PySem.W.nsIn K mainGlobals "_law_condition" = some (some (.ref f40))) (l40 : K.lookup f40 = some ⟨oc40, od40, .func (PySem.W.fnOf "_law_condition" "_law_condition" (C8.fnArgs s__law_condition) (C8.fnBody s__law_condition) (C8.fnScope s__law_condition) .none kV40 dc40 pm40 an40 cd40 ct40), sl40⟩) (b40 : PySem.W.codeIn K cd40 "_law_condition" = true) (k40 : PySem.W.keepIn K (.ref f40) = true)
    {f41 : Addr} {od41 an41 : Option Addr} {sl41 : Array (Option Value)} {oc41 kV41 dc41 pm41 cd41 ct41 : Value} (a41 : PySem.W.nsIn K mainGlobals "_law_due" = some (some (.ref f41))) (l41 : K.lookup f41 = some ⟨oc41, od41, .func (PySem.W.fnOf "_law_due" "_law_due" (C8.fnArgs s__law_due) (C8.fnBody s__law_due) (C8.fnScope s__law_due) .none kV41 dc41 pm41 an41 cd41 ct41), sl41⟩) (b41 : PySem.W.codeIn K cd41 "_law_due" = true) (k41 : PySem.W.keepIn K (.ref f41) = true)
    {f42 : Addr} {od42 an42 : Option Addr} {sl42 : Array (Option Value)} {oc42 kV42 dc42 pm42 cd42 ct42 : Value} (a42 : PySem.W.nsIn K mainGlobals "law" = some (some (.ref f42))) (l42 : K.lookup f42 = some ⟨oc42, od42, .func (PySem.W.fnOf "law" "law" (C8.fnArgs s_law) (C8.fnBody s_law) (C8.fnScope s_law) .none kV42 dc42 pm42 an42 cd42 ct42), sl42⟩) (b42 : PySem.W.codeIn K cd42 "law" = true) (k42 : PySem.W.keepIn K (.ref f42) = true)
    (z_bool : PySem.W.nsIn K mainGlobals "bool" = some none)
    (z_int : PySem.W.nsIn K mainGlobals "int" = some none)
    (z_isinstance : PySem.W.nsIn K mainGlobals "isinstance" = some none)
    (z_len : PySem.W.nsIn K mainGlobals "len" = some none)
    (z_list : PySem.W.nsIn K mainGlobals "list" = some none)
    (z_range : PySem.W.nsIn K mainGlobals "range" = some none)
    (z_repr : PySem.W.nsIn K mainGlobals "repr" = some none)
    (z_str : PySem.W.nsIn K mainGlobals "str" = some none)
    (z_tuple : PySem.W.nsIn K mainGlobals "tuple" = some none)
    {t_GREATEST : Tok} (q_GREATEST : PySem.W.nsIn K mainGlobals "GREATEST" = some (some (.int (1000000000000000) t_GREATEST)))
    {t_MOST : Tok} (q_MOST : PySem.W.nsIn K mainGlobals "MOST" = some (some (.int (10000) t_MOST)))
    {p_OF_INTEGERS_of_one : Addr} {es_OF_INTEGERS_of_one : Array DictEntry} {n_OF_INTEGERS_of_one : Nat} (q_OF_INTEGERS_of_one : PySem.W.nsIn K mainGlobals "OF_INTEGERS_of_one" = some (some (.ref p_OF_INTEGERS_of_one))) (ka_OF_INTEGERS_of_one : K.lookup p_OF_INTEGERS_of_one = some ⟨.type "dict", none, .dict es_OF_INTEGERS_of_one n_OF_INTEGERS_of_one, #[]⟩) (kl_OF_INTEGERS_of_one : PySem.W.KeysLit w.params es_OF_INTEGERS_of_one.toList) (ko_OF_INTEGERS_of_one : (p_OF_INTEGERS_of_one == sysModules) = false)
    (e_OF_INTEGERS_of_one_0 : PySem.W.nsIn K p_OF_INTEGERS_of_one "negate" = some (some (.ref f9)))
    (e_OF_INTEGERS_of_one_1 : PySem.W.nsIn K p_OF_INTEGERS_of_one "length" = some none)
    {p_OF_INTEGERS_of_two : Addr} {es_OF_INTEGERS_of_two : Array DictEntry} {n_OF_INTEGERS_of_two : Nat} (q_OF_INTEGERS_of_two : PySem.W.nsIn K mainGlobals "OF_INTEGERS_of_two" = some (some (.ref p_OF_INTEGERS_of_two))) (ka_OF_INTEGERS_of_two : K.lookup p_OF_INTEGERS_of_two = some ⟨.type "dict", none, .dict es_OF_INTEGERS_of_two n_OF_INTEGERS_of_two, #[]⟩) (kl_OF_INTEGERS_of_two : PySem.W.KeysLit w.params es_OF_INTEGERS_of_two.toList) (ko_OF_INTEGERS_of_two : (p_OF_INTEGERS_of_two == sysModules) = false)
    (e_OF_INTEGERS_of_two_0 : PySem.W.nsIn K p_OF_INTEGERS_of_two "add" = some (some (.ref f20)))
    (e_OF_INTEGERS_of_two_1 : PySem.W.nsIn K p_OF_INTEGERS_of_two "join" = some none)
    {p_OF_TEXTS_of_one : Addr} {es_OF_TEXTS_of_one : Array DictEntry} {n_OF_TEXTS_of_one : Nat} (q_OF_TEXTS_of_one : PySem.W.nsIn K mainGlobals "OF_TEXTS_of_one" = some (some (.ref p_OF_TEXTS_of_one))) (ka_OF_TEXTS_of_one : K.lookup p_OF_TEXTS_of_one = some ⟨.type "dict", none, .dict es_OF_TEXTS_of_one n_OF_TEXTS_of_one, #[]⟩) (kl_OF_TEXTS_of_one : PySem.W.KeysLit w.params es_OF_TEXTS_of_one.toList) (ko_OF_TEXTS_of_one : (p_OF_TEXTS_of_one == sysModules) = false)
    (e_OF_TEXTS_of_one_0 : PySem.W.nsIn K p_OF_TEXTS_of_one "length" = some (some (.ref f10)))
    {p_OF_TEXTS_of_two : Addr} {es_OF_TEXTS_of_two : Array DictEntry} {n_OF_TEXTS_of_two : Nat} (q_OF_TEXTS_of_two : PySem.W.nsIn K mainGlobals "OF_TEXTS_of_two" = some (some (.ref p_OF_TEXTS_of_two))) (ka_OF_TEXTS_of_two : K.lookup p_OF_TEXTS_of_two = some ⟨.type "dict", none, .dict es_OF_TEXTS_of_two n_OF_TEXTS_of_two, #[]⟩) (kl_OF_TEXTS_of_two : PySem.W.KeysLit w.params es_OF_TEXTS_of_two.toList) (ko_OF_TEXTS_of_two : (p_OF_TEXTS_of_two == sysModules) = false)
    (e_OF_TEXTS_of_two_0 : PySem.W.nsIn K p_OF_TEXTS_of_two "join" = some (some (.ref f21)))
    {p__OF_ALIKE : Addr} {es__OF_ALIKE : Array DictEntry} {n__OF_ALIKE : Nat} (q__OF_ALIKE : PySem.W.nsIn K mainGlobals "_OF_ALIKE" = some (some (.ref p__OF_ALIKE))) (ka__OF_ALIKE : K.lookup p__OF_ALIKE = some ⟨.type "dict", none, .dict es__OF_ALIKE n__OF_ALIKE, #[]⟩) (kl__OF_ALIKE : PySem.W.KeysLit w.params es__OF_ALIKE.toList) (ko__OF_ALIKE : (p__OF_ALIKE == sysModules) = false)
    (e__OF_ALIKE_0 : PySem.W.nsIn K p__OF_ALIKE "equal" = some (some (.ref f16)))
    (e__OF_ALIKE_1 : PySem.W.nsIn K p__OF_ALIKE "less" = some (some (.ref f17)))
    (e__OF_ALIKE_2 : PySem.W.nsIn K p__OF_ALIKE "at most" = some (some (.ref f18)))
    (e__OF_ALIKE_3 : PySem.W.nsIn K p__OF_ALIKE "least" = some (some (.ref f19)))
    (e__OF_ALIKE_4 : PySem.W.nsIn K p__OF_ALIKE "add" = some none)
    (e__OF_ALIKE_5 : PySem.W.nsIn K p__OF_ALIKE "join" = some none)
    {p__OF_ANY : Addr} {es__OF_ANY : Array DictEntry} {n__OF_ANY : Nat} (q__OF_ANY : PySem.W.nsIn K mainGlobals "_OF_ANY" = some (some (.ref p__OF_ANY))) (ka__OF_ANY : K.lookup p__OF_ANY = some ⟨.type "dict", none, .dict es__OF_ANY n__OF_ANY, #[]⟩) (kl__OF_ANY : PySem.W.KeysLit w.params es__OF_ANY.toList) (ko__OF_ANY : (p__OF_ANY == sysModules) = false)
    (e__OF_ANY_0 : PySem.W.nsIn K p__OF_ANY "and" = some (some (.ref f12)))
    (e__OF_ANY_1 : PySem.W.nsIn K p__OF_ANY "or" = some (some (.ref f13)))
    (e__OF_ANY_2 : PySem.W.nsIn K p__OF_ANY "same" = some (some (.ref f14)))
    (e__OF_ANY_3 : PySem.W.nsIn K p__OF_ANY "coalesce" = some (some (.ref f15)))
    (e__OF_ANY_4 : PySem.W.nsIn K p__OF_ANY "equal" = some none)
    (e__OF_ANY_5 : PySem.W.nsIn K p__OF_ANY "less" = some none)
    (e__OF_ANY_6 : PySem.W.nsIn K p__OF_ANY "at most" = some none)
    (e__OF_ANY_7 : PySem.W.nsIn K p__OF_ANY "add" = some none)
    (e__OF_ANY_8 : PySem.W.nsIn K p__OF_ANY "join" = some none)
    (e__OF_ANY_9 : PySem.W.nsIn K p__OF_ANY "least" = some none)
    : ∃ fd : FuncData, C8.Def K mg "law" s_law fa fd ∧ (∀ (s : Shared) (u : Value), BindsTo s fd ⟨[u], []⟩ [("script", u)]) ∧ ∀ (base : Heap) (s : Shared) (H : Hp) (a : Addr) (ns : List Int) (cdv : Value), K.In base → base.Ns mainGlobals mg → (∀ p ∈ ([(c32, P32)] : List (Addr × Addr)), LamX.TabB base mg p.1 p.2) → (∀ p ∈ ([(c32, P32)] : List (Addr × Addr)), H p.2 = some (.tbl #[])) → ns.length ≤ 63 → SqL K H a (ns.map V.int) → Room 34 (callerA.deeper (envOfC "law" (C8.fnScope s_law) s.heap.objs.size fa cdv)) → ∃ t, PSs (cxOf C8.CX0 P w K mg base n_law "law" (C8.fnScope s_law) fa cdv callerA [] s H C8.E0).nox (C8.fnBody s_law) t ∧ t { nx := fun _ _ => V.non = .bl true, rt := fun v _ => v = .bl true } (start n_law [.ref a]) H := by
  have D_kind_rank : Dn K mg "kind_rank" s_kind_rank ["value"] := dn_mk l0 b0 k0 (PySem.W.mg_of X G a0) (fun _ _ _ _ _ _ us hl => match us, hl with | [_], _ => rfl)
  have D_is_integer : Dn K mg "is_integer" s_is_integer ["value"] := dn_mk l1 b1 k1 (PySem.W.mg_of X G a1) (fun _ _ _ _ _ _ us hl => match us, hl with | [_], _ => rfl)
  have D_rank : Dn K mg "rank" s_rank ["value"] := dn_mk l2 b2 k2 (PySem.W.mg_of X G a2) (fun _ _ _ _ _ _ us hl => match us, hl with | [_], _ => rfl)
  have D_same : Dn K mg "same" s_same ["first", "second"] := dn_mk l3 b3 k3 (PySem.W.mg_of X G a3) (fun _ _ _ _ _ _ us hl => match us, hl with | [_, _], _ => rfl)
  have D_before : Dn K mg "before" s_before ["first", "second"] := dn_mk l4 b4 k4 (PySem.W.mg_of X G a4) (fun _ _ _ _ _ _ us hl => match us, hl with | [_, _], _ => rfl)
  have D_limited : Dn K mg "limited" s_limited ["number"] := dn_mk l5 b5 k5 (PySem.W.mg_of X G a5) (fun _ _ _ _ _ _ us hl => match us, hl with | [_], _ => rfl)
  have D_negated : Dn K mg "negated" s_negated ["value"] := dn_mk l6 b6 k6 (PySem.W.mg_of X G a6) (fun _ _ _ _ _ _ us hl => match us, hl with | [_], _ => rfl)
  have D_both : Dn K mg "both" s_both ["first", "second"] := dn_mk l7 b7 k7 (PySem.W.mg_of X G a7) (fun _ _ _ _ _ _ us hl => match us, hl with | [_, _], _ => rfl)
  have D_either : Dn K mg "either" s_either ["first", "second"] := dn_mk l8 b8 k8 (PySem.W.mg_of X G a8) (fun _ _ _ _ _ _ us hl => match us, hl with | [_, _], _ => rfl)
  have D__negate : Dn K mg "_negate" s__negate ["number"] := dn_mk l9 b9 k9 (PySem.W.mg_of X G a9) (fun _ _ _ _ _ _ us hl => match us, hl with | [_], _ => rfl)
  have D__length : Dn K mg "_length" s__length ["text"] := dn_mk l10 b10 k10 (PySem.W.mg_of X G a10) (fun _ _ _ _ _ _ us hl => match us, hl with | [_], _ => rfl)
  have D_value_of_one : Dn K mg "value_of_one" s_value_of_one ["name", "value"] := dn_mk l11 b11 k11 (PySem.W.mg_of X G a11) (fun _ _ _ _ _ _ us hl => match us, hl with | [_, _], _ => rfl)
  have D__both : Dn K mg "_both" s__both ["first", "second"] := dn_mk l12 b12 k12 (PySem.W.mg_of X G a12) (fun _ _ _ _ _ _ us hl => match us, hl with | [_, _], _ => rfl)
  have D__either : Dn K mg "_either" s__either ["first", "second"] := dn_mk l13 b13 k13 (PySem.W.mg_of X G a13) (fun _ _ _ _ _ _ us hl => match us, hl with | [_, _], _ => rfl)
  have D__same : Dn K mg "_same" s__same ["first", "second"] := dn_mk l14 b14 k14 (PySem.W.mg_of X G a14) (fun _ _ _ _ _ _ us hl => match us, hl with | [_, _], _ => rfl)
  have D__first_known : Dn K mg "_first_known" s__first_known ["first", "second"] := dn_mk l15 b15 k15 (PySem.W.mg_of X G a15) (fun _ _ _ _ _ _ us hl => match us, hl with | [_, _], _ => rfl)
  have D__equal : Dn K mg "_equal" s__equal ["first", "second"] := dn_mk l16 b16 k16 (PySem.W.mg_of X G a16) (fun _ _ _ _ _ _ us hl => match us, hl with | [_, _], _ => rfl)
  have D__less : Dn K mg "_less" s__less ["first", "second"] := dn_mk l17 b17 k17 (PySem.W.mg_of X G a17) (fun _ _ _ _ _ _ us hl => match us, hl with | [_, _], _ => rfl)
  have D__at_most : Dn K mg "_at_most" s__at_most ["first", "second"] := dn_mk l18 b18 k18 (PySem.W.mg_of X G a18) (fun _ _ _ _ _ _ us hl => match us, hl with | [_, _], _ => rfl)
  have D__least : Dn K mg "_least" s__least ["first", "second"] := dn_mk l19 b19 k19 (PySem.W.mg_of X G a19) (fun _ _ _ _ _ _ us hl => match us, hl with | [_, _], _ => rfl)
  have D__add : Dn K mg "_add" s__add ["first", "second"] := dn_mk l20 b20 k20 (PySem.W.mg_of X G a20) (fun _ _ _ _ _ _ us hl => match us, hl with | [_, _], _ => rfl)
  have D__join : Dn K mg "_join" s__join ["first", "second"] := dn_mk l21 b21 k21 (PySem.W.mg_of X G a21) (fun _ _ _ _ _ _ us hl => match us, hl with | [_, _], _ => rfl)
  have D__are_alike : Dn K mg "_are_alike" s__are_alike ["first", "second"] := dn_mk l22 b22 k22 (PySem.W.mg_of X G a22) (fun _ _ _ _ _ _ us hl => match us, hl with | [_, _], _ => rfl)
  have D_value_of_two : Dn K mg "value_of_two" s_value_of_two ["name", "first", "second"] := dn_mk l23 b23 k23 (PySem.W.mg_of X G a23) (fun _ _ _ _ _ _ us hl => match us, hl with | [_, _, _], _ => rfl)
  have D_unary : Dn K mg "unary" s_unary ["name", "value"] := dn_mk l24 b24 k24 (PySem.W.mg_of X G a24) (fun _ _ _ _ _ _ us hl => match us, hl with | [_, _], _ => rfl)
  have D_binary : Dn K mg "binary" s_binary ["name", "first", "second"] := dn_mk l25 b25 k25 (PySem.W.mg_of X G a25) (fun _ _ _ _ _ _ us hl => match us, hl with | [_, _, _], _ => rfl)
  have D_evaluate : Dn K mg "evaluate" s_evaluate ["expression", "row"] := dn_mk l26 b26 k26 (PySem.W.mg_of X G a26) (fun _ _ _ _ _ _ us hl => match us, hl with | [_, _], _ => rfl)
  have D__pairs_of : Dn K mg "_pairs_of" s__pairs_of ["row", "value_of", "right"] := dn_mk l27 b27 k27 (PySem.W.mg_of X G a27) (fun _ _ _ _ _ _ us hl => match us, hl with | [_, _, _], _ => rfl)
  have D__has_pair : Dn K mg "_has_pair" s__has_pair ["row", "value_of", "right"] := dn_mk l28 b28 k28 (PySem.W.mg_of X G a28) (fun _ _ _ _ _ _ us hl => match us, hl with | [_, _, _], _ => rfl)
  have D__is_never : Dn K mg "_is_never" s__is_never ["row", "value_of", "right"] := dn_mk l29 b29 k29 (PySem.W.mg_of X G a29) (fun _ _ _ _ _ _ us hl => match us, hl with | [_, _, _], _ => rfl)
  have D__rows_of_left : Dn K mg "_rows_of_left" s__rows_of_left ["kind", "width", "row", "value_of", "right"] := dn_mk l30 b30 k30 (PySem.W.mg_of X G a30) (fun _ _ _ _ _ _ us hl => match us, hl with | [_, _, _, _, _], _ => rfl)
  have D_join_by : Dn K mg "join_by" s_join_by ["kind", "width", "value_of", "left", "right"] := dn_mk l31 b31 k31 (PySem.W.mg_of X G a31) (fun _ _ _ _ _ _ us hl => match us, hl with | [_, _, _, _, _], _ => rfl)
  have D_join_rows : DnC K mg "join_rows" s_join_rows ["kind", "width", "condition", "left", "right"] (Value.ref c32) := dnC_mk l32 b32 k32 (PySem.W.mg_of X G a32) (fun _ _ _ _ _ _ us hl => match us, hl with | [_, _, _, _, _], _ => rfl)
  have E_join_rows : tabOf K "join_rows" = P32 := tabOf_eq a32 l32 rfl lc32 vt32
  have D__law_numbers : Dn K mg "_law_numbers" s__law_numbers ["script", "count"] := dn_mk l33 b33 k33 (PySem.W.mg_of X G a33) (fun _ _ _ _ _ _ us hl => match us, hl with | [_, _], _ => rfl)
  have D__law_rank : Dn K mg "_law_rank" s__law_rank ["value"] := dn_mk l34 b34 k34 (PySem.W.mg_of X G a34) (fun _ _ _ _ _ _ us hl => match us, hl with | [_], _ => rfl)
  have D__law_cells : Dn K mg "_law_cells" s__law_cells ["number", "width"] := dn_mk l35 b35 k35 (PySem.W.mg_of X G a35) (fun _ _ _ _ _ _ us hl => match us, hl with | [_, _], _ => rfl)
  have D__law_rowlist : Dn K mg "_law_rowlist" s__law_rowlist ["numbers", "at", "count", "width"] := dn_mk l36 b36 k36 (PySem.W.mg_of X G a36) (fun _ _ _ _ _ _ us hl => match us, hl with | [_, _, _, _], _ => rfl)
  have D__law_ranks : Dn K mg "_law_ranks" s__law_ranks ["row"] := dn_mk l37 b37 k37 (PySem.W.mg_of X G a37) (fun _ _ _ _ _ _ us hl => match us, hl with | [_], _ => rfl)
  have D__law_same_list : Dn K mg "_law_same_list" s__law_same_list ["told", "due"] := dn_mk l38 b38 k38 (PySem.W.mg_of X G a38) (fun _ _ _ _ _ _ us hl => match us, hl with | [_, _], _ => rfl)
  have D__law_simple : Dn K mg "_law_simple" s__law_simple ["number", "width"] := dn_mk l39 b39 k39 (PySem.W.mg_of X G a39) (fun _ _ _ _ _ _ us hl => match us, hl with | [_, _], _ => rfl)
  have D__law_condition : Dn K mg "_law_condition" s__law_condition ["number", "width"] := dn_mk l40 b40 k40 (PySem.W.mg_of X G a40) (fun _ _ _ _ _ _ us hl => match us, hl with | [_, _], _ => rfl)
  have D__law_due : Dn K mg "_law_due" s__law_due ["kind", "row", "right", "condition", "width"] := dn_mk l41 b41 k41 (PySem.W.mg_of X G a41) (fun _ _ _ _ _ _ us hl => match us, hl with | [_, _, _, _, _], _ => rfl)
  have y_bool : mg "bool" = none := PySem.W.mg_none_of X G z_bool
  have y_int : mg "int" = none := PySem.W.mg_none_of X G z_int
  have y_isinstance : mg "isinstance" = none := PySem.W.mg_none_of X G z_isinstance
  have y_len : mg "len" = none := PySem.W.mg_none_of X G z_len
  have y_list : mg "list" = none := PySem.W.mg_none_of X G z_list
  have y_range : mg "range" = none := PySem.W.mg_none_of X G z_range
  have y_repr : mg "repr" = none := PySem.W.mg_none_of X G z_repr
  have y_str : mg "str" = none := PySem.W.mg_none_of X G z_str
  have y_tuple : mg "tuple" = none := PySem.W.mg_none_of X G z_tuple
  have v_GREATEST : ∃ u, mg "GREATEST" = some u ∧ RelV (.int (1000000000000000)) u := ⟨_, PySem.W.mg_of X G q_GREATEST, ⟨_, rfl⟩⟩
  have v_MOST : ∃ u, mg "MOST" = some u ∧ RelV (.int (10000)) u := ⟨_, PySem.W.mg_of X G q_MOST, ⟨_, rfl⟩⟩
  have v_OF_INTEGERS_of_one : ∃ u, mg "OF_INTEGERS_of_one" = some u ∧ RelV (.ref p_OF_INTEGERS_of_one) u := ⟨_, PySem.W.mg_of X G q_OF_INTEGERS_of_one, rfl⟩
  have w_OF_INTEGERS_of_one : KDict K w p_OF_INTEGERS_of_one es_OF_INTEGERS_of_one n_OF_INTEGERS_of_one := ⟨ka_OF_INTEGERS_of_one, kl_OF_INTEGERS_of_one, ko_OF_INTEGERS_of_one⟩
  have v_OF_INTEGERS_of_two : ∃ u, mg "OF_INTEGERS_of_two" = some u ∧ RelV (.ref p_OF_INTEGERS_of_two) u := ⟨_, PySem.W.mg_of X G q_OF_INTEGERS_of_two, rfl⟩
  have w_OF_INTEGERS_of_two : KDict K w p_OF_INTEGERS_of_two es_OF_INTEGERS_of_two n_OF_INTEGERS_of_two := ⟨ka_OF_INTEGERS_of_two, kl_OF_INTEGERS_of_two, ko_OF_INTEGERS_of_two⟩
  have v_OF_TEXTS_of_one : ∃ u, mg "OF_TEXTS_of_one" = some u ∧ RelV (.ref p_OF_TEXTS_of_one) u := ⟨_, PySem.W.mg_of X G q_OF_TEXTS_of_one, rfl⟩
  have w_OF_TEXTS_of_one : KDict K w p_OF_TEXTS_of_one es_OF_TEXTS_of_one n_OF_TEXTS_of_one := ⟨ka_OF_TEXTS_of_one, kl_OF_TEXTS_of_one, ko_OF_TEXTS_of_one⟩
  have v_OF_TEXTS_of_two : ∃ u, mg "OF_TEXTS_of_two" = some u ∧ RelV (.ref p_OF_TEXTS_of_two) u := ⟨_, PySem.W.mg_of X G q_OF_TEXTS_of_two, rfl⟩
  have w_OF_TEXTS_of_two : KDict K w p_OF_TEXTS_of_two es_OF_TEXTS_of_two n_OF_TEXTS_of_two := ⟨ka_OF_TEXTS_of_two, kl_OF_TEXTS_of_two, ko_OF_TEXTS_of_two⟩
  have v__OF_ALIKE : ∃ u, mg "_OF_ALIKE" = some u ∧ RelV (.ref p__OF_ALIKE) u := ⟨_, PySem.W.mg_of X G q__OF_ALIKE, rfl⟩
  have w__OF_ALIKE : KDict K w p__OF_ALIKE es__OF_ALIKE n__OF_ALIKE := ⟨ka__OF_ALIKE, kl__OF_ALIKE, ko__OF_ALIKE⟩
  have v__OF_ANY : ∃ u, mg "_OF_ANY" = some u ∧ RelV (.ref p__OF_ANY) u := ⟨_, PySem.W.mg_of X G q__OF_ANY, rfl⟩
  have w__OF_ANY : KDict K w p__OF_ANY es__OF_ANY n__OF_ANY := ⟨ka__OF_ANY, kl__OF_ANY, ko__OF_ANY⟩
  have e := hfa.symm.trans (PySem.W.mg_of X G a42)
  cases e
  have D_law := def_mk (x := "law") (st := s_law) l42 b42 k42 hfa
  refine ⟨_, D_law, fun s v => .of_eq rfl, fun base s H a ns cdv _ _ hB hH h63 hS hr => ?_⟩
  have B_join_rows : LamX.TabB base mg c32 (tabOf K "join_rows") := by rw [E_join_rows]; exact hB (c32, P32) (List.mem_cons_self)
  have H_join_rows : H P32 = some (.tbl #[]) := hH (c32, P32) (List.mem_cons_self)
  have c_kind_rank := ok_kind_rank (P := P) (w := w) (base := base) D_kind_rank y_bool y_int y_isinstance 
  have c_is_integer := ok_is_integer (P := P) (w := w) (base := base) D_is_integer y_bool y_int y_isinstance 
  have c_rank := ok_rank (P := P) (w := w) (base := base) D_rank c_kind_rank y_int 
  have c_same := ok_same (P := P) (w := w) (base := base) D_same c_rank 
  have c_before := ok_before (P := P) (w := w) (base := base) D_before c_rank 
  have c_limited := ok_limited (P := P) (w := w) (base := base) D_limited v_GREATEST 
  have c_negated := ok_negated (P := P) (w := w) (base := base) D_negated 
  have c_both := ok_both (P := P) (w := w) (base := base) D_both 
  have c_either := ok_either (P := P) (w := w) (base := base) D_either 
  have c__negate := ok__negate (P := P) (w := w) (base := base) D__negate 
  have c__length := ok__length (P := P) (w := w) (base := base) D__length y_len 
  have hNg := held_of (k := 4) c__negate (PySem.W.mg_of X G a9) (by decide)
  have hLn := held_of (k := 4) c__length (PySem.W.mg_of X G a10) (by decide)
  have c_value_of_one := ok_value_of_one (P := P) (w := w) (base := base) D_value_of_one c_is_integer c_negated y_isinstance y_str v_OF_INTEGERS_of_one w_OF_INTEGERS_of_one v_OF_TEXTS_of_one w_OF_TEXTS_of_one e_OF_INTEGERS_of_one_0 hNg e_OF_INTEGERS_of_one_1 e_OF_TEXTS_of_one_0 hLn
  have c__both := ok__both (P := P) (w := w) (base := base) D__both c_both 
  have c__either := ok__either (P := P) (w := w) (base := base) D__either c_either 
  have c__same := ok__same (P := P) (w := w) (base := base) D__same c_same 
  have c__first_known := ok__first_known (P := P) (w := w) (base := base) D__first_known 
  have c__equal := ok__equal (P := P) (w := w) (base := base) D__equal c_same 
  have c__less := ok__less (P := P) (w := w) (base := base) D__less c_before 
  have c__at_most := ok__at_most (P := P) (w := w) (base := base) D__at_most c_before 
  have c__least := ok__least (P := P) (w := w) (base := base) D__least c_before 
  have c__add := ok__add (P := P) (w := w) (base := base) D__add c_limited 
  have c__join := ok__join (P := P) (w := w) (base := base) D__join y_len v_MOST 
  have c__are_alike := ok__are_alike (P := P) (w := w) (base := base) D__are_alike c_kind_rank 
  have tab : ∀ nm x y, nm ∈ binNames → Ok x → Ok y → Opr2 P w K mg base p__OF_ANY p__OF_ALIKE p_OF_INTEGERS_of_two p_OF_TEXTS_of_two nm x y (binV nm x y) := by
    intro nm x y h hx hy
    simp only [binNames, List.mem_cons, List.not_mem_nil, or_false] at h
    rcases h with rfl | rfl | rfl | rfl | rfl | rfl | rfl | rfl | rfl | rfl
    · exact .any e__OF_ANY_0 (held_of c__both (PySem.W.mg_of X G a12) (by decide)) trivial
    · exact .any e__OF_ANY_1 (held_of c__either (PySem.W.mg_of X G a13) (by decide)) trivial
    · exact .alike e__OF_ANY_4 e__OF_ALIKE_0 (held_of c__equal (PySem.W.mg_of X G a16) (by decide))
    · exact .alike e__OF_ANY_5 e__OF_ALIKE_1 (held_of c__less (PySem.W.mg_of X G a17) (by decide))
    · exact .alike e__OF_ANY_6 e__OF_ALIKE_2 (held_of c__at_most (PySem.W.mg_of X G a18) (by decide))
    · exact .any e__OF_ANY_2 (held_of c__same (PySem.W.mg_of X G a14) (by decide)) ⟨hx, hy⟩
    · exact .any e__OF_ANY_3 (held_of c__first_known (PySem.W.mg_of X G a15) (by decide)) trivial
    · exact .nums e__OF_ANY_7 e__OF_ALIKE_4 e_OF_INTEGERS_of_two_0 (held_of c__add (PySem.W.mg_of X G a20) (by decide))
    · exact .wrds e__OF_ANY_8 e__OF_ALIKE_5 e_OF_INTEGERS_of_two_1 e_OF_TEXTS_of_two_0 (held_of c__join (PySem.W.mg_of X G a21) (by decide))
    · exact .alike e__OF_ANY_9 e__OF_ALIKE_3 (held_of c__least (PySem.W.mg_of X G a19) (by decide))
  have c_value_of_two := ok_value_of_two (P := P) (w := w) (base := base) D_value_of_two c__are_alike c_is_integer y_isinstance y_str v_OF_INTEGERS_of_two w_OF_INTEGERS_of_two v_OF_TEXTS_of_two w_OF_TEXTS_of_two v__OF_ALIKE w__OF_ALIKE v__OF_ANY w__OF_ANY tab
  have c_unary := ok_unary (P := P) (w := w) (base := base) D_unary c_value_of_one 
  have c_binary := ok_binary (P := P) (w := w) (base := base) D_binary c_value_of_two 
  have c_evaluate_0 : C8.Cal P w K mg base 7 "evaluate" (spR_evaluate 0 K) [] := cal_no D_evaluate sc_evaluate (fun _ _ _ _ h => h.elim)
  have c_evaluate_1 := ok_evaluate (P := P) (w := w) (base := base) (rn := 0) D_evaluate c_binary c_unary y_len  c_evaluate_0
  have c_evaluate_2 := ok_evaluate (P := P) (w := w) (base := base) (rn := 1) D_evaluate c_binary c_unary y_len  c_evaluate_1
  have c_evaluate_3 := ok_evaluate (P := P) (w := w) (base := base) (rn := 2) D_evaluate c_binary c_unary y_len  c_evaluate_2
  have c_evaluate_4 := ok_evaluate (P := P) (w := w) (base := base) (rn := 3) D_evaluate c_binary c_unary y_len  c_evaluate_3
  have c_evaluate_5 := ok_evaluate (P := P) (w := w) (base := base) (rn := 4) D_evaluate c_binary c_unary y_len  c_evaluate_4
  have c_evaluate_6 := ok_evaluate (P := P) (w := w) (base := base) (rn := 5) D_evaluate c_binary c_unary y_len  c_evaluate_5
  have c_evaluate_7 := ok_evaluate (P := P) (w := w) (base := base) (rn := 6) D_evaluate c_binary c_unary y_len  c_evaluate_6
  have c_evaluate_8 := ok_evaluate (P := P) (w := w) (base := base) (rn := 7) D_evaluate c_binary c_unary y_len  c_evaluate_7
  have c_evaluate : C8.Cal P w K mg base 15 "evaluate" (sp_evaluate K) [] := c_evaluate_8
  have c__pairs_of := ok__pairs_of (P := P) (w := w) (base := base) D__pairs_of y_list 
  have c__has_pair := ok__has_pair (P := P) (w := w) (base := base) D__has_pair 
  have c__is_never := ok__is_never (P := P) (w := w) (base := base) D__is_never 
  have c__rows_of_left := ok__rows_of_left (P := P) (w := w) (base := base) D__rows_of_left c__has_pair c__is_never c__pairs_of y_list 
  have c_join_by := ok_join_by (P := P) (w := w) (base := base) D_join_by c__rows_of_left 
  have c_join_rows := ok_join_rows (P := P) (w := w) (base := base) D_join_rows B_join_rows c_join_by c_evaluate y_list
  have c__law_numbers := ok__law_numbers (P := P) (w := w) (base := base) D__law_numbers y_int y_len y_range 
  have c__law_rank := ok__law_rank (P := P) (w := w) (base := base) D__law_rank y_isinstance y_str 
  have c__law_cells := ok__law_cells (P := P) (w := w) (base := base) D__law_cells y_int y_range 
  have c__law_rowlist := ok__law_rowlist (P := P) (w := w) (base := base) D__law_rowlist c__law_cells y_int y_len y_list y_range 
  have c__law_ranks := ok__law_ranks (P := P) (w := w) (base := base) D__law_ranks c__law_rank y_tuple 
  have c__law_same_list := ok__law_same_list (P := P) (w := w) (base := base) D__law_same_list c__law_ranks y_isinstance y_len y_list y_range 
  have c__law_simple := ok__law_simple (P := P) (w := w) (base := base) D__law_simple y_int 
  have c__law_condition := ok__law_condition (P := P) (w := w) (base := base) D__law_condition c__law_simple y_int 
  have c__law_due := ok__law_due (P := P) (w := w) (base := base) D__law_due c_evaluate y_len y_range 
  exact ok_law (P := P) (w := w) (base := base)  c__law_condition c__law_due c__law_numbers c__law_rowlist c__law_same_list c_join_rows y_int y_repr (jt_mk E_join_rows H_join_rows) h63 hS hr
end My
open PySem PySem.W PyProof.Rows
set_option maxHeartbeats 0 in
theorem PySem.Challenge.cw_stylobate_k36_joins_of_rows_holds : PySem.Challenge.rw_stylobate_k36_joins_of_rows.Holds := by
  w_on; o_law; k_head; (case hw => w_witness2)
  k_fill
  refine My.walk_tab (l := PySem.Challenge.rw_stylobate_k36_joins_of_rows) (n := 63) (k := 34) rfl (by decide) rfl ⟨rfl, by decide, by decide⟩ (fun w h Y => PySem.W.km_in_of Y) My.sc_law ?F
  case F =>
    intro w mg fa h Y KX G hmg
    km_tabs Y
    km_lay G hmg KX G G
    refine ⟨_, hT9, ?nt, ?mk⟩
    (case nt => exact List.forall_mem_cons.mpr ⟨by kernel_rfl, (fun _ h => nomatch h)⟩)
    refine' My.all_mk KX G hmg ?a0 ?l0 ?b0 ?k0 ?a1 ?l1 ?b1 ?k1 ?a2 ?l2 ?b2 ?k2 ?a3 ?l3 ?b3 ?k3 ?a4 ?l4 ?b4 ?k4 ?a5 ?l5 ?b5 ?k5 ?a6 ?l6 ?b6 ?k6 ?a7 ?l7 ?b7 ?k7 ?a8 ?l8 ?b8 ?k8 ?a9 ?l9 ?b9 ?k9 ?a10 ?l10 ?b10 ?k10 ?a11 ?l11 ?b11 ?k11 ?a12 ?l12 ?b12 ?k12 ?a13 ?l13 ?b13 ?k13 ?a14 ?l14 ?b14 ?k14 ?a15 ?l15 ?b15 ?k15 ?a16 ?l16 ?b16 ?k16 ?a17 ?l17 ?b17 ?k17 ?a18 ?l18 ?b18 ?k18 ?a19 ?l19 ?b19 ?k19 ?a20 ?l20 ?b20 ?k20 ?a21 ?l21 ?b21 ?k21 ?a22 ?l22 ?b22 ?k22 ?a23 ?l23 ?b23 ?k23 ?a24 ?l24 ?b24 ?k24 ?a25 ?l25 ?b25 ?k25 ?a26 ?l26 ?b26 ?k26 ?a27 ?l27 ?b27 ?k27 ?a28 ?l28 ?b28 ?k28 ?a29 ?l29 ?b29 ?k29 ?a30 ?l30 ?b30 ?k30 ?a31 ?l31 ?b31 ?k31 ?a32 ?l32 ?b32 ?k32 ?lc32 ?vt32 ?a33 ?l33 ?b33 ?k33 ?a34 ?l34 ?b34 ?k34 ?a35 ?l35 ?b35 ?k35 ?a36 ?l36 ?b36 ?k36 ?a37 ?l37 ?b37 ?k37 ?a38 ?l38 ?b38 ?k38 ?a39 ?l39 ?b39 ?k39 ?a40 ?l40 ?b40 ?k40 ?a41 ?l41 ?b41 ?k41 ?a42 ?l42 ?b42 ?k42 ?z_bool ?z_int ?z_isinstance ?z_len ?z_list ?z_range ?z_repr ?z_str ?z_tuple ?q_GREATEST ?q_MOST ?q_OF_INTEGERS_of_one ?ka_OF_INTEGERS_of_one ?kl_OF_INTEGERS_of_one ?ko_OF_INTEGERS_of_one ?e_OF_INTEGERS_of_one_0 ?e_OF_INTEGERS_of_one_1 ?q_OF_INTEGERS_of_two ?ka_OF_INTEGERS_of_two ?kl_OF_INTEGERS_of_two ?ko_OF_INTEGERS_of_two ?e_OF_INTEGERS_of_two_0 ?e_OF_INTEGERS_of_two_1 ?q_OF_TEXTS_of_one ?ka_OF_TEXTS_of_one ?kl_OF_TEXTS_of_one ?ko_OF_TEXTS_of_one ?e_OF_TEXTS_of_one_0 ?q_OF_TEXTS_of_two ?ka_OF_TEXTS_of_two ?kl_OF_TEXTS_of_two ?ko_OF_TEXTS_of_two ?e_OF_TEXTS_of_two_0 ?q__OF_ALIKE ?ka__OF_ALIKE ?kl__OF_ALIKE ?ko__OF_ALIKE ?e__OF_ALIKE_0 ?e__OF_ALIKE_1 ?e__OF_ALIKE_2 ?e__OF_ALIKE_3 ?e__OF_ALIKE_4 ?e__OF_ALIKE_5 ?q__OF_ANY ?ka__OF_ANY ?kl__OF_ANY ?ko__OF_ANY ?e__OF_ANY_0 ?e__OF_ANY_1 ?e__OF_ANY_2 ?e__OF_ANY_3 ?e__OF_ANY_4 ?e__OF_ANY_5 ?e__OF_ANY_6 ?e__OF_ANY_7 ?e__OF_ANY_8 ?e__OF_ANY_9
    (case a0 => k_is); (case l0 => k_is); (case b0 => k_is); (case k0 => k_is); (case a1 => k_is); (case l1 => k_is); (case b1 => k_is); (case k1 => k_is); (case a2 => k_is); (case l2 => k_is); (case b2 => k_is); (case k2 => k_is); (case a3 => k_is); (case l3 => k_is); (case b3 => k_is); (case k3 => k_is); (case a4 => k_is); (case l4 => k_is); (case b4 => k_is); (case k4 => k_is); (case a5 => k_is); (case l5 => k_is); (case b5 => k_is); (case k5 => k_is); (case a6 => k_is); (case l6 => k_is); (case b6 => k_is); (case k6 => k_is); (case a7 => k_is); (case l7 => k_is); (case b7 => k_is); (case k7 => k_is); (case a8 => k_is); (case l8 => k_is); (case b8 => k_is); (case k8 => k_is); (case a9 => k_is); (case l9 => k_is); (case b9 => k_is); (case k9 => k_is); (case a10 => k_is); (case l10 => k_is); (case b10 => k_is); (case k10 => k_is); (case a11 => k_is); (case l11 => k_is); (case b11 => k_is); (case k11 => k_is); (case a12 => k_is); (case l12 => k_is); (case b12 => k_is); (case k12 => k_is); (case a13 => k_is); (case l13 => k_is); (case b13 => k_is); (case k13 => k_is); (case a14 => k_is); (case l14 => k_is); (case b14 => k_is); (case k14 => k_is); (case a15 => k_is); (case l15 => k_is); (case b15 => k_is); (case k15 => k_is); (case a16 => k_is); (case l16 => k_is); (case b16 => k_is); (case k16 => k_is); (case a17 => k_is); (case l17 => k_is); (case b17 => k_is); (case k17 => k_is); (case a18 => k_is); (case l18 => k_is); (case b18 => k_is); (case k18 => k_is); (case a19 => k_is); (case l19 => k_is); (case b19 => k_is); (case k19 => k_is); (case a20 => k_is); (case l20 => k_is); (case b20 => k_is); (case k20 => k_is); (case a21 => k_is); (case l21 => k_is); (case b21 => k_is); (case k21 => k_is); (case a22 => k_is); (case l22 => k_is); (case b22 => k_is); (case k22 => k_is); (case a23 => k_is); (case l23 => k_is); (case b23 => k_is); (case k23 => k_is); (case a24 => k_is); (case l24 => k_is); (case b24 => k_is); (case k24 => k_is); (case a25 => k_is); (case l25 => k_is); (case b25 => k_is); (case k25 => k_is); (case a26 => k_is); (case l26 => k_is); (case b26 => k_is); (case k26 => k_is); (case a27 => k_is); (case l27 => k_is); (case b27 => k_is); (case k27 => k_is); (case a28 => k_is); (case l28 => k_is); (case b28 => k_is); (case k28 => k_is); (case a29 => k_is); (case l29 => k_is); (case b29 => k_is); (case k29 => k_is); (case a30 => k_is); (case l30 => k_is); (case b30 => k_is); (case k30 => k_is); (case a31 => k_is); (case l31 => k_is); (case b31 => k_is); (case k31 => k_is); (case a32 => k_is); (case l32 => k_is); (case b32 => k_is); (case k32 => k_is); (case lc32 => k_is); (case vt32 => rfl); (case a33 => k_is); (case l33 => k_is); (case b33 => k_is); (case k33 => k_is); (case a34 => k_is); (case l34 => k_is); (case b34 => k_is); (case k34 => k_is); (case a35 => k_is); (case l35 => k_is); (case b35 => k_is); (case k35 => k_is); (case a36 => k_is); (case l36 => k_is); (case b36 => k_is); (case k36 => k_is); (case a37 => k_is); (case l37 => k_is); (case b37 => k_is); (case k37 => k_is); (case a38 => k_is); (case l38 => k_is); (case b38 => k_is); (case k38 => k_is); (case a39 => k_is); (case l39 => k_is); (case b39 => k_is); (case k39 => k_is); (case a40 => k_is); (case l40 => k_is); (case b40 => k_is); (case k40 => k_is); (case a41 => k_is); (case l41 => k_is); (case b41 => k_is); (case k41 => k_is); (case a42 => k_is); (case l42 => k_is); (case b42 => k_is); (case k42 => k_is); (case z_bool => k_is); (case z_int => k_is); (case z_isinstance => k_is); (case z_len => k_is); (case z_list => k_is); (case z_range => k_is); (case z_repr => k_is); (case z_str => k_is); (case z_tuple => k_is); (case q_GREATEST => k_is); (case q_MOST => k_is); (case q_OF_INTEGERS_of_one => k_is); (case ka_OF_INTEGERS_of_one => k_is); (case e_OF_INTEGERS_of_one_0 => k_is); (case e_OF_INTEGERS_of_one_1 => k_is); (case q_OF_INTEGERS_of_two => k_is); (case ka_OF_INTEGERS_of_two => k_is); (case e_OF_INTEGERS_of_two_0 => k_is); (case e_OF_INTEGERS_of_two_1 => k_is); (case q_OF_TEXTS_of_one => k_is); (case ka_OF_TEXTS_of_one => k_is); (case e_OF_TEXTS_of_one_0 => k_is); (case q_OF_TEXTS_of_two => k_is); (case ka_OF_TEXTS_of_two => k_is); (case e_OF_TEXTS_of_two_0 => k_is); (case q__OF_ALIKE => k_is); (case ka__OF_ALIKE => k_is); (case e__OF_ALIKE_0 => k_is); (case e__OF_ALIKE_1 => k_is); (case e__OF_ALIKE_2 => k_is); (case e__OF_ALIKE_3 => k_is); (case e__OF_ALIKE_4 => k_is); (case e__OF_ALIKE_5 => k_is); (case q__OF_ANY => k_is); (case ka__OF_ANY => k_is); (case e__OF_ANY_0 => k_is); (case e__OF_ANY_1 => k_is); (case e__OF_ANY_2 => k_is); (case e__OF_ANY_3 => k_is); (case e__OF_ANY_4 => k_is); (case e__OF_ANY_5 => k_is); (case e__OF_ANY_6 => k_is); (case e__OF_ANY_7 => k_is); (case e__OF_ANY_8 => k_is); (case e__OF_ANY_9 => k_is)
    (case kl_OF_INTEGERS_of_one => k_keys)
    (case ko_OF_INTEGERS_of_one => decide)
    (case kl_OF_INTEGERS_of_two => k_keys)
    (case ko_OF_INTEGERS_of_two => decide)
    (case kl_OF_TEXTS_of_one => k_keys)
    (case ko_OF_TEXTS_of_one => decide)
    (case kl_OF_TEXTS_of_two => k_keys)
    (case ko_OF_TEXTS_of_two => decide)
    (case kl__OF_ALIKE => k_keys)
    (case ko__OF_ALIKE => decide)
    (case kl__OF_ANY => k_keys)
    (case ko__OF_ANY => decide)

