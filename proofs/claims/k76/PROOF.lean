import PyProof.Rows.All
import Wide.All
import OpenK.AllK
import Wide.FinOn
import HandS.ForMost
import HandS.Codes
import HandS.Evl
import HandS.IsInst
import HandS.Wide
import HandS.Defaults
import HandS.Walk
import HandS.Flow
import HandS.TupAny
import HandS.Property
import HandS.OwnEq
import HandS.Deep
import HandS.WideBits
import HandS.Iter
import HandS.Rev
import HandS.SortKw
import HandS.Keys
import HandS.TupLe
import HandS.Dict
import HandS.DictComp
import HandS.Text
import HandS.StrMore
import HandS.FStr
import HandS.Style
import HandS.More
import HandS.CallLocal
import HandS.Conv
import KE.KEqSeq
import KE.KeyNested
import KE.KDictKeyed
import KE.DataEq
import PyProof.StrOps2
import PyProof.StrLawsFrom
import KE.RegKIsAll
import KE.SortKeyHeap
import KE.DataFind
import PySem.Challenge.RW_stylobate_k76_changes_of_bags
set_option Elab.async false
set_option linter.all false
set_option maxRecDepth 100000
set_option maxHeartbeats 4000000
namespace My
open PySem PySem.Spec PyProof.Rows L2 Evl
/-! ### defs of the text, promises, the end -/
def Dn (K : PySem.W.Frag) (mg : Str → Option Value) (x : Str) (st : Stmt) (ps : List Str) : Prop := ∃ f fd, C8.Def K mg x st f fd ∧ Binds K fd ps []
section
variable {P : Program} {w : World} {K : PySem.W.Frag} {mg : Str → Option Value} {base : Heap}
theorem cal_of {x : Str} {st : Stmt} {N ps : List Str} {k : Nat} {sp : Sp} (D : Dn K mg x st ps) (S : FnScope N ps (C8.fnScope st)) (len : ∀ vs H Q E, sp vs H Q E → vs.length = ps.length)
    (hbody : ∀ (f : Addr) (cdv : Value) (A : Around) (outer : List Env) (s : Shared) (H : Hp) (vs : List V) (Q : VK) (E : XK), Room k (A.deeper (envOfC x (C8.fnScope st) s.heap.objs.size f cdv)) → sp vs H Q E →
      ∃ t, PSs (cxOf C8.CX0 P w K mg base N x (C8.fnScope st) f cdv A outer s H E).nox (C8.fnBody st) t ∧ t { nx := fun _ H' => Q .non H', rt := Q } (start N vs) H) : C8.Cal P w K mg base (k + 1) x sp [] := by
  obtain ⟨f, fd, F, b⟩ := D
  exact C8.cal0 F b .nil S len (hbody f)
theorem def_mk {x : Str} {st : Stmt} {f : Addr} {oc : Value} {od an : Option Addr} {osl : Array (Option Value)} {kV doc pm cdv ct : Value}
    (l : K.lookup f = some ⟨oc, od, .func (PySem.W.fnOf x x (C8.fnArgs st) (C8.fnBody st) (C8.fnScope st) .none kV doc pm an cdv ct), osl⟩)
    (c : PySem.W.codeIn K cdv x = true) (k : PySem.W.keepIn K (.ref f) = true) (m : mg x = some (.ref f)) : C8.Def K mg x st f (PySem.W.fnOf x x (C8.fnArgs st) (C8.fnBody st) (C8.fnScope st) .none kV doc pm an cdv ct) :=
  ⟨⟨oc, od, .none, kV, doc, pm, an, cdv, ct, osl, rfl, l, c⟩, m, k⟩
theorem dn_mk {x : Str} {st : Stmt} {f : Addr} {oc : Value} {od an : Option Addr} {osl : Array (Option Value)} {kV doc pm cdv ct : Value} {ps : List Str}
    (l : K.lookup f = some ⟨oc, od, .func (PySem.W.fnOf x x (C8.fnArgs st) (C8.fnBody st) (C8.fnScope st) .none kV doc pm an cdv ct), osl⟩)
    (c : PySem.W.codeIn K cdv x = true) (k : PySem.W.keepIn K (.ref f) = true) (m : mg x = some (.ref f))
    (h : ∀ (kV doc pm : Value) (an : Option Addr) (cdv ct : Value) (us : List Value), us.length = ps.length → bindArgs (PySem.W.fnOf x x (C8.fnArgs st) (C8.fnBody st) (C8.fnScope st) .none kV doc pm an cdv ct) ⟨us, []⟩ = pure (ps.zip us)) : Dn K mg x st ps :=
  ⟨f, _, def_mk l c k m, C8.Fun.binds (def_mk l c k m).fn rfl h⟩
end
/-! ### x is True, x is False, of any value -/
def rIsT : R2 := fun x y H Q => ∃ b : Bool, y = .bl b ∧ Q (.bl (decide (x = .bl b))) H
def rNotT : R2 := fun x y H Q => ∃ b : Bool, y = .bl b ∧ Q (.bl (!decide (x = .bl b))) H
section
variable {X : Cx}
theorem rel_bl {x : V} {v : Value} {b : Bool} (rx : RelV x v) : PySem.plainIs v (.bool b) = true ∧ (v == .bool b) = decide (x = .bl b) ∨ ∃ n, v = .builtin n := by
  cases x with
  | non => cases (show v = Value.none from rx); exact .inl ⟨rfl, rfl⟩
  | bl c => cases (show v = Value.bool c from rx); exact .inl ⟨rfl, by cases b <;> cases c <;> rfl⟩
  | int i => obtain ⟨t, e⟩ := (show ∃ t, v = Value.int i t from rx); cases e; exact .inl ⟨rfl, rfl⟩
  | str i => obtain ⟨t, e⟩ := (show ∃ t, v = Value.str i t from rx); cases e; exact .inl ⟨rfl, rfl⟩
  | byt i => obtain ⟨t, e⟩ := (show ∃ t, v = Value.bytes i t from rx); cases e; exact .inl ⟨rfl, rfl⟩
  | flt i => obtain ⟨t, e⟩ := (show ∃ t, v = Value.float i t from rx); cases e; exact .inl ⟨rfl, rfl⟩
  | ref a => cases (show v = Value.ref a from rx); exact .inl ⟨rfl, rfl⟩
  | ty n => cases (show v = Value.type n from rx); exact .inl ⟨rfl, rfl⟩
theorem rel_bl' {x : V} {v : Value} {b : Bool} (rx : RelV x v) : PySem.plainIs v (.bool b) = true ∧ (v == .bool b) = decide (x = .bl b) := by
  rcases rel_bl (b := b) rx with h | ⟨n, rfl⟩
  · exact h
  · cases x <;> first | exact nomatch (rx : Value.builtin n = _) | (obtain ⟨t, e⟩ := rx; exact nomatch e)
theorem op_isTF : OpR X (compareOp .Is) rIsT := by
  intro pins s σ H x y v u Q I rx ry h
  obtain ⟨b, rfl, q⟩ := h
  cases (show u = Value.bool b from ry)
  obtain ⟨h1, h2⟩ := rel_bl' (b := b) rx
  exact wpAny_is_plain h1 ⟨.bl _, H, I, rfl, by rw [h2]; exact q⟩
theorem op_notTF : OpR X (compareOp .IsNot) rNotT := by
  intro pins s σ H x y v u Q I rx ry h
  obtain ⟨b, rfl, q⟩ := h
  cases (show u = Value.bool b from ry)
  obtain ⟨h1, h2⟩ := rel_bl' (b := b) rx
  exact wpAny_isNot_plain h1 ⟨.bl _, H, I, rfl, by rw [h2]; exact q⟩
end
/-! ### what evaluates to what: further -/
section
variable {K : PySem.W.Frag} {σ : L2.St} {H H' : Hp} {ta tb te tx : TE} {t u : TT} {x y z v : V} {r : R2}
theorem rv_isT {b : Bool} : RV rIsT x (.bl b) H (.bl (decide (x = .bl b))) := fun H1 _ _ q => ⟨b, rfl, q H1 (Ex.refl H1)⟩
theorem rv_notT {b : Bool} : RV rNotT x (.bl b) H (.bl (!decide (x = .bl b))) := fun H1 _ _ q => ⟨b, rfl, q H1 (Ex.refl H1)⟩
theorem rv_isN : RV (fun x y H Q => y = .non ∧ Q (.bl (decide (x = .non))) H) x .non H (.bl (decide (x = .non))) := fun H1 _ _ q => ⟨rfl, q H1 (Ex.refl H1)⟩
theorem rv_notN : RV (fun x y H Q => y = .non ∧ Q (.bl (!decide (x = .non))) H) x .non H (.bl (!decide (x = .non))) := fun H1 _ _ q => ⟨rfl, q H1 (Ex.refl H1)⟩
theorem ev_int {i : Int} (h : Ev ta σ H (.int i)) : Ev (tCB (fun xs H Q => (∃ i, xs = [.int i] ∧ Q (.int i) H) ∨ ∃ k, xs = [.bl k] ∧ Q (.int (if k then 1 else 0)) H) (tCons ta tNil)) σ H (.int i) :=
  fun H1 e Q q => h H1 e _ fun H2 e2 => .inl ⟨i, rfl, q H2 e2⟩
theorem ev_intB {b : Bool} (h : Ev ta σ H (.bl b)) : Ev (tCB (fun xs H Q => (∃ i, xs = [.int i] ∧ Q (.int i) H) ∨ ∃ k, xs = [.bl k] ∧ Q (.int (if k then 1 else 0)) H) (tCons ta tNil)) σ H (.int (if b then 1 else 0)) :=
  fun H1 e Q q => h H1 e _ fun H2 e2 => .inr ⟨b, rfl, q H2 e2⟩
theorem ev_abs {i : Int} (h : Ev ta σ H (.int i)) : Ev (tCB (fun xs H Q => ∃ i, xs = [.int i] ∧ Q (.int (if i < 0 then -i else i)) H) (tCons ta tNil)) σ H (.int (if i < 0 then -i else i)) :=
  fun H1 e Q q => h H1 e _ fun H2 e2 => ⟨i, rfl, q H2 e2⟩
theorem ev_min2 {i j : Int} (ha : Ev ta σ H (.int i)) (hb : Ev tb σ H (.int j)) : Ev (tCB (fun xs H Q => ∃ i j, xs = [.int i, .int j] ∧ Q (.int (if j < i then j else i)) H) (tCons ta (tCons tb tNil))) σ H (.int (if j < i then j else i)) := fun H1 e Q q =>
  ha H1 e _ fun H2 e2 => hb H2 (e.trans e2) _ fun H3 e3 => ⟨i, j, rfl, q H3 (e2.trans e3)⟩
theorem ev_lenS {s : Str} (h : Ev ta σ H (.str s)) (hz : s.length ≤ 100000) : Ev (tCB (fun xs H Q => ∃ z, xs = [.str z] ∧ z.length ≤ sizeLine ∧ Q (.int z.length) H) (tCons ta tNil)) σ H (.int s.length) :=
  fun H1 e Q q => h H1 e _ fun H2 e2 => ⟨s, rfl, sz_of hz, q H2 e2⟩
/-- isinstance(x, T) of a plain value -/
def tyOf : V → String
  | .non => "NoneType"
  | .bl _ => "bool"
  | .int _ => "int"
  | .str _ => "str"
  | .byt _ => "bytes"
  | .flt _ => "float"
  | _ => "?"
def isTy (x : V) (T : String) : Bool := ((kitB (tyOf x) T).getD false)
theorem ev_isi {T : String} {tn : String} {b : Bool} (ha : Ev ta σ H x) (ht : ∀ H1, TyX K H1 x (.type tn)) (hk : kitB tn T = some b) : Ev (tCB (rIsi K) (tCons ta (tCons (tC (.ty T)) tNil))) σ H (.bl b) :=
  fun H1 e Q q => ha H1 e _ fun H2 e2 => ⟨x, .ty T, .type tn, .type T, b, rfl, .ty T, ht H2, kit_ty hk, q H2 e2⟩
theorem tx_int (i : Int) (H1 : Hp) : TyX K H1 (.int i) (.type "int") := .base (.int i)
theorem tx_bl (i : Bool) (H1 : Hp) : TyX K H1 (.bl i) (.type "bool") := .base (.bl i)
theorem tx_str (i : Str) (H1 : Hp) : TyX K H1 (.str i) (.type "str") := .base (.str i)
theorem tx_non (H1 : Hp) : TyX K H1 .non (.type "NoneType") := .base .non
section
variable {D : Ends} {tz : TS}
/-- if c: x = e, an int: told by the value x has behind it -/
theorem q_ifI {b : Bool} {i : Nat} {p q : Int} (h : EvT t σ H b) (h1 : b = true → Ev te σ H (.int p)) (h0 : σ[i]? = some (some (.int q))) (k : ∀ H1, Ex H H1 → tz D (σ.set i (some (.int (if b = true then p else q)))) H1) : tSeq (tIfS t (tAsg te (gName i)) tNext) tz D σ H := by
  refine q_ifAsg h (fun hb => ?_) (fun hb => ?_) k
  · rw [if_pos hb]
    exact h1 hb
  · rw [hb]
    show σ.set i (some (V.int q)) = σ
    apply List.ext_getElem?
    intro j
    rw [List.getElem?_set]
    split
    · rename_i e
      subst e
      rw [h0]
      have := (List.getElem?_eq_some_iff.mp h0).1
      rw [if_pos this]
    · rfl
end
/-- a promise of one value, all else as it was -/
theorem spv {sp : Sp} {vs : List V} (h : ∀ H1, Ex H H1 → ∀ Q : VK, (∀ H2, Ex H1 H2 → Q z H2) → ∀ E : XK, sp vs H1 Q E) : SpV sp vs H z := h
end
local macro_rules | `(tactic| walk_at "side") => `(tactic| first
  | exact .inr ⟨by decide, by decide⟩
  | exact .inl ⟨by decide, by decide⟩
  | exact .inl ⟨by omega, by omega⟩
  | exact .inr ⟨by omega, by omega⟩
  | exact ⟨by decide, by decide⟩
  | exact ⟨by omega, by omega⟩
  | decide
  | (show (_ : Int) < _; omega)
  | omega)
local macro_rules | `(tactic| walk_at "rv") => `(tactic| first
  | exact rv_I0
  | ((refine' rv_I ?k1); (case k1 => walk_at "side"))
  | exact rv_isT
  | exact rv_notT
  | exact rv_isN
  | exact rv_notN
  | exact rv_eq rfl
  | exact rv_ne rfl)
local macro_rules | `(tactic| walk_at "sq") => `(tactic| first | assumption | exact ex_l (by assumption) (by assumption) | exact sq_of (by assumption))
/-- what a part gives, read off its form -/
local macro_rules | `(tactic| walk_at "ev") => `(tactic| first
  | exact ev_var rfl
  | exact ev_c
  | ((with_reducible refine' ev_op ?k1 ?k2 ?k3); (case k1 => walk_at "ev"); (case k2 => walk_at "ev"); (case k3 => walk_at "rv"))
  | ((with_reducible refine' ev_un ?k1 ?k2); (case k1 => walk_at "ev"); (case k2 => exact ru_neg))
  | ((with_reducible refine' ev_int ?k1); (case k1 => walk_at "ev"))
  | ((with_reducible refine' ev_abs ?k1); (case k1 => walk_at "ev"))
  | ((with_reducible refine' ev_andV ?k1 ?k2); (case k1 => walk_at "ev"); (case k2 => intro _; walk_at "ev"))
  | ((with_reducible refine' ev_orV ?k1 ?k2); (case k1 => walk_at "ev"); (case k2 => intro _; walk_at "ev"))
  | ((with_reducible refine' ev_notV ?k1); (case k1 => walk_at "ev"))
  | ((refine' ev_len ?k1 ?k2); (case k1 => walk_at "ev"); (case k2 => walk_at "sq")))
local macro_rules | `(tactic| walk_at "et") => `(tactic| first
  | ((with_reducible refine' et_or ?k1 ?k2); (case k1 => walk_at "et"); (case k2 => intro _; walk_at "et"))
  | ((with_reducible refine' et_and ?k1 ?k2); (case k1 => walk_at "et"); (case k2 => intro _; walk_at "et"))
  | ((with_reducible refine' et_not ?k1); (case k1 => walk_at "et"))
  | (refine' et_test ?k1; (case k1 => walk_at "ev"))
  | (refine' et_B ?k1; (case k1 => walk_at "ev")))

/-! ### tuples made, tuples read, data compared -/
def SpU (sp : Sp) (vs : List V) (H : Hp) (xs : List V) : Prop := ∀ H1, Ex H H1 → ∀ Q : VK, (∀ p H2, H1 p = none → Ex H1 H2 → H2 p = some (.tup xs) → Q (.ref p) H2) → ∀ E : XK, sp vs H1 Q E
section
variable {K : PySem.W.Frag} {σ : L2.St} {H H' : Hp} {ta tb te : TE} {x y z v : V}
theorem eu_call {sp : Sp} {dvs vs xs : List V} {E : XK} {ta : TA} (h : EvA ta σ H vs) (hs : SpU sp (vs ++ dvs) H xs) : EvU (tCall sp dvs E ta) σ H xs := fun H1 e Q q =>
  h H1 e _ fun H2 e2 => hs H2 (e.trans e2) Q (fun p H3 hp e3 h3 => q p H3 (fresh_back e2 hp) (e2.trans e3) h3) E
theorem ev_lenT {p : Addr} {xs : List V} (ha : Ev ta σ H (.ref p)) (h : SqT K H p xs) : Ev (tCB (fun xs H Q => ∃ p ys, xs = [.ref p] ∧ (SqL K H p ys ∨ SqT K H p ys) ∧ Q (.int ys.length) H) (tCons ta tNil)) σ H (.int (xs.length : Int)) := fun H1 e Q q =>
  ha H1 e _ fun H2 e2 => ⟨p, xs, rfl, Or.inr (ex_t (e.trans e2) h), q H2 e2⟩
theorem eu_divmod {i j : Int} (ha : Ev ta σ H (.int i)) (hb : Ev tb σ H (.int j)) (hc : CDiv i j) :
    EvU (tCB (fun xs H Q => ∃ i j, xs = [.int i, .int j] ∧ CDiv i j ∧ ∀ p, H p = none → Q (.ref p) (upd H p (.tup [.int (i / j), .int (i % j)]))) (tCons ta (tCons tb tNil))) σ H [.int (i / j), .int (i % j)] := fun H1 e Q q =>
  ha H1 e _ fun H2 e2 => hb H2 (e.trans e2) _ fun H3 e3 => ⟨i, j, rfl, hc, fun p hp => q p _ (fresh_back (e2.trans e3) hp) ((e2.trans e3).trans (Ex.new hp)) upd_same⟩
theorem dp_ints : ∀ ns : List Int, DpAll K H (ns.map V.int) (ns.map PyData.int)
  | [] => .nil
  | n :: r => .cons (.int n) (dp_ints r)
theorem eqv_ints : ∀ ns ms : List Int, PyData.eqv (.tuple (ns.map PyData.int)) (.tuple (ms.map PyData.int)) = decide (ns = ms)
  | [], [] => rfl
  | [], _ :: _ => rfl
  | _ :: _, [] => rfl
  | n :: r, m :: t => by
    have ih := eqv_ints r t
    show ((n == m) && PyData.eqv (.tuple (r.map PyData.int)) (.tuple (t.map PyData.int))) = _
    rw [ih, Bool.eq_iff_iff, Bool.and_eq_true, decide_eq_true_eq, decide_eq_true_eq, beq_iff_eq, List.cons.injEq]
theorem dp_tup {p : Addr} {ns : List Int} (h : SqT K H p (ns.map V.int)) : Dp K H (.ref p) (.tuple (ns.map PyData.int)) := .tup h (dp_ints ns)
def shI (n : Nat) : Bool := SeqAt.shaped (.tuple ((List.replicate n 0).map PyData.int))
theorem rv_neT {p q : Addr} {ns ms : List Int} (hp : SqT K H p (ns.map V.int)) (hq : SqT K H q (ms.map V.int)) (s1 : SeqAt.shaped (.tuple (ns.map PyData.int)) = true) (s2 : SeqAt.shaped (.tuple (ms.map PyData.int)) = true) : RV (rNeD K) (.ref p) (.ref q) H (.bl (!decide (ns = ms))) := fun H1 e Q k =>
  ⟨_, _, dp_tup (ex_t e hp), dp_tup (ex_t e hq), s1, s2, by rw [eqv_ints]; exact k H1 (Ex.refl H1)⟩
theorem tx_tup {a : Addr} {xs : List V} (h : H a = some (.tup xs)) : ∀ H1, Ex H H1 → TyX K H1 (.ref a) (.type "tuple") := fun H1 e => .base (.tup (e _ _ h))
theorem ev_isi' {T : String} {tn : String} {b : Bool} (ha : Ev ta σ H x) (ht : ∀ H1, Ex H H1 → TyX K H1 x (.type tn)) (hk : kitB tn T = some b) : Ev (tCB (rIsi K) (tCons ta (tCons (tC (.ty T)) tNil))) σ H (.bl b) :=
  fun H1 e Q q => ha H1 e _ fun H2 e2 => ⟨x, .ty T, .type tn, .type T, b, rfl, .ty T, ht H2 (e.trans e2), kit_ty hk, q H2 e2⟩
theorem ev_chain {r r' : R2} {tc : TE} {b c : Bool} (ha : Ev ta σ H x) (hb : Ev tb σ H y) (hr : RV r x y H (.bl b)) (hc : b = true → Ev tc σ H z) (hr' : b = true → RV r' y z H (.bl c)) : Ev (tChain r r' ta tb tc) σ H (.bl (b && c)) := fun H1 e Q q =>
  ha H1 e _ fun H2 e2 => hb H2 (e.trans e2) _ fun H3 e3 => hr H3 ((e.trans e2).trans e3) _ fun H4 e4 => ⟨b, rfl, by
    cases b with
    | true =>
      show tc σ H4 fun w' H5 => r' y w' H5 Q
      exact hc rfl H4 (((e.trans e2).trans e3).trans e4) _ fun H5 e5 => hr' rfl H5 ((((e.trans e2).trans e3).trans e4).trans e5) Q fun H6 e6 => q H6 ((((e2.trans e3).trans e4).trans e5).trans e6)
    | false =>
      show Q (.bl false) H4
      exact q H4 ((e2.trans e3).trans e4)⟩
/-- a, b = (..): a new tuple unpacked into names -/
theorem gt2 {p : Addr} {i j : Nat} (h : SqT K H p [x, y]) {Q : L2.St → Hp → Prop} (k : Q ((σ.set i (some x)).set j (some y)) H) : gTup K 2 (gCons (gName i) (gCons (gName j) gNil)) (.ref p) σ H Q :=
  ⟨p, [x, y], rfl, h, rfl, x, [y], rfl, y, [], rfl, rfl, k⟩
theorem gt3 {p : Addr} {i j l : Nat} (h : SqT K H p [x, y, z]) {Q : L2.St → Hp → Prop} (k : Q (((σ.set i (some x)).set j (some y)).set l (some z)) H) : gTup K 3 (gCons (gName i) (gCons (gName j) (gCons (gName l) gNil))) (.ref p) σ H Q :=
  ⟨p, [x, y, z], rfl, h, rfl, x, [y, z], rfl, y, [z], rfl, z, [], rfl, rfl, k⟩
end
theorem hu64 {A : Around} {k : Nat} (hr : Room k A) : A.units + 64 < cLine := by
  have := hr.un
  omega
section
variable {K : PySem.W.Frag} {σ : L2.St} {H : Hp} {te : TE} {D : Ends} {tz : TS} {g : TG} {xs : List V}
theorem q_asgG (h : EvU te σ H xs) (k : ∀ p H1, H p = none → Ex H H1 → H1 p = some (.tup xs) → g (.ref p) σ H1 (tz D)) : tSeq (tAsg te g) tz D σ H := h H (Ex.refl H) _ fun p H1 hp e h1 => k p H1 hp e h1
theorem q_asgV {v : V} (h : Ev te σ H v) (k : ∀ H1, Ex H H1 → g v σ H1 (tz D)) : tSeq (tAsg te g) tz D σ H := h H (Ex.refl H) _ fun H1 e => k H1 e
end
/-! ### plain values and their types -/
inductive Pl : V → Prop where
  | non : Pl .non
  | bl (b : Bool) : Pl (.bl b)
  | int (i : Int) : Pl (.int i)
  | str (s : Str) : Pl (.str s)
def tyN : V → String
  | .bl _ => "bool"
  | .int _ => "int"
  | .str _ => "str"
  | _ => "NoneType"
def isInt : V → Bool
  | .int _ => true
  | _ => false
theorem tx_pl {K : PySem.W.Frag} {x : V} (h : Pl x) (H1 : Hp) : TyX K H1 x (.type (tyN x)) := by
  cases h with
  | non => exact .base .non
  | bl b => exact .base (.bl b)
  | int i => exact .base (.int i)
  | str s => exact .base (.str s)
theorem ev_isiP {K : PySem.W.Frag} {σ : L2.St} {H : Hp} {ta : TE} {x : V} {T : String} {b : Bool} (ha : Ev ta σ H x) (hx : Pl x) (hk : kitB (tyN x) T = some b) : Ev (tCB (rIsi K) (tCons ta (tCons (tC (.ty T)) tNil))) σ H (.bl b) :=
  ev_isi ha (tx_pl hx) hk
/-- isinstance(x, int) and not isinstance(x, bool) -/
theorem ev_isInt {K : PySem.W.Frag} {σ : L2.St} {H : Hp} {ta tb : TE} {x : V} (ha : Ev ta σ H x) (hb : Ev tb σ H x) (hx : Pl x) :
    Ev (tAndV (tCB (rIsi K) (tCons ta (tCons (tC (.ty "int")) tNil))) (tNotV (tCB (rIsi K) (tCons tb (tCons (tC (.ty "bool")) tNil))))) σ H (.bl (isInt x)) := by
  cases hx with
  | non => exact ev_is (ev_andV (ev_isiP (b := false) ha .non (by decide +kernel)) fun z => nomatch z) (show V.bl (false && true) = _ from rfl)
  | bl b => exact ev_is (ev_andV (ev_isiP (b := true) ha (.bl b) (by show kitB "bool" "int" = some true; decide +kernel)) fun _ => ev_notV (ev_isiP (b := true) hb (.bl b) (by show kitB "bool" "bool" = some true; decide +kernel))) rfl
  | int i => exact ev_is (ev_andV (ev_isiP (b := true) ha (.int i) (by show kitB "int" "int" = some true; decide +kernel)) fun _ => ev_notV (ev_isiP (b := false) hb (.int i) (by show kitB "int" "bool" = some false; decide +kernel))) rfl
  | str s => exact ev_is (ev_andV (ev_isiP (b := false) ha (.str s) (by show kitB "str" "int" = some false; decide +kernel)) fun z => nomatch z) (show V.bl (false && true) = _ from rfl)

/-! ### the order of tuples that need not be alike behind the first difference -/
section
open PySem.SeqAt PySem.MeetsSeq PySem.MeetsSeq2 PySem.MeetsSeq3
open PySem.AutoSeq1 (wpAny_loadPart')
/-- pairs walked from the left: the first that differ decide; z where none do -/
inductive Lx (A : Around) (s : Shared) (z : Bool) : List (Value × Value) → Bool → Prop
  | nil : Lx A s z [] z
  | eq {y x : Value} {ps : List (Value × Value)} {c : Bool} : EqAt A s y x true → Lx A s z ps c → Lx A s z ((y, x) :: ps) c
  | lt {y x : Value} {ps : List (Value × Value)} {c : Bool} : EqAt A s y x false → Ob.RcOp .Lt A s y x c → Lx A s z ((y, x) :: ps) c
theorem lt_meets (l b : Addr) (us vs : Array Value) (n m : Nat) (dl db : Option Addr) (sl sb : Array (Option Value)) :
    Meets (Builtin.«tuple.__lt__» ⟨[.ref l, .ref b], []⟩)
      (fun A R s => s.heap.get? l = some { cls := .type "tuple", dict := dl, data := .seq us n, slots := sl } ∧ s.heap.get? b = some { cls := .type "tuple", dict := db, data := .seq vs m, slots := sb } ∧
        ∃ c, Lx A.in1 s (decide (us.size < vs.size)) (us.toList.zip vs.toList) c ∧ R (.ok (.ret (.bool c))) s) := by
  refine .of_wp fun prog w A R s h => ?_
  obtain ⟨hp, g, d, tk, os⟩ := s
  obtain ⟨hl, hb, c, hx, h⟩ := h
  have f2 := AutoSeq1.sub_tuple_tuple
  wp_walk using wpAny_loadPart' hl, wpAny_loadPart' hb, wpAny_forIn_list _ (fun ps b s' => b.1 = none ∧ s' = ⟨hp, g, d, tk, os⟩ ∧ ∃ c, Lx A.in1 ⟨hp, g, d, tk, os⟩ (decide (us.size < vs.size)) ps c ∧ R (.ok (.ret (.bool c))) ⟨hp, g, d, tk, os⟩) _
  case turn =>
    rintro ⟨y, x⟩ ps b s' ⟨hb', rfl, c, hz, hR⟩
    cases hz with
    | eq he ht =>
      refine wpAny_bind (he prog w _ _ ?_)
      wp_walk
      exact ⟨rfl, rfl, c, ht, hR⟩
    | lt he hr =>
      refine wpAny_bind (he prog w _ _ ?_)
      have hri := hr prog w
      wp_walk using hri
      exact ⟨_, rfl, hR⟩
  case fin =>
    rintro ⟨b1, b2⟩ s' ⟨hb', rfl, c, hz, hR⟩
    simp only at hb'
    subst hb'
    cases hz
    wp_walk
    exact ⟨_, rfl, by simpa [Builtin.Tuple.tupleCompareSizes] using hR⟩
  case h => exact ⟨rfl, rfl, c, hx, h⟩
theorem lt_tuples {A : Around} {s : Shared} {l b : Addr} {us vs : Array Value} {c : Bool} (hl : s.heap.IsTuple l us) (hb : s.heap.IsTuple b vs) (hu : A.units < cLine) (hx : Lx A.in1 s (decide (us.size < vs.size)) (us.toList.zip vs.toList) c) :
    Ob.RcOp .Lt A s (.ref l) (.ref b) c := by
  intro prog w E Q h
  obtain ⟨⟨k1, dl, da, sl⟩, ho, hc, n, hd⟩ := hl
  obtain ⟨⟨k2, db, da2, sb⟩, ho2, hc2, m, hd2⟩ := hb
  simp only at hc hd hc2 hd2
  subst hc hd hc2 hd2
  exact richCompare_meets_room (op := .Lt) ⟨_, ho, rfl⟩ ⟨_, ho2, rfl⟩ F.slot_tuple_lt F.entry_tuple_lt (F.args_tuple_lt_2 _ _) (lt_meets l b us vs n m dl db sl sb) ⟨ho, ho2, c, hx, ⟨(fun z => nomatch z), h⟩⟩ hu
end
mutual
/-- less, of data -/
def ltD : PyData → PyData → Bool
  | .int a, .int b => decide (a < b)
  | .str x, .str y => decide (x.cps.toList < y.cps.toList)
  | .tuple xs, .tuple ys => ltDs xs ys
  | _, _ => false
def ltDs : List PyData → List PyData → Bool
  | [], [] => false
  | [], _ :: _ => true
  | _ :: _, [] => false
  | x :: xs, y :: ys => if PyData.eqv x y then ltDs xs ys else ltD x y
end
mutual
/-- may be compared by less -/
def ordD : PyData → PyData → Bool
  | .int _, .int _ => true
  | .str _, .str _ => true
  | .tuple xs, .tuple ys => ordDs xs ys
  | _, _ => false
def ordDs : List PyData → List PyData → Bool
  | [], _ => true
  | _ :: _, [] => true
  | x :: xs, y :: ys => if PyData.eqv x y then ordDs xs ys else ordD x y
end
theorem reads_len {h : Heap} : ∀ {ds : List PyData} {us : List Value} {as : List Addr}, ReadsAll h us ds as → us.length = ds.length
  | [], _, _, r => by cases r; rfl
  | _ :: ds, _, _, r => by
    cases r with
    | cons r1 r2 => exact congrArg (· + 1) (reads_len r2)
theorem lt_list {n : Nat} (IH : ∀ (d e : PyData) (A : Around) (s : Shared) (u v : Value) (as bs : List Addr), d.depth ≤ n → Reads s.heap u d as → Reads s.heap v e bs → d.canLay0 = true → e.canLay0 = true → ordD d e = true →
    A.units + d.depth < cLine → Ob.RcOp .Lt A s u v (ltD d e)) (A : Around) (s : Shared) : ∀ (xs ys : List PyData) (us vs : List Value) (as bs : List Addr), PyData.depthAll xs ≤ n → ReadsAll s.heap us xs as → ReadsAll s.heap vs ys bs →
    PyData.canLayAll0 xs = true → PyData.canLayAll0 ys = true → ordDs xs ys = true → A.units + PyData.depthAll xs < cLine → Lx A s (decide (xs.length < ys.length)) (us.zip vs) (ltDs xs ys) := by
  intro xs
  induction xs with
  | nil =>
    intro ys us vs as bs hn r1 r2 c1 c2 ho hu
    cases r1
    cases ys with
    | nil => exact .nil
    | cons y ys =>
      rw [show decide (([] : List PyData).length < (y :: ys).length) = true from decide_eq_true (Nat.zero_lt_succ _)]
      show Lx A s true [] true
      exact .nil
  | cons x xs ih =>
    intro ys us vs as bs hn r1 r2 c1 c2 ho hu
    cases ys with
    | nil =>
      cases r2
      rw [show decide ((x :: xs).length < ([] : List PyData).length) = false from decide_eq_false (Nat.not_lt_zero _), List.zip_nil_right]
      exact .nil
    | cons y ys =>
      have a1 : x.canLay0 = true ∧ PyData.canLayAll0 xs = true := by simpa [PyData.canLayAll0] using c1
      have a2 : y.canLay0 = true ∧ PyData.canLayAll0 ys = true := by simpa [PyData.canLayAll0] using c2
      have hd : A.units + max x.depth (PyData.depthAll xs) < cLine := hu
      have hn' : max x.depth (PyData.depthAll xs) ≤ n := hn
      rw [show decide ((x :: xs).length < (y :: ys).length) = decide (xs.length < ys.length) by simp]
      cases r1 with
      | cons p1 q1 =>
        cases r2 with
        | cons p2 q2 =>
          have he := PySem.SeqAt.eqAt_reads x y A s _ _ _ _ p1 p2 a1.1 a2.1 (by omega)
          by_cases c : PyData.eqv x y = true
          · have o : ordDs xs ys = true := by rw [ordDs, if_pos c] at ho; exact ho
            rw [show ltDs (x :: xs) (y :: ys) = ltDs xs ys by rw [ltDs, if_pos c]]
            rw [c] at he
            exact .eq he (ih ys _ _ _ _ (by omega) q1 q2 a1.2 a2.2 o (by omega))
          · have o : ordD x y = true := by rw [ordDs, if_neg c] at ho; exact ho
            rw [show ltDs (x :: xs) (y :: ys) = ltD x y by rw [ltDs, if_neg c]]
            rw [Bool.not_eq_true] at c
            rw [c] at he
            exact .lt he (IH x y A s _ _ _ _ (by omega) p1 p2 a1.1 a2.1 o (by omega))
theorem lt_reads : ∀ (n : Nat) (d e : PyData) (A : Around) (s : Shared) (u v : Value) (as bs : List Addr), d.depth ≤ n → Reads s.heap u d as → Reads s.heap v e bs → d.canLay0 = true → e.canLay0 = true → ordD d e = true →
    A.units + d.depth < cLine → Ob.RcOp .Lt A s u v (ltD d e) := by
  intro n
  induction n with
  | zero =>
    intro d e A s u v as bs hn r1 r2 c1 c2 ho hu
    cases r1 with
    | int a t =>
      cases r2 with
      | int b t' => rw [ltD]; exact Ob.RcOp.lt_int _ _ _ _
      | _ => simp [ordD] at ho
    | str a t =>
      cases r2 with
      | str b t' => rw [ltD]; exact fun prog w E Q h => lt_str h
      | _ => simp [ordD] at ho
    | tuple => simp [PyData.depth] at hn
    | _ => simp [ordD] at ho
  | succ n ih =>
    intro d e A s u v as bs hn r1 r2 c1 c2 ho hu
    cases r1 with
    | int a t =>
      cases r2 with
      | int b t' => rw [ltD]; exact Ob.RcOp.lt_int _ _ _ _
      | _ => simp [ordD] at ho
    | str a t =>
      cases r2 with
      | str b t' => rw [ltD]; exact fun prog w E Q h => lt_str h
      | _ => simp [ordD] at ho
    | tuple h1 h2 h3 h4 =>
      cases r2 with
      | tuple k1 k2 k3 k4 =>
        rename_i xs _ _ _ _ _ ys
        simp only [PyData.depth] at hn hu
        have l1 := reads_len h4
        have l2 := reads_len k4
        rw [ltD]
        refine lt_tuples ⟨_, h1, h2, _, h3⟩ ⟨_, k1, k2, _, k3⟩ (by omega) ?_
        rw [← Array.length_toList, ← Array.length_toList, l1, l2]
        exact lt_list ih A.in1 s _ _ _ _ _ _ (by omega) h4 k4 (by simpa [PyData.canLay0] using c1) (by simpa [PyData.canLay0] using c2) (by simpa [ordD] using ho) (by show A.units + 1 + _ < _; omega)
      | _ => simp [ordD] at ho
    | _ => simp [ordD] at ho
def rLtD (K : PySem.W.Frag) : R2 := fun x y H Q => ∃ d e, Dp K H x d ∧ Dp K H y e ∧ d.canLay0 = true ∧ e.canLay0 = true ∧ ordD d e = true ∧ d.depth ≤ 60 ∧ Q (.bl (ltD d e)) H
theorem op_ltD {X : Cx} (hu : X.A.units + 64 < cLine) : OpR X (compareOp .Lt) (rLtD X.K) := by
  intro pins s σ H x y v u Q I rx ry h
  obtain ⟨d, e, hd, he, c1, c2, o, dp, q⟩ := h
  obtain ⟨as, r1⟩ := Dp.reads I d x v hd rx
  obtain ⟨bs, r2⟩ := Dp.reads I e y u he ry
  exact lt_reads _ d e X.A s v u as bs (Nat.le_refl _) r1 r2 c1 c2 o (by omega) X.prog X.w _ _ ⟨.bl _, H, I, rfl, q⟩

/-! ### parts that give data -/
section
variable {K : PySem.W.Frag}
mutual
theorem ex_dp {H H' : Hp} (e : Ex H H') : ∀ {v : V} {d : PyData}, Dp K H v d → Dp K H' v d
  | _, _, .non => .non
  | _, _, .bl b => .bl b
  | _, _, .int i => .int i
  | _, _, .str x => .str x
  | _, _, .lst h a => .lst (ex_l e h) (ex_dps e a)
  | _, _, .tup h a => .tup (ex_t e h) (ex_dps e a)
theorem ex_dps {H H' : Hp} (e : Ex H H') : ∀ {vs : List V} {ds : List PyData}, DpAll K H vs ds → DpAll K H' vs ds
  | _, _, .nil => .nil
  | _, _, .cons h t => .cons (ex_dp e h) (ex_dps e t)
end
def EvD (K : PySem.W.Frag) (te : TE) (σ : L2.St) (H : Hp) (d : PyData) : Prop := ∀ H1, Ex H H1 → ∀ Q : VK, (∀ v H2, Ex H1 H2 → Dp K H2 v d → Q v H2) → te σ H1 Q
/-- a new list, a new tuple of data -/
def EvLD (K : PySem.W.Frag) (te : TE) (σ : L2.St) (H : Hp) (ds : List PyData) : Prop := ∀ H1, Ex H H1 → ∀ Q : VK, (∀ p H2 ys, H1 p = none → Ex H1 H2 → H2 p = some (.lst ys) → DpAll K H2 ys ds → Q (.ref p) H2) → te σ H1 Q
def EvUD (K : PySem.W.Frag) (te : TE) (σ : L2.St) (H : Hp) (ds : List PyData) : Prop := ∀ H1, Ex H H1 → ∀ Q : VK, (∀ p H2 ys, H1 p = none → Ex H1 H2 → H2 p = some (.tup ys) → DpAll K H2 ys ds → Q (.ref p) H2) → te σ H1 Q
def EvAD (K : PySem.W.Frag) (ta : TA) (σ : L2.St) (H : Hp) (ds : List PyData) : Prop := ∀ H1, Ex H H1 → ∀ Q : List V → Hp → Prop, (∀ vs H2, Ex H1 H2 → DpAll K H2 vs ds → Q vs H2) → ta σ H1 Q
variable {σ : L2.St} {H H' : Hp} {ta tb te : TE} {tr : TA} {x y z v : V} {d e : PyData} {ds es : List PyData}
theorem ed_val (h : Ev te σ H v) (hd : Dp K H v d) : EvD K te σ H d := fun H1 e Q q => h H1 e _ fun H2 e2 => q v H2 e2 (ex_dp (e.trans e2) hd)
theorem ed_tupU (h : EvUD K te σ H ds) : EvD K te σ H (.tuple ds) := fun H1 e Q q => h H1 e _ fun p H2 ys _ e2 h2 hd => q _ H2 e2 (.tup (st_of h2) hd)
theorem ed_lst (h : EvLD K te σ H ds) : EvD K te σ H (.list ds) := fun H1 e Q q => h H1 e _ fun p H2 ys _ e2 h2 hd => q _ H2 e2 (.lst (sq_of h2) hd)
theorem ad_nil : EvAD K tNil σ H [] := fun H1 _ _ q => q [] H1 (Ex.refl H1) .nil
theorem ad_cons (h : EvD K te σ H d) (hr : EvAD K tr σ H ds) : EvAD K (tCons te tr) σ H (d :: ds) := fun H1 e Q q =>
  h H1 e _ fun v H2 e2 hd => hr H2 (e.trans e2) _ fun vs H3 e3 hds => q (v :: vs) H3 (e2.trans e3) (.cons (ex_dp e3 hd) hds)
theorem dps_len : ∀ {vs : List V} {ds : List PyData} {H : Hp}, DpAll K H vs ds → vs.length = ds.length
  | _, _, _, .nil => rfl
  | _, _, _, .cons _ t => congrArg (· + 1) (dps_len t)
theorem ud_tup (h : EvAD K tr σ H ds) (hl : ds.length ≤ 100000) : EvUD K (tTup tr) σ H ds := fun H1 e Q q =>
  h H1 e _ fun vs H2 e2 hd => ⟨sz_of (by rw [dps_len hd]; exact hl), fun p hp => q p _ vs (fresh_back e2 hp) (e2.trans (Ex.new hp)) upd_same (ex_dps (Ex.new hp) hd)⟩
theorem ld_lst (h : EvAD K tr σ H ds) (hl : ds.length ≤ 100000) : EvLD K (tLst tr) σ H ds := fun H1 e Q q =>
  h H1 e _ fun vs H2 e2 hd => ⟨sz_of (by rw [dps_len hd]; exact hl), fun p hp => q p _ vs (fresh_back e2 hp) (e2.trans (Ex.new hp)) upd_same (ex_dps (Ex.new hp) hd)⟩
def SpD (K : PySem.W.Frag) (sp : Sp) (vs : List V) (H : Hp) (d : PyData) : Prop := ∀ H1, Ex H H1 → ∀ Q : VK, (∀ v H2, Ex H1 H2 → Dp K H2 v d → Q v H2) → ∀ E : XK, sp vs H1 Q E
def SpUD (K : PySem.W.Frag) (sp : Sp) (vs : List V) (H : Hp) (ds : List PyData) : Prop := ∀ H1, Ex H H1 → ∀ Q : VK, (∀ p H2 ys, H1 p = none → Ex H1 H2 → H2 p = some (.tup ys) → DpAll K H2 ys ds → Q (.ref p) H2) → ∀ E : XK, sp vs H1 Q E
theorem ud_call {sp : Sp} {dvs vs : List V} {E : XK} {ta : TA} (h : EvA ta σ H vs) (hs : SpUD K sp (vs ++ dvs) H ds) : EvUD K (tCall sp dvs E ta) σ H ds := fun H1 e Q q =>
  h H1 e _ fun H2 e2 => hs H2 (e.trans e2) Q (fun p H3 ys hp e3 h3 hd => q p H3 ys (fresh_back e2 hp) (e2.trans e3) h3 hd) E
/-- == , != , < of data -/
theorem ev_eqD (ha : EvD K ta σ H d) (hb : EvD K tb σ H e) (s1 : SeqAt.shaped d = true) (s2 : SeqAt.shaped e = true) : Ev (tOp (rEqD K) ta tb) σ H (.bl (PyData.eqv d e)) := fun H1 ex Q q =>
  ha H1 ex _ fun x H2 e2 h2 => hb H2 (ex.trans e2) _ fun y H3 e3 h3 => ⟨d, e, ex_dp e3 h2, h3, s1, s2, q H3 (e2.trans e3)⟩
theorem ev_neD (ha : EvD K ta σ H d) (hb : EvD K tb σ H e) (s1 : SeqAt.shaped d = true) (s2 : SeqAt.shaped e = true) : Ev (tOp (rNeD K) ta tb) σ H (.bl (!PyData.eqv d e)) := fun H1 ex Q q =>
  ha H1 ex _ fun x H2 e2 h2 => hb H2 (ex.trans e2) _ fun y H3 e3 h3 => ⟨d, e, ex_dp e3 h2, h3, s1, s2, q H3 (e2.trans e3)⟩
theorem ev_ltD (ha : EvD K ta σ H d) (hb : EvD K tb σ H e) (s1 : SeqAt.shaped d = true) (s2 : SeqAt.shaped e = true) (o : ordD d e = true) (dp : d.depth ≤ 60) : Ev (tOp (rLtD K) ta tb) σ H (.bl (ltD d e)) := fun H1 ex Q q =>
  ha H1 ex _ fun x H2 e2 h2 => hb H2 (ex.trans e2) _ fun y H3 e3 h3 => ⟨d, e, ex_dp e3 h2, h3, SeqAt.canLay_of_shaped s1, SeqAt.canLay_of_shaped s2, o, dp, q H3 (e2.trans e3)⟩
/-- tuple(a new list) -/
theorem ud_tuple {tl : TE} (h : EvLD K tl σ H ds) : EvUD K (tCB (fun xs H Q => ∃ p ys, xs = [.ref p] ∧ ((SqL K H p ys ∧ ∀ l, H l = none → Q (.ref l) (upd H l (.tup ys))) ∨ (SqT K H p ys ∧ Q (.ref p) H))) (tCons tl tNil)) σ H ds := fun H1 e Q q =>
  h H1 e _ fun p H2 ys _ e2 h2 hd => ⟨p, ys, rfl, .inl ⟨sq_of h2, fun l hl => q l _ ys (fresh_back e2 hl) (e2.trans (Ex.new hl)) upd_same (ex_dps (Ex.new hl) hd)⟩⟩
mutual
/-- no list within -/
def noL : PyData → Bool
  | .list _ => false
  | .tuple xs => noLs xs
  | .dict _ => false
  | .none | .bool _ | .int _ | .str _ => true
def noLs : List PyData → Bool
  | [] => true
  | x :: xs => noL x && noLs xs
end
mutual
theorem dp_upd {H : Hp} {D : Addr} {ys zs : List V} (hD : H D = some (.lst ys)) : ∀ {v : V} {d : PyData}, noL d = true → Dp K H v d → Dp K (upd H D (.lst zs)) v d
  | _, _, _, .non => .non
  | _, _, _, .bl b => .bl b
  | _, _, _, .int i => .int i
  | _, _, _, .str x => .str x
  | _, _, n, .lst h a => by simp [noL] at n
  | _, _, n, .tup h a => by
    refine .tup ?_ (dps_upd hD (by simpa [noL] using n) a)
    rcases h with (h | ⟨o, h⟩) | h
    · exact .inl (.inl (by rw [upd_ne (by intro z; rw [z, hD] at h; cases h)]; exact h))
    · exact .inl (.inr ⟨o, by rw [upd_ne (by intro z; rw [z, hD] at h; cases h)]; exact h⟩)
    · exact .inr h
theorem dps_upd {H : Hp} {D : Addr} {ys zs : List V} (hD : H D = some (.lst ys)) : ∀ {vs : List V} {ds : List PyData}, noLs ds = true → DpAll K H vs ds → DpAll K (upd H D (.lst zs)) vs ds
  | _, _, _, .nil => .nil
  | _, _, n, .cons h t => by
    have n' : (noL _ && noLs _) = true := n
    rw [Bool.and_eq_true] at n'
    exact .cons (dp_upd hD n'.1 h) (dps_upd hD n'.2 t)
end
theorem noLs_map {f : Nat → PyData} (h : ∀ i, noL (f i) = true) : ∀ l : List Nat, noLs (l.map f) = true
  | [] => rfl
  | i :: l => by
    show (noL (f i) && noLs (l.map f)) = true
    rw [h i, noLs_map h l]
    rfl
/-- [f(x) for x in xs] -/
theorem dps_snoc : ∀ {vs : List V} {ds : List PyData} {H : Hp} {v : V} {d : PyData}, DpAll K H vs ds → Dp K H v d → DpAll K H (vs ++ [v]) (ds ++ [d])
  | _, _, _, _, _, .nil, h => .cons h .nil
  | _, _, _, _, _, .cons a t, h => .cons a (dps_snoc t h)
theorem ld_lcL {a : Addr} {xs : List V} {tl : TE} {j : Nat} {vs : List Nat} (f : Nat → PyData) (h : Ev tl σ H (.ref a)) (hx : SqL K H a xs) (hz : xs.length ≤ 40000) (hn : ∀ i, noL (f i) = true) (hw : ∀ x, wipe ((wipe σ vs).set j (some x)) vs = wipe σ vs)
    (he : ∀ (i : Nat) (x : V) H1, Ex H H1 → xs[i]? = some x → EvD K te ((wipe σ vs).set j (some x)) H1 (f i)) :
    EvLD K (tLc (iList K tl) (gName j) tYes te vs) σ H ((List.range xs.length).map f) := fun H0 e0 Q q => h H0 e0 _ fun H1 e1 => ⟨a, rfl, ⟨xs, ex_l (e0.trans e1) hx⟩, fun D hD =>
  lc_list (xs := xs) (fun i H' => H1 D = none ∧ Ex H1 H' ∧ ∃ ys, H' D = some (.lst ys) ∧ DpAll K H' ys ((List.range i).map f)) ⟨hD, Ex.new hD, [], upd_same, .nil⟩ (fun i H' _ p => ex_l ((e0.trans e1).trans p.2.1) hx)
    (fun i x H' hi p => by
      obtain ⟨p1, p2, ys, p3, p4⟩ := p
      refine ⟨hw x, ?_⟩
      show te ((wipe σ vs).set j (some x)) H' fun y H4 => ∃ acc, H4 D = some (.lst acc) ∧ acc.length < sizeLine ∧ _
      refine he i x H' ((e0.trans e1).trans p2) hi H' (Ex.refl H') _ fun y H4 e4 hy => ⟨ys, e4 _ _ p3, sz_lt ?_, p1, Ex.mut (p2.trans e4) p1, ys ++ [y], upd_same, ?_⟩
      · have := dps_len p4
        rw [List.length_map, List.length_range] at this
        have := (List.getElem?_eq_some_iff.mp hi).1
        omega
      · rw [List.range_succ, List.map_append]
        exact dps_snoc (dps_upd (e4 _ _ p3) (noLs_map hn _) (ex_dps e4 p4)) (dp_upd (e4 _ _ p3) (hn i) hy))
    (fun H' p => by
      obtain ⟨p1, p2, ys, p3, p4⟩ := p
      exact q D H' ys (fresh_back e1 p1) (e1.trans p2) p3 p4)⟩
end

/-! ### a call of a local that holds a def -/
def tCallH (P : Program) (w : World) (K : PySem.W.Frag) (mg : Str → Option Value) (base : Heap) (i k : Nat) (t : TA) : TE := fun σ H Q => ∃ f sp, σ[i]? = some (some (.ref f)) ∧ L2.Held P w K mg base k f sp ∧ t σ H fun vs H1 => sp vs H1 Q (fun _ _ _ => False)
theorem pe_callH {X : Cx} {x : Str} {p pos : Pos} {e : Expr} {es : List Expr} {t : TA} {i k : Nat} (hr : Room k X.A) (hN : X.N[i]? = some x) (hv : Vis X.env.scope x) (ha : PA X (e :: es) t)
    (hdb : (x == ("__debug__" : Str)) = false := by decide) (hcd : (x == ("__classdict__" : Str)) = false := by decide)
    (he : starEach (e :: es) X.env = (false, eval e X.env) :: starEach es X.env := by rfl) (hpl : (backTo pos (starEach es X.env)).any (·.1) = false := by rfl) : PE X (.Call (.Name x p) (e :: es) [] pos) (tCallH X.prog X.w X.K X.mg X.base i k t) := by
  refine ⟨fun pins s σ H Q I h => ?_⟩
  obtain ⟨f, sp, hs, hH, ht⟩ := h
  refine (L2.pe_callA (S := fun g => if g = f then some sp else none) (fun g sq z => ?_) hr hN hv ha hdb hcd he hpl).run pins s σ H Q I ⟨f, sp, hs, if_pos rfl, ht⟩
  by_cases e : g = f
  · rw [if_pos e] at z
    cases z
    rw [e]
    exact hH
  · rw [if_neg e] at z
    cases z
theorem held_of {P : Program} {w : World} {K : PySem.W.Frag} {mg : Str → Option Value} {base : Heap} {j k : Nat} {x : Str} {sp : Sp} {f : Addr} (c : C8.Cal P w K mg base j x sp []) (m : mg x = some (.ref f)) (h : j ≤ k) : L2.Held P w K mg base k f sp := by
  obtain ⟨f', fd, ps, ds, F, hm, kp, b, v⟩ := c.ex
  rw [m] at hm
  cases hm
  cases v
  exact ⟨fd, ps, F.mono h, kp, b⟩
/-- a def of two values that gives a value -/
def spBin (pre : V → V → Prop) (op : V → V → V) : Sp := fun vs H Q _ => ∃ x y : V, vs = [x, y] ∧ pre x y ∧ ∀ H', Ex H H' → Q (op x y) H'
theorem ec_held {P : Program} {w : World} {K : PySem.W.Frag} {mg : Str → Option Value} {base : Heap} {i k : Nat} {σ : L2.St} {H : Hp} {ta tb : TE} {f : Addr} {pre : V → V → Prop} {op : V → V → V} {x y : V} (hσ : σ[i]? = some (some (.ref f))) (h : L2.Held P w K mg base k f (spBin pre op)) (hp : pre x y) (ha : Ev ta σ H x) (hb : Ev tb σ H y) :
    Ev (tCallH P w K mg base i k (tCons ta (tCons tb tNil))) σ H (op x y) := fun H1 e Q q => ⟨f, _, hσ, h, ha H1 e _ fun H2 e2 => hb H2 (e.trans e2) _ fun H3 e3 => ⟨x, y, rfl, hp, fun H' e' => q H' ((e2.trans e3).trans e')⟩⟩

/-! ### classes of the program -/
def clsAt (K : PySem.W.Frag) (x : Str) : Addr := match PySem.W.nsIn K mainGlobals x with
  | some (some (.ref a)) => a
  | _ => 0
def NoAts (K : PySem.W.Frag) (C : Addr) : List Str → Prop
  | [] => True
  | f :: r => NoAttr K C f ∧ NoAts K C r
/-- a class by its name: plain, and none of these names stands in it -/
structure ClsD (K : PySem.W.Frag) (mg : Str → Option Value) (x : Str) (fs : List Str) : Prop where
  cl : Cls K (clsAt K x)
  at_ : mg x = some (.ref (clsAt K x))
  mks : PySem.W.makesIn K (clsAt K x) = true
  kc : PySem.W.keepIn K (.ref (clsAt K x)) = true
  na : NoAts K (clsAt K x) fs
/-- a method's def -/
def MetD (K : PySem.W.Frag) (x m qual : Str) (st : Stmt) (ps : List Str) : Prop := ∃ f fd, Meth K (clsAt K x) m f ∧ C8.Fun K m qual st f fd ∧ Binds K fd ps []
/-- a property's getter -/
def PrpD (K : PySem.W.Frag) (x m qual : Str) (st : Stmt) (ps : List Str) : Prop := ∃ p f fd, PropOf K (clsAt K x) m p f ∧ C8.Fun K m qual st f fd ∧ Binds K fd ps []
def Prp (P : Program) (w : World) (K : PySem.W.Frag) (mg : Str → Option Value) (base : Heap) (k : Nat) (C : Addr) (m : Str) (sp : Sp) : Prop := ∃ p f fd ps, Cls K C ∧ PropOf K C m p f ∧ FnOk P w K mg base C8.CX0 k f fd ps sp ∧ Binds K fd ps []
section
variable {P : Program} {w : World} {K : PySem.W.Frag} {mg : Str → Option Value} {base : Heap} {x m qual : Str} {st : Stmt} {ps N fs : List Str} {k : Nat} {sp : Sp}
theorem clsD_mk {C : Addr} (h : PySem.W.nsIn K mainGlobals x = some (some (.ref C))) (hm : mg x = some (.ref C)) (pg : PySem.W.plainGet K C Str.empty = true) (hd : PySem.W.hasDictIn K C = true) (po : PySem.W.plainOver K C = true) (sa : PySem.W.findIn K (.ref C) "__setattr__" = some (some (.builtin "object.__setattr__"))) (mk : PySem.W.makesIn K C = true) (kc : PySem.W.keepIn K (.ref C) = true) (na : NoAts K C fs) : ClsD K mg x fs := by
  have e : clsAt K x = C := by unfold clsAt; rw [h]
  exact ⟨by rw [e]; exact ⟨pg, hd, po, sa⟩, by rw [e]; exact hm, by rw [e]; exact mk, by rw [e]; exact kc, by rw [e]; exact na⟩
theorem metD_mk {C f : Addr} {fd : FuncData} (h : PySem.W.nsIn K mainGlobals x = some (some (.ref C))) (a : PySem.W.findIn K (.ref C) m = some (some (.ref f))) (i : PySem.W.isFn K (.ref f) = true) (kp : PySem.W.keepIn K (.ref f) = true) (F : C8.Fun K m qual st f fd) (b : Binds K fd ps []) : MetD K x m qual st ps := by
  have e : clsAt K x = C := by unfold clsAt; rw [h]
  exact ⟨f, fd, by rw [e]; exact ⟨a, i, kp⟩, F, b⟩
theorem prpD_mk {C p f : Addr} {fd : FuncData} {r : List Value} (h : PySem.W.nsIn K mainGlobals x = some (some (.ref C))) (a : PySem.W.findIn K (.ref C) m = some (some (.ref p))) (g : PySem.W.specialIn K (.ref p) "__get__" = some (some (.builtin "property.__get__"))) (tk : PySem.W.takesIn K (.ref p) = some true) (rc : PySem.W.recIn K p "property" = some (.ref f :: r)) (F : C8.Fun K m qual st f fd) (b : Binds K fd ps []) : PrpD K x m qual st ps := by
  have e : clsAt K x = C := by unfold clsAt; rw [h]
  exact ⟨p, f, fd, by rw [e]; exact ⟨a, g, tk, r, rc⟩, F, b⟩
theorem met_of (C : ClsD K mg x fs) (D : MetD K x m qual st ps) (S : FnScope N ps (C8.fnScope st)) (len : ∀ vs H Q E, sp vs H Q E → vs.length = ps.length)
    (hbody : ∀ (f : Addr) (cdv : Value) (A : Around) (outer : List Env) (s : Shared) (H : Hp) (vs : List V) (Q : VK) (E : XK), Room k (A.deeper (envOfC qual (C8.fnScope st) s.heap.objs.size f cdv)) → sp vs H Q E →
      ∃ t, PSs (cxOf C8.CX0 P w K mg base N qual (C8.fnScope st) f cdv A outer s H E).nox (C8.fnBody st) t ∧ t { nx := fun _ H' => Q .non H', rt := Q } (start N vs) H) : C8.Met P w K mg base (k + 1) (clsAt K x) m sp [] := by
  obtain ⟨f, fd, M, F, b⟩ := D
  exact C8.met0 C.cl M F b S len (hbody f)
theorem prp_of (C : ClsD K mg x fs) (D : PrpD K x m qual st ps) (S : FnScope N ps (C8.fnScope st)) (len : ∀ vs H Q E, sp vs H Q E → vs.length = ps.length)
    (hbody : ∀ (f : Addr) (cdv : Value) (A : Around) (outer : List Env) (s : Shared) (H : Hp) (vs : List V) (Q : VK) (E : XK), Room k (A.deeper (envOfC qual (C8.fnScope st) s.heap.objs.size f cdv)) → sp vs H Q E →
      ∃ t, PSs (cxOf C8.CX0 P w K mg base N qual (C8.fnScope st) f cdv A outer s H E).nox (C8.fnBody st) t ∧ t { nx := fun _ H' => Q .non H', rt := Q } (start N vs) H) : Prp P w K mg base (k + 1) (clsAt K x) m sp := by
  obtain ⟨p, f, fd, M, F, b⟩ := D
  exact ⟨p, f, fd, ps, C.cl, M, C8.fn0 F S len (hbody f), b⟩
theorem mak_of (C : ClsD K mg x fs) (D : MetD K x "__init__" qual st ps) (S : FnScope N ps (C8.fnScope st)) (len : ∀ vs H Q E, sp vs H Q E → vs.length = ps.length)
    (hbody : ∀ (f : Addr) (cdv : Value) (A : Around) (outer : List Env) (s : Shared) (H : Hp) (vs : List V) (Q : VK) (E : XK), Room k (A.deeper (envOfC qual (C8.fnScope st) s.heap.objs.size f cdv)) → sp vs H Q E →
      ∃ t, PSs (cxOf C8.CX0 P w K mg base N qual (C8.fnScope st) f cdv A outer s H E).nox (C8.fnBody st) t ∧ t { nx := fun _ H' => Q .non H', rt := Q } (start N vs) H) : C8.Mak P w K mg base (k + 1) x (clsAt K x) sp [] := by
  obtain ⟨f, fd, M, F, b⟩ := D
  exact C8.mak0 ⟨C.mks, M.at_, M.fn, C.kc⟩ C.at_ F b .nil S len (hbody f)
end
section
variable {X : Cx} {k j : Nat} {C : Addr} {m : Str} {sp : Sp} {e : Expr} {pos : Pos} {ta : TE}
theorem pe_pr (c : Prp X.prog X.w X.K X.mg X.base k C m sp) (hr : Room j X.A) (hk : k + 1 ≤ j) (he : PE X e ta) (hab : attributeBase e m X.env (eval e X.env) = eval e X.env) : PE X (.Attribute e m pos) (tProp C sp [] C8.E0 ta) := by
  obtain ⟨p, f, fd, ps, hc, hp, F, b⟩ := c
  exact pe_prop he hc hp F (hr.mono hk) b .nil C8.pass0 hab
end

/-! ### further loops: reversed(a list), range(n - 1, -1, -1), a new tuple -/
section
variable {K : PySem.W.Frag} {σ : L2.St} {H H' : Hp} {D : Ends} {tz tu : TS} {te tl : TE} {g : TG}
theorem s_break (h : D.bk σ H) : tBreak D σ H := h
theorem q_forRev {a : Addr} {xs : List V} {tr : TA} {j : Nat} (h : EvA tr σ H [.ref a]) (hS : SqL K H a xs) (Pv : Nat → L2.St → Hp → Prop) (h0 : ∀ H1, Ex H H1 → Pv 0 σ H1) (hl : ∀ i σ' H', Pv i σ' H' → SqL K H' a xs)
    (hs : ∀ (i : Nat) x σ' H', i < xs.length → xs[xs.length - 1 - i]? = some x → Pv i σ' H' → tu { D with nx := Pv (i + 1), ct := Pv (i + 1), bk := tz D } (σ'.set j (some x)) H') (hd : ∀ σ' H', Pv xs.length σ' H' → tz D σ' H') : tSeq (tFor (iRev K tr) (gName j) tu) tz D σ H :=
  h H (Ex.refl H) _ fun H1 e => ⟨a, xs, rfl, ex_l e hS, RT.for_Itv (D := { D with nx := tz D }) Pv (h0 H1 e) hl hs hd⟩
theorem s_forDown {tr : TA} {j n : Nat} (h : EvA tr σ H [.int ((n : Int) - 1), .int (-1), .int (-1)]) (hn : n ≤ 100000) (Pv : Nat → L2.St → Hp → Prop) (h0 : ∀ H1, Ex H H1 → Pv 0 σ H1)
    (hs : ∀ (i : Nat) σ' H', i < n → Pv i σ' H' → tu { D with nx := Pv (i + 1), ct := Pv (i + 1), bk := D.nx } (σ'.set j (some (.int (((n - 1 - i : Nat) : Int))))) H') (hd : ∀ σ' H', Pv n σ' H' → D.nx σ' H') : tFor (iRng3 tr) (gName j) tu D σ H := by
  refine h H (Ex.refl H) _ fun H1 e => ⟨(n : Int) - 1, -1, -1, ((n : Int) - 1 - (-1)).toNat, rfl, RgC.neg (by omega) (by omega) (by omega) (by omega), for_rangeC Pv (h0 H1 e) (fun i σ' H' hi p => ?_) fun σ' H' p => hd σ' H' ?_⟩
  · have e0 : (n : Int) - 1 + (i : Nat) * (-1) = ((n - 1 - i : Nat) : Int) := by omega
    show tu { D with nx := Pv (i + 1), ct := Pv (i + 1), bk := D.nx } (σ'.set j (some (.int ((n : Int) - 1 + (i : Nat) * (-1))))) H'
    rw [e0]
    exact hs i σ' H' (by omega) p
  · rw [show ((n : Int) - 1 - (-1)).toNat = n by omega] at p
    exact p
theorem q_forDown {tr : TA} {j n : Nat} (h : EvA tr σ H [.int ((n : Int) - 1), .int (-1), .int (-1)]) (hn : n ≤ 100000) (Pv : Nat → L2.St → Hp → Prop) (h0 : ∀ H1, Ex H H1 → Pv 0 σ H1)
    (hs : ∀ (i : Nat) σ' H', i < n → Pv i σ' H' → tu { D with nx := Pv (i + 1), ct := Pv (i + 1), bk := tz D } (σ'.set j (some (.int (((n - 1 - i : Nat) : Int))))) H') (hd : ∀ σ' H', Pv n σ' H' → tz D σ' H') : tSeq (tFor (iRng3 tr) (gName j) tu) tz D σ H :=
  s_forDown (D := { D with nx := tz D }) h hn Pv h0 hs hd
/-- over a new tuple: the turns' word speaks of what grows out of H1 -/
theorem q_forU {xs : List V} {j : Nat} (h : EvU tl σ H xs) (Pv : Nat → L2.St → Hp → Prop) (h0 : Pv 0 σ H) (hm : ∀ i σ' H1 H2, Pv i σ' H1 → Ex H1 H2 → Pv i σ' H2)
    (hs : ∀ i x σ' H1, xs[i]? = some x → Pv i σ' H1 → ∀ N : L2.St → Hp → Prop, (∀ σ2 H2, Pv (i + 1) σ2 H2 → Ex H1 H2 → N σ2 H2) → tu { D with nx := N, ct := N, bk := tz D } (σ'.set j (some x)) H1) (hd : ∀ σ' H', Pv xs.length σ' H' → tz D σ' H') : tSeq (tFor (iTup K tl) (gName j) tu) tz D σ H :=
  h H (Ex.refl H) _ fun p H1 hp e h1 => ⟨p, rfl, ⟨xs, st_of h1⟩, for_tup (D := { D with nx := tz D }) (fun i σ' H' => Pv i σ' H' ∧ H' p = some (.tup xs)) ⟨hm _ _ _ _ h0 e, h1⟩ (fun i σ' H' _ q => st_of q.2)
    (fun i x σ' H' hx q => hs i x σ' H' hx q.1 _ fun σ2 H2 q2 e2 => ⟨q2, e2 _ _ q.2⟩) fun σ' H' q => hd σ' H' q.1⟩
end

def limV (n : Int) : V := if -1000000000000000 ≤ n ∧ n ≤ 1000000000000000 then .int n else .non
/-! ### the mathematics: digits -/
abbrev dval : List Nat → Nat := NumText.digitsVal
def isD (c : Nat) : Bool := decide (48 ≤ c) && decide (c ≤ 57)
def digs (l : List Nat) : Bool := !l.isEmpty && l.all isD
theorem uni_dig : ∀ c : Fin 128, Unicode.isDigit c.1 = isD c.1 := by decide +kernel
theorem all_dig : ∀ l : List Nat, (l.all Unicode.isDigit && l.all fun c => decide (c < 128)) = l.all isD
  | [] => rfl
  | c :: r => by
    have ih := all_dig r
    rw [List.all_cons, List.all_cons, List.all_cons, ← ih]
    by_cases h : c < 128
    · rw [decide_eq_true h, show Unicode.isDigit c = isD c from uni_dig ⟨c, h⟩]
      cases isD c <;> cases r.all Unicode.isDigit <;> simp
    · have : isD c = false := by
        unfold isD
        rw [decide_eq_false (show ¬ c ≤ 57 by omega), Bool.and_false]
      rw [this, decide_eq_false h]
      simp
theorem digs_txt (l : List Nat) : (Txt.isdigit (SX.S l) && Txt.isascii (SX.S l)) = digs l := by
  unfold Txt.isdigit Txt.isascii digs
  rw [SX.S_len, show (SX.S l).cps.all Unicode.isDigit = l.all Unicode.isDigit from List.all_toArray, show ((SX.S l).cps.all fun c => decide (c < 128)) = l.all fun c => decide (c < 128) from List.all_toArray, Bool.and_assoc, all_dig]
  cases l <;> rfl
theorem mem_dig {l : List Nat} (h : l.all isD = true) : NumText.AllDigits l := fun c hc => by
  have := List.all_eq_true.mp h c hc
  unfold isD at this
  rw [Bool.and_eq_true, decide_eq_true_eq, decide_eq_true_eq] at this
  exact this
theorem fold_app (l : List Nat) : ∀ a : Nat, l.foldl (fun acc c => acc * 10 + (c - 48)) a = a * 10 ^ l.length + dval l := by
  induction l with
  | nil => intro a; simp [dval, NumText.digitsVal]
  | cons c r ih =>
    intro a
    show r.foldl _ (a * 10 + (c - 48)) = _ + r.foldl _ (0 * 10 + (c - 48))
    rw [ih, ih, List.length_cons, Nat.pow_succ, Nat.add_mul, Nat.zero_mul, Nat.zero_add, Nat.mul_assoc, Nat.mul_comm 10, Nat.add_assoc]
theorem dval_app (l r : List Nat) : dval (l ++ r) = dval l * 10 ^ r.length + dval r := by
  show (l ++ r).foldl _ 0 = _
  rw [List.foldl_append, fold_app]
  rfl
theorem dval_cons (c : Nat) (r : List Nat) : dval (c :: r) = (c - 48) * 10 ^ r.length + dval r := by
  have := dval_app [c] r
  rw [show dval [c] = c - 48 from by show 0 * 10 + (c - 48) = _; omega] at this
  exact this
theorem dval_lt : ∀ l : List Nat, l.all isD = true → dval l < 10 ^ l.length
  | [], _ => by decide
  | c :: r, h => by
    rw [List.all_cons, Bool.and_eq_true] at h
    have ih := dval_lt r h.2
    have hc := mem_dig (l := [c]) (by rw [List.all_cons, h.1]; rfl) c (List.mem_singleton.mpr rfl)
    rw [dval_cons, List.length_cons, Nat.pow_succ]
    have : (c - 48) * 10 ^ r.length ≤ 9 * 10 ^ r.length := Nat.mul_le_mul_right _ (by omega)
    omega
def noZ (l : List Nat) : List Nat := l.dropWhile (fun c => c == 48)
theorem dval_noZ : ∀ l : List Nat, dval (noZ l) = dval l
  | [] => rfl
  | c :: r => by
    unfold noZ
    rw [List.dropWhile_cons]
    split
    · rename_i h
      rw [show List.dropWhile (fun c => c == 48) r = noZ r from rfl, dval_noZ r, dval_cons, beq_iff_eq.mp h, Nat.sub_self, Nat.zero_mul, Nat.zero_add]
    · rfl
theorem all_noZ : ∀ {l : List Nat}, l.all isD = true → (noZ l).all isD = true
  | [], _ => rfl
  | c :: r, h => by
    unfold noZ
    rw [List.dropWhile_cons]
    split
    · exact all_noZ (by rw [List.all_cons, Bool.and_eq_true] at h; exact h.2)
    · exact h
theorem noZ_len (l : List Nat) : (noZ l).length ≤ l.length := (List.dropWhile_suffix _).length_le
/-- more than sixteen digits behind the zeros: beyond every limit -/
theorem noZ_big {l : List Nat} (h : l.all isD = true) (hl : 16 < (noZ l).length) : 10 ^ 16 ≤ dval l := by
  have ha := all_noZ h
  rw [← dval_noZ]
  have hd : ∀ c r, noZ l = c :: r → ¬ c = 48 := fun c r e hc => by
    have := List.head?_dropWhile_not (fun c => c == 48) l
    rw [show List.dropWhile (fun c => c == 48) l = c :: r from e] at this
    simp [hc] at this
  generalize noZ l = z at *
  cases z with
  | nil => simp at hl
  | cons c r =>
    have hc := mem_dig (l := [c]) (by rw [List.all_cons, Bool.and_eq_true] at ha; rw [List.all_cons, ha.1]; rfl) c (List.mem_singleton.mpr rfl)
    have hn := hd c r rfl
    rw [dval_cons]
    have h1 : 10 ^ 16 ≤ 10 ^ r.length := Nat.pow_le_pow_right (by decide) (by simp at hl; omega)
    have h2 : 1 * 10 ^ r.length ≤ (c - 48) * 10 ^ r.length := Nat.mul_le_mul_right _ (by omega)
    omega
theorem con48 : (SX.S [48]).cps.contains = fun c => c == 48 := by
  funext c
  show (#[48] : Array Nat).contains c = _
  rw [Bool.eq_iff_iff]
  simp
theorem tl_S (l : List Nat) : TL.tl (SX.S l) = l := TL.tl_mk l
theorem lstrip_S (l : List Nat) : Txt.lstripChars (SX.S l) (SX.S [48]) = SX.S (noZ l) := by
  unfold Txt.lstripChars
  rw [PySem.W.stripBy_eq, con48]
  apply TL.ext_tl
  unfold PySem.W.stripped
  simp only [if_true, Bool.false_eq_true, if_false]
  rw [TL.tl_strSub, TL.len_tl, tl_S, tl_S]
  show List.take _ (List.drop (List.takeWhile (fun c => c == 48) l).length l) = _
  have e : List.drop (List.takeWhile (fun c => c == 48) l).length l = noZ l := by
    have h := List.takeWhile_append_dropWhile (p := fun c => c == 48) (l := l)
    conv => lhs; arg 2; rw [← h]
    rw [List.drop_left]
    rfl
  rw [e]
  apply List.take_of_length_le
  have h := congrArg List.length (List.takeWhile_append_dropWhile (p := fun c => c == 48) (l := l))
  rw [List.length_append] at h
  have : (noZ l).length = (List.dropWhile (fun c => c == 48) l).length := rfl
  omega
/-- without zeros at the end -/
def noE (l : List Nat) : List Nat := (noZ l.reverse).reverse
theorem rstrip_S (l : List Nat) : Txt.rstripChars (SX.S l) (SX.S [48]) = SX.S (noE l) := by
  unfold Txt.rstripChars
  rw [PySem.W.stripBy_eq, con48]
  apply TL.ext_tl
  unfold PySem.W.stripped
  simp only [if_true, Bool.false_eq_true, if_false]
  rw [TL.tl_strSub, SX.S_len, tl_S, tl_S]
  show List.take (l.length - (List.takeWhile (fun c => c == 48) (List.drop 0 l).reverse).length - 0) (List.drop 0 l) = _
  rw [List.drop_zero, Nat.sub_zero]
  have h := List.takeWhile_append_dropWhile (p := fun c => c == 48) (l := l.reverse)
  have h2 : l = noE l ++ (List.takeWhile (fun c => c == 48) l.reverse).reverse := by
    have := congrArg List.reverse h
    rw [List.reverse_append, List.reverse_reverse] at this
    exact this.symm
  have h3 := congrArg List.length h2
  rw [List.length_append, List.length_reverse] at h3
  conv => lhs; arg 2; rw [h2]
  rw [show l.length - (List.takeWhile (fun c => c == 48) l.reverse).length = (noE l).length by omega, List.take_left]
theorem starts_S (l : List Nat) : Txt.startswith (SX.S l) (SX.S [45]) = decide (l.head? = some 45) := by
  cases l with
  | nil => rfl
  | cons c r =>
    unfold Txt.startswith
    rw [SX.S_len, SX.S_len, decide_eq_true (by simp), Bool.true_and]
    rw [Bool.eq_iff_iff, decide_eq_true_eq]
    show Builtin.Str.subAt (SX.S (c :: r)) (SX.S [45]) 0 = true ↔ some c = some 45
    unfold Builtin.Str.subAt
    simp
    show List.take 1 (c :: r) = [45] ↔ c = 45
    simp
/-- the text without a minus sign in front -/
def noM (l : List Nat) : List Nat := if l.head? = some 45 then l.drop 1 else l
def sgI (l : List Nat) (n : Nat) : Int := if l.head? = some 45 then -(n : Int) else (n : Int)
def rdI (l : List Nat) : V := if digs (noM l) = true then limV (sgI l (dval (noM l))) else .non
theorem numL_pad {r : Nat} (h : r < 10000) : List.replicate (4 - (TL.numL r).length) 48 ++ TL.numL r = [48 + r / 1000, 48 + r / 100 % 10, 48 + r / 10 % 10, 48 + r % 10] := by
  by_cases h1 : r < 10
  · rw [TL.numL_lt h1, show r / 1000 = 0 by omega, show r / 100 = 0 by omega, show r / 10 = 0 by omega, show r % 10 = r by omega]
    rfl
  by_cases h2 : r < 100
  · rw [TL.numL_step (by omega), TL.numL_lt (by omega), show r / 1000 = 0 by omega, show r / 100 = 0 by omega, show r / 10 % 10 = r / 10 by omega]
    rfl
  by_cases h3 : r < 1000
  · rw [TL.numL_step (by omega), TL.numL_step (by omega), TL.numL_lt (by omega), show r / 1000 = 0 by omega, show r / 10 / 10 = r / 100 by omega, show r / 100 % 10 = r / 100 by omega]
    rfl
  · rw [TL.numL_step (by omega), TL.numL_step (by omega), TL.numL_step (by omega), TL.numL_lt (by omega), show r / 10 / 10 / 10 = r / 1000 by omega, show r / 10 / 10 = r / 100 by omega]
    rfl
def four (r : Nat) : List Nat := [48 + r / 1000, 48 + r / 100 % 10, 48 + r / 10 % 10, 48 + r % 10]
theorem zfill_S {r : Nat} (h : r < 10000) : Txt.zfill (SX.S (TL.numL r)) 4 = SX.S (four r) := by
  unfold Txt.zfill four
  rw [← numL_pad h, SX.S_len]
  split
  · rename_i hl
    rw [show 4 - (TL.numL r).length = 0 by omega]
    rfl
  · unfold zfilled
    have hd := TL.numL_digits r
    cases e : TL.numL r with
    | nil => exact absurd e (TL.numL_ne r)
    | cons c t =>
      have hc := hd c (by rw [e]; exact List.mem_cons_self)
      have eg : (SX.S (c :: t)).cps[0]? = some c := rfl
      have e43 : ¬ c = 43 := by omega
      have e45 : ¬ c = 45 := by omega
      rw [eg]
      split
      · rename_i h; exact absurd (Option.some.inj h) e43
      · rename_i h; exact absurd (Option.some.inj h) e45
      · rw [Builtin.Str.padded.eq_1]
        apply TL.ext_tl
        rw [tl_S]
        show ((Array.replicate _ 48 ++ (SX.S (c :: t)).cps ++ Array.replicate 0 0) : Array Nat).toList = _
        simp [SX.S]
def dtx (n : Int) : List Nat := (if n < 0 then [45] else []) ++ (TL.numL (n.natAbs / 10000) ++ (if n.natAbs % 10000 = 0 then [] else 46 :: noE (four (n.natAbs % 10000))))

/-! ### texts as lists of codes: further words -/
theorem c48 : PySem.Str.ofString "0" = SX.S [48] := by decide +kernel
theorem c45 : PySem.Str.ofString "-" = SX.S [45] := by decide +kernel
theorem c46 : PySem.Str.ofString "." = SX.S [46] := by decide +kernel
theorem c00 : PySem.Str.ofString "" = SX.S [] := by decide +kernel
theorem mt_ljustF {X : Cx} : MtR X "str.ljust" fun x xs H Q => ∃ (a f : Str) (i : Int), x = .str a ∧ xs = [.int i, .str f] ∧ PadOk i = true ∧ f.length = 1 ∧ Q (.str (Txt.ljustF a i (f.cps.getD 0 0))) H := by
  intro pins s σ H x xs v us Q I rx rv h
  obtain ⟨a, f, i, rfl, rfl, hp, hf, q⟩ := h
  obtain ⟨t, rfl⟩ := (show ∃ t, v = Value.str a t from rx)
  cases rv with
  | cons r1 rv =>
    cases rv with
    | cons r2 rv =>
      cases rv
      obtain ⟨u, rfl⟩ := r1
      obtain ⟨u2, rfl⟩ := r2
      exact ljust_fill hp hf fun t' k => ⟨.str _, H, I.tok k, ⟨t', rfl⟩, q⟩
section
variable {K : PySem.W.Frag} {σ : L2.St} {H : Hp} {D : Ends} {te ta tl th tb : TE}
theorem ev_m0 {r : V → List V → Hp → VK → Prop} {a : Str} {z : V} (h : Ev ta σ H (.str a)) (hr : ∀ H1 Q, (∀ H2, Ex H1 H2 → Q z H2) → r (.str a) [] H1 Q) : Ev (tM0 r ta) σ H z := fun H1 e Q q => h H1 e _ fun H2 e2 => ⟨⟨_, rfl⟩, hr H2 Q fun H3 e3 => q H3 (e2.trans e3)⟩
theorem ev_m1 {r : V → List V → Hp → VK → Prop} {a : Str} {y z : V} (h : Ev ta σ H (.str a)) (hb : Ev tb σ H y) (hr : ∀ H1 Q, (∀ H2, Ex H1 H2 → Q z H2) → r (.str a) [y] H1 Q) : Ev (tM1 r ta tb) σ H z := fun H1 e Q q =>
  h H1 e _ fun H2 e2 => ⟨⟨_, rfl⟩, hb H2 (e.trans e2) _ fun H3 e3 => hr H3 Q fun H4 e4 => q H4 ((e2.trans e3).trans e4)⟩
theorem ev_bmS {r : V → List V → Hp → VK → Prop} {a : Str} {z : V} {tr : TA} {ys : List V} (h : Ev ta σ H (.str a)) (hb : EvA tr σ H ys) (hr : ∀ H1 Q, (∀ H2, Ex H1 H2 → Q z H2) → r (.str a) ys H1 Q) : Ev (tBM K "str" r ta tr) σ H z := fun H1 e Q q =>
  h H1 e _ fun H2 e2 => ⟨rfl, hb H2 (e.trans e2) _ fun H3 e3 => hr H3 Q fun H4 e4 => q H4 ((e2.trans e3).trans e4)⟩
theorem ev_intS {a : Str} {n : Int} (h : Ev ta σ H (.str a)) (hn : intText? a = some n) (hl : a.length ≤ 640) : Ev (tCB (fun xs H Q => ∃ a n, xs = [.str a] ∧ intText? a = some n ∧ a.length ≤ 640 ∧ Q (.int n) H) (tCons ta tNil)) σ H (.int n) := fun H1 e Q q =>
  h H1 e _ fun H2 e2 => ⟨a, n, rfl, hn, hl, q H2 e2⟩
theorem ev_slF {to : TO} {l : List Nat} {i : Nat} (ha : Ev ta σ H (.str (SX.S l))) (hl : Ev tl σ H (.int (i : Int))) (hn : ∀ σ H Q, Q none H → to σ H Q) (hz : l.length ≤ 100000) : Ev (tSl C8.rSlX ta (tPart tl) to) σ H (.str (SX.S (l.drop i))) := fun H1 e Q q =>
  ha H1 e _ fun H2 e2 => hl H2 (e.trans e2) _ fun H3 e3 => ⟨_, rfl, hn _ _ _ ⟨SX.S l, rfl, by rw [SX.S_len]; exact sz_of hz, by rw [SX.slice_from (by omega), Int.toNat_natCast]; exact q H3 (e2.trans e3)⟩⟩
theorem eu_part {a b : Str} (ha : Ev ta σ H (.str a)) (hb : Ev tb σ H (.str b)) (h1 : (b.length == 0) = false) (hz : a.length ≤ 100000) : EvU (tM1 (fun x xs H Q => ∃ a b, x = .str a ∧ xs = [.str b] ∧ (b.length == 0) = false ∧ a.length ≤ sizeLine ∧ ∀ p, H p = none → Q (.ref p) (upd H p (.tup [.str (Txt.partition a b).1, .str (Txt.partition a b).2.1, .str (Txt.partition a b).2.2]))) ta tb) σ H [.str (Txt.partition a b).1, .str (Txt.partition a b).2.1, .str (Txt.partition a b).2.2] := fun H1 e Q q =>
  ha H1 e _ fun H2 e2 => ⟨⟨_, rfl⟩, hb H2 (e.trans e2) _ fun H3 e3 => ⟨a, b, rfl, rfl, h1, sz_of hz, fun p hp => q p _ (fresh_back (e2.trans e3) hp) ((e2.trans e3).trans (Ex.new hp)) upd_same⟩⟩
end
theorem js_str {t : TE} {ts : List TE} {acc y : Str} {σ : L2.St} {H : Hp} {Q : Str → Hp → Prop} (h : Ev t σ H (.str y)) (hz : (acc ++ y).length ≤ 100000) (k : ∀ H1, Ex H H1 → tJs ts (acc ++ y) σ H1 Q) : tJs (t :: ts) acc σ H Q := h H (Ex.refl H) _ fun H1 e1 => ⟨y, rfl, sz_of hz, k H1 e1⟩
theorem pre1 {c : Nat} {l : List Nat} {i : Nat} : TL.pre [c] (l.drop i) = true ↔ l[i]? = some c := by
  by_cases h : i < l.length
  · rw [List.drop_eq_getElem_cons h, List.getElem?_eq_getElem h]
    constructor
    · intro e
      by_cases e2 : l[i] = c
      · rw [e2]
      · rw [TL.pre_of_head [] _ e2] at e
        exact nomatch e
    · intro e
      rw [Option.some.inj e]
      exact TL.pre_self [c] _
  · rw [List.drop_eq_nil_of_le (by omega), List.getElem?_eq_none (by omega), TL.pre_nil (List.cons_ne_nil _ _)]
    simp
theorem find1 (l : List Nat) (c : Nat) : (Txt.find (SX.S l) (SX.S [c]) = -1 ∧ ∀ i : Nat, ¬ l[i]? = some c) ∨ ∃ i : Nat, Txt.find (SX.S l) (SX.S [c]) = (i : Int) ∧ l[i]? = some c ∧ ∀ k : Nat, k < i → ¬ l[k]? = some c := by
  have ha : ∀ i, StrLaws.At (SX.S l) (SX.S [c]) (SX.S l).length i ↔ l[i]? = some c := fun i => by
    rw [TL.at_iff (by rw [tl_S]; exact List.cons_ne_nil _ _), tl_S, tl_S, pre1]
  rcases StrLaws.occ_head (SX.S l) (SX.S [c]) 1 (Nat.le_refl 1) with ⟨h1, h2⟩ | ⟨i, r, h1, h2, h3⟩
  · refine .inl ⟨?_, fun i h => h2 i ((ha i).mpr h)⟩
    unfold Txt.find
    rw [h1]
  · refine .inr ⟨i, ?_, (ha i).mp h2, fun k hk h => h3 k hk ((ha k).mpr h)⟩
    unfold Txt.find
    rw [h1]
def tenL : List Nat := [48, 49, 50, 51, 52, 53, 54, 55, 56, 57]
theorem cTen : PySem.Str.ofString "0123456789" = SX.S tenL := by decide +kernel
theorem ten_at {i : Nat} (h : i < 10) : tenL[i]? = some (48 + i) := by
  have : ∀ i : Fin 10, tenL[i.1]? = some (48 + i.1) := by decide
  exact this ⟨i, h⟩
theorem ten_in {i c : Nat} (h : tenL[i]? = some c) : c = 48 + i ∧ i < 10 := by
  have hi : i < 10 := (List.getElem?_eq_some_iff.mp h).1
  rw [ten_at hi] at h
  exact ⟨(Option.some.inj h).symm, hi⟩
theorem find_ten (c : Nat) : (isD c = false ∧ Txt.find (SX.S tenL) (SX.S [c]) = -1) ∨ (isD c = true ∧ Txt.find (SX.S tenL) (SX.S [c]) = ((c - 48 : Nat) : Int)) := by
  rcases find1 tenL c with ⟨h1, h2⟩ | ⟨i, h1, h2, _⟩
  · refine .inl ⟨?_, h1⟩
    cases h : isD c with
    | false => rfl
    | true =>
      unfold isD at h
      rw [Bool.and_eq_true, decide_eq_true_eq, decide_eq_true_eq] at h
      exact absurd (by rw [ten_at (by omega), show 48 + (c - 48) = c by omega]) (h2 (c - 48))
  · obtain ⟨e, hi⟩ := ten_in h2
    refine .inr ⟨?_, by rw [h1, show c - 48 = i by omega]⟩
    unfold isD
    rw [decide_eq_true (by omega), decide_eq_true (by omega)]
    rfl
section
variable {σ : L2.St} {H : Hp} {ta tb tl : TE} {K : PySem.W.Frag}
theorem ev_ixN {xs : List V} {i : Int} {v : V} (ha : EvL ta σ H xs) (hb : Ev tb σ H (.int i)) (hi : atI xs i = some v) : Ev (tOp (rIxL K) ta tb) σ H v := fun H1 e Q q =>
  ha H1 e _ fun p H2 hp e2 h2 => hb H2 (e.trans e2) _ fun H3 e3 => rv_ixL (sq_of (e3 _ _ h2)) hi H3 (Ex.refl H3) Q fun H4 e4 => q H4 ((e2.trans e3).trans e4)
theorem ev_ten {i : Nat} (h : i < 10) (hb : Ev tb σ H (.int (i : Int))) : Ev (tOp rIxS (tC (.str (PySem.Str.ofString "0123456789"))) tb) σ H (.str (SX.S [48 + i])) :=
  ev_op (x := .str (SX.S tenL)) (ev_is ev_c (by rw [cTen])) hb (rv_ixS (by decide) (atI_nat (ten_at h)))
theorem ev_slT {to : TO} {l : List Nat} {i : Nat} (ha : Ev ta σ H (.str (SX.S l))) (hn : ∀ σ H Q, Q none H → to σ H Q) (hl : Ev tl σ H (.int (i : Int))) (hz : l.length ≤ 100000) : Ev (tSl C8.rSlX ta to (tPart tl)) σ H (.str (SX.S (l.take i))) := fun H1 e Q q =>
  ha H1 e _ fun H2 e2 => hn _ _ _ (hl H2 (e.trans e2) _ fun H3 e3 => ⟨_, rfl, SX.S l, rfl, by rw [SX.S_len]; exact sz_of hz, by rw [SX.slice_to (by omega), Int.toNat_natCast]; exact q H3 (e2.trans e3)⟩)
end
theorem ev_lenX {σ : L2.St} {H : Hp} {ta : TE} {w : List Nat} (ha : Ev ta σ H (.str (SX.S w))) (hz : w.length ≤ 100000) : Ev (tCB (fun xs H Q => ∃ z, xs = [.str z] ∧ z.length ≤ sizeLine ∧ Q (.int z.length) H) (tCons ta tNil)) σ H (.int (w.length : Int)) :=
  ev_is (ev_lenS ha (by rw [SX.S_len]; exact hz)) (by rw [SX.S_len])
section
variable {K : PySem.W.Frag} {σ : L2.St} {H : Hp} {ta tb : TE}
theorem ev_cat {a b : Str} (ha : Ev ta σ H (.str a)) (hb : Ev tb σ H (.str b)) (h : a.length + b.length ≤ 100000) : Ev (tOp (fun x y H Q => ∃ i j, x = .str i ∧ y = .str j ∧ i.length + j.length ≤ sizeLine ∧ Q (.str (i ++ j)) H) ta tb) σ H (.str (a ++ b)) := fun H1 e Q q =>
  ha H1 e _ fun H2 e2 => hb H2 (e.trans e2) _ fun H3 e3 => ⟨a, b, rfl, rfl, sz_of h, q H3 (e2.trans e3)⟩
end
section
variable {σ : L2.St} {H : Hp} {D : Ends} {tz : TS} {te : TE}
theorem q_forX {tu : TS} {j : Nat} {w : List Nat} (h : Ev te σ H (.str (SX.S w))) (Pv : Nat → L2.St → Hp → Prop) (h0 : ∀ H1, Ex H H1 → Pv 0 σ H1)
    (hs : ∀ (i : Nat) (c : Nat) σ' H', w[i]? = some c → Pv i σ' H' → tu { nx := Pv (i + 1), rt := D.rt, bk := tz D, ct := Pv (i + 1) } (σ'.set j (some (.str ⟨#[c]⟩))) H')
    (hd : ∀ σ' H', Pv w.length σ' H' → tz D σ' H') : tSeq (tFor (iStr te) (gName j) tu) tz D σ H := by
  have ec : ∀ i, (SX.S w).cps[i]? = w[i]? := fun i => List.getElem?_toArray
  have es : (SX.S w).cps.size = w.length := List.size_toArray
  refine h H (Ex.refl H) _ fun H1 e1 => ⟨SX.S w, rfl, fun i m σ' H' => Pv i σ' H' ∧ i ≤ w.length ∧ w.length - i ≤ m, ⟨_, h0 H1 e1, Nat.zero_le _, Nat.le_refl _⟩, fun i m σ' H' p => ?_⟩
  obtain ⟨p, hi, hm⟩ := p
  by_cases hlt : i < w.length
  · refine .inr ⟨by show i < (SX.S w).cps.size; omega, fun σ2 H2 => Pv (i + 1) σ2 H2, fun σ2 H2 q => ⟨m - 1, by omega, q, hlt, by omega⟩, ?_⟩
    rintro x H2 ⟨rfl, c, hc, rfl⟩
    rw [ec] at hc
    exact hs i c σ' _ hc p
  · refine .inl ⟨by show (SX.S w).cps.size ≤ i; omega, ?_⟩
    rw [show i = w.length by omega] at p
    exact hd _ _ p
theorem q_callG {sp : Sp} {dvs vs : List V} {E : XK} {tr : TA} {g : TG} (h : EvA tr σ H vs) (k : ∀ H1, Ex H H1 → sp (vs ++ dvs) H1 (fun x H2 => g x σ H2 (tz D)) E) : tSeq (tAsg (tCall sp dvs E tr) g) tz D σ H := h H (Ex.refl H) _ fun H1 e1 => k H1 e1
end
theorem slice_mid {a : List Nat} {i j : Nat} (h : i ≤ j) (hj : j ≤ a.length) : Txt.slice (SX.S a) (some (i : Int)) (some (j : Int)) = SX.S ((a.drop i).take (j - i)) := by
  rw [← C8.cutS_slice]
  unfold cutS
  rw [SX.S_len, HT.sIx_nat, HT.sIx_nat, Nat.min_eq_left hj, Nat.min_eq_left (show i ≤ a.length by omega)]
theorem ev_slM {σ : L2.St} {H : Hp} {ta tl th : TE} {l : List Nat} {i j : Nat} (ha : Ev ta σ H (.str (SX.S l))) (hl : Ev tl σ H (.int (i : Int))) (hh : Ev th σ H (.int (j : Int))) (h : i ≤ j) (hj : j ≤ l.length) (hz : l.length ≤ 100000) : Ev (tSl C8.rSlX ta (tPart tl) (tPart th)) σ H (.str (SX.S ((l.drop i).take (j - i)))) := fun H1 e Q q =>
  ha H1 e _ fun H2 e2 => hl H2 (e.trans e2) _ fun H3 e3 => ⟨_, rfl, hh H3 ((e.trans e2).trans e3) _ fun H4 e4 => ⟨_, rfl, SX.S l, rfl, by rw [SX.S_len]; exact sz_of hz, by rw [slice_mid h hj]; exact q H4 ((e2.trans e3).trans e4)⟩⟩
theorem q_par2 {σ : L2.St} {H : Hp} {ta : TA} {D : Ends} {tz : TS} {i j : Nat} {x y : V} (h : EvA ta σ H [x, y]) (k : ∀ H1, Ex H H1 → tz D ((σ.set i (some x)).set j (some y)) H1) : tSeq (tPar i j ta) tz D σ H := h H (Ex.refl H) _ fun H1 e => ⟨x, y, rfl, k H1 e⟩
theorem q_par3 {σ : L2.St} {H : Hp} {ta : TA} {D : Ends} {tz : TS} {i j l : Nat} {x y z : V} (h : EvA ta σ H [x, y, z]) (k : ∀ H1, Ex H H1 → tz D (((σ.set i (some x)).set j (some y)).set l (some z)) H1) : tSeq (tPar3 i j l ta) tz D σ H := h H (Ex.refl H) _ fun H1 e => ⟨x, y, z, rfl, k H1 e⟩

def topS (i : Nat) : Stmt := PySem.Challenge.pw_stylobate_k76_changes_of_bags.main.body.getD i (.Pass ⟨0, 0, 0, 0⟩)
abbrev s_kind_rank : Stmt := topS 1
abbrev n_kind_rank : List Str := ["value"]
theorem sc_kind_rank : FnScope n_kind_rank ["value"] (C8.fnScope s_kind_rank) := C8.fnScope_by (by decide +kernel)
abbrev s_rank : Stmt := topS 2
abbrev n_rank : List Str := ["value", "kind"]
theorem sc_rank : FnScope n_rank ["value"] (C8.fnScope s_rank) := C8.fnScope_by (by decide +kernel)
abbrev s_row_rank : Stmt := topS 3
abbrev n_row_rank : List Str := ["row", "value"]
theorem sc_row_rank : FnScope n_row_rank ["row"] (C8.fnScope s_row_rank) := C8.fnScope_by (by decide +kernel)
abbrev s__how_often : Stmt := topS 5
abbrev n__how_often : List Str := ["rows", "found", "row", "key"]
theorem sc__how_often : FnScope n__how_often ["rows"] (C8.fnScope s__how_often) := C8.fnScope_by (by decide +kernel)
abbrev s__without_last : Stmt := topS 6
abbrev n__without_last : List Str := ["rows", "many", "left", "kept", "row", "key"]
theorem sc__without_last : FnScope n__without_last ["rows", "many"] (C8.fnScope s__without_last) := C8.fnScope_by (by decide +kernel)
abbrev s__without_first : Stmt := topS 7
abbrev n__without_first : List Str := ["rows", "many", "left", "kept", "row", "key"]
theorem sc__without_first : FnScope n__without_first ["rows", "many"] (C8.fnScope s__without_first) := C8.fnScope_by (by decide +kernel)
abbrev s_Change____init__ : Stmt := (C8.clsBody (topS 8)).getD 0 (.Pass ⟨0, 0, 0, 0⟩)
abbrev n_Change____init__ : List Str := ["self", "gone", "come", "row"]
theorem sc_Change____init__ : FnScope n_Change____init__ ["self", "gone", "come"] (C8.fnScope s_Change____init__) := C8.fnScope_by (by decide +kernel)
abbrev s_Change__small : Stmt := (C8.clsBody (topS 8)).getD 1 (.Pass ⟨0, 0, 0, 0⟩)
abbrev n_Change__small : List Str := ["self", "gone", "come", "both", "key"]
theorem sc_Change__small : FnScope n_Change__small ["self"] (C8.fnScope s_Change__small) := C8.fnScope_by (by decide +kernel)
abbrev s_Change__nothing : Stmt := (C8.clsBody (topS 8)).getD 2 (.Pass ⟨0, 0, 0, 0⟩)
abbrev n_Change__nothing : List Str := ["self"]
theorem sc_Change__nothing : FnScope n_Change__nothing ["self"] (C8.fnScope s_Change__nothing) := C8.fnScope_by (by decide +kernel)
abbrev s_changed_rows : Stmt := topS 9
abbrev n_changed_rows : List Str := ["rows", "change", "kept", "row"]
theorem sc_changed_rows : FnScope n_changed_rows ["rows", "change"] (C8.fnScope s_changed_rows) := C8.fnScope_by (by decide +kernel)
abbrev s__law_cell : Stmt := topS 11
abbrev n__law_cell : List Str := ["script", "k"]
theorem sc__law_cell : FnScope n__law_cell ["script", "k"] (C8.fnScope s__law_cell) := C8.fnScope_by (by decide +kernel)
abbrev s__law_state : Stmt := topS 12
abbrev n__law_state : List Str := ["cell", "k", "prime", "first", "second", "third", "fourth"]
theorem sc__law_state : FnScope n__law_state ["cell", "k"] (C8.fnScope s__law_state) := C8.fnScope_by (by decide +kernel)
abbrev s__law_digit : Stmt := topS 13
abbrev n__law_digit : List Str := ["state", "many", "digit"]
theorem sc__law_digit : FnScope n__law_digit ["state", "many"] (C8.fnScope s__law_digit) := C8.fnScope_by (by decide +kernel)
abbrev s__law_is_integer : Stmt := topS 14
abbrev n__law_is_integer : List Str := ["told"]
theorem sc__law_is_integer : FnScope n__law_is_integer ["told"] (C8.fnScope s__law_is_integer) := C8.fnScope_by (by decide +kernel)
abbrev s__law_rank : Stmt := topS 15
abbrev n__law_rank : List Str := ["value"]
theorem sc__law_rank : FnScope n__law_rank ["value"] (C8.fnScope s__law_rank) := C8.fnScope_by (by decide +kernel)
abbrev s__law_ranks : Stmt := topS 16
abbrev n__law_ranks : List Str := ["row", "value"]
theorem sc__law_ranks : FnScope n__law_ranks ["row"] (C8.fnScope s__law_ranks) := C8.fnScope_by (by decide +kernel)
abbrev s__law_bag : Stmt := topS 17
abbrev n__law_bag : List Str := ["rows", "row"]
theorem sc__law_bag : FnScope n__law_bag ["rows"] (C8.fnScope s__law_bag) := C8.fnScope_by (by decide +kernel)
abbrev s__law_same_rows : Stmt := topS 18
abbrev n__law_same_rows : List Str := ["told", "due", "k"]
theorem sc__law_same_rows : FnScope n__law_same_rows ["told", "due"] (C8.fnScope s__law_same_rows) := C8.fnScope_by (by decide +kernel)
abbrev s__law_same_bag : Stmt := topS 19
abbrev n__law_same_bag : List Str := ["told", "due", "row"]
theorem sc__law_same_bag : FnScope n__law_same_bag ["told", "due"] (C8.fnScope s__law_same_bag) := C8.fnScope_by (by decide +kernel)
abbrev s__law_text : Stmt := topS 20
abbrev n__law_text : List Str := ["state", "signs", "k"]
theorem sc__law_text : FnScope n__law_text ["state"] (C8.fnScope s__law_text) := C8.fnScope_by (by decide +kernel)
abbrev s__law_value : Stmt := topS 21
abbrev n__law_value : List Str := ["state", "kind"]
theorem sc__law_value : FnScope n__law_value ["state"] (C8.fnScope s__law_value) := C8.fnScope_by (by decide +kernel)
abbrev s__law_without : Stmt := topS 22
abbrev n__law_without : List Str := ["rows", "others", "left", "found", "row"]
theorem sc__law_without : FnScope n__law_without ["rows", "others"] (C8.fnScope s__law_without) := C8.fnScope_by (by decide +kernel)
abbrev s__law_more : Stmt := topS 23
abbrev n__law_more : List Str := ["rows", "others", "found", "row", "ranks", "more", "r"]
theorem sc__law_more : FnScope n__law_more ["rows", "others"] (C8.fnScope s__law_more) := C8.fnScope_by (by decide +kernel)
abbrev s__law_some_rows : Stmt := topS 24
abbrev n__law_some_rows : List Str := ["state", "many", "k"]
theorem sc__law_some_rows : FnScope n__law_some_rows ["state", "many"] (C8.fnScope s__law_some_rows) := C8.fnScope_by (by decide +kernel)
abbrev s_law : Stmt := topS 25
abbrev n_law : List Str := ["script", "state", "rows", "k", "gone", "j", "come", "given", "change", "small", "kept", "told", "due", "row"]
theorem sc_law : FnScope n_law ["script"] (C8.fnScope s_law) := C8.fnScope_by (by decide +kernel)
--@SPLIT
/-! ### a list that is drawn from: its one object may change -/
def wo (p : Addr) (H : Hp) : Hp := fun a => if a = p then none else H a
theorem wo_self (p : Addr) (H : Hp) : wo p H p = none := if_pos rfl
theorem wo_ne {p a : Addr} {H : Hp} (h : a ≠ p) : wo p H a = H a := if_neg h
theorem wo_le (p : Addr) (H : Hp) : Ex (wo p H) H := fun a o h => by
  unfold wo at h
  split at h
  · cases h
  · exact h
theorem wx_of {p : Addr} {H H' : Hp} (e : Ex H H') : Ex (wo p H) H' := (wo_le p H).trans e
theorem wx_trans {p : Addr} {H1 H2 H3 : Hp} (a : Ex (wo p H1) H2) (b : Ex (wo p H2) H3) : Ex (wo p H1) H3 := fun x o h => b x o (by
  have hx : x ≠ p := fun z => by
    rw [z, wo_self] at h
    cases h
  rw [wo_ne hx]
  exact a x o h)
theorem wx_back {p : Addr} {H0 H1 H2 : Hp} (h : H0 p = none) (e : Ex H0 H1) (x : Ex (wo p H1) H2) : Ex H0 H2 := fun a o ha => x a o (by
  have hx : a ≠ p := fun z => by
    rw [z, h] at ha
    cases ha
  rw [wo_ne hx]
  exact e a o ha)
theorem wx_to {p : Addr} {H0 H1 : Hp} (h : H0 p = none) (e : Ex H0 H1) : Ex H0 (wo p H1) := wx_back h e (fun _ _ z => z)
theorem wx_mut {p : Addr} {H1 H2 : Hp} {o : HO} (e : Ex (wo p H1) H2) : Ex (wo p H1) (upd H2 p o) := Ex.mut e (wo_self p H1)
def Dr (p : Addr) (H : Hp) : Prop := ∃ s : Int, 0 ≤ s ∧ H p = some (.lst [.int s])
theorem Dr.ex {p : Addr} {H H' : Hp} (d : Dr p H) (e : Ex H H') : Dr p H' := by
  obtain ⟨s, h0, h⟩ := d
  exact ⟨s, h0, e _ _ h⟩
/-- a value that is drawn: one of those with the word P -/
def EvD1 (te : TE) (σ : L2.St) (p : Addr) (H : Hp) (P : V → Prop) : Prop := ∀ H1, Ex (wo p H) H1 → Dr p H1 → ∀ Q : VK, (∀ v H2, P v → Ex (wo p H1) H2 → Dr p H2 → Q v H2) → te σ H1 Q
def EvDT (tt : TT) (σ : L2.St) (p : Addr) (H : Hp) (P : Bool → Prop) : Prop := ∀ H1, Ex (wo p H) H1 → Dr p H1 → ∀ Q : Bool → Hp → Prop, (∀ b H2, P b → Ex (wo p H1) H2 → Dr p H2 → Q b H2) → tt σ H1 Q
def ZP (P : Int → Prop) : V → Prop := fun v => ∃ i, v = .int i ∧ P i
/-- a value of which a word alone is known, all else as it was -/
def EvN (te : TE) (σ : L2.St) (H : Hp) (P : V → Prop) : Prop := ∀ H1, Ex H H1 → ∀ Q : VK, (∀ v H2, P v → Ex H1 H2 → Q v H2) → te σ H1 Q
/-- a new list to draw from -/
def EvC (te : TE) (σ : L2.St) (H : Hp) : Prop := ∀ H1, Ex H H1 → ∀ Q : VK, (∀ p H2, H1 p = none → Ex H1 H2 → Dr p H2 → Q (.ref p) H2) → te σ H1 Q
def sp__law_cell (K : PySem.W.Frag) : Sp := fun vs H Q _ => ∃ (a : Addr) (ns : List Int) (k : Int), vs = [.ref a, .int k] ∧ SqL K H a (ns.map V.int) ∧ 0 ≤ k ∧ ∀ H', Ex H H' → Q (.int (ns.getD k.toNat 0)) H'
def sp__law_state (K : PySem.W.Frag) : Sp := fun vs H Q _ => ∃ c k : Int, vs = [.int c, .int k] ∧ ∀ p H', H p = none → Ex H H' → Dr p H' → Q (.ref p) H'
def sp__law_digit (K : PySem.W.Frag) : Sp := fun vs H Q _ => ∃ (p : Addr) (m : Int), vs = [.ref p, .int m] ∧ Dr p H ∧ 0 < m ∧ m < 2 ^ 400 ∧ ∀ d H', 0 ≤ d → d < m → Ex (wo p H) H' → Dr p H' → Q (.int d) H'
section
variable {K : PySem.W.Frag} {σ : L2.St} {H H' : Hp} {p : Addr} {ta tb te tx : TE} {t u : TT} {x y z v : V} {r : R2} {P R S : V → Prop} {PI RI SI : Int → Prop} {D : Ends} {tz tu tw : TS} {E : XK}
theorem e1_pure (h : Ev te σ (wo p H) v) (hv : P v) : EvD1 te σ p H P := fun H1 e d Q q => h H1 e Q fun H2 e2 => q v H2 hv (wx_of e2) (d.ex e2)
theorem e1_int {i : Int} (h : Ev te σ (wo p H) (.int i)) (hv : PI i) : EvD1 te σ p H (ZP PI) := e1_pure h ⟨i, rfl, hv⟩
theorem e1_mono (h : EvD1 te σ p H P) (k : ∀ v, P v → R v) : EvD1 te σ p H R := fun H1 e d Q q => h H1 e d Q fun v H2 hv e2 d2 => q v H2 (k v hv) e2 d2
theorem ez_mono (h : EvD1 te σ p H (ZP PI)) (k : ∀ i, PI i → RI i) : EvD1 te σ p H (ZP RI) := e1_mono h fun v ⟨i, e, hi⟩ => ⟨i, e, k i hi⟩
theorem ez_op {C : Int → Int → Prop} {g : Int → Int → Int} (ha : EvD1 ta σ p H (ZP PI)) (hb : EvD1 tb σ p H (ZP RI)) (hc : ∀ i j, PI i → RI j → C i j ∧ SI (g i j)) : EvD1 (tOp (rI C fun i j => .int (g i j)) ta tb) σ p H (ZP SI) := fun H1 e d Q q =>
  ha H1 e d _ fun v H2 ⟨i, ev, hi⟩ e2 d2 => hb H2 (wx_trans e e2) d2 _ fun w H3 ⟨j, ew, hj⟩ e3 d3 => ⟨i, j, ev, ew, (hc i j hi hj).1, q _ H3 ⟨_, rfl, (hc i j hi hj).2⟩ (wx_trans e2 e3) d3⟩
theorem ez_op0 {g : Int → Int → Int} (ha : EvD1 ta σ p H (ZP PI)) (hb : EvD1 tb σ p H (ZP RI)) (hc : ∀ i j, PI i → RI j → SI (g i j)) : EvD1 (tOp (rI0 fun i j => .int (g i j)) ta tb) σ p H (ZP SI) := fun H1 e d Q q =>
  ha H1 e d _ fun v H2 ⟨i, ev, hi⟩ e2 d2 => hb H2 (wx_trans e e2) d2 _ fun w H3 ⟨j, ew, hj⟩ e3 d3 => ⟨i, j, ev, ew, q _ H3 ⟨_, rfl, hc i j hi hj⟩ (wx_trans e2 e3) d3⟩
theorem ez_cmp {g : Int → Int → Bool} (ha : EvD1 ta σ p H (ZP PI)) (hb : EvD1 tb σ p H (ZP RI)) : EvD1 (tOp (rI0 fun i j => .bl (g i j)) ta tb) σ p H (fun v => ∃ b, v = .bl b) := fun H1 e d Q q =>
  ha H1 e d _ fun v H2 ⟨i, ev, hi⟩ e2 d2 => hb H2 (wx_trans e e2) d2 _ fun w H3 ⟨j, ew, hj⟩ e3 d3 => ⟨i, j, ev, ew, q _ H3 ⟨_, rfl⟩ (wx_trans e2 e3) d3⟩
theorem ez_eq (ha : EvD1 ta σ p H (ZP PI)) (hb : EvD1 tb σ p H (ZP RI)) : EvD1 (tOp rEq ta tb) σ p H (fun v => ∃ b, v = .bl b) := fun H1 e d Q q =>
  ha H1 e d _ fun v H2 ⟨i, ev, hi⟩ e2 d2 => hb H2 (wx_trans e e2) d2 _ fun w H3 ⟨j, ew, hj⟩ e3 d3 => by
    subst ev ew
    exact ⟨rfl, q _ H3 ⟨_, rfl⟩ (wx_trans e2 e3) d3⟩
theorem ez_int (h : EvD1 ta σ p H (ZP PI)) : EvD1 (tCB (fun xs H Q => (∃ i, xs = [.int i] ∧ Q (.int i) H) ∨ ∃ k, xs = [.bl k] ∧ Q (.int (if k then 1 else 0)) H) (tCons ta tNil)) σ p H (ZP PI) :=
  fun H1 e d Q q => h H1 e d _ fun v H2 ⟨i, ev, hi⟩ e2 d2 => .inl ⟨i, by rw [ev], q _ H2 ⟨i, rfl, hi⟩ e2 d2⟩
/-- _law_digit(state, m) -/
theorem ez_digit {m : Int} (ha : Ev ta σ (wo p H) (.ref p)) (hb : Ev tb σ (wo p H) (.int m)) (h0 : 0 < m) (h1 : m < 2 ^ 400) : EvD1 (tCall (sp__law_digit K) [] E (tCons ta (tCons tb tNil))) σ p H (ZP fun d => 0 ≤ d ∧ d < m) := fun H1 e d Q q =>
  ha H1 e _ fun H2 e2 => hb H2 (e.trans e2) _ fun H3 e3 => ⟨p, m, rfl, d.ex (e2.trans e3), h0, h1, fun d H4 a b e4 d4 => q _ H4 ⟨d, rfl, a, b⟩ (wx_trans (wx_of (e2.trans e3)) e4) d4⟩
theorem edt_test (h : EvD1 te σ p H (fun v => ∃ b, v = .bl b)) : EvDT (tTest te) σ p H (fun _ => True) := fun H1 e d Q q => h H1 e d _ fun v H2 ⟨b, ev⟩ e2 d2 => ⟨b, ev, q b H2 trivial e2 d2⟩
theorem q1_asg {i : Nat} (h : EvD1 te σ p H P) (d : Dr p H) (k : ∀ v H1, P v → Ex (wo p H) H1 → Dr p H1 → tz D (σ.set i (some v)) H1) : tSeq (tAsg te (gName i)) tz D σ H := h H (wo_le p H) d _ fun v H1 hv e1 d1 => k v H1 hv e1 d1
theorem qz_asg {i : Nat} (h : EvD1 te σ p H (ZP PI)) (d : Dr p H) (k : ∀ (n : Int) H1, PI n → Ex (wo p H) H1 → Dr p H1 → tz D (σ.set i (some (.int n))) H1) : tSeq (tAsg te (gName i)) tz D σ H := q1_asg h d fun v H1 ⟨n, ev, hn⟩ e1 d1 => by
  subst ev
  exact k n H1 hn e1 d1
theorem s1_ret (h : EvD1 te σ p H P) (d : Dr p H) (k : ∀ v H1, P v → Ex (wo p H) H1 → Dr p H1 → D.rt v H1) : tRet te D σ H := h H (wo_le p H) d _ fun v H1 hv e1 d1 => k v H1 hv e1 d1
theorem q1_when (h : EvDT t σ p H (fun _ => True)) (d : Dr p H) (h1 : ∀ H1, Ex (wo p H) H1 → Dr p H1 → tu { D with nx := tz D } σ H1) (h2 : ∀ H1, Ex (wo p H) H1 → Dr p H1 → tz D σ H1) : tSeq (tIfS t tu tNext) tz D σ H := h H (wo_le p H) d _ fun b H1 _ e1 d1 => by
  cases b with
  | true =>
    show tu { D with nx := tz D } σ H1
    exact h1 H1 e1 d1
  | false =>
    show tz D σ H1
    exact h2 H1 e1 d1
/-- _law_cell(script, i), _law_state(cell, k) -/
theorem ec_cell {a : Addr} {ns : List Int} {k : Int} (ha : Ev ta σ H (.ref a)) (hb : Ev tb σ H (.int k)) (hS : SqL K H a (ns.map V.int)) (h0 : 0 ≤ k) : Ev (tCall (sp__law_cell K) [] E (tCons ta (tCons tb tNil))) σ H (.int (ns.getD k.toNat 0)) :=
  ev_call (ea_cons ha (ea_cons hb ea_nil)) fun H1 e Q q E => ⟨a, ns, k, rfl, ex_l e hS, h0, q⟩
theorem ec_state {c k : Int} (ha : Ev ta σ H (.int c)) (hb : Ev tb σ H (.int k)) : EvC (tCall (sp__law_state K) [] E (tCons ta (tCons tb tNil))) σ H := fun H1 e Q q =>
  ha H1 e _ fun H2 e2 => hb H2 (e.trans e2) _ fun H3 e3 => ⟨c, k, rfl, fun p H4 hp e4 d => q p H4 (fresh_back (e2.trans e3) hp) ((e2.trans e3).trans e4) d⟩
theorem q_asgC {i : Nat} (h : EvC te σ H) (k : ∀ p H1, H p = none → Ex H H1 → Dr p H1 → tz D (σ.set i (some (.ref p))) H1) : tSeq (tAsg te (gName i)) tz D σ H := h H (Ex.refl H) _ fun p H1 hp e d => k p H1 hp e d
theorem EvN.mono (e : Ex H H') (h : EvN te σ H P) : EvN te σ H' P := fun H1 a Q q => h H1 (e.trans a) Q q
theorem q_asgN {i : Nat} (h : EvN te σ H P) (k : ∀ v H1, P v → Ex H H1 → tz D (σ.set i (some v)) H1) : tSeq (tAsg te (gName i)) tz D σ H := h H (Ex.refl H) _ fun v H1 hv e => k v H1 hv e
theorem s_appN {l : Addr} {xs : List V} (hl : H l = some (.lst xs)) (ha : Ev ta σ H (.ref l)) (h : EvN te σ H P) (hz : xs.length < 100000) (k : ∀ v H1, P v → Ex H H1 → D.nx σ (upd H1 l (.lst (xs ++ [v])))) :
    tDrop (tBM K "list" rAppend ta (tCons te tNil)) D σ H := ha H (Ex.refl H) _ fun H1 e1 =>
  ⟨Or.inl ⟨rfl, xs, sq_of (e1 l _ hl)⟩, h H1 e1 _ fun v H2 hv e2 => ⟨l, xs, v, rfl, rfl, e2 l _ (e1 l _ hl), sz_lt hz, k v H2 hv (e1.trans e2)⟩⟩
end
section
variable {P : Program} {w : World} {K : PySem.W.Frag} {mg : Str → Option Value} {base : Heap}
theorem ok__law_cell (D : Dn K mg "_law_cell" s__law_cell ["script", "k"]) (z_len : mg "len" = none) :
    C8.Cal P w K mg base 1 "_law_cell" (sp__law_cell K) [] := by
  refine cal_of D sc__law_cell (fun vs H Q E h => ?_) (fun f cdv A outer s H vs Q E hr h => ?_)
  · obtain ⟨_, _, _, rfl, _⟩ := h
    rfl
  refine ⟨_, (pss_cons (ps_if (pt_cmpR op_lt (pv 1) (pe_callB call_len_seq (by rfl) z_len PySem.boot_len (pa_cons (pv 0) pa_nil)) (nomark _))
      (pss_one (ps_ret (pe_ix ix_list (pv 0) (pv 1) (fun _ _ => rfl))))
      pss_nil)
    (pss_one (ps_ret pe_int))), ?_⟩
  obtain ⟨a, ns, k, rfl, hS, h0, q⟩ := h
  refine q_when (b := decide (k < (((ns.map V.int).length : Nat) : Int))) (et_test (ev_op (ev_var rfl) (ev_len (ev_var rfl) hS) rv_I0)) (fun hb H1 e1 => ?_) fun hb H1 e1 => ?_
  · have hk : k.toNat < ns.length := by
      have := of_decide_eq_true hb
      rw [List.length_map] at this
      omega
    refine s_ret (v := .int (ns.getD k.toNat 0)) (ev_op (ev_var rfl) (ev_var rfl) (rv_ixL (ex_l e1 hS) ?_)) fun H2 e2 => q _ (e1.trans e2)
    obtain ⟨j, rfl⟩ := Int.eq_ofNat_of_zero_le h0
    rw [Int.toNat_natCast] at hk ⊢
    exact atI_nat (by rw [List.getElem?_map, List.getElem?_eq_getElem hk, List.getD_eq_getElem?_getD, List.getElem?_eq_getElem hk]; rfl)
  · have hk : ns.length ≤ k.toNat := by
      have := of_decide_eq_false hb
      rw [List.length_map] at this
      omega
    refine s_ret (v := .int (ns.getD k.toNat 0)) (ev_is ev_c ?_) fun H2 e2 => q _ (e1.trans e2)
    rw [List.getD_eq_getElem?_getD, List.getElem?_eq_none hk]
    rfl
theorem ok__law_state (D : Dn K mg "_law_state" s__law_state ["cell", "k"]) (z_int : mg "int" = none) :
    C8.Cal P w K mg base 1 "_law_state" (sp__law_state K) [] := by
  refine cal_of D sc__law_state (fun vs H Q E h => ?_) (fun f cdv A outer s H vs Q E hr h => ?_)
  · obtain ⟨_, _, rfl, _⟩ := h
    rfl
  refine ⟨_, (pss_cons (ps_if (pt_cmpR op_ge (pv 0) pe_int (nomark _))
      (pss_one (ps_ret (pe_lst (pa_cons (pv 0) pa_nil))))
      pss_nil)
    (pss_cons (ps_set (i := 2) sc__law_state.nd rfl (.inl rfl) pe_int)
    (pss_cons (ps_set (i := 3) sc__law_state.nd rfl (.inl rfl) (pe_op op_mod (pe_callTy call_int1 (by rfl) z_int (by decide +kernel) (pa_cons (pe_op op_add (pe_op op_add (pe_op op_mul (pv 0) pe_int) (pe_op op_mul (pe_op op_add (pv 1) pe_int) pe_int)) pe_int) pa_nil)) (pv 2)))
    (pss_cons (ps_set (i := 4) sc__law_state.nd rfl (.inl rfl) (pe_op op_mod (pe_callTy call_int1 (by rfl) z_int (by decide +kernel) (pa_cons (pe_op op_add (pe_op op_add (pe_op op_mulX (pv 3) (pv 3)) (pe_op op_mul pe_int (pv 3))) (pv 1)) pa_nil)) (pv 2)))
    (pss_cons (ps_set (i := 5) sc__law_state.nd rfl (.inl rfl) (pe_op op_mod (pe_callTy call_int1 (by rfl) z_int (by decide +kernel) (pa_cons (pe_op op_add (pe_op op_add (pe_op op_mul (pv 4) pe_int) (pe_op op_mul (pv 3) pe_int)) pe_int) pa_nil)) (pv 2)))
    (pss_cons (ps_set (i := 6) sc__law_state.nd rfl (.inl rfl) (pe_op op_mod (pe_callTy call_int1 (by rfl) z_int (by decide +kernel) (pa_cons (pe_op op_add (pe_op op_mulX (pv 5) (pv 5)) (pv 4)) pa_nil)) (pv 2)))
    (pss_one (ps_ret (pe_lst (pa_cons (pe_op op_add (pe_op op_mul (pe_op op_add (pe_op op_mul (pe_op op_add (pe_op op_mul (pv 6) (pv 2)) (pv 5)) (pv 2)) (pv 4)) (pv 2)) (pv 3)) pa_nil)))))))))), ?_⟩
  obtain ⟨c, k, rfl, q⟩ := h
  refine q_when (b := decide (c ≥ 1000000000000000000)) (et_test (ev_op (ev_var rfl) ev_c rv_I0)) (fun hb H1 e1 => ?_) fun hb H1 e1 => ?_
  · exact s_retL (el_lst (ea_cons (ev_var rfl) ea_nil) (by show 1 ≤ 100000; decide)) fun p H2 hp e2 h2 => q p H2 (fresh_back e1 hp) (e1.trans e2) ⟨c, by have := of_decide_eq_true hb; omega, h2⟩
  refine q_asg (v := .int 2305843009213693951) ev_c fun H2 e2 => ?_
  have mp : ∀ n : Int, 0 ≤ n % 2305843009213693951 ∧ n % 2305843009213693951 < 2305843009213693951 := fun n => by omega
  have mb : ∀ i j : Int, 0 ≤ i ∧ i < 2305843009213693951 → 0 ≤ j ∧ j < 2305843009213693951 → CMulX i j := fun i j hi hj => mulx_ok (a := 61) (b := 61) (by omega) (by omega) (by decide)
  refine q_asg (v := .int ((c * 6364136223 + (k + 1) * 104729 + 77) % 2305843009213693951)) ?_ fun H3 e3 => ?_
  · exact ev_op (ev_int (ev_op (ev_op (ev_op (ev_var rfl) ev_c (rv_I (.inr ⟨by decide, by decide⟩))) (ev_op (ev_op (ev_var rfl) ev_c rv_I0) ev_c (rv_I (.inr ⟨by decide, by decide⟩))) rv_I0) ev_c rv_I0)) (ev_var rfl) (rv_I (by decide))
  have h1 := mp (c * 6364136223 + (k + 1) * 104729 + 77)
  generalize (c * 6364136223 + (k + 1) * 104729 + 77) % 2305843009213693951 = f1 at *
  refine q_asg (v := .int ((f1 * f1 + 1013 * f1 + k) % 2305843009213693951)) ?_ fun H4 e4 => ?_
  · exact ev_op (ev_int (ev_op (ev_op (ev_op (ev_var rfl) (ev_var rfl) (rv_I (mb _ _ h1 h1))) (ev_op ev_c (ev_var rfl) (rv_I (.inl ⟨by decide, by decide⟩))) rv_I0) (ev_var rfl) rv_I0)) (ev_var rfl) (rv_I (by decide))
  have h2 := mp (f1 * f1 + 1013 * f1 + k)
  generalize (f1 * f1 + 1013 * f1 + k) % 2305843009213693951 = f2 at *
  refine q_asg (v := .int ((f2 * 48271 + f1 * 31 + 9) % 2305843009213693951)) ?_ fun H5 e5 => ?_
  · exact ev_op (ev_int (ev_op (ev_op (ev_op (ev_var rfl) ev_c (rv_I (.inr ⟨by decide, by decide⟩))) (ev_op (ev_var rfl) ev_c (rv_I (.inr ⟨by decide, by decide⟩))) rv_I0) ev_c rv_I0)) (ev_var rfl) (rv_I (by decide))
  have h3 := mp (f2 * 48271 + f1 * 31 + 9)
  generalize (f2 * 48271 + f1 * 31 + 9) % 2305843009213693951 = f3 at *
  refine q_asg (v := .int ((f3 * f3 + f2) % 2305843009213693951)) ?_ fun H6 e6 => ?_
  · exact ev_op (ev_int (ev_op (ev_op (ev_var rfl) (ev_var rfl) (rv_I (mb _ _ h3 h3))) (ev_var rfl) rv_I0)) (ev_var rfl) (rv_I (by decide))
  have h4 := mp (f3 * f3 + f2)
  generalize (f3 * f3 + f2) % 2305843009213693951 = f4 at *
  refine s_retL (xs := [.int (((f4 * 2305843009213693951 + f3) * 2305843009213693951 + f2) * 2305843009213693951 + f1)]) (el_lst (ea_cons ?_ ea_nil) (by show 1 ≤ 100000; decide)) fun p H7 hp e7 h7 => ?_
  · exact ev_op (ev_op (ev_op (ev_op (ev_op (ev_op (ev_var rfl) (ev_var rfl) (rv_I (.inr ⟨by decide, by decide⟩))) (ev_var rfl) rv_I0) (ev_var rfl) (rv_I (.inr ⟨by decide, by decide⟩))) (ev_var rfl) rv_I0) (ev_var rfl) (rv_I (.inr ⟨by decide, by decide⟩))) (ev_var rfl) rv_I0
  have x6 := ((((e1.trans e2).trans e3).trans e4).trans e5).trans e6
  exact q p H7 (fresh_back x6 hp) (x6.trans e7) ⟨_, by omega, h7⟩
theorem ok__law_digit (D : Dn K mg "_law_digit" s__law_digit ["state", "many"]) (z_int : mg "int" = none) :
    C8.Cal P w K mg base 1 "_law_digit" (sp__law_digit K) [] := by
  refine cal_of D sc__law_digit (fun vs H Q E h => ?_) (fun f cdv A outer s H vs Q E hr h => ?_)
  · obtain ⟨_, _, rfl, _⟩ := h
    rfl
  refine ⟨_, (pss_cons (ps_set (i := 2) sc__law_digit.nd rfl (.inl rfl) (pe_op op_mod (pe_callTy call_int1 (by rfl) z_int (by decide +kernel) (pa_cons (pe_ix ix_list (pv 0) pe_int (fun _ _ => rfl)) pa_nil)) (pv 1)))
    (pss_cons (ps_asg (pe_op op_fdivW (pe_ix ix_list (pv 0) pe_int (fun _ _ => rfl)) (pv 1)) (pg_sub (pv 0) pe_int set_list))
    (pss_one (ps_ret (pv 2))))), ?_⟩
  obtain ⟨p, m, rfl, ⟨s, s0, hp⟩, m0, m1, q⟩ := h
  refine q_asg (v := .int (s % m)) (ev_op (ev_int (ev_op (ev_var rfl) ev_c (rv_ixL (sq_of hp) rfl))) (ev_var rfl) (rv_I m0)) fun H1 e1 => ?_
  refine q_setL (v := .int (s / m)) (j := 0) (e1 _ _ hp) (ev_op (ev_op (ev_var rfl) ev_c (rv_ixL (sq_of (e1 _ _ hp)) rfl)) (ev_var rfl) (rv_I (wide_div (b := 400) m0 (by omega) (by decide) (by decide)))) (ev_var rfl) ev_c (by show 0 < 1; decide) fun H2 e2 => ?_
  exact s_ret (ev_var rfl) fun H3 e3 => q (s % m) H3 (Int.emod_nonneg _ (by omega)) (Int.emod_lt_of_pos _ m0) ((Ex.mut ((wo_le p H).trans (e1.trans e2)) (wo_self p H)).trans e3) ⟨s / m, Int.ediv_nonneg s0 (by omega), e3 _ _ upd_same⟩
end
section
variable {K : PySem.W.Frag} {σ : L2.St} {H : Hp} {p : Addr} {ta tb te : TE} {P : V → Prop} {D : Ends} {tz : TS}
/-- xs[i] = what is drawn -/
theorem q1_setL {l : Addr} {xs : List V} {j : Nat} (hl : wo p H l = some (.lst xs)) (h : EvD1 te σ p H P) (d : Dr p H) (ho : Ev ta σ (wo p H) (.ref l)) (hi : Ev tb σ (wo p H) (.int (j : Int))) (hj : j < xs.length) (k : ∀ v H1, P v → Ex (wo p H) H1 → Dr p H1 → tz D σ (upd H1 l (.lst (xs.set j v)))) :
    tSeq (tAsg te (gSub ta tb rSetL)) tz D σ H := h H (wo_le p H) d _ fun v H1 hv e1 d1 => ho H1 e1 _ fun H2 e2 => hi H2 (e1.trans e2) _ fun H3 e3 =>
  ⟨l, xs, (j : Int), j, rfl, rfl, ((e1.trans e2).trans e3) l _ hl, ixN_nat hj, k v H3 hv ((e1.trans e2).trans e3) (d1.ex (e2.trans e3))⟩
/-- a digit of a list that is new -/
theorem en_digit {m : Int} {E : XK} (ha : EvC ta σ H) (hb : Ev tb σ H (.int m)) (h0 : 0 < m) (h1 : m < 2 ^ 400) : EvN (tCall (sp__law_digit K) [] E (tCons ta (tCons tb tNil))) σ H (ZP fun d => 0 ≤ d ∧ d < m) := fun H1 e Q q =>
  ha H1 e _ fun p H2 hp e2 d2 => hb H2 (e.trans e2) _ fun H3 e3 => ⟨p, m, rfl, d2.ex e3, h0, h1, fun d H4 a b e4 _ => q _ H4 ⟨d, rfl, a, b⟩ (wx_back hp (e2.trans e3) e4)⟩
end
section
variable {K : PySem.W.Frag} {σ : L2.St} {H : Hp} {p : Addr} {te : TE} {t : TT} {P : V → Prop} {D : Ends} {tu : TS}
theorem s1_asg {i : Nat} (h : EvD1 te σ p H P) (d : Dr p H) (k : ∀ v H1, P v → Ex (wo p H) H1 → Dr p H1 → D.nx (σ.set i (some v)) H1) : tAsg te (gName i) D σ H := h H (wo_le p H) d _ fun v H1 hv e1 d1 => k v H1 hv e1 d1
theorem s1_when (h : EvDT t σ p H (fun _ => True)) (d : Dr p H) (h1 : ∀ H1, Ex (wo p H) H1 → Dr p H1 → tu D σ H1) (h2 : ∀ H1, Ex (wo p H) H1 → Dr p H1 → D.nx σ H1) : tIfS t tu tNext D σ H := h H (wo_le p H) d _ fun b H1 _ e1 d1 => by
  cases b with
  | true =>
    show tu D σ H1
    exact h1 H1 e1 d1
  | false =>
    show D.nx σ H1
    exact h2 H1 e1 d1
end

/-! ### lists compared, cut; list as a type -/
theorem cut_take {xs : List V} {m : Nat} (h : m ≤ xs.length) : cutV xs none (some (m : Int)) = xs.take m := by
  unfold cutV
  rw [HT.sIx_none, HT.sIx_nat, List.drop_zero, Nat.sub_zero, Nat.min_eq_left h]
theorem eqv_intsL : ∀ ns ms : List Int, PyData.eqv (.list (ns.map PyData.int)) (.list (ms.map PyData.int)) = decide (ns = ms)
  | [], [] => rfl
  | [], _ :: _ => rfl
  | _ :: _, [] => rfl
  | n :: r, m :: t => by
    have ih := eqv_intsL r t
    show ((n == m) && PyData.eqv (.list (r.map PyData.int)) (.list (t.map PyData.int))) = _
    rw [ih, Bool.eq_iff_iff, Bool.and_eq_true, decide_eq_true_eq, decide_eq_true_eq, beq_iff_eq, List.cons.injEq]
theorem rv_neL {K : PySem.W.Frag} {H : Hp} {p q : Addr} {ns ms : List Int} (hp : SqL K H p (ns.map V.int)) (hq : SqL K H q (ms.map V.int)) : RV (rNeD K) (.ref p) (.ref q) H (.bl (!decide (ns = ms))) := fun H1 e Q k =>
  ⟨_, _, .lst (ex_l e hp) (dp_ints ns), .lst (ex_l e hq) (dp_ints ms), PySem.W.ke_shaped_ints _, PySem.W.ke_shaped_ints _, by rw [eqv_intsL]; exact k H1 (Ex.refl H1)⟩
theorem tx_lst {K : PySem.W.Frag} {H : Hp} {a : Addr} {xs : List V} (h : H a = some (.lst xs)) : ∀ H1, Ex H H1 → TyX K H1 (.ref a) (.type "list") := fun H1 e => .base (.lst (e _ _ h))
theorem given_all (n : Nat) (v : Nat → V) : given n (fun _ => true) v = (List.range n).map v := by
  unfold given
  rw [List.filter_eq_self.mpr (fun _ _ => rfl)]
theorem foldl_take {α β : Type} {f : β → α → β} {l : List α} {i : Nat} {x : α} {b : β} (h : l[i]? = some x) : (l.take (i + 1)).foldl f b = f ((l.take i).foldl f b) x := by
  rw [List.take_add_one, h, List.foldl_append]
  rfl
theorem ix_listK {X : Cx} {K : PySem.W.Frag} (h : X.K = K) : IxR X (rIxL K) := h ▸ ix_list
theorem call_len_seqK {X : Cx} {K : PySem.W.Frag} (h : X.K = K) : CallR X (.builtin "len") (fun xs H Q => ∃ p ys, xs = [V.ref p] ∧ (SqL K H p ys ∨ SqT K H p ys) ∧ Q (V.int ys.length) H) := h ▸ call_len_seq
theorem ix_tupK {X : Cx} {K : PySem.W.Frag} (h : X.K = K) : IxR X (rIxT K) := h ▸ ix_tup

/-! ### lists of objects, each with a word of its own -/
def Al2 {α : Type} (R : Hp → Addr → α → Prop) (H : Hp) (qs : List Addr) (L : List α) : Prop := qs.length = L.length ∧ ∀ (i : Nat) q l, qs[i]? = some q → L[i]? = some l → R H q l
def Lst2 {α : Type} (R : Hp → Addr → α → Prop) (H : Hp) (p : Addr) (L : List α) : Prop := ∃ qs, H p = some (.lst (qs.map V.ref)) ∧ Al2 R H qs L
section
variable {α : Type} {R S : Hp → Addr → α → Prop} {H H' : Hp} {qs : List Addr} {L : List α}
theorem Al2.nil : Al2 R H [] [] := ⟨rfl, fun i q l h => by simp at h⟩
theorem Al2.mono (h : Al2 R H qs L) (k : ∀ q l, l ∈ L → R H q l → S H' q l) : Al2 S H' qs L := ⟨h.1, fun i q l a b => k q l (List.mem_of_getElem? b) (h.2 i q l a b)⟩
theorem Al2.snoc {q : Addr} {l : α} (h : Al2 R H qs L) (hr : R H q l) : Al2 R H (qs ++ [q]) (L ++ [l]) := by
  refine ⟨by rw [List.length_append, List.length_append, h.1, List.length_cons, List.length_cons]; rfl, fun i q' l' a b => ?_⟩
  by_cases hi : i < qs.length
  · rw [List.getElem?_append_left hi] at a
    rw [List.getElem?_append_left (by rw [← h.1]; exact hi)] at b
    exact h.2 i q' l' a b
  · rw [List.getElem?_append_right (by omega)] at a
    rw [List.getElem?_append_right (by rw [← h.1]; omega)] at b
    have e : i - qs.length = 0 := by
      by_cases z : i - qs.length = 0
      · exact z
      · rw [List.getElem?_eq_none (by show 1 ≤ _; omega)] at a; cases a
    rw [e] at a
    rw [← h.1, e] at b
    cases a
    cases b
    exact hr
theorem Al2.get (h : Al2 R H qs L) {i : Nat} (hi : i < L.length) : ∃ q, qs[i]? = some q ∧ R H q L[i] := by
  have hq : i < qs.length := by rw [h.1]; exact hi
  exact ⟨qs[i], List.getElem?_eq_getElem hq, h.2 i _ _ (List.getElem?_eq_getElem hq) (List.getElem?_eq_getElem hi)⟩
end
/-- an object that is new -/
def EvR (R : Hp → Addr → Prop) (te : TE) (σ : L2.St) (H : Hp) : Prop := ∀ H1, Ex H H1 → ∀ Q : VK, (∀ p H2, H1 p = none → Ex H1 H2 → R H2 p → Q (.ref p) H2) → te σ H1 Q
theorem slice_any {a : List Nat} {i j : Nat} : Txt.slice (SX.S a) (some (i : Int)) (some (j : Int)) = SX.S ((a.take j).drop i) := by
  rw [← C8.cutS_slice]
  unfold cutS
  rw [SX.S_len, HT.sIx_nat, HT.sIx_nat]
  refine congrArg SX.S ?_
  show (a.drop (min i a.length)).take (min j a.length - min i a.length) = (a.take j).drop i
  rw [List.drop_take]
  by_cases hi : i ≤ a.length
  · rw [Nat.min_eq_left hi]
    by_cases hj : j ≤ a.length
    · rw [Nat.min_eq_left hj]
    · rw [Nat.min_eq_right (show a.length ≤ j by omega), List.take_of_length_le (by rw [List.length_drop]; omega), List.take_of_length_le (by rw [List.length_drop]; omega)]
  · rw [Nat.min_eq_right (show a.length ≤ i by omega), List.drop_eq_nil_of_le (Nat.le_refl _), List.drop_eq_nil_of_le (by omega)]
    simp
theorem ev_slA {σ : L2.St} {H : Hp} {ta tl th : TE} {l : List Nat} {i j : Nat} (ha : Ev ta σ H (.str (SX.S l))) (hl : Ev tl σ H (.int (i : Int))) (hh : Ev th σ H (.int (j : Int))) (hz : l.length ≤ 100000) : Ev (tSl C8.rSlX ta (tPart tl) (tPart th)) σ H (.str (SX.S ((l.take j).drop i))) := fun H1 e Q q =>
  ha H1 e _ fun H2 e2 => hl H2 (e.trans e2) _ fun H3 e3 => ⟨_, rfl, hh H3 ((e.trans e2).trans e3) _ fun H4 e4 => ⟨_, rfl, SX.S l, rfl, by rw [SX.S_len]; exact sz_of hz, by rw [slice_any]; exact q H4 ((e2.trans e3).trans e4)⟩⟩
theorem getD_S (t : List Nat) (v : Nat) : (SX.S t).cps.getD v 0 = t.getD v 0 := by
  show t.toArray.getD v 0 = t.getD v 0
  rw [Array.getD_eq_getD_getElem?, List.getD_eq_getElem?_getD, List.getElem?_toArray]
/-- the first c at or behind i -/
theorem find3_at {t a m : List Nat} {c i : Nat} (h : t.drop i = a ++ c :: m) (ha : c ∉ a) : Txt.find3 (SX.S t) (SX.S [c]) (i : Int) = ((i + a.length : Nat) : Int) := by
  have hlen : i + (a.length + (m.length + 1)) = t.length := by
    have := congrArg List.length h
    rw [List.length_drop, List.length_append, List.length_cons] at this
    omega
  have hf : fromIndex (SX.S t).length (i : Int) = i := by
    unfold fromIndex
    rw [if_neg (by omega)]
    omega
  have at_ : ∀ v, i ≤ v → t.getD v 0 = (a ++ c :: m).getD (v - i) 0 := fun v hv => by
    rw [← h, List.getD_eq_getElem?_getD, List.getD_eq_getElem?_getD, List.getElem?_drop, show i + (v - i) = v by omega]
  have hc : t.getD (i + a.length) 0 = c := by
    rw [at_ _ (by omega), show i + a.length - i = a.length by omega, List.getD_eq_getElem?_getD, List.getElem?_append_right (Nat.le_refl _), Nat.sub_self]
    rfl
  rcases StrLaws.find3_spec (SX.S t) c (i : Int) with ⟨_, h2⟩ | ⟨k, h1, h2, h3, h4, h5⟩
  · have := h2 (i + a.length) (by rw [hf]; omega) (by rw [SX.S_len]; omega)
    rw [getD_S, hc] at this
    exact absurd rfl this
  · rw [hf] at h2 h5
    rw [getD_S] at h4
    have e1 : ¬ i + a.length < k := fun z => by
      have := h5 (i + a.length) (by omega) z
      rw [getD_S, hc] at this
      exact this rfl
    have e2 : ¬ k < i + a.length := fun z => by
      rw [at_ k h2, List.getD_eq_getElem?_getD, List.getElem?_append_left (by omega), List.getElem?_eq_getElem (by omega)] at h4
      exact ha (by rw [← h4]; exact List.getElem_mem _)
    rw [show k = i + a.length by omega] at h1
    exact h1
theorem at_drop {t r : List Nat} {i : Nat} {c : Nat} (h : t.drop i = c :: r) : t[i]? = some c ∧ i < t.length ∧ t.drop (i + 1) = r := by
  have hi : i < t.length := by
    have := congrArg List.length h
    rw [List.length_drop, List.length_cons] at this
    omega
  rw [List.drop_eq_getElem_cons hi] at h
  have h2 := List.cons.inj h
  exact ⟨by rw [List.getElem?_eq_getElem hi, h2.1], hi, h2.2⟩
theorem drop_nil {t : List Nat} {i : Nat} (h : t.drop i = []) : t.length ≤ i := by
  have := congrArg List.length h
  rw [List.length_drop] at this
  simp at this
  omega
theorem drop_app {t a b : List Nat} {i : Nat} (h : t.drop i = a ++ b) : t.drop (i + a.length) = b := by
  rw [← List.drop_drop, h, List.drop_left]
theorem take1 {t : List Nat} {i : Nat} : (t.take (i + 1)).drop i = (t.drop i).take 1 := by rw [List.drop_take, show i + 1 - i = 1 by omega]
theorem joinL_len (w : List Nat) : ∀ ps : List (List Nat), (ps.map (·.length)).sum ≤ (TL.joinL w ps).length
  | [] => Nat.le_refl _
  | [p] => by
    show p.length + 0 ≤ p.length
    omega
  | p :: q :: r => by
    have := joinL_len w (q :: r)
    show p.length + ((q :: r).map (·.length)).sum ≤ (p ++ (w ++ TL.joinL w (q :: r))).length
    rw [List.length_append, List.length_append]
    omega
theorem ev_joinL {K : PySem.W.Frag} {σ : L2.St} {H : Hp} {ta tb : TE} {w : List Nat} {pcs : List (List Nat)} {p : Addr} (ha : Ev ta σ H (.str (SX.S w))) (hb : Ev tb σ H (.ref p)) (hp : SqL K H p ((pcs.map SX.S).map V.str)) (h1 : (TL.joinL w pcs).length ≤ 100000) (h2 : pcs.length ≤ 100000) (h3 : w.length ≤ 10) :
    Ev (tM1 (fun x xs H Q => ∃ a p, ∃ ys : List Str, x = .str a ∧ xs = [.ref p] ∧ (SqL K H p (ys.map V.str) ∨ SqT K H p (ys.map V.str)) ∧
      (ys.map (·.length)).sum + ys.length * a.length ≤ 16777216 ∧ Q (.str (Txt.join a ys)) H) ta tb) σ H (.str (SX.S (TL.joinL w pcs))) := fun H1 e Q q =>
  ha H1 e _ fun H2 e2 => ⟨⟨_, rfl⟩, hb H2 (e.trans e2) _ fun H3 e3 => ⟨SX.S w, p, pcs.map SX.S, rfl, rfl, .inl (ex_l ((e.trans e2).trans e3) hp), by
    rw [SX.lens, SX.S_len, List.length_map]
    have := joinL_len w pcs
    have : pcs.length * w.length ≤ 100000 * 10 := Nat.mul_le_mul h2 h3
    omega, by rw [SX.join_S]; exact q H3 (e2.trans e3)⟩⟩
/-- return (a new object, ..) -/
theorem s_retUR {R : Hp → Addr → Prop} {te : TE} {tr : TA} {σ : L2.St} {H : Hp} {D : Ends} {vs : List V} (hm : ∀ H H' p, Ex H H' → R H p → R H' p) (h : EvR R te σ H) (hr : ∀ H1, Ex H H1 → EvA tr σ H1 vs) (hl : vs.length ≤ 1000)
    (k : ∀ q p H1, H q = none → Ex H H1 → R H1 p → H1 q = some (.tup (.ref p :: vs)) → D.rt (.ref q) H1) : tRet (tTup (tCons te tr)) D σ H :=
  h H (Ex.refl H) _ fun p H1 hp e1 hR => hr H1 e1 H1 (Ex.refl H1) _ fun H2 e2 => ⟨by rw [List.length_cons]; exact sz_of (by omega), fun q hq => k q p _ (fresh_back (e1.trans e2) hq) ((e1.trans e2).trans (Ex.new hq)) (hm _ _ _ (e2.trans (Ex.new hq)) hR) upd_same⟩
theorem wo_upd (p : Addr) (H : Hp) (o : HO) : wo p (upd H p o) = wo p H := by
  funext a
  unfold wo
  split
  · rfl
  · rename_i h
    exact upd_ne h
theorem wo_mono {p : Addr} {H H' : Hp} (e : Ex H H') : Ex (wo p H) (wo p H') := fun a o h => by
  have hx : a ≠ p := fun z => by rw [z, wo_self] at h; cases h
  rw [wo_ne hx] at h ⊢
  exact e a o h
theorem Lst2.mono {α : Type} {R : Hp → Addr → α → Prop} {H H' : Hp} {p : Addr} {L : List α} (h : Lst2 R H p L) (e : Ex H H') (k : ∀ q l, R H q l → R H' q l) : Lst2 R H' p L := by
  obtain ⟨qs, h1, h2⟩ := h
  exact ⟨qs, e _ _ h1, h2.mono fun q l _ => k q l⟩
/-- [a new object] -/
theorem er_one {R : Hp → Addr → Prop} {te : TE} {σ : L2.St} {H : Hp} (hm : ∀ H H' p, Ex H H' → R H p → R H' p) (h : EvR R te σ H) : EvR (fun H p => ∃ t, H p = some (.lst [.ref t]) ∧ R H t) (tLst (tCons te tNil)) σ H := fun H1 e Q q =>
  h H1 e _ fun t H2 ht e2 hR => ⟨sz_of (by show 1 ≤ 100000; decide), fun p hp => q p _ (fresh_back e2 hp) (e2.trans (Ex.new hp)) ⟨t, upd_same, hm _ _ _ (Ex.new hp) hR⟩⟩

/-! ### signs -/
def signsL : List Nat := (PySem.Str.ofString " !\"#$&'()*+,-./0123456789:;<=>?@ABCDEFGHIJKLMNOPQRSTUVWXYZ[\\]^_`abcdefghijklmnopqrstuvwxyz{|}~").cps.toList
def fewL : List Nat := (PySem.Str.ofString "ab*?\\ -'\"A").cps.toList
theorem signs_len : signsL.length = 94 := by decide +kernel
theorem few_len : fewL.length = 10 := by decide +kernel
theorem signs_ok : ∀ c ∈ signsL, 32 ≤ c ∧ c ≤ 126 := by decide +kernel
theorem few_ok : ∀ c ∈ fewL, 32 ≤ c ∧ c ≤ 126 := by decide +kernel
def okC (c : Nat) : Prop := 32 ≤ c ∧ c ≤ 126
theorem join_ones : ∀ l : List Nat, Txt.join (SX.S []) (l.map fun c => (⟨#[c]⟩ : Str)) = SX.S l := by
  intro l
  have e : (l.map fun c => (⟨#[c]⟩ : Str)) = (l.map fun c => [c]).map SX.S := by
    rw [List.map_map]
    rfl
  rw [e, SX.join_S]
  congr 1
  induction l with
  | nil => rfl
  | cons c r ih =>
    cases r with
    | nil => rfl
    | cons d r => 
      have e2 : TL.joinL [] (List.map (fun c => [c]) (c :: d :: r)) = c :: TL.joinL [] (List.map (fun c => [c]) (d :: r)) := rfl
      rw [e2, ih (by rw [List.map_map]; rfl)]

/-! ### texts that are drawn: the words for it -/
def EvLD1 (te : TE) (σ : L2.St) (p : Addr) (H : Hp) (P : List V → Prop) : Prop := ∀ H1, Ex (wo p H) H1 → Dr p H1 → ∀ Q : VK, (∀ l H2 xs, P xs → H1 l = none → Ex (wo p H1) H2 → Dr p H2 → H2 l = some (.lst xs) → Q (.ref l) H2) → te σ H1 Q
theorem dr_ne {p l : Addr} {H : Hp} (d : Dr p H) (h : H l = none) : p ≠ l := fun z => by
  obtain ⟨s, _, e⟩ := d
  rw [z, h] at e
  cases e
theorem Dr.upd {p l : Addr} {H : Hp} {o : HO} (d : Dr p H) (h : p ≠ l) : Dr p (upd H l o) := by
  obtain ⟨s, s0, e⟩ := d
  exact ⟨s, s0, by rw [upd_ne h]; exact e⟩
section
variable {K : PySem.W.Frag} {σ : L2.St} {H : Hp} {p : Addr} {ta tb te tn : TE} {R : V → Prop} {PI : Int → Prop} {D : Ends} {tz : TS}
/-- [what is drawn for k in range(a number that is drawn)] -/
theorem e1_lc {j : Nat} {vs : List Nat} {m : Int} (hn : EvD1 tn σ p H (ZP fun n => 0 ≤ n ∧ n ≤ m)) (hm : m ≤ 10000) (hw : ∀ x, wipe ((wipe σ vs).set j (some x)) vs = wipe σ vs)
    (he : ∀ i : Nat, EvD1 te ((wipe σ vs).set j (some (.int (i : Int)))) p H R) : EvLD1 (tLc (iRng1 (tCons tn tNil)) (gName j) tYes te vs) σ p H (fun xs => (xs.length : Int) ≤ m ∧ ∀ x ∈ xs, R x) := fun H0 e d Q q =>
  hn H0 e d _ fun v H1 ⟨n, ev, hn0, hn1⟩ e1 d1 => by
    subst ev
    refine ⟨n, rfl, by omega, by omega, fun Dl hD => ?_⟩
    have hpd : p ≠ Dl := dr_ne d1 hD
    refine lc_range (lo := 0) (n := n.toNat) (fun i H' => Ex (wo p H1) H' ∧ Dr p H' ∧ ∃ acc, H' Dl = some (.lst acc) ∧ acc.length = i ∧ ∀ x ∈ acc, R x) ⟨Ex.mut (wo_le p H1) (by rw [wo_ne (Ne.symm hpd)]; exact hD), d1.upd hpd, [], upd_same, rfl, fun x hx => by cases hx⟩ (fun i H' hi pv => ?_) (fun H' pv => ?_)
    · obtain ⟨p1, p2, acc, p3, p4, p5⟩ := pv
      have e0 : (0 : Int) + (i : Int) = (i : Int) := Int.zero_add _
      show wipe ((wipe σ vs).set j (some (.int ((0 : Int) + (i : Int))))) vs = wipe σ vs ∧ te ((wipe σ vs).set j (some (.int ((0 : Int) + (i : Int))))) H' fun y H4 => ∃ acc, H4 Dl = some (.lst acc) ∧ acc.length < sizeLine ∧ _
      rw [e0]
      refine ⟨hw _, he i H' (wx_trans e (wx_trans e1 p1)) p2 _ fun y H4 hy e4 d4 => ?_⟩
      refine ⟨acc, e4 Dl _ (by rw [wo_ne (Ne.symm hpd)]; exact p3), sz_lt (by omega), Ex.mut (wx_trans p1 e4) (by rw [wo_ne (Ne.symm hpd)]; exact hD), d4.upd hpd, acc ++ [y], upd_same, by rw [List.length_append, p4]; rfl, fun x hx => ?_⟩
      rcases List.mem_append.mp hx with h | h
      · exact p5 x h
      · rw [List.mem_singleton.mp h]
        exact hy
    · obtain ⟨p1, p2, acc, p3, p4, p5⟩ := pv
      have hD0 : H0 Dl = none := by
        cases z : H0 Dl with
        | none => rfl
        | some o =>
          have := e1 Dl o (by rw [wo_ne (Ne.symm hpd)]; exact z)
          rw [hD] at this
          cases this
      exact q Dl H' acc ⟨by omega, p5⟩ hD0 (wx_trans e1 p1) p2 p3
def oneS (L : List Nat) (v : V) : Prop := ∃ c, v = .str ⟨#[c]⟩ ∧ c ∈ L
theorem ones_of {L : List Nat} : ∀ {xs : List V}, (∀ x ∈ xs, oneS L x) → ∃ l : List Nat, xs = l.map (fun c => V.str ⟨#[c]⟩) ∧ ∀ c ∈ l, c ∈ L
  | [], _ => ⟨[], rfl, fun c hc => by cases hc⟩
  | x :: r, h => by
    obtain ⟨l, e, hl⟩ := ones_of (xs := r) fun y hy => h y (List.mem_cons_of_mem _ hy)
    obtain ⟨c, ec, hc⟩ := h x List.mem_cons_self
    refine ⟨c :: l, by rw [ec, e]; rfl, fun y hy => ?_⟩
    rcases List.mem_cons.mp hy with z | z
    · rw [z]; exact hc
    · exact hl y z
def txtP (L : List Nat) (m : Nat) (v : V) : Prop := ∃ l : List Nat, v = .str (SX.S l) ∧ l.length ≤ m ∧ ∀ c ∈ l, c ∈ L
/-- ''.join(a list of single signs) -/
theorem e1_join {L : List Nat} {m : Nat} (hm : m ≤ 10000) (h : EvLD1 te σ p H (fun xs => (xs.length : Int) ≤ (m : Int) ∧ ∀ x ∈ xs, oneS L x)) : EvD1 (tM1 (fun x xs H Q => ∃ a p, ∃ ys : List Str, x = .str a ∧ xs = [.ref p] ∧ (SqL K H p (ys.map V.str) ∨ SqT K H p (ys.map V.str)) ∧
      (ys.map (·.length)).sum + ys.length * a.length ≤ 16777216 ∧ Q (.str (Txt.join a ys)) H) (tC (.str (PySem.Str.ofString ""))) te) σ p H (txtP L m) := fun H1 e d Q q => by
  refine ⟨⟨_, rfl⟩, h H1 e d _ fun l H2 xs hP hl e2 d2 h2 => ?_⟩
  obtain ⟨hlen, hxs⟩ := hP
  obtain ⟨w, rfl, hw⟩ := ones_of hxs
  rw [List.length_map] at hlen
  have hw2 : w.length ≤ m := by omega
  refine ⟨SX.S [], l, w.map fun c => (⟨#[c]⟩ : Str), by rw [c00], rfl, .inl (sq_of ?_), ?_, ?_⟩
  · rw [h2, List.map_map]
    rfl
  · have e9 : (w.map fun c => (⟨#[c]⟩ : Str)).map (·.length) = List.replicate w.length 1 := by
      rw [List.map_map, List.eq_replicate_iff]
      refine ⟨by rw [List.length_map], fun b hb => ?_⟩
      obtain ⟨c, _, rfl⟩ := List.mem_map.mp hb
      rfl
    rw [e9, List.sum_replicate_nat, List.length_map]
    show w.length * 1 + w.length * 0 ≤ _
    omega
  · rw [join_ones]
    exact q _ H2 ⟨w, rfl, hw2, hw⟩ e2 d2
/-- signs[_law_digit(state, m)] -/
theorem e1_sign {L : List Nat} {m : Int} {E : XK} {i : Nat} (hs : σ[i]? = some (some (.str (SX.S L)))) (hL : (L.length : Int) = m) (h0 : 0 < m) (hm : m ≤ 1000) (ha : Ev ta σ (wo p H) (.ref p)) (hb : Ev tb σ (wo p H) (.int m)) : EvD1 (tOp rIxS (tVar i) (tCall (sp__law_digit K) [] E (tCons ta (tCons tb tNil)))) σ p H (oneS L) := fun H1 e d Q q =>
  ⟨.str (SX.S L), hs, ez_digit ha hb h0 (by omega) H1 e d _ fun v H2 ⟨n, ev, n0, n1⟩ e2 d2 => by
    subst ev
    obtain ⟨k, rfl⟩ := Int.eq_ofNat_of_zero_le n0
    have hk : k < L.length := by omega
    exact ⟨SX.S L, (k : Int), L[k], rfl, rfl, by rw [SX.S_len]; exact sz_of (by omega), atI_nat (List.getElem?_eq_getElem hk), q _ H2 ⟨L[k], rfl, List.getElem_mem hk⟩ e2 d2⟩⟩
end

/-! ### ranks -/
def kr : V → Int
  | .non => 0
  | .bl _ => 1
  | .int _ => 2
  | _ => 3
def payV : V → V
  | .non => .int 0
  | .bl b => .int (if b then 1 else 0)
  | x => x
def rkL (x : V) : List V := [.int (kr x), payV x]
def payD : V → PyData
  | .non => .int 0
  | .bl b => .int (if b then 1 else 0)
  | .int i => .int i
  | .str s => .str s
  | _ => .none
def rkDs (x : V) : List PyData := [.int (kr x), payD x]
def rkD (x : V) : PyData := .tuple (rkDs x)
/-- plain, and its signs are signs -/
inductive Ok : V → Prop where
  | non : Ok .non
  | bl (b : Bool) : Ok (.bl b)
  | int (i : Int) : Ok (.int i)
  | str (s : Str) (h : PyData.strOk s = true) : Ok (.str s)
theorem Ok.pl {x : V} (h : Ok x) : Pl x := by cases h <;> constructor
theorem strOk_S {l : List Nat} (h : ∀ c ∈ l, 32 ≤ c ∧ c ≤ 126) : PyData.strOk (SX.S l) = true := by
  unfold PyData.strOk
  rw [Array.all_eq_true']
  intro c hc
  have := h c (by simpa using hc)
  exact decide_eq_true (by omega)
theorem dp_pay {K : PySem.W.Frag} {H : Hp} {x : V} (h : Ok x) : Dp K H (payV x) (payD x) := by
  cases h with
  | non => exact .int 0
  | bl b => exact .int _
  | int i => exact .int i
  | str s _ => exact .str s
theorem dp_rks {K : PySem.W.Frag} {H : Hp} {x : V} (h : Ok x) : DpAll K H (rkL x) (rkDs x) := .cons (.int _) (.cons (dp_pay h) .nil)
theorem dp_rk {K : PySem.W.Frag} {H : Hp} {x : V} {p : Addr} (h : Ok x) (hp : H p = some (.tup (rkL x))) : Dp K H (.ref p) (rkD x) := .tup (st_of hp) (dp_rks h)
theorem lay_rk {x : V} (h : Ok x) : (rkD x).canLay0 = true := by
  cases h with
  | non => rfl
  | bl b => rfl
  | int i => rfl
  | str s hs =>
    show (true && (PyData.strOk s && true)) = true
    rw [hs]
    rfl
theorem dep_rk {x : V} (h : Ok x) : (rkD x).depth = 1 := by cases h <;> rfl
theorem shaped_rk {x : V} (h : Ok x) : SeqAt.shaped (rkD x) = true := by
  unfold SeqAt.shaped
  rw [lay_rk h, dep_rk h]
  rfl
theorem noL_rk {x : V} (h : Ok x) : noL (rkD x) = true := by cases h <;> rfl
theorem ord_rk {x y : V} (hx : Ok x) (hy : Ok y) : ordD (rkD x) (rkD y) = true := by
  have step : ∀ (a b : Int) (p q : PyData), (a = b → ordD p q = true) → ordD (.tuple [.int a, p]) (.tuple [.int b, q]) = true := by
    intro a b p q h
    rw [ordD, ordDs]
    split
    · rename_i e
      rw [ordDs]
      split
      · rfl
      · exact h (beq_iff_eq.mp (show (a == b) = true from e))
    · rfl
  refine step _ _ _ _ fun e => ?_
  cases hx <;> cases hy <;> first | rfl | (simp [kr] at e)
theorem lays_rk : ∀ {xs : List V}, (∀ x ∈ xs, Ok x) → PyData.canLayAll0 (xs.map rkD) = true
  | [], _ => rfl
  | x :: xs, h => by
    show ((rkD x).canLay0 && PyData.canLayAll0 (xs.map rkD)) = true
    rw [lay_rk (h x (List.mem_cons_self ..)), lays_rk fun y hy => h y (List.mem_cons_of_mem _ hy)]
    rfl
theorem deps_rk : ∀ {xs : List V}, (∀ x ∈ xs, Ok x) → PyData.depthAll (xs.map rkD) ≤ 1
  | [], _ => by show 0 ≤ 1; decide
  | x :: xs, h => by
    show max (rkD x).depth (PyData.depthAll (xs.map rkD)) ≤ 1
    rw [dep_rk (h x (List.mem_cons_self ..))]
    have := deps_rk fun y hy => h y (List.mem_cons_of_mem _ hy)
    omega
theorem shaped_row {xs : List V} (h : ∀ x ∈ xs, Ok x) : SeqAt.shaped (.tuple (xs.map rkD)) = true := by
  have hd := deps_rk h
  show (PyData.canLayAll0 (xs.map rkD) && decide (PyData.depthAll (xs.map rkD) + 1 ≤ 64)) = true
  rw [lays_rk h, decide_eq_true (by omega)]
  rfl
theorem ords_rk : ∀ {xs ys : List V}, (∀ x ∈ xs, Ok x) → (∀ y ∈ ys, Ok y) → ordDs (xs.map rkD) (ys.map rkD) = true
  | [], _, _, _ => by rw [List.map_nil, ordDs]
  | _ :: _, [], _, _ => rfl
  | x :: xs, y :: ys, h1, h2 => by
    rw [List.map_cons, List.map_cons, ordDs]
    split
    · exact ords_rk (fun z hz => h1 z (List.mem_cons_of_mem _ hz)) (fun z hz => h2 z (List.mem_cons_of_mem _ hz))
    · exact ord_rk (h1 x (List.mem_cons_self ..)) (h2 y (List.mem_cons_self ..))
def sp_kind_rank (K : PySem.W.Frag) : Sp := fun vs H Q _ => ∃ x : V, vs = [x] ∧ Ok x ∧ ∀ H', Ex H H' → Q (.int (kr x)) H'
def sp_is_integer (K : PySem.W.Frag) : Sp := fun vs H Q _ => ∃ x : V, vs = [x] ∧ Pl x ∧ ∀ H', Ex H H' → Q (.bl (isInt x)) H'
def sp__law_is_integer (K : PySem.W.Frag) : Sp := fun vs H Q _ => ∃ x : V, vs = [x] ∧ Pl x ∧ ∀ H', Ex H H' → Q (.bl (isInt x)) H'
def sp_rank (K : PySem.W.Frag) : Sp := fun vs H Q _ => ∃ x : V, vs = [x] ∧ Ok x ∧ ∀ p H', H p = none → Ex H H' → H' p = some (.tup (rkL x)) → Q (.ref p) H'
def sp__law_rank (K : PySem.W.Frag) : Sp := fun vs H Q _ => ∃ x : V, vs = [x] ∧ Ok x ∧ ∀ p H', H p = none → Ex H H' → H' p = some (.tup (rkL x)) → Q (.ref p) H'
def sp_same (K : PySem.W.Frag) : Sp := fun vs H Q _ => ∃ x y : V, vs = [x, y] ∧ Ok x ∧ Ok y ∧ ∀ H', Ex H H' → Q (.bl (PyData.eqv (rkD x) (rkD y))) H'
def sp_before (K : PySem.W.Frag) : Sp := fun vs H Q _ => ∃ x y : V, vs = [x, y] ∧ Ok x ∧ Ok y ∧ ∀ H', Ex H H' → Q (.bl (ltD (rkD x) (rkD y))) H'
section
variable {P : Program} {w : World} {K : PySem.W.Frag} {mg : Str → Option Value} {base : Heap}
section
variable {σ : L2.St} {H : Hp} {ta tb tc : TE} {E : XK} {x y : V}
theorem ec_isint0 (ha : Ev ta σ H x) (h : Pl x) : Ev (tCall (sp_is_integer K) [] E (tCons ta tNil)) σ H (.bl (isInt x)) := ev_call (ea_cons ha ea_nil) fun H1 e Q q E => ⟨x, rfl, h, q⟩
theorem ec_isint (ha : Ev ta σ H x) (h : Pl x) : Ev (tCall (sp__law_is_integer K) [] E (tCons ta tNil)) σ H (.bl (isInt x)) := ev_call (ea_cons ha ea_nil) fun H1 e Q q E => ⟨x, rfl, h, q⟩
theorem ec_kr (ha : Ev ta σ H x) (h : Ok x) : Ev (tCall (sp_kind_rank K) [] E (tCons ta tNil)) σ H (.int (kr x)) := ev_call (ea_cons ha ea_nil) fun H1 e Q q E => ⟨x, rfl, h, q⟩
theorem ec_rank (ha : Ev ta σ H x) (h : Ok x) : EvU (tCall (sp_rank K) [] E (tCons ta tNil)) σ H (rkL x) := eu_call (ea_cons ha ea_nil) fun H1 e Q q E => ⟨x, rfl, h, q⟩
theorem ec_lrank (ha : Ev ta σ H x) (h : Ok x) : EvU (tCall (sp__law_rank K) [] E (tCons ta tNil)) σ H (rkL x) := eu_call (ea_cons ha ea_nil) fun H1 e Q q E => ⟨x, rfl, h, q⟩
theorem ud_rk (h : EvU ta σ H (rkL x)) (hx : Ok x) : EvUD K ta σ H (rkDs x) := fun H1 e Q q => h H1 e _ fun p H2 hp e2 h2 => q p H2 _ hp e2 h2 (dp_rks hx)
theorem ed_rk (h : EvU ta σ H (rkL x)) (hx : Ok x) : EvD K ta σ H (rkD x) := ed_tupU (ud_rk h hx)
theorem ec_same (ha : Ev ta σ H x) (hb : Ev tb σ H y) (h1 : Ok x) (h2 : Ok y) : Ev (tCall (sp_same K) [] E (tCons ta (tCons tb tNil))) σ H (.bl (PyData.eqv (rkD x) (rkD y))) := ev_call (ea_cons ha (ea_cons hb ea_nil)) fun H1 e Q q E => ⟨x, y, rfl, h1, h2, q⟩
theorem ec_before (ha : Ev ta σ H x) (hb : Ev tb σ H y) (h1 : Ok x) (h2 : Ok y) : Ev (tCall (sp_before K) [] E (tCons ta (tCons tb tNil))) σ H (.bl (ltD (rkD x) (rkD y))) := ev_call (ea_cons ha (ea_cons hb ea_nil)) fun H1 e Q q E => ⟨x, y, rfl, h1, h2, q⟩
end
theorem ok_kind_rank (D : Dn K mg "kind_rank" s_kind_rank ["value"]) (z_bool : mg "bool" = none) (z_int : mg "int" = none) (z_isinstance : mg "isinstance" = none) :
    C8.Cal P w K mg base 1 "kind_rank" (sp_kind_rank K) [] := by
  refine cal_of D sc_kind_rank (fun vs H Q E h => ?_) (fun f cdv A outer s H vs Q E hr h => ?_)
  · obtain ⟨_, rfl, _⟩ := h
    rfl
  refine ⟨_, (pss_cons (ps_if (pt_cmpR op_isN (pv 0) pe_non (nomark _))
      (pss_one (ps_ret pe_int))
      pss_nil)
    (pss_cons (ps_if (pt_val (pe_callB call_isi (by rfl) z_isinstance (by decide +kernel) (pa_cons (pv 0) (pa_cons (pe_bltn (v := .ty "bool") (u := .type "bool") rfl z_bool (by decide +kernel) rfl) pa_nil))))
      (pss_one (ps_ret pe_int))
      pss_nil)
    (pss_cons (ps_if (pt_val (pe_callB call_isi (by rfl) z_isinstance (by decide +kernel) (pa_cons (pv 0) (pa_cons (pe_bltn (v := .ty "int") (u := .type "int") rfl z_int (by decide +kernel) rfl) pa_nil))))
      (pss_one (ps_ret pe_int))
      pss_nil)
    (pss_one (ps_ret pe_int))))), ?_⟩
  obtain ⟨x, rfl, hx, q⟩ := h
  refine q_when (b := decide (x = .non)) (by walk_at "et") (fun hb H1 e1 => s_ret (v := .int (kr x)) ?_ fun H2 e2 => q _ (e1.trans e2)) fun hb H1 e1 => ?_
  · rw [of_decide_eq_true hb]
    exact ev_c
  cases hx with
  | non => exact absurd hb (by decide)
  | bl b => exact q_when (b := true) (et_B (ev_isiP (ev_var rfl) (.bl b) (by show kitB "bool" "bool" = some true; decide +kernel))) (fun _ H2 e2 => s_ret ev_c fun H3 e3 => q _ ((e1.trans e2).trans e3)) fun hb => nomatch hb
  | int i => exact q_when (b := false) (et_B (ev_isiP (ev_var rfl) (.int i) (by show kitB "int" "bool" = some false; decide +kernel))) (fun hb => nomatch hb) fun _ H2 e2 => q_when (b := true) (et_B (ev_isiP (ev_var rfl) (.int i) (by show kitB "int" "int" = some true; decide +kernel))) (fun _ H3 e3 => s_ret ev_c fun H4 e4 => q _ (((e1.trans e2).trans e3).trans e4)) fun hb => nomatch hb
  | str s hs => exact q_when (b := false) (et_B (ev_isiP (ev_var rfl) (.str s) (by show kitB "str" "bool" = some false; decide +kernel))) (fun hb => nomatch hb) fun _ H2 e2 => q_when (b := false) (et_B (ev_isiP (ev_var rfl) (.str s) (by show kitB "str" "int" = some false; decide +kernel))) (fun hb => nomatch hb) fun _ H3 e3 => s_ret ev_c fun H4 e4 => q _ (((e1.trans e2).trans e3).trans e4)
theorem ok_rank (D : Dn K mg "rank" s_rank ["value"]) (c_kind_rank : C8.Cal P w K mg base 1 "kind_rank" (sp_kind_rank K) []) (z_int : mg "int" = none) :
    C8.Cal P w K mg base 2 "rank" (sp_rank K) [] := by
  refine cal_of D sc_rank (fun vs H Q E h => ?_) (fun f cdv A outer s H vs Q E hr h => ?_)
  · obtain ⟨_, rfl, _⟩ := h
    rfl
  refine ⟨_, (pss_cons (ps_set (i := 1) sc_rank.nd rfl (.inl rfl) (C8.pe_c c_kind_rank hr (by decide) (by rfl) (pa_cons (pv 0) pa_nil)))
    (pss_cons (ps_if (pt_cmpR op_eq (pv 1) pe_int (nomark _))
      (pss_one (ps_ret (pe_tup (pa_cons pe_int (pa_cons pe_int pa_nil)))))
      pss_nil)
    (pss_cons (ps_if (pt_cmpR op_eq (pv 1) pe_int (nomark _))
      (pss_one (ps_ret (pe_tup (pa_cons pe_int (pa_cons (pe_callTy call_int1 (by rfl) z_int (by decide +kernel) (pa_cons (pv 0) pa_nil)) pa_nil)))))
      pss_nil)
    (pss_one (ps_ret (pe_tup (pa_cons (pv 1) (pa_cons (pv 0) pa_nil)))))))), ?_⟩
  obtain ⟨x, rfl, hx, q⟩ := h
  refine q_asg (ec_kr (ev_var rfl) hx) fun H1 e1 => ?_
  refine q_when (b := decide (V.int (kr x) = V.int 0)) (by walk_at "et") (fun hb H2 e2 => s_retU (xs := rkL x) ?_ fun p H3 hp e3 h3 => q p H3 (fresh_back (e1.trans e2) hp) ((e1.trans e2).trans e3) h3) fun hb H2 e2 => ?_
  · cases hx with
    | non => exact eu_tup (ea_cons ev_c (ea_cons ev_c ea_nil)) (by show 2 ≤ 100000; decide)
    | _ => simp [kr] at hb
  refine q_when (b := decide (V.int (kr x) = V.int 1)) (by walk_at "et") (fun hb H3 e3 => s_retU (xs := rkL x) ?_ fun p H4 hp e4 h4 => q p H4 (fresh_back ((e1.trans e2).trans e3) hp) (((e1.trans e2).trans e3).trans e4) h4) fun hb H3 e3 => s_retU (xs := rkL x) ?_ fun p H4 hp e4 h4 => q p H4 (fresh_back ((e1.trans e2).trans e3) hp) (((e1.trans e2).trans e3).trans e4) h4
  · cases hx with
    | bl b => exact eu_tup (ea_cons ev_c (ea_cons (ev_intB (ev_var rfl)) ea_nil)) (by show 2 ≤ 100000; decide)
    | _ => simp [kr] at hb
  · cases hx with
    | non => exact absurd ‹decide (V.int (kr .non) = V.int 0) = false› (by decide)
    | bl b => exact absurd ‹decide (V.int (kr (.bl b)) = V.int 1) = false› (by show ¬ decide (V.int 1 = V.int 1) = false; decide)
    | int i => exact eu_tup (ea_cons (ev_var rfl) (ea_cons (ev_var rfl) ea_nil)) (by show 2 ≤ 100000; decide)
    | str s hs => exact eu_tup (ea_cons (ev_var rfl) (ea_cons (ev_var rfl) ea_nil)) (by show 2 ≤ 100000; decide)
theorem ok__law_rank (D : Dn K mg "_law_rank" s__law_rank ["value"]) (z_bool : mg "bool" = none) (z_int : mg "int" = none) (z_isinstance : mg "isinstance" = none) :
    C8.Cal P w K mg base 1 "_law_rank" (sp__law_rank K) [] := by
  refine cal_of D sc__law_rank (fun vs H Q E h => ?_) (fun f cdv A outer s H vs Q E hr h => ?_)
  · obtain ⟨_, rfl, _⟩ := h
    rfl
  refine ⟨_, (pss_cons (ps_if (pt_cmpR op_isN (pv 0) pe_non (nomark _))
      (pss_one (ps_ret (pe_tup (pa_cons pe_int (pa_cons pe_int pa_nil)))))
      pss_nil)
    (pss_cons (ps_if (pt_val (pe_callB call_isi (by rfl) z_isinstance (by decide +kernel) (pa_cons (pv 0) (pa_cons (pe_bltn (v := .ty "bool") (u := .type "bool") rfl z_bool (by decide +kernel) rfl) pa_nil))))
      (pss_one (ps_ret (pe_tup (pa_cons pe_int (pa_cons (pe_callTy call_int1 (by rfl) z_int (by decide +kernel) (pa_cons (pv 0) pa_nil)) pa_nil)))))
      pss_nil)
    (pss_cons (ps_if (pt_val (pe_callB call_isi (by rfl) z_isinstance (by decide +kernel) (pa_cons (pv 0) (pa_cons (pe_bltn (v := .ty "int") (u := .type "int") rfl z_int (by decide +kernel) rfl) pa_nil))))
      (pss_one (ps_ret (pe_tup (pa_cons pe_int (pa_cons (pv 0) pa_nil)))))
      pss_nil)
    (pss_one (ps_ret (pe_tup (pa_cons pe_int (pa_cons (pv 0) pa_nil)))))))), ?_⟩
  obtain ⟨x, rfl, hx, q⟩ := h
  have two : (2 : Nat) ≤ 100000 := by decide
  refine q_when (b := decide (x = .non)) (by walk_at "et") (fun hb H1 e1 => s_retU (xs := rkL x) ?_ fun p H2 hp e2 h2 => q p H2 (fresh_back e1 hp) (e1.trans e2) h2) fun hb H1 e1 => ?_
  · rw [of_decide_eq_true hb]
    exact eu_tup (ea_cons ev_c (ea_cons ev_c ea_nil)) (by show 2 ≤ 100000; decide)
  cases hx with
  | non => exact absurd hb (by decide)
  | bl b => exact q_when (b := true) (et_B (ev_isiP (ev_var rfl) (.bl b) (by show kitB "bool" "bool" = some true; decide +kernel))) (fun _ H2 e2 => s_retU (xs := rkL (.bl b)) (eu_tup (ea_cons ev_c (ea_cons (ev_intB (ev_var rfl)) ea_nil)) two) fun p H3 hp e3 h3 => q p H3 (fresh_back (e1.trans e2) hp) ((e1.trans e2).trans e3) h3) fun hb => nomatch hb
  | int i => exact q_when (b := false) (et_B (ev_isiP (ev_var rfl) (.int i) (by show kitB "int" "bool" = some false; decide +kernel))) (fun hb => nomatch hb) fun _ H2 e2 => q_when (b := true) (et_B (ev_isiP (ev_var rfl) (.int i) (by show kitB "int" "int" = some true; decide +kernel))) (fun _ H3 e3 => s_retU (xs := rkL (.int i)) (eu_tup (ea_cons ev_c (ea_cons (ev_var rfl) ea_nil)) two) fun p H4 hp e4 h4 => q p H4 (fresh_back ((e1.trans e2).trans e3) hp) (((e1.trans e2).trans e3).trans e4) h4) fun hb => nomatch hb
  | str s hs => exact q_when (b := false) (et_B (ev_isiP (ev_var rfl) (.str s) (by show kitB "str" "bool" = some false; decide +kernel))) (fun hb => nomatch hb) fun _ H2 e2 => q_when (b := false) (et_B (ev_isiP (ev_var rfl) (.str s) (by show kitB "str" "int" = some false; decide +kernel))) (fun hb => nomatch hb) fun _ H3 e3 => s_retU (xs := rkL (.str s)) (eu_tup (ea_cons ev_c (ea_cons (ev_var rfl) ea_nil)) two) fun p H4 hp e4 h4 => q p H4 (fresh_back ((e1.trans e2).trans e3) hp) (((e1.trans e2).trans e3).trans e4) h4
end

--@SPLIT
/-! ### dicts whose keys are nested tuples -/
abbrev NK := PySem.NestedKey
mutual
inductive NKey (H : Hp) : NK → V → Prop where
  | non : NKey H .none .non
  | num (i : Int) : NKey H (.num i) (.int i)
  | text (x : Str) : NKey H (.text x) (.str x)
  | tup {a : Addr} {xs : List V} {ks : List NK} (h : H a = some (.tup xs)) (hs : NKeys H ks xs) : NKey H (.tup ks) (.ref a)
inductive NKeys (H : Hp) : List NK → List V → Prop where
  | nil : NKeys H [] []
  | cons {k : NK} {v : V} {ks : List NK} {vs : List V} (h : NKey H k v) (hs : NKeys H ks vs) : NKeys H (k :: ks) (v :: vs)
end
mutual
theorem NKey.mono {H H' : Hp} (t : ∀ b xs, H b = some (.tup xs) → H' b = some (.tup xs)) : ∀ {k : NK} {v : V}, NKey H k v → NKey H' k v
  | _, _, .non => .non
  | _, _, .num i => .num i
  | _, _, .text x => .text x
  | _, _, .tup h hs => .tup (t _ _ h) (NKeys.mono t hs)
theorem NKeys.mono {H H' : Hp} (t : ∀ b xs, H b = some (.tup xs) → H' b = some (.tup xs)) : ∀ {ks : List NK} {vs : List V}, NKeys H ks vs → NKeys H' ks vs
  | _, _, .nil => .nil
  | _, _, .cons h hs => .cons (NKey.mono t h) (NKeys.mono t hs)
end
theorem NKey.ex {H H' : Hp} {k : NK} {v : V} (h : NKey H k v) (e : Ex H H') : NKey H' k v := h.mono fun b xs q => e b _ q
mutual
theorem NKey.is {P : Program} {w : World} {H : Hp} {h : Heap} (ok : HOk P w H h) : ∀ {k : NK} {v : V} {u : Value}, NKey H k v → RelV v u → PySem.NestedIs h k u
  | _, _, u, .non, r => by cases (show u = Value.none from r); exact .none
  | _, _, u, .num i, r => by obtain ⟨t, rfl⟩ := (show ∃ t, u = Value.int i t from r); exact .int i t
  | _, _, u, .text x, r => by obtain ⟨t, rfl⟩ := (show ∃ t, u = Value.str x t from r); exact .text x t
  | _, _, u, .tup (a := a) e hs, r => by
    cases (show u = Value.ref a from r)
    obtain ⟨_, its, rr, o, h1, h2, n, h3⟩ := (show ObjOk P w H h a (.tup _) from ok a _ e)
    exact .tup h1 h2 h3 (by simpa using NKeys.is ok hs rr)
theorem NKeys.is {P : Program} {w : World} {H : Hp} {h : Heap} (ok : HOk P w H h) : ∀ {ks : List NK} {vs : List V} {us : List Value}, NKeys H ks vs → Vals vs us → PySem.NestedAll h ks us
  | _, _, _, .nil, r => by cases r; exact .nil
  | _, _, _, .cons k ks, r => by
    cases r with
    | cons r1 r2 => exact .cons (NKey.is ok k r1) (NKeys.is ok ks r2)
end
def nkd (P : Program) (w : World) : PySem.HeapKind P w NK := PySem.nestedKind P w
def NObj (P : Program) (w : World) (d : Addr) (xs : List (NK × Addr × Value)) : HO := .ext fun h => (d == sysModules) = false ∧ ∃ o es ep, h.get? d = some o ∧ o.ExactDict ∧ o.data = .dict es ep ∧ es.toList = xs.map (entryOfKey (nkd P w)) ∧ (xs.map (·.1)).Nodup
/-- at d stands a dict with the keys and values kvs, in the order of insertion -/
def NDict (P : Program) (w : World) (H : Hp) (d : Addr) (kvs : List (NK × V)) : Prop :=
  ∃ xs : List (NK × Addr × Value), H d = some (NObj P w d xs) ∧ (∀ x ∈ xs, NKey H x.1 (.ref x.2.1) ∧ x.1.depth ≤ 8) ∧ KV kvs (PySem.pairsH xs) ∧ kvs.length ≤ sizeLine
theorem NDict.ex {P : Program} {w : World} {H H' : Hp} {d : Addr} {kvs : List (NK × V)} (h : NDict P w H d kvs) (e : Ex H H') : NDict P w H' d kvs := by
  obtain ⟨xs, h1, h2, h3⟩ := h
  exact ⟨xs, e _ _ h1, fun x hx => ⟨(h2 x hx).1.ex e, (h2 x hx).2⟩, h3⟩
theorem NDict.upd {P : Program} {w : World} {H : Hp} {d p : Addr} {o u : HO} {kvs : List (NK × V)} (h : NDict P w H d kvs) (hp : H p = some u) (hu : ∀ xs, u ≠ .tup xs) (hd : d ≠ p) : NDict P w (upd H p o) d kvs := by
  obtain ⟨xs, h1, h2, h3⟩ := h
  refine ⟨xs, by rw [upd_ne hd]; exact h1, fun x hx => ⟨(h2 x hx).1.mono fun b ys q => ?_, (h2 x hx).2⟩, h3⟩
  rw [upd_ne fun z => ?_]
  · exact q
  · rw [z, hp] at q
    exact hu _ (Option.some.inj q)
theorem NDict.ne {P : Program} {w : World} {H : Hp} {d p : Addr} {o : HO} {kvs : List (NK × V)} (h : NDict P w H d kvs) (hp : H p = some o) (ho : ∀ φ, o ≠ .ext φ) : d ≠ p := fun z => by
  obtain ⟨xs, h1, _⟩ := h
  rw [z, hp] at h1
  exact ho _ (Option.some.inj h1)
theorem NDict.some {P : Program} {w : World} {H : Hp} {d : Addr} {kvs : List (NK × V)} (h : NDict P w H d kvs) : ∃ o, H d = some o := by
  obtain ⟨xs, h1, _⟩ := h
  exact ⟨_, h1⟩
section
variable {P : Program} {w : World} {H : Hp} {h : Heap} {d : Addr} {kvs : List (NK × V)}
theorem NDict.of (ok : HOk P w H h) (e : NDict P w H d kvs) : (d == sysModules) = false ∧ ∃ xs, H d = Option.some (NObj P w d xs) ∧ (∀ x ∈ xs, NKey H x.1 (.ref x.2.1) ∧ x.1.depth ≤ 8) ∧ KV kvs (PySem.pairsH xs) ∧ kvs.length ≤ sizeLine ∧ h.DictOfH (nkd P w) d xs := by
  obtain ⟨xs, h1, h2, h3, h4⟩ := e
  obtain ⟨⟨q1, o, es, ep, q2, q3, q4, q5, q6⟩, _⟩ := (show ObjOk P w H h d (NObj P w d xs) from ok d _ h1)
  exact ⟨q1, xs, h1, h2, h3, h4, o, es, ep, q2, q3, q4, q5, fun x hx => ⟨NKey.is ok (h2 x hx).1 (show RelV (.ref x.2.1) (.ref x.2.1) from rfl), (h2 x hx).2⟩, q6⟩
theorem nobj_ok {xs : List (NK × Addr × Value)} (hd : (d == sysModules) = false) (x : h.DictOfH (nkd P w) d xs) : ObjOk P w H h d (NObj P w d xs) := by
  obtain ⟨o, es, ep, q2, q3, q4, q5, _, q6⟩ := x
  refine ⟨⟨hd, o, es, ep, q2, q3, q4, q5, q6⟩, ⟨o, q2⟩, ?_⟩
  rintro h1 h2 ⟨w1, o, es, ep, w2, w3⟩ k
  exact ⟨w1, o, es, ep, k _ w2, w3⟩
end
/-! the operations -/
def rNIn (P : Program) (w : World) (neg : Bool) : R2 := fun y x H Q => ∃ d kvs k, x = .ref d ∧ NDict P w H d kvs ∧ NKey H k y ∧ (∃ b, y = .ref b) ∧ k.depth ≤ 8 ∧ Q (.bl (if neg then !(valV kvs k).isSome else (valV kvs k).isSome)) H
def tNGet (P : Program) (w : World) (td ty : TE) : TE := fun σ H Q => td σ H fun x H1 => ty σ H1 fun y H2 => ∃ d kvs k b v, x = .ref d ∧ y = .ref b ∧ NDict P w H2 d kvs ∧ NKey H2 k y ∧ k.depth ≤ 8 ∧ valV kvs k = some v ∧ Q v H2
def sNPut (P : Program) (w : World) (td ty tv : TE) : TS := fun D σ H => tv σ H fun v H1 => td σ H1 fun x H2 => ty σ H2 fun y H3 => ∃ d kvs k b, x = .ref d ∧ y = .ref b ∧ NDict P w H3 d kvs ∧ NKey H3 k y ∧ k.depth ≤ 8 ∧ kvs.length < sizeLine ∧
  ∀ xs, NDict P w (upd H3 d (NObj P w d xs)) d (putK kvs k v) → D.nx σ (upd H3 d (NObj P w d xs))
def rNGetOr (P : Program) (w : World) : V → List V → Hp → VK → Prop := fun x xs H Q => ∃ d kvs k b z, x = .ref d ∧ xs = [.ref b, z] ∧ NDict P w H d kvs ∧ NKey H k (.ref b) ∧ k.depth ≤ 8 ∧ Q ((valV kvs k).getD z) H
def tDNewN (P : Program) (w : World) : TE := fun _ H Q => ∀ d, H d = none → NDict P w (upd H d (NObj P w d [])) d [] → Q (.ref d) (upd H d (NObj P w d []))
theorem mem_storedH {xs : List (NK × Addr × Value)} {k : NK} {a : Addr} {v : Value} : ∀ x ∈ storedH xs k a v, (∃ y ∈ xs, x.1 = y.1 ∧ x.2.1 = y.2.1) ∨ (x.1 = k ∧ x.2.1 = a) := by
  intro x hx
  unfold storedH at hx
  split at hx
  · obtain ⟨y, hy, rfl⟩ := List.mem_map.mp hx
    refine .inl ⟨y, hy, ?_⟩
    unfold putAt
    split <;> exact ⟨rfl, rfl⟩
  · rcases List.mem_append.mp hx with q | q
    · exact .inl ⟨x, q, rfl, rfl⟩
    · rw [List.mem_singleton.mp q]
      exact .inr ⟨rfl, rfl⟩
section
variable {X : Cx} {o i e f value : Expr} {pos pos' tpos apos cpos : Pos} {td ty tv tx : TE}
theorem nroom {A : Around} (hu : A.units + 64 < cLine) (P : Program) (w : World) : (nkd P w).room A.in1 := by
  show A.in1.units + 8 < cLine
  rw [Around.in1_units]
  omega
theorem op_nin (hu : X.A.units + 64 < cLine) : OpR X (compareOp .In) (rNIn X.prog X.w false) := by
  intro pins s σ H x y v u Q I rx ry h
  obtain ⟨d, kvs, k, rfl, nd, nk, ⟨b, rfl⟩, kd, q⟩ := h
  obtain rfl : u = Value.ref d := ry
  obtain ⟨hd, xs, _, _, kv, _, dd⟩ := NDict.of I.hok nd
  have hk := NKey.is I.hok nk rx
  cases (show v = Value.ref b from rx)
  refine wpAny_in_heap (knd := nkd X.prog X.w) (nroom hu _ _) ⟨hk, kd⟩ hd dd ?_
  have e := (kv.val k).isSome_eq
  rw [PySem.valueAt_pairsH, Option.isSome_map] at e
  refine ⟨_, H, I.tok _, ?_, q⟩
  show Value.bool _ = Value.bool _
  rw [← e]
  rfl
theorem op_nnotin (hu : X.A.units + 64 < cLine) : OpR X (compareOp .NotIn) (rNIn X.prog X.w true) := by
  intro pins s σ H x y v u Q I rx ry h
  obtain ⟨d, kvs, k, rfl, nd, nk, ⟨b, rfl⟩, kd, q⟩ := h
  obtain rfl : u = Value.ref d := ry
  obtain ⟨hd, xs, _, _, kv, _, dd⟩ := NDict.of I.hok nd
  have hk := NKey.is I.hok nk rx
  cases (show v = Value.ref b from rx)
  refine PySem.notIn_keyed (knd := nkd X.prog X.w) (nroom hu _ _) ⟨hk, kd⟩ hd ⟨xs, dd, rfl⟩ ?_
  have e := (kv.val k).isSome_eq
  refine ⟨_, H, I.tok _, ?_, q⟩
  show Value.bool _ = Value.bool _
  rw [← e]
  rfl
theorem pe_nget (hu : X.A.units + 64 < cLine) (ho : PE X o td) (hi : PE X i ty) (hs : NoSl i) : PE X (.Subscript o i pos) (tNGet X.prog X.w td ty) := by
  refine ⟨fun pins s σ H Q I h => ?_⟩
  refine subD_of PySem.F.slot_dict_getitem.lookup hs (thn (ho.run pins s σ H _ I h) fun u s1 ⟨x, H1, I1, rx, q1⟩ => thn (hi.run pins s1 σ H1 _ I1 q1) fun iv s2 ⟨y, H2, I2, ry, d, kvs, k, b, v, ex, ey, nd, nk, kd, hv, q2⟩ => ?_)
  subst ex ey
  obtain rfl : u = Value.ref d := rx
  obtain ⟨hd, xs, _, _, kv, _, dd⟩ := NDict.of I2.hok nd
  have hk := NKey.is I2.hok nk ry
  obtain rfl : iv = Value.ref b := ry
  obtain ⟨w', hw, rw'⟩ := RelO.some_of (v := v) (o := valueAt (PySem.pairsH xs) k) (by rw [← hv]; exact kv.val k)
  refine ⟨dd.typeIs, PySem.getItem_keyed (knd := nkd X.prog X.w) (nroom hu _ _) ⟨hk, kd⟩ ⟨xs, dd, rfl⟩ hw ⟨v, H2, I2.tok _, rw', q2⟩⟩
theorem ps_nput (hu : X.A.units + 64 < cLine) (ho : PE X o td) (hi : PE X i ty) (hv : PE X value tv) (hs : swapsWith value (some (.Subscript o i pos')) pos.line X.env = pure false) :
    PS X (.Assign [.Subscript o i pos'] value pos) (sNPut X.prog X.w td ty tv) := by
  refine ⟨fun pins s σ H D I h => ?_⟩
  refine wpAny_Assign_Subscript (thn (hv.run pins s σ H _ I h) fun r s1 ⟨v, H1, I1, rv, q1⟩ => thn (ho.run pins s1 σ H1 _ I1 q1) fun u s2 ⟨x, H2, I2, rx, q2⟩ => thn (hi.run pins s2 σ H2 _ I2 q2) fun iv s3 ⟨y, H3, I3, ry, d, kvs, k, b, ex, ey, nd, nk, kd, hl, q3⟩ => ?_) hs
  subst ex ey
  obtain rfl : u = Value.ref d := rx
  obtain ⟨hd, xs, hH, hks, kv, hz, dd⟩ := NDict.of I3.hok nd
  have hk := NKey.is I3.hok nk ry
  obtain rfl : iv = Value.ref b := ry
  have hx : xs.length ≤ sizeLine := by
    have := kv.length
    rw [PySem.pairsH_length] at this
    omega
  refine wpAny_setItem_heap (knd := nkd X.prog X.w) (hsz := hx) (nroom hu _ _) ⟨hk, kd⟩ dd fun h' dd' hs' => ?_
  have he : ∃ q, h'.get? d = some q := let ⟨q, _, _, hq, _⟩ := dd'; ⟨q, hq⟩
  refine ⟨σ, _, d_write (ob := NObj X.prog X.w d (storedH xs k b r)) I3 (by rw [hH]; exact True.intro) hs' he (nobj_ok hd dd'), q3 _ ⟨_, upd_same, fun x hx' => ?_, ?_, ?_⟩⟩
  · have keep : ∀ b ys, H3 b = some (.tup ys) → upd H3 d (NObj X.prog X.w d (storedH xs k b r)) b = some (.tup ys) := fun b ys q => by
      rw [upd_ne fun z => ?_]
      · exact q
      · rw [z, hH] at q
        cases q
    have keep2 : ∀ c ys, H3 c = some (.tup ys) → upd H3 d (NObj X.prog X.w d (storedH xs k b r)) c = some (.tup ys) := fun c ys q => by
      rw [upd_ne fun z => ?_]
      · exact q
      · rw [z, hH] at q
        cases q
    rcases mem_storedH x hx' with ⟨z, hz1, e1, e2⟩ | ⟨e1, e2⟩
    · rw [e1, e2]
      exact ⟨(hks z hz1).1.mono keep2, (hks z hz1).2⟩
    · rw [e1, e2]
      exact ⟨nk.mono keep2, kd⟩
  · rw [PySem.pairsH_storedH]
    exact kv.put k rv
  · have := length_putK kvs k v
    omega
theorem mt_ngetOr (hu : X.A.units + 64 < cLine) : MtR X "dict.get" (rNGetOr X.prog X.w) := by
  intro pins s σ H x xs v us Q I rx rs h
  obtain ⟨d, kvs, k, b, z, rfl, rfl, nd, nk, kd, q⟩ := h
  obtain rfl : v = Value.ref d := rx
  cases rs with
  | cons r1 rs =>
    cases rs with
    | cons r2 rs =>
      cases rs
      obtain ⟨hd, xs, _, _, kv, _, dd⟩ := NDict.of I.hok nd
      have hk := NKey.is I.hok nk r1
      cases r1
      refine PySem.getOr_keyed (knd := nkd X.prog X.w) (nroom hu _ _) ⟨hk, kd⟩ hd ⟨xs, dd, rfl⟩ ⟨_, H, I.tok _, (kv.val k).getD r2, q⟩
theorem dn_empty {P : Program} {w : World} {H : Hp} (h : Heap) (hb : sysModules < h.objs.size) : ObjOk P w H (h.push { cls := .type "dict", data := .dict #[] }) h.objs.size (NObj P w h.objs.size []) :=
  nobj_ok (beq_eq_false_iff_ne.mpr (Ne.symm (Nat.ne_of_lt hb))) (Heap.DictOfH.new h)
theorem pe_dnewN : PE X (.Dict [] [] pos) (tDNewN X.prog X.w) := ⟨fun pins s σ H Q I h =>
  wpAny_Dict_empty ⟨.ref s.heap.objs.size, _, I.laid (a := s.heap.objs.size) (o := NObj X.prog X.w s.heap.objs.size []) (t' := s.toks) (fun _ _ q => Heap.get?_push_of_some _ q) (Nat.le_refl _) (dn_empty s.heap I.big), rfl, h _ (I.hok.fresh (Nat.le_refl _)) ⟨[], upd_same, fun x hx => (by cases hx), Paired.nil, Nat.zero_le _⟩⟩⟩
end
section
variable {P : Program} {w : World} {K : PySem.W.Frag} {σ : L2.St} {H : Hp} {ta tb te tl : TE} {D : Ends} {tz : TS} {d : Addr} {kvs : List (NK × V)} {k : NK} {v x : V}
theorem ev_nin {neg : Bool} {b : Addr} (ha : Ev ta σ H (.ref b)) (hb : Ev tb σ H (.ref d)) (nd : NDict P w H d kvs) (nk : NKey H k (.ref b)) (hd : k.depth ≤ 8) : Ev (tOp (rNIn P w neg) ta tb) σ H (.bl (if neg then !(valV kvs k).isSome else (valV kvs k).isSome)) := fun H1 e Q q =>
  ha H1 e _ fun H2 e2 => hb H2 (e.trans e2) _ fun H3 e3 => ⟨d, kvs, k, rfl, nd.ex ((e.trans e2).trans e3), nk.ex ((e.trans e2).trans e3), ⟨b, rfl⟩, hd, q H3 (e2.trans e3)⟩
theorem ev_nget {b : Addr} (hb : Ev tb σ H (.ref d)) (ha : Ev ta σ H (.ref b)) (nd : NDict P w H d kvs) (nk : NKey H k (.ref b)) (hd : k.depth ≤ 8) (hv : valV kvs k = some v) : Ev (tNGet P w tb ta) σ H v := fun H1 e Q q =>
  hb H1 e _ fun H2 e2 => ha H2 (e.trans e2) _ fun H3 e3 => ⟨d, kvs, k, b, v, rfl, rfl, nd.ex ((e.trans e2).trans e3), nk.ex ((e.trans e2).trans e3), hd, hv, q H3 (e2.trans e3)⟩
theorem s_nput {b : Addr} (hv : Ev te σ H v) (hb : Ev tb σ H (.ref d)) (ha : Ev ta σ H (.ref b)) (nd : NDict P w H d kvs) (nk : NKey H k (.ref b)) (hd : k.depth ≤ 8) (hz : kvs.length < 100000)
    (q : ∀ H1 xs, Ex H H1 → NDict P w (upd H1 d (NObj P w d xs)) d (putK kvs k v) → D.nx σ (upd H1 d (NObj P w d xs))) : sNPut P w tb ta te D σ H :=
  hv H (Ex.refl H) _ fun H1 e1 => hb H1 e1 _ fun H2 e2 => ha H2 (e1.trans e2) _ fun H3 e3 => ⟨d, kvs, k, b, rfl, rfl, nd.ex ((e1.trans e2).trans e3), nk.ex ((e1.trans e2).trans e3), hd, sz_lt hz, fun xs n => q H3 xs ((e1.trans e2).trans e3) n⟩
theorem q_nput {b : Addr} (hv : Ev te σ H v) (hb : Ev tb σ H (.ref d)) (ha : Ev ta σ H (.ref b)) (nd : NDict P w H d kvs) (nk : NKey H k (.ref b)) (hd : k.depth ≤ 8) (hz : kvs.length < 100000)
    (q : ∀ H1 xs, Ex H H1 → NDict P w (upd H1 d (NObj P w d xs)) d (putK kvs k v) → tz D σ (upd H1 d (NObj P w d xs))) : tSeq (sNPut P w tb ta te) tz D σ H := s_nput (D := { D with nx := tz D }) hv hb ha nd nk hd hz q
theorem q_dnewN {i : Nat} (q : ∀ d H1, H d = none → Ex H H1 → NDict P w H1 d [] → tz D (σ.set i (some (.ref d))) H1) : tSeq (tAsg (tDNewN P w) (gName i)) tz D σ H := fun d hd n => q d _ hd (Ex.new hd) n
end

--@SPLIT
/-! ### dict comprehensions whose keys are nested tuples -/
section
variable {X : Cx}
theorem d_setN {pins : List (Addr × Obj)} {σ : L2.St} {H : Hp} {s : Shared} {E : Value → Shared → Prop} {d b : Addr} {kvs : List (NK × V)} {k : NK} {v : V} {u r : Value} {Q : Unit → Shared → Prop} (I : Inv X pins σ H s) (hu : X.A.units + 64 < cLine) (nd : NDict X.prog X.w H d kvs) (nk : NKey H k (.ref b)) (kd : k.depth ≤ 8) (hl : kvs.length < sizeLine)
    (ry : RelV (.ref b) u) (rv : RelV v r) (h : ∀ xs s', Inv X pins σ (upd H d (NObj X.prog X.w d xs)) s' → NDict X.prog X.w (upd H d (NObj X.prog X.w d xs)) d (putK kvs k v) → Q () s') : wpAny (model X.prog X.w) X.A (dictSet d u r) Q E s := by
  obtain ⟨hd, xs, hH, hks, kv, hz, dd⟩ := NDict.of I.hok nd
  have hk := NKey.is I.hok nk ry
  obtain rfl : u = Value.ref b := ry
  have hx : xs.length ≤ sizeLine := by
    have := kv.length
    rw [PySem.pairsH_length] at this
    omega
  have hroom : (nkd X.prog X.w).room X.A := by
    show X.A.units + 8 < cLine
    omega
  refine wpAny_dictSet_heap (knd := nkd X.prog X.w) (hsz := hx) hroom ⟨hk, kd⟩ dd fun h' dd' hs' => ?_
  have he : ∃ q, h'.get? d = some q := let ⟨q, _, _, hq, _⟩ := dd'; ⟨q, hq⟩
  have keep : ∀ b ys, H b = some (.tup ys) → upd H d (NObj X.prog X.w d (storedH xs k b r)) b = some (.tup ys) := fun b ys q => by
    rw [upd_ne fun z => ?_]
    · exact q
    · rw [z, hH] at q
      cases q
  refine h _ _ (d_write (ob := NObj X.prog X.w d (storedH xs k b r)) I (by rw [hH]; exact True.intro) hs' he (nobj_ok hd dd')) ⟨_, upd_same, fun x hx' => ?_, ?_, ?_⟩
  · have keep2 : ∀ c ys, H c = some (.tup ys) → upd H d (NObj X.prog X.w d (storedH xs k b r)) c = some (.tup ys) := fun c ys q => by
      rw [upd_ne fun z => ?_]
      · exact q
      · rw [z, hH] at q
        cases q
    rcases mem_storedH x hx' with ⟨z, hz1, e1, e2⟩ | ⟨e1, e2⟩
    · rw [e1, e2]
      exact ⟨(hks z hz1).1.mono keep2, (hks z hz1).2⟩
    · rw [e1, e2]
      exact ⟨nk.mono keep2, kd⟩
  · rw [PySem.pairsH_storedH]
    exact kv.put k rv
  · have := length_putK kvs k v
    omega
/-- what a turn of the comprehension asks: the key a nested tuple, the dict at D -/
def DcTurn (P : Program) (w : World) (D : Addr) (tk tv : TE) (Nx : Hp → Prop) : L2.St → Hp → Prop := fun σ H => tk σ H fun y H4 => tv σ H4 fun z H5 => ∃ kvs k b, y = .ref b ∧ NDict P w H5 D kvs ∧ NKey H5 k (.ref b) ∧ k.depth ≤ 8 ∧ kvs.length < sizeLine ∧ ∀ xs, NDict P w (upd H5 D (NObj P w D xs)) D (putK kvs k z) → Nx (upd H5 D (NObj P w D xs))
def tDcN (P : Program) (w : World) (wi : TI) (g : TG) (tt : TT) (tk tv : TE) (vs : List Nat) : TE := fun σ H Q => wi σ H fun J H1 => ∀ D, H1 D = none → ∃ W : Nat → Nat → Hp → Prop, (∃ m, ∀ x, (x = NObj P w D [] → W 0 m (upd H1 D x))) ∧ ∀ i m H, W i m H →
  (J.stop i H ∧ Q (.ref D) H) ∨ (J.go i H ∧ ∃ Nx : Hp → Prop, (∀ H', Nx H' → ∃ m', m' < m ∧ W (i + 1) m' H') ∧ ∀ x H', J.yld i H x H' → g x (wipe σ vs) H' fun σ2 H2 => wipe σ2 vs = wipe σ vs ∧ tt σ2 H2 fun b H3 =>
    if b = true then DcTurn P w D tk tv Nx σ2 H3 else Nx H3)
theorem dcN_core {pins : List (Addr × Obj)} {s : Shared} {σ : L2.St} {H : Hp} {Q : VK} {use : Option (Value → Sem Unit)} {Qf : Value → Shared → Prop} {pos' : Pos} {kx vx tg iter : Expr} {ifs : List Expr} {scope : Scope} {own : List (Str × Nat)} {pos : Pos} {wi : TI} {g : TG} {tt : TT} {tk tv : TE} (hu : X.A.units + 64 < cLine) (hc : X.calm = true) (hN : X.N.Nodup) (I : Inv X pins σ H s) (hi : PI X tg iter wi) (ok : BlkOk X.N X.env.scope scope own)
    (hg : ∀ (s : Shared) (H : Hp) (C : Addr) (cl : List (Str × Addr)) (fp : List Addr), PG (X.blk s H scope (compEnvC scope cl C X.env) fp) tg g) (ht : ∀ (s : Shared) (H : Hp) (C : Addr) (cl : List (Str × Addr)) (fp : List Addr), PTs (X.blk s H scope (compEnvC scope cl C X.env) fp) ifs tt)
    (hk : ∀ (s : Shared) (H : Hp) (C : Addr) (cl : List (Str × Addr)) (fp : List Addr), PE (X.blk s H scope (compEnvC scope cl C X.env) fp) kx tk)
    (hv : ∀ (s : Shared) (H : Hp) (C : Addr) (cl : List (Str × Addr)) (fp : List Addr), PE (X.blk s H scope (compEnvC scope cl C X.env) fp) vx tv) (hs : ∀ x, foldedSetIterable iter X.env x = pure x)
    (h : tDcN X.prog X.w wi g tt tk tv (own.map (·.2)) σ H Q)
    (hRR : ∀ D C s' m H', Inv X pins σ H' s' → Q (.ref D) H' → s'.heap.Ns C m → FpOk X pins H' C → compPost (model X.prog X.w) X.A X.xe use Qf (.ref D) C (.ok .next) s') :
    wpAny (model X.prog X.w) X.A (comprehension (.DictComp kx vx [⟨tg, iter, ifs, 0⟩] scope pos) scope X.env pos' newDict false (eval iter X.env) use) Qf X.xe s := by
  have cells : ∀ y ∈ scope.names, y.2 = .free → ∃ c, X.env.cells.lookup y.1 = some c := fun y hy e => (ok.free y hy e).elim (fun k => I.ok.has _ (.inl k)) fun k => I.ok.has _ (.inr k)
  refine wpAny_comprehension_free (use := use) rfl hs (closure_ok cells) ok.kind (fun y hy e => by rw [ok.uniq y hy, e]) (thn (hi.run pins s σ H _ I h) fun xv s1 hx => thn hx fun itv s2 h2 => ?_)
  obtain ⟨it, fp, tn, J, H2, rfl, I2, T, at2, free2, todo⟩ := h2
  refine wpAny_newObj_type (newEnv_comp ?_)
  generalize hD : s2.heap.objs.size = D
  obtain ⟨W, ⟨m0, w0⟩, turn⟩ := todo D (I2.hok.fresh (Nat.le_of_eq hD))
  have w1 := w0 _ rfl
  have I3 : Inv X pins σ (upd H2 D (NObj X.prog X.w D [])) { s2 with heap := s2.heap.push { cls := .type "dict", data := .dict #[] } } := by
    refine I2.laid (t' := s2.toks) (fun b o e => Heap.get?_push_of_some _ e) (Nat.le_of_eq hD) ?_
    rw [← hD]
    exact dn_empty s2.heap I2.big
  generalize hH3 : upd H2 D (NObj X.prog X.w D []) = H3 at I3 w1
  have fpn : ∀ b ∈ fp, FpOk X pins H3 b ∧ b < (s2.heap.push { cls := .type "dict", data := .dict #[] }).objs.size := fun b hb => by
    obtain ⟨o, e, _⟩ := T.obj _ _ at2 b hb
    have hlt := Heap.lt_size e
    refine ⟨⟨?_, (free2 b hb).2⟩, by rw [Heap.size_push]; exact Nat.lt_succ_of_lt hlt⟩
    rw [← hH3, upd_ne (by rw [← hD]; exact Nat.ne_of_lt hlt)]
    exact (free2 b hb).1
  have at3 : tn 0 (s2.heap.push { cls := .type "dict", data := .dict #[] }) := T.keep _ _ _ at2 fun b _ o e => Heap.get?_push_of_some _ e
  have I4 := block_start I3 ok hN fpn
  generalize hs3 : ({ s2 with heap := s2.heap.push { cls := .type "dict", data := .dict #[] } } : Shared) = s3 at I3 I4
  have h3 : s3.heap = s2.heap.push { cls := .type "dict", data := .dict #[] } := by rw [← hs3]
  rw [← h3] at fpn at3
  have pg := hg s3 H3 s3.heap.objs.size (cellsFrom (s3.heap.objs.size + 1) scope.names (cloFrom X.env.cells scope.names [])) fp
  have pt := ht s3 H3 s3.heap.objs.size (cellsFrom (s3.heap.objs.size + 1) scope.names (cloFrom X.env.cells scope.names [])) fp
  have pk := hk s3 H3 s3.heap.objs.size (cellsFrom (s3.heap.objs.size + 1) scope.names (cloFrom X.env.cells scope.names [])) fp
  have pv := hv s3 H3 s3.heap.objs.size (cellsFrom (s3.heap.objs.size + 1) scope.names (cloFrom X.env.cells scope.names [])) fp
  show codeAny _ _ (.compStart (.DictComp kx vx [⟨tg, iter, ifs, 0⟩] scope pos) 0 (.ref it) (.ref D) (compEnvC scope (cellsFrom (s3.heap.objs.size + 1) scope.names (cloFrom X.env.cells scope.names [])) s3.heap.objs.size X.env)) (compPost (model X.prog X.w) X.A X.xe use Qf (.ref D) s3.heap.objs.size) { s3 with heap := pushCells (s3.heap.push { cls := .type "dict", data := .dict #[] }) scope.names }
  generalize hce : compEnvC scope (cellsFrom (s3.heap.objs.size + 1) scope.names (cloFrom X.env.cells scope.names [])) s3.heap.objs.size X.env = ce at I4 pg pt pk pv ⊢
  have hcl : ce.locals = s3.heap.objs.size := by subst hce; rfl
  generalize hs4 : ({ s3 with heap := pushCells (s3.heap.push { cls := .type "dict", data := .dict #[] }) scope.names } : Shared) = s4 at I4 ⊢
  have at4 : tn 0 s4.heap := T.keep _ _ _ at3 fun b _ o e => by rw [← hs4]; exact pushCells_keeps _ _ _ _ (Heap.get?_push_of_some _ e)
  -- what the walked thing holds stays beside the block
  have held : ∀ {σ' : L2.St} {H' : Hp} {s' : Shared}, Inv (X.blk s3 H3 scope ce fp) [] σ' H' s' → (∀ b ∈ fp, H' b = none) → ∀ b ∈ fp, FpOk (X.blk s3 H3 scope ce fp) [] H' b := fun I' hn b hb => by
    refine ⟨hn b hb, (I'.ok.exf b hb).1, I'.ok.exfs b hb, .inl hb, fun x c e => (I'.ok.exf b hb).2 x c e, fun p hp => ?_⟩
    exact absurd (show p ∈ ([] : List (Addr × Obj)) ++ [] from hp) (by simp)
  have loop : codeAny (model X.prog X.w) X.A (.compLoop (.DictComp kx vx [⟨tg, iter, ifs, 0⟩] scope pos) 0 (.ref it) (.ref D) ce) (compPost (model X.prog X.w) X.A X.xe use Qf (.ref D) s3.heap.objs.size) s4 := by
    refine compLoop_anyD (fun n s' => ∃ i H', Inv (X.blk s3 H3 scope ce fp) [] (wipe σ (own.map (·.2))) H' s' ∧ tn i s'.heap ∧ (∀ b ∈ fp, H' b = none) ∧ W i n H') (fun n s5 hW => ?_) m0 ⟨0, H3, I4, at4, fun b hb => (fpn b hb).1.1, w1⟩
    obtain ⟨i, H5, I5, at5, n5, w5⟩ := hW
    rcases turn i n H5 w5 with ⟨stop, fin⟩ | ⟨go, Nx, hNx, step⟩
    · refine thnF (T.done (X.blk s3 H3 scope ce fp) rfl rfl rfl hc i [] s5 _ H5 (fun _ _ => False) I5 (held I5 n5) at5 stop) fun r s6 ⟨hr, I6⟩ => ?_
      subst hr
      have I7 : Inv X pins σ H5 s6 := I3.call' (ch := fp) I6.os I6.base I6.hok I6.bare fun b hb => by
        obtain ⟨_, z2, _, z4, z5, z6⟩ := (fpn b hb).1
        exact ⟨z4, z2, z5, z6⟩
      have nC : H5 s3.heap.objs.size = none := by
        have z : H5 ce.locals = none := I6.free
        rwa [hcl] at z
      obtain ⟨m, hn, _⟩ := I6.loc
      have hn : s6.heap.Ns ce.locals m := hn
      rw [hcl] at hn
      exact hRR D s3.heap.objs.size s6 m H5 I7 fin hn (I3.fpOk (Nat.le_refl _) nC)
    · refine thnF (T.item (X.blk s3 H3 scope ce fp) rfl rfl rfl hc i [] s5 _ H5 (fun _ _ => False) I5 (held I5 n5) at5 go) fun r s6 ⟨u, hr, h6⟩ => ?_
      subst hr
      refine thnF h6 fun _ s7 ⟨x, H7, I7, r7, y7, at7, n7⟩ => ?_
      have Ip := I7.pinned (held I7 n7) (T.obj _ _ at7)
      refine thnF (pg.run _ s7 _ H7 x u _ Ip r7 (step x H7 y7)) fun _ s8 ⟨σ8, H8, I8, hw8, q8⟩ => ?_
      refine thnF (pt.run _ s8 σ8 H8 _ I8 q8) fun b s9 ⟨H9, I9, q9⟩ => ?_
      have next : ∀ {s' : Shared} {H' : Hp}, Inv (X.blk s3 H3 scope ce fp) ([] ++ pinsAt fp s7.heap) σ8 H' s' → Nx H' → ∃ m, m < n ∧ ∃ i H', Inv (X.blk s3 H3 scope ce fp) [] (wipe σ (own.map (·.2))) H' s' ∧ tn i s'.heap ∧ (∀ b ∈ fp, H' b = none) ∧ W i m H' := fun {s' H'} I' nx => by
        obtain ⟨m', hm, w'⟩ := hNx H' nx
        have pin' : ∀ b ∈ fp, ∀ o, s7.heap.get? b = some o → s'.heap.get? b = some o ∧ H' b = none := fun b hb o e =>
          let z := I'.pin (b, o) (List.mem_append_right _ (List.mem_append_right _ (mem_pinsAt hb e)))
          ⟨z.1, z.2.1⟩
        refine ⟨m', hm, i + 1, H', (I'.unpinned (pins := [])).weak (by rw [← hw8, wipe_length]) (fun j v e => (wipe_some (by rw [hw8]; exact e)).1), T.keep _ _ _ at7 fun b hb o e => (pin' b hb o e).1, fun b hb => ?_, w'⟩
        obtain ⟨o, e, _⟩ := T.obj _ _ at7 b hb
        exact (pin' b hb o e).2
      cases b with
      | false => exact next I9 (by simpa using q9)
      | true =>
        have q9' : DcTurn X.prog X.w D tk tv Nx σ8 H9 := by simpa using q9
        refine thnF (pk.run _ s9 σ8 H9 _ I9 q9') fun z s10 ⟨yk, H10, I10, r10, q10⟩ => ?_
        refine thnF (pv.run _ s10 σ8 H10 _ I10 q10) fun z2 s11 ⟨yv, H11, I11, r11, kvs, k, b, ek, nd, nk, kd, hl, nx⟩ => ?_
        subst ek
        exact d_setN (X := X.blk s3 H3 scope ce fp) I11 hu nd nk kd hl r10 r11 fun xs s12 I12 nd' => next I12 (nx xs nd')
  exact codeAny_compStart_dict loop (T.self X.A 0 _ _ _ at4 loop)
theorem pe_dcN {kx vx tg iter : Expr} {ifs : List Expr} {scope : Scope} {own : List (Str × Nat)} {pos : Pos} {wi : TI} {g : TG} {tt : TT} {tk tv : TE} (hu : X.A.units + 64 < cLine) (hc : X.calm = true) (hN : X.N.Nodup) (hi : PI X tg iter wi) (ok : BlkOk X.N X.env.scope scope own)
    (hg : ∀ (s : Shared) (H : Hp) (C : Addr) (cl : List (Str × Addr)) (fp : List Addr), PG (X.blk s H scope (compEnvC scope cl C X.env) fp) tg g) (ht : ∀ (s : Shared) (H : Hp) (C : Addr) (cl : List (Str × Addr)) (fp : List Addr), PTs (X.blk s H scope (compEnvC scope cl C X.env) fp) ifs tt)
    (hk : ∀ (s : Shared) (H : Hp) (C : Addr) (cl : List (Str × Addr)) (fp : List Addr), PE (X.blk s H scope (compEnvC scope cl C X.env) fp) kx tk)
    (hv : ∀ (s : Shared) (H : Hp) (C : Addr) (cl : List (Str × Addr)) (fp : List Addr), PE (X.blk s H scope (compEnvC scope cl C X.env) fp) vx tv) (hs : ∀ x, foldedSetIterable iter X.env x = pure x := by intro _; rfl) :
    PE X (.DictComp kx vx [⟨tg, iter, ifs, 0⟩] scope pos) (tDcN X.prog X.w wi g tt tk tv (own.map (·.2))) := by
  refine ⟨fun pins s σ H Q I h => ?_⟩
  rw [arm_eval_DictComp]
  refine dcN_core hu hc hN I hi ok hg ht hk hv hs h fun D C s' m H' I' q hn f => ⟨m, hn, fun h'' sb => ?_⟩
  obtain ⟨f0, f1, f2, f3, f4, f5⟩ := f
  exact ⟨.ref D, H', I'.turned (t' := s'.toks) (fun b o hb e => (sb.2 b hb).trans e) f0 f1 f3 f4 f5, rfl, q⟩
theorem ps_setDcN {i : Nat} {y : Str} {py spos : Pos} {kx vx tg iter : Expr} {ifs : List Expr} {scope : Scope} {own : List (Str × Nat)} {pos : Pos} {wi : TI} {g : TG} {tt : TT} {tk tv : TE} (hu : X.A.units + 64 < cLine) (hc : X.calm = true) (hN : X.N.Nodup) (hy : X.N[i]? = some y) (hyl : X.env.scope.names.lookup y = some .local) (hsw : swapsWith (.DictComp kx vx [⟨tg, iter, ifs, 0⟩] scope pos) (some (.Name y py)) spos.line X.env = pure true) (hi : PI X tg iter wi) (ok : BlkOk X.N X.env.scope scope own)
    (hg : ∀ (s : Shared) (H : Hp) (C : Addr) (cl : List (Str × Addr)) (fp : List Addr), PG (X.blk s H scope (compEnvC scope cl C X.env) fp) tg g) (ht : ∀ (s : Shared) (H : Hp) (C : Addr) (cl : List (Str × Addr)) (fp : List Addr), PTs (X.blk s H scope (compEnvC scope cl C X.env) fp) ifs tt)
    (hk : ∀ (s : Shared) (H : Hp) (C : Addr) (cl : List (Str × Addr)) (fp : List Addr), PE (X.blk s H scope (compEnvC scope cl C X.env) fp) kx tk)
    (hv : ∀ (s : Shared) (H : Hp) (C : Addr) (cl : List (Str × Addr)) (fp : List Addr), PE (X.blk s H scope (compEnvC scope cl C X.env) fp) vx tv) (hs : ∀ x, foldedSetIterable iter X.env x = pure x := by intro _; rfl) :
    PS X (.Assign [.Name y py] (.DictComp kx vx [⟨tg, iter, ifs, 0⟩] scope pos) spos) (tAsg (tDcN X.prog X.w wi g tt tk tv (own.map (·.2))) (gName i)) := by
  refine ⟨fun pins s σ H D I h => ?_⟩
  rw [exec_Assign_Name_used _ _ _ _ hsw]
  refine wpAny_bind (wpAny_standAt (wpAny_bind ?_))
  show wpAny _ X.A (do let _ ← comprehension (.DictComp kx vx [⟨tg, iter, ifs, 0⟩] scope pos) scope X.env (firstIterPos [⟨tg, iter, ifs, 0⟩] pos) newDict false (eval iter X.env) (some (assign (.Name y py) X.env))) _ _ s
  have h : tDcN X.prog X.w wi g tt tk tv (own.map (·.2)) σ H (fun x H1 => gName i x σ H1 D.nx) := h
  refine wpAny_bind (thn (dcN_core (Qf := fun _ s' => SP X pins D .next s') hu hc hN I hi ok hg ht hk hv hs h fun L C s' m H' I' q hn f => ?_) fun _ s' hq => wpAny_pure (wpAny_pure hq))
  show wpAny _ _ (assign (.Name y py) X.env (.ref L)) _ _ _
  refine wpAny_assign_Name (store_ok2 (v := V.ref L) I' hN hy (.inl hyl) rfl (fun s2 I2 ⟨a, sb, ha⟩ => ?_) (.inr hyl))
  obtain ⟨f0, f1, f2, f3, f4, f5⟩ := f
  have haC : C ≠ a := by
    rcases ha with z | z
    · rw [z]; exact f1
    · exact fun e => f4 y a z e.symm
  refine ⟨m, hn.sameBut sb haC, fun h3 sb3 => ?_⟩
  exact ⟨_, H', I2.turned (t' := s2.toks) (fun b o hb e => (sb3.2 b hb).trans e) f0 f1 f3 f4 f5, q⟩
theorem swD_true {kx vx : Expr} {gs : List Comprehension} {scope : Scope} {pos py : Pos} {y : Str} {l : Nat} {env : Env} (hk : env.scope.kind = .function) (hy : env.scope.names.lookup y = some .local) (hl : (py.line == pos.line) = true)
    (ha : (scope.names.any fun (n, k) => n == y && (k == .local || k == .cell)) = false) : swapsWith (.DictComp kx vx gs scope pos) (some (.Name y py)) l env = pure true := by
  have ky : env.kindOf y = some .local := hy
  have hb : env.blockKind = .function := by unfold Env.blockKind; rw [hk]; rfl
  unfold swapsWith
  simp only [hb, ky, ha, Expr.pos, hl]
  rfl
end

--@SPLIT
/-! ### dicts keyed by nested tuples: locked and walked, read while they are locked, d[k] op= v -/
/-- the dict at d, locked: its object is o -/
def NDictF (P : Program) (w : World) (H : Hp) (d : Addr) (o : Obj) (kvs : List (NK × V)) : Prop :=
  ∃ xs : List (NK × Addr × Value), H d = some (.frz o (NObj P w d xs)) ∧ (∀ x ∈ xs, NKey H x.1 (.ref x.2.1) ∧ x.1.depth ≤ 8) ∧ KV kvs (PySem.pairsH xs) ∧ kvs.length ≤ sizeLine
theorem NDictF.ex {P : Program} {w : World} {H H' : Hp} {d : Addr} {o : Obj} {kvs : List (NK × V)} (h : NDictF P w H d o kvs) (e : Ex H H') : NDictF P w H' d o kvs := by
  obtain ⟨xs, h1, h2, h3⟩ := h
  exact ⟨xs, e _ _ h1, fun x hx => ⟨(h2 x hx).1.ex e, (h2 x hx).2⟩, h3⟩
theorem NDictF.upd {P : Program} {w : World} {H : Hp} {d p : Addr} {o : Obj} {q u : HO} {kvs : List (NK × V)} (h : NDictF P w H d o kvs) (hp : H p = some u) (hu : ∀ xs, u ≠ .tup xs) (hd : d ≠ p) : NDictF P w (upd H p q) d o kvs := by
  obtain ⟨xs, h1, h2, h3⟩ := h
  refine ⟨xs, by rw [upd_ne hd]; exact h1, fun x hx => ⟨(h2 x hx).1.mono fun b ys e => ?_, (h2 x hx).2⟩, h3⟩
  rw [upd_ne fun z => ?_]
  · exact e
  · rw [z, hp] at e
    exact hu _ (Option.some.inj e)
/-- .. or not locked -/
def NDictR (P : Program) (w : World) (H : Hp) (d : Addr) (kvs : List (NK × V)) : Prop := NDict P w H d kvs ∨ ∃ o, NDictF P w H d o kvs
theorem NDictR.ex {P : Program} {w : World} {H H' : Hp} {d : Addr} {kvs : List (NK × V)} (h : NDictR P w H d kvs) (e : Ex H H') : NDictR P w H' d kvs := h.elim (fun z => .inl (z.ex e)) fun ⟨o, z⟩ => .inr ⟨o, z.ex e⟩
/-- locking it, and back -/
theorem nd_lock {P : Program} {w : World} {H : Hp} {d : Addr} {kvs : List (NK × V)} (h : NDict P w H d kvs) : ∃ xs, H d = some (NObj P w d xs) ∧ (∀ od, NDictF P w (upd H d (.frz od (NObj P w d xs))) d od kvs) ∧
    ∀ H' od, H' d = some (.frz od (NObj P w d xs)) → NDictF P w H' d od kvs → NDict P w (upd H' d (NObj P w d xs)) d kvs := by
  obtain ⟨xs, h1, h2, h3⟩ := h
  have keep : ∀ (G : Hp) (a b : HO), G d = some a → (∀ ys, a ≠ .tup ys) → ∀ c ys, G c = some (.tup ys) → upd G d b c = some (.tup ys) := fun G a b e n c ys q => by
    rw [upd_ne fun z => ?_]
    · exact q
    · rw [z, e] at q
      exact n _ (Option.some.inj q)
  refine ⟨xs, h1, fun od => ⟨xs, upd_same, fun x hx => ⟨(h2 x hx).1.mono (keep H _ _ h1 fun ys z => nomatch z), (h2 x hx).2⟩, h3⟩, fun H' od e f => ?_⟩
  obtain ⟨xs', f1, f2, f3⟩ := f
  have q : NObj P w d xs = NObj P w d xs' := by
    rw [e] at f1
    have z := Option.some.inj f1
    injection z
  rw [q]
  exact ⟨xs', upd_same, fun x hx => ⟨(f2 x hx).1.mono (keep H' _ _ f1 fun ys z => nomatch z), (f2 x hx).2⟩, f3⟩
section
variable {P : Program} {w : World} {H : Hp} {h : Heap} {d : Addr} {kvs : List (NK × V)}
theorem NDictF.of {o : Obj} (ok : HOk P w H h) (e : NDictF P w H d o kvs) : h.get? d = some o ∧ (d == sysModules) = false ∧ ∃ xs, (∀ x ∈ xs, NKey H x.1 (.ref x.2.1) ∧ x.1.depth ≤ 8) ∧ KV kvs (PySem.pairsH xs) ∧ h.DictOfH (nkd P w) d xs := by
  obtain ⟨xs, h1, h2, h3, h4⟩ := e
  obtain ⟨q0, ⟨q1, o', es, ep, q2, q3, q4, q5, q6⟩, _⟩ := (show ObjOk P w H h d (.frz o (NObj P w d xs)) from ok d _ h1)
  exact ⟨q0, q1, xs, h2, h3, o', es, ep, q2, q3, q4, q5, fun x hx => ⟨NKey.is ok (h2 x hx).1 (show RelV (.ref x.2.1) (.ref x.2.1) from rfl), (h2 x hx).2⟩, q6⟩
theorem NDictR.of (ok : HOk P w H h) (e : NDictR P w H d kvs) : (d == sysModules) = false ∧ ∃ xs, KV kvs (PySem.pairsH xs) ∧ h.DictOfH (nkd P w) d xs := by
  rcases e with e | ⟨o, e⟩
  · obtain ⟨hd, xs, _, _, kv, _, dd⟩ := NDict.of ok e
    exact ⟨hd, xs, kv, dd⟩
  · obtain ⟨_, hd, xs, _, kv, dd⟩ := e.of ok
    exact ⟨hd, xs, kv, dd⟩
end
/-! the walk of its keys -/
/-- the keys of the locked dict at d, in their order: each the key's own tuple -/
def Itn (P : Program) (w : World) (d : Addr) (o : Obj) (kvs : List (NK × V)) : It :=
  ⟨fun i H => NDictF P w H d o kvs ∧ i < kvs.length, fun i H x H' => H' = H ∧ ∃ (k : NK) (v : V) (q : Addr), kvs[i]? = some (k, v) ∧ x = .ref q ∧ NKey H k (.ref q) ∧ k.depth ≤ 8, fun i H => NDictF P w H d o kvs ∧ kvs.length ≤ i⟩
theorem frzN {X : Cx} {pins : List (Addr × Obj)} {σ : L2.St} {H : Hp} {s : Shared} {d : Addr} {o : Obj} {kvs : List (NK × V)} (I : Inv X pins σ H s) (h : NDictF X.prog X.w H d o kvs) :
    (d == sysModules) = false ∧ s.heap.get? d = some o ∧ o.ExactDict ∧ ∃ (es : Array DictEntry) (ep : Nat), o.data = .dict es ep ∧ es.size = kvs.length ∧
      ∀ (i : Nat) (k : NK) (v : V), kvs[i]? = some (k, v) → ∃ (en : DictEntry) (q : Addr), es[i]? = some en ∧ en.key = .ref q ∧ NKey H k (.ref q) ∧ k.depth ≤ 8 := by
  obtain ⟨ho, hd, xs, hks, kv, o', es, ep, ho', hx, hdt, he, _⟩ := h.of I.hok
  rw [ho] at ho'
  cases ho'
  refine ⟨hd, ho, hx, es, ep, hdt, ?_, fun i k v e => ?_⟩
  · have l1 : es.size = xs.length := size_of_entries he
    have l2 := kv.length
    rw [PySem.pairsH_length] at l2
    omega
  · obtain ⟨b, hb, e1, e2⟩ := L2.paired_get (show Paired _ kvs (PySem.pairsH xs) from kv) e
    unfold PySem.pairsH at hb
    rw [List.getElem?_map] at hb
    cases hx' : xs[i]? with
    | none => rw [hx'] at hb; cases hb
    | some y =>
      rw [hx'] at hb
      obtain rfl := Option.some.inj hb
      have q := PySem.entry_at he i
      rw [hx'] at q
      have kk := hks y (List.mem_of_getElem? hx')
      have e1' : k = y.1 := e1
      rw [e1']
      exact ⟨_, y.2.1, q, rfl, kk.1, kk.2⟩
theorem turn_nkeys {P : Program} {w : World} {K : PySem.W.Frag} {tg : Expr} {d : Addr} {o : Obj} {es : Array DictEntry} {ep : Nat} {kvs : List (NK × V)} (it : Addr) (hod : o.data = .dict es ep) :
    Turn P w K tg (Itn P w d o kvs) [it] it (fun i h => h.IsKeyIter it d i kvs.length ep) where
  mem := by simp
  obj := fun i h st b hb => by
    have e : b = it := by simpa using hb
    subst e
    obtain ⟨oi, e, c, dd⟩ := st
    exact ⟨oi, e, fun v z => by rw [dd] at z; cases z⟩
  keep := fun i h h' st k => st.at fun oi e => k it (by simp) oi e
  item := by
    intro X hP hw hK hc i pins s σ H E I hf st hg
    subst hP hw hK
    obtain ⟨hd, hi⟩ := hg
    obtain ⟨f0, f1, f2, f3, f4, f5⟩ := hf it (by simp)
    obtain ⟨hs, hgd, hx, es', ep', hdt, hsz, ent⟩ := frzN I hd
    obtain ⟨rfl, rfl⟩ := L2.dict_ep hod hdt
    obtain ⟨⟨k, v⟩, hkv⟩ : ∃ p, kvs[i]? = some p := ⟨kvs[i], List.getElem?_eq_getElem hi⟩
    obtain ⟨en, q, hen, hkey, hq⟩ := ent i k v hkv
    refine L2.next_key_item st hgd hdt hsz hen fun h' st' sb => ?_
    have I1 : Inv X pins σ H { s with heap := h' } := I.turned (t' := s.toks) (fun b ob hb e => (sb.2 b hb).trans e) f0 f1 f3 f4 f5
    obtain ⟨oi, e, c, dd⟩ := id st'
    exact ⟨en.key, rfl, L2.go_of (s := { s with heap := h' }) e c dd (by decide) ⟨.ref q, H, I1, hkey, ⟨rfl, k, v, q, hkv, rfl, hq⟩, st', fun b hb => (hf b hb).1⟩⟩
  done := by
    intro X hP hw hK hc i pins s σ H E I hf st hg
    subst hP hw hK
    obtain ⟨hd, hi⟩ := hg
    obtain ⟨f0, f1, f2, f3, f4, f5⟩ := hf it (by simp)
    obtain ⟨hs, hgd, hx, es', ep', hdt, hsz, ent⟩ := frzN I hd
    obtain ⟨rfl, rfl⟩ := L2.dict_ep hod hdt
    exact L2.next_key_end (I.ok.hd hc) st hgd hdt hsz hi fun h' eb => ⟨rfl, I.turned (t' := s.toks) (fun b ob hb e => eb b ob hb e) f0 f1 f3 f4 f5⟩
  self := fun A i s Q E st h => by
    refine wpAny_pyIter_slot st.typeIs F.slot_dict_keyiterator_iter (wpAny_call_entry F.slot_dict_keyiterator_iter st.typeIs F.entry_dict_keyiterator_iter ?_ (F.args_dict_keyiterator_iter_1 _))
    show wpAny _ _ (ret (.ref it)) _ _ s
    exact wpAny_pure ⟨_, rfl, "dict_keyiterator", _, st.typeIs, F.slot_dict_keyiterator_next.lookup, h⟩
/-- for k in d, d locked -/
def iNKeys (P : Program) (w : World) (td : TE) : TI := fun σ H R => td σ H fun x H1 => ∃ d o kvs, x = .ref d ∧ NDictF P w H1 d o kvs ∧ R (Itn P w d o kvs) H1
theorem pi_nkeys {X : Cx} {tg e : Expr} {td : TE} (he : PE X e td) : PI X tg e (iNKeys X.prog X.w td) := by
  refine ⟨fun pins s σ H R I h => ?_⟩
  refine thn (he.run pins s σ H _ I h) fun u s1 ⟨x, H1, I1, rx, d, o, kvs, ex, hd, q⟩ => ?_
  subst ex
  obtain rfl : u = Value.ref d := rx
  obtain ⟨hs, hgd, hx, es, ep, hdt, hsz, ent⟩ := frzN I1 hd
  refine L2.iter_keys hs hgd hx hdt (L2.pi_one (tk := s1.toks) I1 _ (turn_nkeys _ hdt) ⟨_, Heap.get?_push_size _ rfl, rfl, ?_⟩ q)
  rw [hsz] <;> rfl
/-! reads of a dict, locked or not -/
def rNInR (P : Program) (w : World) : R2 := fun y x H Q => ∃ d kvs k, x = .ref d ∧ NDictR P w H d kvs ∧ NKey H k y ∧ (∃ b, y = .ref b) ∧ k.depth ≤ 8 ∧ Q (.bl (valV kvs k).isSome) H
def tNGetR (P : Program) (w : World) (td ty : TE) : TE := fun σ H Q => td σ H fun x H1 => ty σ H1 fun y H2 => ∃ d kvs k b v, x = .ref d ∧ y = .ref b ∧ NDictR P w H2 d kvs ∧ NKey H2 k y ∧ k.depth ≤ 8 ∧ valV kvs k = some v ∧ Q v H2
section
variable {X : Cx} {o i value : Expr} {pos tpos : Pos} {td ty tv : TE}
theorem op_ninR (hu : X.A.units + 64 < cLine) : OpR X (compareOp .In) (rNInR X.prog X.w) := by
  intro pins s σ H x y v u Q I rx ry h
  obtain ⟨d, kvs, k, rfl, nd, nk, ⟨b, rfl⟩, kd, q⟩ := h
  obtain rfl : u = Value.ref d := ry
  obtain ⟨hd, xs, kv, dd⟩ := NDictR.of I.hok nd
  have hk := NKey.is I.hok nk rx
  cases (show v = Value.ref b from rx)
  refine wpAny_in_heap (knd := nkd X.prog X.w) (nroom hu _ _) ⟨hk, kd⟩ hd dd ?_
  have e := (kv.val k).isSome_eq
  rw [PySem.valueAt_pairsH, Option.isSome_map] at e
  refine ⟨_, H, I.tok _, ?_, q⟩
  show Value.bool _ = Value.bool _
  rw [← e]
theorem pe_ngetR (hu : X.A.units + 64 < cLine) (ho : PE X o td) (hi : PE X i ty) (hs : NoSl i) : PE X (.Subscript o i pos) (tNGetR X.prog X.w td ty) := by
  refine ⟨fun pins s σ H Q I h => ?_⟩
  refine subD_of PySem.F.slot_dict_getitem.lookup hs (thn (ho.run pins s σ H _ I h) fun u s1 ⟨x, H1, I1, rx, q1⟩ => thn (hi.run pins s1 σ H1 _ I1 q1) fun iv s2 ⟨y, H2, I2, ry, d, kvs, k, b, v, ex, ey, nd, nk, kd, hv, q2⟩ => ?_)
  subst ex ey
  obtain rfl : u = Value.ref d := rx
  obtain ⟨hd, xs, kv, dd⟩ := NDictR.of I2.hok nd
  have hk := NKey.is I2.hok nk ry
  obtain rfl : iv = Value.ref b := ry
  obtain ⟨w', hw, rw'⟩ := RelO.some_of (v := v) (o := valueAt (PySem.pairsH xs) k) (by rw [← hv]; exact kv.val k)
  exact ⟨dd.typeIs, PySem.getItem_keyed (knd := nkd X.prog X.w) (nroom hu _ _) ⟨hk, kd⟩ ⟨xs, dd, rfl⟩ hw ⟨v, H2, I2.tok _, rw', q2⟩⟩
theorem pe_ngetRK {P : Program} {w : World} (hP : X.prog = P) (hw : X.w = w) (hu : X.A.units + 64 < cLine) (ho : PE X o td) (hi : PE X i ty) (hs : NoSl i) : PE X (.Subscript o i pos) (tNGetR P w td ty) := hP ▸ hw ▸ pe_ngetR hu ho hi hs
theorem op_ninRK {P : Program} {w : World} (hP : X.prog = P) (hw : X.w = w) (hu : X.A.units + 64 < cLine) : OpR X (compareOp .In) (rNInR P w) := hP ▸ hw ▸ op_ninR hu
/-- d[y] op= value -/
def sNAug (P : Program) (w : World) (td ty tv : TE) (rd : V → V → Hp → VK → Prop) : TS := fun D σ H => td σ H fun x H1 => ty σ H1 fun y H2 => ∃ d kvs k b v, x = .ref d ∧ y = .ref b ∧ NDict P w H2 d kvs ∧ NKey H2 k y ∧ k.depth ≤ 8 ∧ valV kvs k = some v ∧
  tv σ H2 fun y2 H3 => rd v y2 H3 fun z H4 => ∃ kvs', NDict P w H4 d kvs' ∧ NKey H4 k y ∧ kvs'.length < sizeLine ∧ ∀ xs, NDict P w (upd H4 d (NObj P w d xs)) d (putK kvs' k z) → D.nx σ (upd H4 d (NObj P w d xs))
theorem ps_naug {op : Operator} {rd : V → V → Hp → VK → Prop} (hu : X.A.units + 64 < cLine) (ho : PE X o td) (hi : PE X i ty) (hv : PE X value tv) (hop : InOp X op rd)
    (ha : ∀ ov iv new, augStore i ov iv new = (do holding [new, ov, iv] (setItem ov iv new); release [new, ov, iv] []; pure .next)) : PS X (.AugAssign (.Subscript o i tpos) op value pos) (sNAug X.prog X.w td ty tv rd) := by
  refine ⟨fun pins s σ H D I h => ?_⟩
  refine wpAny_AugAssign_SubscriptAny (thn (ho.run pins s σ H _ I h) fun u s1 ⟨x, H1, I1, rx, q1⟩ => thn (hi.run pins s1 σ H1 _ I1 q1) fun iv s2 ⟨y, H2, I2, ry, d, kvs, k, b, v, ex, ey, nd, nk, kd, hv', q2⟩ => ?_) ha
  subst ex ey
  obtain rfl : u = Value.ref d := rx
  obtain rfl : iv = Value.ref b := ry
  obtain ⟨hd, xs, _, _, kv, _, dd⟩ := NDict.of I2.hok nd
  have hk := NKey.is I2.hok nk (show RelV (.ref b) (.ref b) from rfl)
  obtain ⟨w', hw, rw'⟩ := RelO.some_of (v := v) (o := valueAt (PySem.pairsH xs) k) (by rw [← hv']; exact kv.val k)
  refine PySem.getItem_keyed (knd := nkd X.prog X.w) (nroom hu _ _) ⟨hk, kd⟩ ⟨xs, dd, rfl⟩ hw ?_
  refine thn (hv.run pins _ σ H2 _ (I2.tok _) q2) fun w2 s4 ⟨y2, H3, I4, ry2, q3⟩ => thn (hop pins s4 σ H3 v y2 w' w2 _ I4 rw' ry2 q3) fun w3 s5 ⟨z, H4, I5, rz, kvs', nd5, nk5, hl, q4⟩ => ?_
  obtain ⟨hd5, xs5, hH5, hks5, kv5, hz5, dd5⟩ := NDict.of I5.hok nd5
  have hk5 := NKey.is I5.hok nk5 (show RelV (.ref b) (.ref b) from rfl)
  have hx5 : xs5.length ≤ sizeLine := by
    have := kv5.length
    rw [PySem.pairsH_length] at this
    omega
  refine wpAny_setItem_heap (knd := nkd X.prog X.w) (hsz := hx5) (nroom hu _ _) ⟨hk5, kd⟩ dd5 fun h' dd' hs' => ?_
  have he : ∃ q, h'.get? d = some q := let ⟨q, _, _, hq, _⟩ := dd'; ⟨q, hq⟩
  have keep : ∀ c ys, H4 c = some (.tup ys) → upd H4 d (NObj X.prog X.w d (storedH xs5 k b w3)) c = some (.tup ys) := fun c ys e => by
    rw [upd_ne fun z => ?_]
    · exact e
    · rw [z, hH5] at e
      cases e
  refine ⟨σ, _, d_write (ob := NObj X.prog X.w d (storedH xs5 k b w3)) I5 (by rw [hH5]; exact True.intro) hs' he (nobj_ok hd5 dd'), q4 _ ⟨_, upd_same, fun x hx' => ?_, ?_, ?_⟩⟩
  · rcases mem_storedH x hx' with ⟨z, hz1, e1, e2⟩ | ⟨e1, e2⟩
    · rw [e1, e2]
      exact ⟨(hks5 z hz1).1.mono fun b ys e => keep b ys e, (hks5 z hz1).2⟩
    · rw [e1, e2]
      exact ⟨nk5.mono fun b ys e => keep b ys e, kd⟩
  · rw [PySem.pairsH_storedH]
    exact kv5.put k rz
  · have := length_putK kvs' k z
    omega
/-- d.get(y, z) -/
def tNGetOr (P : Program) (w : World) (td ty tx : TE) : TE := fun σ H Q => td σ H fun x H1 => ∃ d, x = .ref d ∧ (∃ kvs, NDictR P w H1 d kvs) ∧ ty σ H1 fun y H2 => tx σ H2 fun z H3 => ∃ kvs k b, NDictR P w H3 d kvs ∧ y = .ref b ∧ NKey H3 k y ∧ k.depth ≤ 8 ∧ Q ((valV kvs k).getD z) H3
theorem pe_ngetOr {e f : Expr} {apos cpos : Pos} (hu : X.A.units + 64 < cLine) (ho : PE X o td) (he : PE X e ty) (hf : PE X f tv) (m : M2 X o "get" apos e f cpos) : PE X (.Call (.Attribute o "get" apos) [e, f] [] cpos) (tNGetOr X.prog X.w td ty tv) := by
  refine ⟨fun pins s σ H Q I h => ?_⟩
  refine wpAny_Call_method m.base m.few m.line PySem.F.plainAttrs_dict PySem.F.slot_dict_get PySem.F.type_dict_get (thn (ho.run pins s σ H _ I h) fun u s1 ⟨x, H1, I1, rx, d, ex, ⟨kvs0, nd0⟩, q1⟩ => ?_)
  subst ex
  obtain rfl : u = Value.ref d := rx
  obtain ⟨_, xs0, _, dd0⟩ := NDictR.of I1.hok nd0
  have hz : ∃ ob, s1.heap.get? d = some ob ∧ ob.dict = none := by
    obtain ⟨o1, _, _, g1, g2, _⟩ := dd0
    exact ⟨o1, g1, g2.2.1⟩
  refine ⟨dd0.typeIs, fun b q => ?_, ?_⟩
  · cases q
    exact hz
  rw [m.trees]
  refine Calls.callWith_builtin rfl (Calls.evalArgs_plain (Calls.spliced_cons (thn (he.run pins s1 σ H1 _ I1 q1) fun iv s2 ⟨y, H2, I2, ry, q2⟩ =>
    Calls.spliced_cons (thn (hf.run pins s2 σ H2 _ I2 q2) fun fv s3 ⟨z, H3, I3, rz, kvs, k, b, nd, ey, nk, kd, q3⟩ => Calls.spliced_nil ?_))))
  subst ey
  obtain rfl : iv = Value.ref b := ry
  obtain ⟨hd, xs, kv, dd⟩ := NDictR.of I3.hok nd
  have hk := NKey.is I3.hok nk (show RelV (.ref b) (.ref b) from rfl)
  exact PySem.getOr_keyed (knd := nkd X.prog X.w) (nroom hu _ _) ⟨hk, kd⟩ hd ⟨xs, dd, rfl⟩ ⟨_, H3, I3.tok _, (kv.val k).getD rz, q3⟩
end
section
variable {P : Program} {w : World} {K : PySem.W.Frag} {σ : L2.St} {H : Hp} {ta tb tc te : TE} {D : Ends} {tz : TS} {d b : Addr} {kvs : List (NK × V)} {k : NK} {v x : V}
theorem ev_ngetOr (ha : Ev ta σ H (.ref d)) (hb : Ev tb σ H (.ref b)) (hc : Ev tc σ H x) (nd : NDictR P w H d kvs) (nk : NKey H k (.ref b)) (hd : k.depth ≤ 8) : Ev (tNGetOr P w ta tb tc) σ H ((valV kvs k).getD x) := fun H1 e Q q =>
  ha H1 e _ fun H2 e2 => ⟨d, rfl, ⟨kvs, nd.ex (e.trans e2)⟩, hb H2 (e.trans e2) _ fun H3 e3 => hc H3 ((e.trans e2).trans e3) _ fun H4 e4 => ⟨kvs, k, b, nd.ex (((e.trans e2).trans e3).trans e4), rfl, nk.ex (((e.trans e2).trans e3).trans e4), hd, q H4 ((e2.trans e3).trans e4)⟩⟩
theorem ev_ngetR (ha : Ev ta σ H (.ref d)) (hb : Ev tb σ H (.ref b)) (nd : NDictR P w H d kvs) (nk : NKey H k (.ref b)) (hd : k.depth ≤ 8) (hv : valV kvs k = some v) : Ev (tNGetR P w ta tb) σ H v := fun H1 e Q q =>
  ha H1 e _ fun H2 e2 => hb H2 (e.trans e2) _ fun H3 e3 => ⟨d, kvs, k, b, v, rfl, rfl, nd.ex ((e.trans e2).trans e3), nk.ex ((e.trans e2).trans e3), hd, hv, q H3 (e2.trans e3)⟩
theorem ev_ninR (ha : Ev ta σ H (.ref b)) (hb : Ev tb σ H (.ref d)) (nd : NDictR P w H d kvs) (nk : NKey H k (.ref b)) (hd : k.depth ≤ 8) : Ev (tOp (rNInR P w) ta tb) σ H (.bl (valV kvs k).isSome) := fun H1 e Q q =>
  ha H1 e _ fun H2 e2 => hb H2 (e.trans e2) _ fun H3 e3 => ⟨d, kvs, k, rfl, nd.ex ((e.trans e2).trans e3), nk.ex ((e.trans e2).trans e3), ⟨b, rfl⟩, hd, q H3 (e2.trans e3)⟩
/-- d[k] -= n -/
theorem s_naugSub {n m : Int} (ha : Ev ta σ H (.ref d)) (hb : Ev tb σ H (.ref b)) (hv : Ev te σ H (.int m)) (nd : NDict P w H d kvs) (nk : NKey H k (.ref b)) (hd : k.depth ≤ 8) (hz : kvs.length < 100000) (hk : valV kvs k = some (.int n))
    (q : ∀ H1 xs, Ex H H1 → NDict P w (upd H1 d (NObj P w d xs)) d (putK kvs k (.int (n - m))) → D.nx σ (upd H1 d (NObj P w d xs))) : sNAug P w ta tb te rSub D σ H :=
  ha H (Ex.refl H) _ fun H1 e1 => hb H1 e1 _ fun H2 e2 => ⟨d, kvs, k, b, .int n, rfl, rfl, nd.ex (e1.trans e2), nk.ex (e1.trans e2), hd, hk, hv H2 (e1.trans e2) _ fun H3 e3 =>
    ⟨n, m, rfl, rfl, kvs, nd.ex ((e1.trans e2).trans e3), nk.ex ((e1.trans e2).trans e3), sz_lt hz, fun xs n => q H3 xs ((e1.trans e2).trans e3) n⟩⟩
end

--@SPLIT
namespace K76
/-! ### bags by a key: what k76 asks of them, without the program -/
variable {α κ : Type} [DecidableEq κ]
/-- how many of xs have the key k -/
def cnt (f : α → κ) (k : κ) (xs : List α) : Nat := xs.countP fun x => decide (f x = k)
theorem cnt_nil (f : α → κ) (k : κ) : cnt f k [] = 0 := rfl
theorem cnt_cons (f : α → κ) (k : κ) (x : α) (xs : List α) : cnt f k (x :: xs) = cnt f k xs + if f x = k then 1 else 0 := by
  unfold cnt
  rw [List.countP_cons]
  simp
theorem cnt_app (f : α → κ) (k : κ) (xs ys : List α) : cnt f k (xs ++ ys) = cnt f k xs + cnt f k ys := List.countP_append
theorem cnt_map (f : α → κ) (k : κ) (xs : List α) : (xs.map f).count k = cnt f k xs := by
  induction xs with
  | nil => rfl
  | cons x xs ih => rw [List.map_cons, List.count_cons, cnt_cons, ih]; simp
theorem cnt_sub (f : α → κ) (k : κ) {xs ys : List α} (h : xs.Sublist ys) : cnt f k xs ≤ cnt f k ys := h.countP_le
/-- without the first ones: as many of each key as m tells -/
def wf (f : α → κ) : List α → (κ → Nat) → List α
  | [], _ => []
  | x :: xs, m => if 0 < m (f x) then wf f xs (fun k => if k = f x then m k - 1 else m k) else x :: wf f xs m
/-- without the last ones: as many of each key as m tells -/
def wl (f : α → κ) : List α → (κ → Nat) → List α
  | [], _ => []
  | x :: xs, m => if m (f x) < cnt f (f x) (x :: xs) then x :: wl f xs m else wl f xs m
theorem cnt_wf (f : α → κ) (k : κ) : ∀ (xs : List α) (m : κ → Nat), cnt f k (wf f xs m) = cnt f k xs - m k
  | [], m => by simp [wf, cnt_nil]
  | x :: xs, m => by
    unfold wf
    split
    · rw [cnt_wf f k xs, cnt_cons]
      by_cases e : f x = k
      · subst e; simp; omega
      · have e' : ¬ k = f x := fun z => e z.symm
        simp [e, e']
    · rw [cnt_cons, cnt_cons, cnt_wf f k xs]
      by_cases e : f x = k
      · subst e; simp; omega
      · simp [e]
theorem cnt_wl (f : α → κ) (k : κ) : ∀ (xs : List α) (m : κ → Nat), cnt f k (wl f xs m) = cnt f k xs - m k
  | [], m => by simp [wl, cnt_nil]
  | x :: xs, m => by
    unfold wl
    split <;> rename_i h
    · rw [cnt_cons, cnt_cons, cnt_wl f k xs]
      rw [cnt_cons] at h
      by_cases e : f x = k
      · subst e; simp at h ⊢; omega
      · simp [e]
    · rw [cnt_cons, cnt_wl f k xs]
      rw [cnt_cons] at h
      by_cases e : f x = k
      · subst e; simp at h ⊢; omega
      · simp [e]
theorem wf_sub (f : α → κ) : ∀ (xs : List α) (m : κ → Nat), (wf f xs m).Sublist xs
  | [], _ => .slnil
  | x :: xs, m => by
    unfold wf
    split
    · exact (wf_sub f xs _).cons _
    · exact (wf_sub f xs _).cons_cons _
theorem wl_sub (f : α → κ) : ∀ (xs : List α) (m : κ → Nat), (wl f xs m).Sublist xs
  | [], _ => .slnil
  | x :: xs, m => by
    unfold wl
    split
    · exact (wl_sub f xs _).cons_cons _
    · exact (wl_sub f xs _).cons _
theorem wf_congr (f : α → κ) : ∀ (xs : List α) {m n : κ → Nat}, (∀ k, m k = n k) → wf f xs m = wf f xs n
  | xs, m, n, h => by rw [show m = n from funext h]
theorem wl_congr (f : α → κ) (xs : List α) {m n : κ → Nat} (h : ∀ k, m k = n k) : wl f xs m = wl f xs n := by rw [show m = n from funext h]
/-- the law's way to leave the first ones away: by a list of the keys that are left -/
def lw (f : α → κ) : List α → List κ → List α
  | [], _ => []
  | x :: xs, l => if f x ∈ l then lw f xs (l.erase (f x)) else x :: lw f xs l
theorem lw_wf (f : α → κ) : ∀ (xs : List α) (l : List κ), lw f xs l = wf f xs fun k => l.count k
  | [], _ => rfl
  | x :: xs, l => by
    unfold lw wf
    by_cases e : f x ∈ l
    · rw [if_pos e, if_pos (List.count_pos_iff.mpr e), lw_wf f xs]
      refine wf_congr f xs fun k => ?_
      rw [List.count_erase]
      by_cases z : k = f x
      · subst z; simp
      · have z' : ¬ f x = k := fun q => z q.symm
        simp [z, z']
    · rw [if_neg e, if_neg (fun q => e (List.count_pos_iff.mp q)), lw_wf f xs]
/-- the law's way to take the first ones: those that go more than they come -/
def lm (f : α → κ) (more : κ → Nat) : List α → List α → List α
  | [], found => found
  | x :: xs, found => if cnt f (f x) found < more (f x) then lm f more xs (found ++ [x]) else lm f more xs found
theorem lm_wl (f : α → κ) (rows others : List α) : ∀ (suf pre found : List α), pre ++ suf = rows →
    (∀ k, cnt f k found = min (cnt f k pre) (cnt f k rows - cnt f k others)) →
    lm f (fun k => cnt f k rows - cnt f k others) suf found = found ++ wl f suf fun k => min (cnt f k rows) (cnt f k others)
  | [], pre, found, _, _ => by simp [lm, wl]
  | x :: xs, pre, found, e, h => by
    have q := h (f x)
    have r : cnt f (f x) rows = cnt f (f x) pre + cnt f (f x) (x :: xs) := by rw [← e, cnt_app]
    have e' : (pre ++ [x]) ++ xs = rows := by simpa using e
    have g (k : κ) : cnt f k (pre ++ [x]) = cnt f k pre + if f x = k then 1 else 0 := by rw [cnt_app, cnt_cons, cnt_nil]; omega
    have c1 : 0 < cnt f (f x) (x :: xs) := by rw [cnt_cons]; simp
    have q2 : (fun k => min (cnt f k rows) (cnt f k others)) (f x) = min (cnt f (f x) rows) (cnt f (f x) others) := rfl
    unfold lm wl
    by_cases z : cnt f (f x) found < cnt f (f x) rows - cnt f (f x) others
    · rw [if_pos z, if_pos (by omega), lm_wl f rows others xs (pre ++ [x]) (found ++ [x]) e' fun k => ?_]
      · simp
      · rw [cnt_app, h k, g, cnt_cons, cnt_nil]
        by_cases y : f x = k
        · subst y; simp; omega
        · simp [y]
    · rw [if_neg z, if_neg (by omega), lm_wl f rows others xs (pre ++ [x]) found e' fun k => ?_]
      rw [h k, g]
      by_cases y : f x = k
      · subst y; simp; omega
      · simp [y]
theorem lm_all (f : α → κ) (rows others : List α) : lm f (fun k => cnt f k rows - cnt f k others) rows [] = wl f rows fun k => min (cnt f k rows) (cnt f k others) := by
  rw [lm_wl f rows others rows [] [] rfl fun k => by simp [cnt_nil]]
  rfl
/-- a change and its small one lead to the same bag -/
theorem small_same (f : α → κ) (rows gone come : List α) (h : ∀ k, cnt f k gone ≤ cnt f k rows) :
    ((wf f rows (fun k => cnt f k (wl f gone fun k => min (cnt f k gone) (cnt f k come))) ++ wl f come fun k => min (cnt f k gone) (cnt f k come)).map f).Perm
      ((wf f rows (fun k => cnt f k gone) ++ come).map f) := by
  rw [List.perm_iff_count]
  intro k
  rw [cnt_map, cnt_map, cnt_app, cnt_app, cnt_wf, cnt_wf, cnt_wl, cnt_wl]
  have := h k
  omega
end K76

--@SPLIT
/-! ### rows: lists of lists -/
theorem call_list_ofK {X : L2.Cx} {K : PySem.W.Frag} (h : X.K = K) : CallR X (.type "list") (rListS K) := h ▸ call_list_of
theorem sl_listK {X : L2.Cx} {K : PySem.W.Frag} (h : X.K = K) : SlR X (rSlL K) := h ▸ sl_list
theorem pi_listK {X : L2.Cx} {K : PySem.W.Frag} {tg e : Expr} {te : TE} (h : X.K = K) (he : PE X e te) : PI X tg e (iList K te) := h ▸ pi_list he
theorem pi_tupK {X : L2.Cx} {K : PySem.W.Frag} {tg e : Expr} {te : TE} (h : X.K = K) (he : PE X e te) : PI X tg e (iTup K te) := h ▸ pi_tup he
def RowAt (H : Hp) (p : Addr) (xs : List V) : Prop := H p = some (.lst xs)
def Mn {α : Type} (R : Hp → Addr → α → Prop) : Prop := ∀ H H' q l, Ex H H' → R H q l → R H' q l
theorem RowAt.mn : Mn RowAt := fun H H' q l e h => e _ _ h
theorem Lst2.mn {α : Type} {R : Hp → Addr → α → Prop} (hm : Mn R) : Mn (Lst2 R) := fun H H' q l e h => h.mono e fun q l h => hm _ _ _ _ e h
/-- what is new since H0 -/
def nu (H0 H : Hp) : Hp := fun a => match H0 a with
  | none => H a
  | some _ => none
theorem nu_le {H0 H : Hp} : Ex (nu H0 H) H := fun a o h => by
  unfold nu at h
  split at h
  · exact h
  · cases h
theorem nu_mono {H0 H1 H2 : Hp} (e : Ex H1 H2) : Ex (nu H0 H1) (nu H0 H2) := fun a o h => by
  unfold nu at h ⊢
  cases z : H0 a with
  | none => rw [z] at h; exact e a o h
  | some u => rw [z] at h; cases h
theorem nu_back {H0 H1 H : Hp} (e : Ex H0 H1) : Ex (nu H1 H) (nu H0 H) := fun a o h => by
  unfold nu at h ⊢
  cases z : H1 a with
  | none => rw [z] at h; rw [fresh_back e z]; exact h
  | some u => rw [z] at h; cases h
theorem nu_at {H0 H : Hp} {p : Addr} {o : HO} (h0 : H0 p = none) (h : H p = some o) : nu H0 H p = some o := by
  unfold nu
  rw [h0]
  exact h
theorem nu_wo {H0 H : Hp} {D : Addr} {o : HO} (h : H0 D = some o) : Ex (nu H0 H) (wo D H) := fun a u ha => by
  have hn : a ≠ D := fun z => by
    unfold nu at ha
    rw [z, h] at ha
    cases ha
  rw [wo_ne hn]
  exact nu_le a u ha
theorem nu_wo2 {H0 H1 H : Hp} {D : Addr} {o : HO} (h : H1 D = some o) (e : Ex H0 H1) : Ex (nu H1 H) (wo D (nu H0 H)) := fun a u ha => by
  have hn : a ≠ D := fun z => by
    unfold nu at ha
    rw [z, h] at ha
    cases ha
  rw [wo_ne hn]
  exact nu_back e a u ha
theorem nu_upd {H0 H : Hp} {p : Addr} {o u : HO} (h : H0 p = some u) : nu H0 (upd H p o) = nu H0 H := by
  funext a
  unfold nu
  cases z : H0 a with
  | none => exact upd_ne (fun e => by rw [e, h] at z; cases z)
  | some v => rfl
theorem wo_nu_upd {H0 H : Hp} {D : Addr} {o : HO} : wo D (nu H0 (upd H D o)) = wo D (nu H0 H) := by
  funext a
  by_cases h : a = D
  · rw [h, wo_self, wo_self]
  · rw [wo_ne h, wo_ne h]
    unfold nu
    rw [upd_ne h]
def EvRn (R : Hp → Addr → Prop) (te : TE) (σ : L2.St) (H : Hp) : Prop := ∀ H1, Ex H H1 → ∀ Q : VK, (∀ p H2, H1 p = none → Ex H1 H2 → R (nu H1 H2) p → Q (.ref p) H2) → te σ H1 Q
def EvRo (R : Hp → Addr → Prop) (te : TE) (σ : L2.St) (H : Hp) : Prop := ∀ H1, Ex H H1 → ∀ Q : VK, (∀ p H2, H1 p = none → Ex H1 H2 → R H2 p → Q (.ref p) H2) → te σ H1 Q
/-- a new list, the items' words stand beside it -/
def Lst3 {α : Type} (R : Hp → Addr → α → Prop) (H : Hp) (p : Addr) (L : List α) : Prop := ∃ qs, H p = some (.lst (qs.map V.ref)) ∧ Al2 R (wo p H) qs L
theorem Lst3.two {α : Type} {R : Hp → Addr → α → Prop} (hm : Mn R) {H : Hp} {p : Addr} {L : List α} (h : Lst3 R H p L) : Lst2 R H p L := by
  obtain ⟨qs, h1, h2⟩ := h
  exact ⟨qs, h1, h2.mono fun q l _ => hm _ _ _ _ (wo_le _ _)⟩
section
variable {K : PySem.W.Frag} {σ : L2.St} {H : Hp} {ta tb te tl : TE} {α : Type} {R : Hp → Addr → α → Prop} {D : Ends} {tz : TS}
theorem EvRn.o {R : Hp → Addr → Prop} (hm : ∀ H H' q, Ex H H' → R H q → R H' q) (h : EvRn R te σ H) : EvRo R te σ H := fun H1 e Q q => h H1 e Q fun p H2 hp e2 hR => q p H2 hp e2 (hm _ _ _ nu_le hR)
theorem q_asgR {i : Nat} {R : Hp → Addr → Prop} (h : EvRn R te σ H) (k : ∀ p H1, H p = none → Ex H H1 → R (nu H H1) p → tz D (σ.set i (some (.ref p))) H1) : tSeq (tAsg te (gName i)) tz D σ H := h H (Ex.refl H) _ k
theorem q_asgO {i : Nat} {R : Hp → Addr → Prop} (h : EvRo R te σ H) (k : ∀ p H1, H p = none → Ex H H1 → R H1 p → tz D (σ.set i (some (.ref p))) H1) : tSeq (tAsg te (gName i)) tz D σ H := h H (Ex.refl H) _ k
theorem s_retR {R : Hp → Addr → Prop} (h : EvRn R te σ H) (k : ∀ p H1, H p = none → Ex H H1 → R (nu H H1) p → D.rt (.ref p) H1) : tRet te D σ H := h H (Ex.refl H) _ k
theorem s_retO {R : Hp → Addr → Prop} (h : EvRo R te σ H) (k : ∀ p H1, H p = none → Ex H H1 → R H1 p → D.rt (.ref p) H1) : tRet te D σ H := h H (Ex.refl H) _ k
theorem rn_list {p : Addr} {xs : List V} (ha : Ev ta σ H (.ref p)) (h : SqL K H p xs) : EvRn (fun H p => RowAt H p xs) (tCB (rListS K) (tCons ta tNil)) σ H := fun H1 e Q q => el_list ha h H1 e Q fun p H2 hp e2 h2 => q p H2 hp e2 (nu_at hp h2)
/-- [a new object for x in xs] -/
theorem er_lcD (hm : Mn R) {a : Addr} {xs : List V} {j : Nat} {vs : List Nat} (f : Nat → α) (h : Ev tl σ H (.ref a)) (hx : SqL K H a xs) (hz : xs.length ≤ 40000) (hw : ∀ x, wipe ((wipe σ vs).set j (some x)) vs = wipe σ vs)
    (he : ∀ (i : Nat) (x : V) (H1 : Hp) (D : Addr), Ex H H1 → H D = none → (∃ ys, H1 D = some (.lst ys)) → xs[i]? = some x → ∀ Q : VK, (∀ p H2, H1 p = none → Ex H1 H2 → R (wo D H2) p (f i) → Q (.ref p) H2) → te ((wipe σ vs).set j (some x)) H1 Q) :
    EvRo (fun H p => Lst3 R H p ((List.range xs.length).map f)) (tLc (iList K tl) (gName j) tYes te vs) σ H := fun H0 e0 Q q => h H0 e0 _ fun H1 e1 => ⟨a, rfl, ⟨xs, ex_l (e0.trans e1) hx⟩, fun D hD =>
  lc_list (xs := xs) (fun i H' => H1 D = none ∧ Ex H1 H' ∧ ∃ qs, H' D = some (.lst (qs.map V.ref)) ∧ Al2 R (wo D H') qs ((List.range i).map f)) ⟨hD, Ex.new hD, [], upd_same, Al2.nil⟩ (fun i H' _ p => ex_l ((e0.trans e1).trans p.2.1) hx)
    (fun i x H' hi p => by
      obtain ⟨p1, p2, qs, p3, p4⟩ := p
      refine ⟨hw x, ?_⟩
      show te ((wipe σ vs).set j (some x)) H' fun y H4 => ∃ acc, H4 D = some (.lst acc) ∧ acc.length < sizeLine ∧ _
      refine he i x H' D ((e0.trans e1).trans p2) (fresh_back (e0.trans e1) hD) ⟨_, p3⟩ hi _ fun r H4 hr e4 hR => ⟨_, e4 _ _ p3, sz_lt ?_, p1, Ex.mut (p2.trans e4) p1, qs ++ [r], by rw [upd_same, List.map_append]; rfl, ?_⟩
      · have := p4.1
        rw [List.length_map, List.length_range] at this
        have := (List.getElem?_eq_some_iff.mp hi).1
        rw [List.length_map]
        omega
      · rw [wo_upd, List.range_succ, List.map_append]
        exact (p4.mono fun q l _ => hm _ _ _ _ (wo_mono e4)).snoc hR)
    (fun H' p => by
      obtain ⟨p1, p2, qs, p3, p4⟩ := p
      exact q D H' (fresh_back e1 p1) (e1.trans p2) ⟨qs, p3, p4⟩)⟩
/-- .. objects that are wholly new -/
theorem er_lcN (hm : Mn R) {a : Addr} {xs : List V} {j : Nat} {vs : List Nat} (f : Nat → α) (h : Ev tl σ H (.ref a)) (hx : SqL K H a xs) (hz : xs.length ≤ 40000) (hw : ∀ x, wipe ((wipe σ vs).set j (some x)) vs = wipe σ vs)
    (he : ∀ (i : Nat) (x : V) (H1 : Hp), Ex H H1 → xs[i]? = some x → EvRn (fun H q => R H q (f i)) te ((wipe σ vs).set j (some x)) H1) :
    EvRn (fun H p => Lst2 R H p ((List.range xs.length).map f)) (tLc (iList K tl) (gName j) tYes te vs) σ H := fun H0 e0 Q q => h H0 e0 _ fun H1 e1 => ⟨a, rfl, ⟨xs, ex_l (e0.trans e1) hx⟩, fun D hD =>
  lc_list (xs := xs) (fun i H' => H1 D = none ∧ Ex H1 H' ∧ ∃ qs, H' D = some (.lst (qs.map V.ref)) ∧ Al2 R (wo D (nu H0 H')) qs ((List.range i).map f)) ⟨hD, Ex.new hD, [], upd_same, Al2.nil⟩ (fun i H' _ p => ex_l ((e0.trans e1).trans p.2.1) hx)
    (fun i x H' hi p => by
      obtain ⟨p1, p2, qs, p3, p4⟩ := p
      refine ⟨hw x, ?_⟩
      show te ((wipe σ vs).set j (some x)) H' fun y H4 => ∃ acc, H4 D = some (.lst acc) ∧ acc.length < sizeLine ∧ _
      refine he i x H' ((e0.trans e1).trans p2) hi H' (Ex.refl H') _ fun r H4 hr e4 hR => ⟨_, e4 _ _ p3, sz_lt ?_, p1, Ex.mut (p2.trans e4) p1, qs ++ [r], by rw [upd_same, List.map_append]; rfl, ?_⟩
      · have := p4.1
        rw [List.length_map, List.length_range] at this
        have := (List.getElem?_eq_some_iff.mp hi).1
        rw [List.length_map]
        omega
      · rw [wo_nu_upd, List.range_succ, List.map_append]
        exact (p4.mono fun q l _ => hm _ _ _ _ (wo_mono (nu_mono e4))).snoc (hm _ _ _ _ (nu_wo2 p3 (e1.trans p2)) hR))
    (fun H' p => by
      obtain ⟨p1, p2, qs, p3, p4⟩ := p
      have hD0 := fresh_back e1 p1
      exact q D H' hD0 (e1.trans p2) ⟨qs, nu_at hD0 p3, p4.mono fun q l _ => hm _ _ _ _ (wo_le _ _)⟩)⟩
/-- [f(x) for x in a tuple] -/
theorem el_lcT {a : Addr} {xs : List V} {j : Nat} {vs : List Nat} (f : Nat → V) (h : Ev tl σ H (.ref a)) (hx : SqT K H a xs) (hz : xs.length ≤ 40000) (hw : ∀ x, wipe ((wipe σ vs).set j (some x)) vs = wipe σ vs)
    (he : ∀ (i : Nat) (x : V) (H1 : Hp), Ex H H1 → xs[i]? = some x → Ev te ((wipe σ vs).set j (some x)) H1 (f i)) :
    EvL (tLc (iTup K tl) (gName j) tYes te vs) σ H ((List.range xs.length).map f) := fun H0 e0 Q q => h H0 e0 _ fun H1 e1 => ⟨a, rfl, ⟨xs, ex_t (e0.trans e1) hx⟩, fun D hD =>
  lc_tup (xs := xs) (fun i H' => H1 D = none ∧ Ex H1 H' ∧ H' D = some (.lst ((List.range i).map f))) ⟨hD, Ex.new hD, upd_same⟩ (fun i H' _ p => ex_t ((e0.trans e1).trans p.2.1) hx)
    (fun i x H' hi p => by
      obtain ⟨p1, p2, p3⟩ := p
      refine ⟨hw x, ?_⟩
      show te ((wipe σ vs).set j (some x)) H' fun y H4 => ∃ acc, H4 D = some (.lst acc) ∧ acc.length < sizeLine ∧ _
      refine he i x H' ((e0.trans e1).trans p2) hi H' (Ex.refl H') _ fun H4 e4 => ⟨_, e4 _ _ p3, sz_lt ?_, p1, Ex.mut (p2.trans e4) p1, by rw [upd_same, List.range_succ, List.map_append]; rfl⟩
      have := (List.getElem?_eq_some_iff.mp hi).1
      rw [List.length_map, List.length_range]
      omega)
    (fun H' p => q D H' (fresh_back e1 p.1) (e1.trans p.2.1) p.2.2)⟩
theorem lc_rangeC {lo c : Int} {n : Nat} {g : TG} {tt : TT} {te : TE} {vs : List Nat} {σ : L2.St} {H1 : Hp} {D : Addr} {Qd : Hp → Prop} (Pv : Nat → Hp → Prop) (h0 : Pv 0 (upd H1 D (.lst [])))
    (hs : ∀ i H, i < n → Pv i H → g (.int (lo + (i : Nat) * c)) (wipe σ vs) H fun σ2 H2 => wipe σ2 vs = wipe σ vs ∧ tt σ2 H2 fun b H3 =>
      if b = true then te σ2 H3 fun y H4 => ∃ acc, H4 D = some (.lst acc) ∧ acc.length < sizeLine ∧ Pv (i + 1) (upd H4 D (.lst (acc ++ [y]))) else Pv (i + 1) H3) (hd : ∀ H, Pv n H → Qd H) :
    ∃ W : Nat → Nat → Hp → Prop, (∃ m, W 0 m (upd H1 D (.lst []))) ∧ ∀ i m H, W i m H →
      ((Itc lo c n).stop i H ∧ Qd H) ∨ ((Itc lo c n).go i H ∧ ∃ Nx : Hp → Prop, (∀ H', Nx H' → ∃ m', m' < m ∧ W (i + 1) m' H') ∧ ∀ x H', (Itc lo c n).yld i H x H' → g x (wipe σ vs) H' fun σ2 H2 => wipe σ2 vs = wipe σ vs ∧ tt σ2 H2 fun b H3 =>
        if b = true then te σ2 H3 fun y H4 => ∃ acc, H4 D = some (.lst acc) ∧ acc.length < sizeLine ∧ Nx (upd H4 D (.lst (acc ++ [y]))) else Nx H3) := by
  refine ⟨fun i m H => m = n - i ∧ i ≤ n ∧ Pv i H, ⟨n, by simp, Nat.zero_le _, h0⟩, ?_⟩
  rintro i m H ⟨rfl, hi, p⟩
  by_cases hlt : i < n
  · refine .inr ⟨hlt, Pv (i + 1), fun H' p' => ⟨n - (i + 1), by omega, rfl, hlt, p'⟩, fun x H' y => ?_⟩
    obtain ⟨e, y⟩ := y
    subst e y
    exact hs i _ hlt p
  · have e : i = n := by omega
    subst e
    exact .inl ⟨Nat.le_refl _, hd H p⟩
def stepsN (n c : Nat) : Nat := if 0 < n then (n - 1) / c + 1 else 0
theorem stepsN_le {n c : Nat} (hc : 0 < c) : stepsN n c ≤ n := by
  unfold stepsN
  split
  · have := Nat.div_le_self (n - 1) c
    omega
  · omega
theorem stepsN_mul {n c : Nat} (hc : 0 < c) : stepsN n c * c ≤ n + c := by
  unfold stepsN
  split
  · have h1 := Nat.div_mul_le_self (n - 1) c
    rw [Nat.add_mul, Nat.one_mul]
    omega
  · omega
theorem RgC.up {n c : Nat} (hn : n ≤ 100000) (hc : 0 < c) (hc2 : c ≤ 100000) : RgC 0 (n : Int) (c : Int) (stepsN n c) := by
  have hr : Builtin.Range.rangeSize 0 (n : Int) (c : Int) = ((stepsN n c : Nat) : Int) := by
    unfold Builtin.Range.rangeSize stepsN
    rw [if_pos (by omega)]
    by_cases h : 0 < n
    · rw [if_pos (by omega), if_pos h]
      have : (n : Int) - 0 - 1 = ((n - 1 : Nat) : Int) := by omega
      rw [this]
      rfl
    · rw [if_neg (by omega), if_neg h]
      rfl
  refine ⟨by omega, by omega, ?_, hr⟩
  have hm := stepsN_mul (n := n) hc
  have hm2 := stepsN_le (n := n) hc
  have e : ((stepsN n c : Nat) : Int) * (c : Int) = ((stepsN n c * c : Nat) : Int) := by rw [Int.natCast_mul]
  unfold Builtin.Range.small
  rw [hr]
  simp only [Builtin.Range.rangeFitsLong, Bool.and_eq_true, Bool.or_eq_true, decide_eq_true_eq, beq_iff_eq, show (c : Int) > 0 by omega, if_true, e, Int.zero_add]
  omega
theorem stepsN_at {n c i : Nat} (hc : 0 < c) (h : i < stepsN n c) : i * c < n := by
  unfold stepsN at h
  split at h
  · have h2 : i ≤ (n - 1) / c := by omega
    have := (Nat.le_div_iff_mul_le hc).mp h2
    omega
  · omega
theorem stepsN_all {n c : Nat} (hc : 0 < c) : n ≤ stepsN n c * c := by
  unfold stepsN
  split
  · have h1 := Nat.div_add_mod (n - 1) c
    have h2 := Nat.mod_lt (n - 1) hc
    rw [Nat.add_mul, Nat.one_mul, Nat.mul_comm]
    omega
  · omega
/-- .. over range(0, n, c) -/
theorem er_lcC (hm : Mn R) {n c : Nat} {tr : TA} {j : Nat} {vs : List Nat} (f : Nat → α) (h : EvA tr σ H [.int 0, .int (n : Int), .int (c : Int)]) (hn : n ≤ 40000) (hc : 0 < c) (hc2 : c ≤ 100000) (hw : ∀ x, wipe ((wipe σ vs).set j (some x)) vs = wipe σ vs)
    (he : ∀ (i : Nat) (H1 : Hp) (D : Addr), Ex H H1 → H D = none → (∃ ys, H1 D = some (.lst ys)) → i < stepsN n c → ∀ Q : VK, (∀ p H2, H1 p = none → Ex H1 H2 → R (wo D H2) p (f i) → Q (.ref p) H2) → te ((wipe σ vs).set j (some (.int ((i * c : Nat) : Int)))) H1 Q) :
    EvRo (fun H p => Lst3 R H p ((List.range (stepsN n c)).map f)) (tLc (iRng3 tr) (gName j) tYes te vs) σ H := fun H0 e0 Q q => h H0 e0 _ fun H1 e1 => ⟨0, (n : Int), (c : Int), stepsN n c, rfl, RgC.up (by omega) hc hc2, fun D hD =>
  lc_rangeC (lo := 0) (c := (c : Int)) (n := stepsN n c) (fun i H' => H1 D = none ∧ Ex H1 H' ∧ ∃ qs, H' D = some (.lst (qs.map V.ref)) ∧ Al2 R (wo D H') qs ((List.range i).map f)) ⟨hD, Ex.new hD, [], upd_same, Al2.nil⟩
    (fun i H' hi p => by
      obtain ⟨p1, p2, qs, p3, p4⟩ := p
      have e9 : (0 : Int) + ((i : Nat) : Int) * (c : Int) = ((i * c : Nat) : Int) := by rw [Int.natCast_mul, Int.zero_add]
      refine ⟨hw _, ?_⟩
      show te ((wipe σ vs).set j (some (.int ((0 : Int) + ((i : Nat) : Int) * (c : Int))))) H' fun y H4 => ∃ acc, H4 D = some (.lst acc) ∧ acc.length < sizeLine ∧ _
      rw [e9]
      refine he i H' D ((e0.trans e1).trans p2) (fresh_back (e0.trans e1) hD) ⟨_, p3⟩ hi _ fun r H4 hr e4 hR => ⟨_, e4 _ _ p3, sz_lt ?_, p1, Ex.mut (p2.trans e4) p1, qs ++ [r], by rw [upd_same, List.map_append]; rfl, ?_⟩
      · have := p4.1
        rw [List.length_map, List.length_range] at this
        have h9 := stepsN_le (n := n) hc
        rw [List.length_map]
        omega
      · rw [wo_upd, List.range_succ, List.map_append]
        exact (p4.mono fun q l _ => hm _ _ _ _ (wo_mono e4)).snoc hR)
    (fun H' p => by
      obtain ⟨p1, p2, qs, p3, p4⟩ := p
      exact q D H' (fresh_back e1 p1) (e1.trans p2) ⟨qs, p3, p4⟩)⟩
theorem cutV_nat {xs : List V} {i j : Nat} : cutV xs (some (i : Int)) (some (j : Int)) = (xs.take j).drop i := by
  unfold cutV
  rw [HT.sIx_nat, HT.sIx_nat, List.drop_take]
  by_cases hi : i ≤ xs.length
  · rw [Nat.min_eq_left hi]
    by_cases hj : j ≤ xs.length
    · rw [Nat.min_eq_left hj]
    · rw [Nat.min_eq_right (show xs.length ≤ j by omega), List.take_of_length_le (by rw [List.length_drop]; omega), List.take_of_length_le (by rw [List.length_drop]; omega)]
  · rw [Nat.min_eq_right (show xs.length ≤ i by omega), List.drop_eq_nil_of_le (Nat.le_refl _), List.drop_eq_nil_of_le (show xs.length ≤ i by omega)]
    simp
def chunk {α : Type} (xs : List α) (c i : Nat) : List α := (xs.take (i * c + c)).drop (i * c)
theorem chunk_flat {α : Type} (xs : List α) (c : Nat) : ∀ n, ((List.range n).map (chunk xs c)).flatten = xs.take (n * c)
  | 0 => by simp
  | n + 1 => by
    rw [List.range_succ, List.map_append, List.flatten_append, chunk_flat xs c n]
    show xs.take (n * c) ++ (chunk xs c n ++ []) = xs.take ((n + 1) * c)
    rw [List.append_nil, Nat.add_mul, Nat.one_mul]
    unfold chunk
    have := List.take_append_drop (n * c) (xs.take (n * c + c))
    rw [List.take_take, Nat.min_eq_left (by omega)] at this
    exact this
theorem chunk_map {α β : Type} (f : α → β) (xs : List α) (c i : Nat) : chunk (xs.map f) c i = (chunk xs c i).map f := by
  unfold chunk
  rw [List.map_drop, List.map_take]
/-- a list of rows, cut -/
theorem Al2.cut {qs : List Addr} {L : List α} (h : Al2 R H qs L) (c i : Nat) : Al2 R H (chunk qs c i) (chunk L c i) := by
  refine ⟨by unfold chunk; rw [List.length_drop, List.length_drop, List.length_take, List.length_take, h.1], fun k q l a b => ?_⟩
  unfold chunk at a b
  rw [List.getElem?_drop, List.getElem?_take] at a b
  split at a
  · rename_i hlt
    rw [if_pos hlt] at b
    exact h.2 _ q l a b
  · cases a
theorem ev_rgl {te : TE} {n : Nat} (h : Ev te σ H (.int (n : Int))) (hn : n ≤ 100000) : EvL (tLstRg (tRg1 te)) σ H ((List.range n).map fun i => V.int ((i : Nat) : Int)) := fun H1 e Q q => h H1 e _ fun H2 e2 => ⟨(n : Int), rfl, RgOk.of_le (by omega) (by omega) (by omega) (by omega), fun p hp => q p _ (fresh_back e2 hp) (e2.trans (Ex.new hp)) (by
  rw [upd_same]
  have : rgV 0 (n : Int) = (List.range n).map fun i => V.int ((i : Nat) : Int) := by
    unfold rgV
    rw [show ((n : Int) - 0).toNat = n by omega]
    exact List.map_congr_left fun i _ => by rw [Int.zero_add]
  rw [this])⟩
end
section
variable {K : PySem.W.Frag} {σ : L2.St} {H : Hp} {p : Addr} {te tn : TE} {R : V → Prop}
/-- [what is drawn for k in range(n)] -/
theorem e1_lcE {j : Nat} {vs : List Nat} {n : Nat} (hn : Ev tn σ (wo p H) (.int (n : Int))) (hm : n ≤ 10000) (hw : ∀ x, wipe ((wipe σ vs).set j (some x)) vs = wipe σ vs)
    (he : ∀ i : Nat, EvD1 te ((wipe σ vs).set j (some (.int (i : Int)))) p H R) : EvLD1 (tLc (iRng1 (tCons tn tNil)) (gName j) tYes te vs) σ p H (fun xs => xs.length = n ∧ ∀ x ∈ xs, R x) := fun H0 e d Q q =>
  hn H0 e _ fun H1 e1 => by
    have d1 := d.ex e1
    refine ⟨(n : Int), rfl, by omega, by omega, fun Dl hD => ?_⟩
    have hpd : p ≠ Dl := dr_ne d1 hD
    refine lc_range (lo := 0) (n := ((n : Int)).toNat) (fun i H' => Ex (wo p H1) H' ∧ Dr p H' ∧ ∃ acc, H' Dl = some (.lst acc) ∧ acc.length = i ∧ ∀ x ∈ acc, R x) ⟨Ex.mut (wo_le p H1) (by rw [wo_ne (Ne.symm hpd)]; exact hD), d1.upd hpd, [], upd_same, rfl, fun x hx => by cases hx⟩ (fun i H' hi pv => ?_) (fun H' pv => ?_)
    · obtain ⟨p1, p2, acc, p3, p4, p5⟩ := pv
      have e0 : (0 : Int) + (i : Int) = (i : Int) := Int.zero_add _
      show wipe ((wipe σ vs).set j (some (.int ((0 : Int) + (i : Int))))) vs = wipe σ vs ∧ te ((wipe σ vs).set j (some (.int ((0 : Int) + (i : Int))))) H' fun y H4 => ∃ acc, H4 Dl = some (.lst acc) ∧ acc.length < sizeLine ∧ _
      rw [e0]
      refine ⟨hw _, he i H' (wx_trans e (wx_trans (wx_of e1) p1)) p2 _ fun y H4 hy e4 d4 => ?_⟩
      refine ⟨acc, e4 Dl _ (by rw [wo_ne (Ne.symm hpd)]; exact p3), sz_lt (by omega), Ex.mut (wx_trans p1 e4) (by rw [wo_ne (Ne.symm hpd)]; exact hD), d4.upd hpd, acc ++ [y], upd_same, by rw [List.length_append, p4]; rfl, fun x hx => ?_⟩
      rcases List.mem_append.mp hx with h | h
      · exact p5 x h
      · rw [List.mem_singleton.mp h]
        exact hy
    · obtain ⟨p1, p2, acc, p3, p4, p5⟩ := pv
      exact q Dl H' acc ⟨by rw [p4]; exact Int.toNat_natCast n, p5⟩ (fresh_back e1 hD) (wx_trans (wx_of e1) p1) p2 p3
theorem q1_asgL {i : Nat} {P : List V → Prop} {D : Ends} {tz : TS} (h : EvLD1 te σ p H P) (d : Dr p H) (k : ∀ l H1 xs, P xs → H l = none → Ex (wo p H) H1 → Dr p H1 → H1 l = some (.lst xs) → tz D (σ.set i (some (.ref l))) H1) : tSeq (tAsg te (gName i)) tz D σ H := h H (wo_le p H) d _ fun l H1 xs hP hl e d1 h1 => k l H1 xs hP hl e d1 h1
end

theorem row_ok {xs : List V} (h : ∀ x ∈ xs, Ok x) (n : Nat) : Ok (xs.getD n .non) := by
  rw [List.getD_eq_getElem?_getD]
  cases e : xs[n]? with
  | none => exact .non
  | some x => exact h x (List.mem_of_getElem? e)
/-! ### the law's rows -/
def OkRow (r : List V) : Prop := (∀ x ∈ r, Ok x) ∧ r.length ≤ 1000
def OkRows (L : List (List V)) : Prop := L.length ≤ 2000 ∧ ∀ r ∈ L, OkRow r
theorem range_map {α : Type} {xs : List V} (f : V → α) : (List.range xs.length).map (fun i => f (xs.getD i .non)) = xs.map f := by
  apply List.ext_getElem?
  intro i
  rw [List.getElem?_map, List.getElem?_map]
  by_cases h : i < xs.length
  · rw [List.getElem?_range h, List.getElem?_eq_getElem h]
    show some (f (xs.getD i .non)) = some (f xs[i])
    rw [List.getD_eq_getElem?_getD, List.getElem?_eq_getElem h]
    rfl
  · rw [List.getElem?_eq_none (by rw [List.length_range]; omega), List.getElem?_eq_none (by omega)]
    rfl
theorem getD_is {α : Type} {xs : List α} {i : Nat} {x d : α} (h : xs[i]? = some x) : xs.getD i d = x := by rw [List.getD_eq_getElem?_getD, h]; rfl
theorem sh_ranks {xs : List V} (h : ∀ x ∈ xs, Ok x) : SeqAt.shaped (.list (xs.map rkD)) = true := by
  have hd := deps_rk h
  show (PyData.canLayAll0 (xs.map rkD) && decide (PyData.depthAll (xs.map rkD) + 1 ≤ 64)) = true
  rw [lays_rk h, decide_eq_true (by omega)]
  rfl
def sp__law_ranks (K : PySem.W.Frag) : Sp := fun vs H Q _ => ∃ (a : Addr) (xs : List V), vs = [.ref a] ∧ SqL K H a xs ∧ OkRow xs ∧ ∀ p H' ys, H p = none → Ex H H' → H' p = some (.lst ys) → DpAll K H' ys (xs.map rkD) → Q (.ref p) H'
def sp__law_same_rows (K : PySem.W.Frag) : Sp := fun vs H Q _ => ∃ (p q : Addr) (L : List (List V)), vs = [.ref p, .ref q] ∧ Lst2 RowAt H p L ∧ Lst2 RowAt H q L ∧ OkRows L ∧ ∀ H', Ex H H' → Q (.bl true) H'
section
variable {P : Program} {w : World} {K : PySem.W.Frag} {mg : Str → Option Value} {base : Heap}
theorem ld_ranks {σ : L2.St} {H : Hp} {ta : TE} {E : XK} {a : Addr} {xs : List V} (ha : Ev ta σ H (.ref a)) (hS : SqL K H a xs) (hx : OkRow xs) : EvLD K (tCall (sp__law_ranks K) [] E (tCons ta tNil)) σ H (xs.map rkD) := fun H1 e Q q =>
  ha H1 e _ fun H2 e2 => ⟨a, xs, rfl, ex_l (e.trans e2) hS, hx, fun p H3 ys hp e3 h3 hd => q p H3 ys (fresh_back e2 hp) (e2.trans e3) h3 hd⟩
theorem ec_srows {σ : L2.St} {H : Hp} {ta tb : TE} {E : XK} {p q : Addr} {L : List (List V)} (ha : Ev ta σ H (.ref p)) (hb : Ev tb σ H (.ref q)) (h1 : Lst2 RowAt H p L) (h2 : Lst2 RowAt H q L) (hL : OkRows L) : Ev (tCall (sp__law_same_rows K) [] E (tCons ta (tCons tb tNil))) σ H (.bl true) := ev_call (ea_cons ha (ea_cons hb ea_nil)) fun H1 e Q k E => ⟨p, q, L, rfl, Lst2.mn RowAt.mn _ _ _ _ e h1, Lst2.mn RowAt.mn _ _ _ _ e h2, hL, k⟩
theorem ok__law_ranks (D : Dn K mg "_law_ranks" s__law_ranks ["row"]) (c__law_rank : C8.Cal P w K mg base 1 "_law_rank" (sp__law_rank K) []) :
    C8.Cal P w K mg base 2 "_law_ranks" (sp__law_ranks K) [] := by
  refine cal_of D sc__law_ranks (fun vs H Q E h => ?_) (fun f cdv A outer s H vs Q E hr h => ?_)
  · obtain ⟨_, _, rfl, _⟩ := h
    rfl
  refine ⟨_, (pss_one (ps_ret (pe_lc (own := [("value", 1)]) (g := gName 1) (tt := tYes) rfl sc__law_ranks.nd (pi_list (pv 0)) (blkOk_by (N := n__law_ranks) (sc := C8.fnScope s__law_ranks) (by decide +kernel)) (fun _ _ _ _ _ => pg_name (i := 1) sc__law_ranks.nd rfl (Or.inl rfl)) (fun _ _ _ _ _ => pts_nil) (fun _ _ _ _ _ => (C8.pe_c c__law_rank hr (by decide) (by rfl) (pa_cons (pv 1) pa_nil)))))), ?_⟩
  obtain ⟨a, xs, rfl, hS, hx, q⟩ := h
  have hz := hx.2
  refine (ld_lcL (K := K) (fun i => rkD (xs.getD i .non)) (ev_var rfl) hS (by omega) (fun i => noL_rk (row_ok hx.1 i)) (fun _ => rfl) fun i x H1 e1 hi => ?_) H (Ex.refl H) _ fun p H2 ys hp e2 h2 hd => q p H2 ys hp e2 h2 (by rw [← range_map]; exact hd)
  rw [getD_is hi]
  exact ed_rk (ec_lrank (ev_var rfl) (hx.1 x (List.mem_of_getElem? hi))) (hx.1 x (List.mem_of_getElem? hi))
theorem ok__law_same_rows (D : Dn K mg "_law_same_rows" s__law_same_rows ["told", "due"]) (c__law_ranks : C8.Cal P w K mg base 2 "_law_ranks" (sp__law_ranks K) []) (z_isinstance : mg "isinstance" = none) (z_len : mg "len" = none) (z_list : mg "list" = none) (z_range : mg "range" = none) :
    C8.Cal P w K mg base 3 "_law_same_rows" (sp__law_same_rows K) [] := by
  refine cal_of D sc__law_same_rows (fun vs H Q E h => ?_) (fun f cdv A outer s H vs Q E hr h => ?_)
  · obtain ⟨_, _, _, rfl, _⟩ := h
    rfl
  refine ⟨_, (pss_cons (ps_if (PW.pt (pw_or (pt_not (pt_val (pe_callB call_isi (by rfl) z_isinstance (by decide +kernel) (pa_cons (pv 0) (pa_cons (pe_bltn (v := .ty "list") (u := .type "list") rfl z_list (by decide +kernel) rfl) pa_nil))))) (pw_or1 (pt_cmpR op_ne (pe_callB call_len_seq (by rfl) z_len PySem.boot_len (pa_cons (pv 0) pa_nil)) (pe_callB call_len_seq (by rfl) z_len PySem.boot_len (pa_cons (pv 1) pa_nil)) (nomark _)))))
      (pss_one (ps_ret pe_bl))
      pss_nil)
    (pss_cons (ps_for PassesOwn.never rfl (pi_range1 rfl z_range (pa_cons (pe_callB call_len_seq (by rfl) z_len PySem.boot_len (pa_cons (pv 1) pa_nil)) pa_nil)) (pg_name (i := 2) sc__law_same_rows.nd rfl (.inl rfl))
      (pss_one (ps_if (PW.pt (pw_or (pt_not (pt_val (pe_callB call_isi (by rfl) z_isinstance (by decide +kernel) (pa_cons (pe_ix ix_list (pv 0) (pv 2) (fun _ _ => rfl)) (pa_cons (pe_bltn (v := .ty "list") (u := .type "list") rfl z_list (by decide +kernel) rfl) pa_nil))))) (pw_or1 (pt_cmpR (op_neD (hu64 hr)) (C8.pe_c c__law_ranks hr (by decide) (by rfl) (pa_cons (pe_ix ix_list (pv 0) (pv 2) (fun _ _ => rfl)) pa_nil)) (C8.pe_c c__law_ranks hr (by decide) (by rfl) (pa_cons (pe_ix ix_list (pv 1) (pv 2) (fun _ _ => rfl)) pa_nil)) (nomark _)))))
      (pss_one (ps_ret pe_bl))
      pss_nil)))
    (pss_one (ps_ret pe_bl)))), ?_⟩
  obtain ⟨p, q', L, rfl, ⟨ps, hp, hA⟩, ⟨qs, hq, hB⟩, hL, q⟩ := h
  have hz := hL.1
  have lenE : (ps.map V.ref).length = L.length := by rw [List.length_map, hA.1]
  have lenM : (qs.map V.ref).length = L.length := by rw [List.length_map, hB.1]
  refine q_when (b := !true || !decide (V.int ((L.length : Nat) : Int) = V.int ((L.length : Nat) : Int))) (et_or (et_not (et_B (ev_isi' (T := "list") (ev_var rfl) (tx_lst hp) (by decide +kernel)))) fun _ => et_test (ev_op (ev_is (ev_len (ev_var rfl) (sq_of hp)) (by rw [lenE])) (ev_is (ev_len (ev_var rfl) (sq_of hq)) (by rw [lenM])) (rv_ne rfl))) (fun hb => by simp at hb) fun _ H1 e1 => ?_
  refine q_forR1 (n := (L.length : Int)) (ea_cons (ev_is (ev_len (ev_var rfl) (sq_of (e1 _ _ hq))) (by rw [lenM])) ea_nil) ⟨by omega, by omega⟩ (fun i σ' H' => ∃ kv, σ' = [some (.ref p), some (.ref q'), kv] ∧ Ex H H') (fun H2 e2 => ⟨none, rfl, e1.trans e2⟩) (fun i σ' H' hi pv => ?_) fun σ' H' pv => ?_
  · obtain ⟨kv, rfl, e⟩ := pv
    have hi2 : i < L.length := by omega
    obtain ⟨pi, hpi, hpl⟩ := hA.get hi2
    obtain ⟨qi, hqi, hql⟩ := hB.get hi2
    have hok := hL.2 _ (List.getElem_mem hi2)
    generalize L[i] = r at hpl hql hok
    have told : ∀ {σ : L2.St} {H0 : Hp}, σ[0]? = some (some (.ref p)) → σ[2]? = some (some (.int (i : Int))) → Ex H H0 → Ev (tOp (rIxL K) (tVar 0) (tVar 2)) σ H0 (.ref pi) := fun h0 h2 e0 => ev_op (ev_var h0) (ev_var h2) (rv_ixL (sq_of (e0 _ _ hp)) (atI_nat (by rw [List.getElem?_map, hpi]; rfl)))
    have due : ∀ {σ : L2.St} {H0 : Hp}, σ[1]? = some (some (.ref q')) → σ[2]? = some (some (.int (i : Int))) → Ex H H0 → Ev (tOp (rIxL K) (tVar 1) (tVar 2)) σ H0 (.ref qi) := fun h0 h2 e0 => ev_op (ev_var h0) (ev_var h2) (rv_ixL (sq_of (e0 _ _ hq)) (atI_nat (by rw [List.getElem?_map, hqi]; rfl)))
    have sh := sh_ranks hok.1
    have er := PySem.SeqAt.eqv_refl _ (SeqAt.canLay_of_shaped sh)
    refine s_when (b := !true || !PyData.eqv (.list (r.map rkD)) (.list (r.map rkD))) (et_or (et_not (et_B (ev_isi' (T := "list") (told rfl rfl e) (tx_lst (e _ _ hpl)) (by decide +kernel)))) fun _ => et_test (ev_neD (ed_lst (ld_ranks (told rfl rfl e) (sq_of (e _ _ hpl)) hok)) (ed_lst (ld_ranks (due rfl rfl e) (sq_of (e _ _ hql)) hok)) sh sh)) (fun hb => by rw [er] at hb; cases hb) fun _ H2 e2 => ⟨_, rfl, e.trans e2⟩
  · obtain ⟨kv, rfl, e⟩ := pv
    exact s_ret ev_c fun H5 e5 => q H5 (e.trans e5)
end

--@SPLIT
/-! ### ranks as keys; rows at addresses; rows told once -/
def payN : V → NK
  | .non => .num 0
  | .bl b => .num (if b then 1 else 0)
  | .int i => .num i
  | .str s => .text s
  | _ => .none
def rkN (x : V) : NK := .tup [.num (kr x), payN x]
def rowN (xs : List V) : NK := .tup (xs.map rkN)
theorem nk_rk {H : Hp} {x : V} {p : Addr} (h : Ok x) (hp : H p = some (.tup (rkL x))) : NKey H (rkN x) (.ref p) := by
  refine .tup hp (.cons (.num _) (.cons ?_ .nil))
  cases h with
  | non => exact .num 0
  | bl b => exact .num _
  | int i => exact .num i
  | str s _ => exact .text s
theorem datas_map : ∀ ks : List NK, NestedKey.datas ks = ks.map NestedKey.data
  | [] => rfl
  | k :: r => by rw [NestedKey.datas, datas_map r]; rfl
theorem rk_data {x : V} (h : Ok x) : (rkN x).data = rkD x := by cases h <;> rfl
theorem row_data {xs : List V} (h : ∀ x ∈ xs, Ok x) : (rowN xs).data = .tuple (xs.map rkD) := by
  unfold rowN
  rw [NestedKey.data, datas_map, List.map_map]
  congr 1
  exact List.map_congr_left fun x hx => rk_data (h x hx)
mutual
theorem eqv_data : ∀ a b : NK, PyData.eqv a.data b.data = NestedKey.beq a b
  | .none, .none => rfl
  | .num a, .num b => by
    show (a == b) = decide (a = b)
    rw [Bool.eq_iff_iff, beq_iff_eq, decide_eq_true_eq]
  | .text a, .text b => by
    show (a == b) = decide (a = b)
    rw [Bool.eq_iff_iff, beq_iff_eq, decide_eq_true_eq]
  | .tup a, .tup b => eqvs_data a b
  | .none, .num _ | .none, .text _ | .none, .tup _ => rfl
  | .num _, .none | .num _, .text _ | .num _, .tup _ => rfl
  | .text _, .none | .text _, .num _ | .text _, .tup _ => rfl
  | .tup _, .none | .tup _, .num _ | .tup _, .text _ => rfl
theorem eqvs_data : ∀ a b : List NK, PyData.eqvAll (NestedKey.datas a) (NestedKey.datas b) = NestedKey.beqAll a b
  | [], [] => rfl
  | x :: xs, y :: ys => by
    show (PyData.eqv x.data y.data && PyData.eqvAll (NestedKey.datas xs) (NestedKey.datas ys)) = _
    rw [eqv_data x y, eqvs_data xs ys]
    rfl
  | [], _ :: _ => rfl
  | _ :: _, [] => rfl
end
theorem eqv_key (a b : NK) : PyData.eqv a.data b.data = decide (a = b) := by rw [eqv_data, NestedKey.decide_eq]
theorem dep_rkN (x : V) : (rkN x).depth ≤ 1 := by cases x <;> exact Nat.le_refl 1
theorem deps_rkN : ∀ xs : List V, NestedKey.depthAll (xs.map rkN) ≤ 1
  | [] => Nat.zero_le _
  | x :: r => by
    show max (rkN x).depth (NestedKey.depthAll (r.map rkN)) ≤ 1
    have := dep_rkN x
    have := deps_rkN r
    omega
theorem dep_row (xs : List V) : (rowN xs).depth ≤ 8 := by
  show NestedKey.depthAll (xs.map rkN) + 1 ≤ 8
  have := deps_rkN xs
  omega
section
variable {K : PySem.W.Frag}
mutual
theorem dp_key {H : Hp} : ∀ {k : NK} {v : V}, NKey H k v → Dp K H v k.data
  | _, _, .non => .non
  | _, _, .num i => .int i
  | _, _, .text x => .str x
  | _, _, .tup h hs => .tup (st_of h) (dp_keys hs)
theorem dp_keys {H : Hp} : ∀ {ks : List NK} {vs : List V}, NKeys H ks vs → DpAll K H vs (NestedKey.datas ks)
  | _, _, .nil => .nil
  | _, _, .cons h hs => .cons (dp_key h) (dp_keys hs)
end
theorem nks_len {H : Hp} : ∀ {ks : List NK} {vs : List V}, NKeys H ks vs → vs.length = ks.length
  | _, _, .nil => rfl
  | _, _, .cons _ t => congrArg (· + 1) (nks_len t)
theorem nks_snoc {H : Hp} : ∀ {ks : List NK} {vs : List V} {k : NK} {v : V}, NKeys H ks vs → NKey H k v → NKeys H (ks ++ [k]) (vs ++ [v])
  | _, _, _, _, .nil, h => .cons h .nil
  | _, _, _, _, .cons a t, h => .cons a (nks_snoc t h)
theorem keep_tup {H : Hp} {p : Addr} {o u : HO} (hp : H p = some u) (hu : ∀ xs, u ≠ .tup xs) : ∀ b xs, H b = some (.tup xs) → upd H p o b = some (.tup xs) := fun b xs q => by
  rw [upd_ne fun z => ?_]
  · exact q
  · rw [z, hp] at q
    exact hu _ (Option.some.inj q)
theorem keep_lst {H : Hp} {p : Addr} {o : HO} {ys : List V} (hp : H p = some (.lst ys)) : ∀ b xs, H b = some (.tup xs) → upd H p o b = some (.tup xs) := keep_tup hp fun xs z => nomatch z
theorem keep_new {H : Hp} {p : Addr} {o : HO} (hp : H p = none) : ∀ b xs, H b = some (.tup xs) → upd H p o b = some (.tup xs) := fun b xs q => by
  rw [upd_ne (ne_of_none q hp)]
  exact q
/-- a new tuple that is the key k -/
def EvK (te : TE) (σ : L2.St) (H : Hp) (k : NK) : Prop := ∀ H1, Ex H H1 → ∀ Q : VK, (∀ p H2, H1 p = none → Ex H1 H2 → NKey H2 k (.ref p) → Q (.ref p) H2) → te σ H1 Q
def EvLK (te : TE) (σ : L2.St) (H : Hp) (ks : List NK) : Prop := ∀ H1, Ex H H1 → ∀ Q : VK, (∀ p H2 ys, H1 p = none → Ex H1 H2 → H2 p = some (.lst ys) → NKeys H2 ks ys → Q (.ref p) H2) → te σ H1 Q
variable {σ : L2.St} {H H' : Hp} {ta tb te tl : TE} {x y z v : V} {k : NK} {ks : List NK} {D : Ends} {tz : TS}
theorem ek_rk (h : EvU ta σ H (rkL x)) (hx : Ok x) : EvK ta σ H (rkN x) := fun H1 e Q q => h H1 e _ fun p H2 hp e2 h2 => q p H2 hp e2 (nk_rk hx h2)
theorem ed_key (h : EvK ta σ H k) : EvD K ta σ H k.data := fun H1 e Q q => h H1 e _ fun p H2 _ e2 h2 => q _ H2 e2 (dp_key h2)
theorem q_asgK {i : Nat} (h : EvK te σ H k) (q : ∀ p H1, H p = none → Ex H H1 → NKey H1 k (.ref p) → tz D (σ.set i (some (.ref p))) H1) : tSeq (tAsg te (gName i)) tz D σ H := h H (Ex.refl H) _ fun p H1 hp e h1 => q p H1 hp e h1
theorem s_retK (h : EvK te σ H k) (q : ∀ p H1, H p = none → Ex H H1 → NKey H1 k (.ref p) → D.rt (.ref p) H1) : tRet te D σ H := h H (Ex.refl H) _ fun p H1 hp e h1 => q p H1 hp e h1
theorem ek_tuple (h : EvLK tl σ H ks) : EvK (tCB (fun xs H Q => ∃ p ys, xs = [.ref p] ∧ ((SqL K H p ys ∧ ∀ l, H l = none → Q (.ref l) (upd H l (.tup ys))) ∨ (SqT K H p ys ∧ Q (.ref p) H))) (tCons tl tNil)) σ H (.tup ks) := fun H1 e Q q =>
  h H1 e _ fun p H2 ys _ e2 h2 hd => ⟨p, ys, rfl, .inl ⟨sq_of h2, fun l hl => q l _ (fresh_back e2 hl) (e2.trans (Ex.new hl)) (.tup upd_same (NKeys.mono (keep_new hl) hd))⟩⟩
theorem lk_lcL {a : Addr} {xs : List V} {j : Nat} {vs : List Nat} (f : V → NK) (h : Ev tl σ H (.ref a)) (hx : SqL K H a xs) (hz : xs.length ≤ 40000) (hw : ∀ x, wipe ((wipe σ vs).set j (some x)) vs = wipe σ vs)
    (he : ∀ (x : V) H1, Ex H H1 → x ∈ xs → EvK te ((wipe σ vs).set j (some x)) H1 (f x)) :
    EvLK (tLc (iList K tl) (gName j) tYes te vs) σ H (xs.map f) := fun H0 e0 Q q => h H0 e0 _ fun H1 e1 => ⟨a, rfl, ⟨xs, ex_l (e0.trans e1) hx⟩, fun D hD =>
  lc_list (xs := xs) (fun i H' => H1 D = none ∧ Ex H1 H' ∧ ∃ ys, H' D = some (.lst ys) ∧ NKeys H' ((xs.take i).map f) ys) ⟨hD, Ex.new hD, [], upd_same, .nil⟩ (fun i H' _ p => ex_l ((e0.trans e1).trans p.2.1) hx)
    (fun i x H' hi p => by
      obtain ⟨p1, p2, ys, p3, p4⟩ := p
      refine ⟨hw x, ?_⟩
      show te ((wipe σ vs).set j (some x)) H' fun y H4 => ∃ acc, H4 D = some (.lst acc) ∧ acc.length < sizeLine ∧ _
      refine he x H' ((e0.trans e1).trans p2) (List.mem_of_getElem? hi) H' (Ex.refl H') _ fun y H4 _ e4 hy => ⟨ys, e4 _ _ p3, sz_lt ?_, p1, Ex.mut (p2.trans e4) p1, ys ++ [.ref y], upd_same, ?_⟩
      · have := nks_len p4
        rw [List.length_map, List.length_take] at this
        have := (List.getElem?_eq_some_iff.mp hi).1
        omega
      · rw [List.take_add_one, hi, List.map_append]
        exact nks_snoc (NKeys.mono (keep_lst (e4 _ _ p3)) (NKeys.mono (fun b xs q => e4 b _ q) p4)) (NKey.mono (keep_lst (e4 _ _ p3)) hy))
    (fun H' p => by
      obtain ⟨p1, p2, ys, p3, p4⟩ := p
      rw [List.take_length] at p4
      exact q D H' ys (fresh_back e1 p1) (e1.trans p2) p3 p4)⟩
end
/-! rows -/
inductive RowsAt (H : Hp) : List V → List (List V) → Prop where
  | nil : RowsAt H [] []
  | cons {p : Addr} {xs : List V} {rs : List V} {xss : List (List V)} (h : H p = some (.lst xs)) (t : RowsAt H rs xss) : RowsAt H (.ref p :: rs) (xs :: xss)
theorem RowsAt.len {H : Hp} : ∀ {rs : List V} {xss : List (List V)}, RowsAt H rs xss → rs.length = xss.length
  | _, _, .nil => rfl
  | _, _, .cons _ t => congrArg (· + 1) (RowsAt.len t)
theorem RowsAt.ex {H H' : Hp} (e : Ex H H') : ∀ {rs : List V} {xss : List (List V)}, RowsAt H rs xss → RowsAt H' rs xss
  | _, _, .nil => .nil
  | _, _, .cons h t => .cons (e _ _ h) (RowsAt.ex e t)
theorem RowsAt.upd {H : Hp} {p : Addr} {o : HO} : ∀ {rs : List V} {xss : List (List V)}, RowsAt H rs xss → (∀ r ∈ rs, r ≠ .ref p) → RowsAt (upd H p o) rs xss
  | _, _, .nil, _ => .nil
  | _, _, .cons h t, n => .cons (by rw [upd_ne fun z => n _ List.mem_cons_self (by rw [z])]; exact h) (RowsAt.upd t fun r hr => n r (List.mem_cons_of_mem _ hr))
theorem RowsAt.get {H : Hp} : ∀ {rs : List V} {xss : List (List V)} {i : Nat} {x : V}, RowsAt H rs xss → rs[i]? = some x → ∃ p xs, x = .ref p ∧ H p = some (.lst xs) ∧ xss[i]? = some xs
  | _, _, _, _, .nil, h => by simp at h
  | _, _, 0, _, .cons h t, e => by
    cases e
    exact ⟨_, _, rfl, h, rfl⟩
  | _, _, i + 1, _, .cons h t, e => by
    obtain ⟨p, xs, h1, h2, h3⟩ := RowsAt.get (i := i) t (by simpa using e)
    exact ⟨p, xs, h1, h2, by simpa using h3⟩
theorem RowsAt.snoc {H : Hp} {p : Addr} {xs : List V} : ∀ {rs : List V} {xss : List (List V)}, RowsAt H rs xss → H p = some (.lst xs) → RowsAt H (rs ++ [.ref p]) (xss ++ [xs])
  | _, _, .nil, h => .cons h .nil
  | _, _, .cons a t, h => .cons a (RowsAt.snoc t h)
def Fresh (H : Hp) (rs : List V) : Prop := ∀ r ∈ rs, ∃ p, r = .ref p ∧ H p = none
def OkRw (xs : List V) : Prop := xs.length ≤ 1000 ∧ ∀ x ∈ xs, Ok x
def sp_row_rank (K : PySem.W.Frag) : Sp := fun vs H Q _ => ∃ (a : Addr) (xs : List V), vs = [.ref a] ∧ SqL K H a xs ∧ OkRw xs ∧ ∀ p H', H p = none → Ex H H' → NKey H' (rowN xs) (.ref p) → Q (.ref p) H'
section
variable {P : Program} {w : World} {K : PySem.W.Frag} {mg : Str → Option Value} {base : Heap}
section
variable {σ : L2.St} {H : Hp} {ta tb tc : TE} {E : XK} {x y : V}
theorem ek_row {a : Addr} {xs : List V} (ha : Ev ta σ H (.ref a)) (hS : SqL K H a xs) (hx : OkRw xs) : EvK (tCall (sp_row_rank K) [] E (tCons ta tNil)) σ H (rowN xs) := fun H1 e Q q =>
  ha H1 e _ fun H2 e2 => ⟨a, xs, rfl, ex_l (e.trans e2) hS, hx, fun p H3 hp e3 h3 => q p H3 (fresh_back e2 hp) (e2.trans e3) h3⟩
end
theorem ok_row_rank (D : Dn K mg "row_rank" s_row_rank ["row"]) (c_rank : C8.Cal P w K mg base 2 "rank" (sp_rank K) []) (z_tuple : mg "tuple" = none) :
    C8.Cal P w K mg base 3 "row_rank" (sp_row_rank K) [] := by
  refine cal_of D sc_row_rank (fun vs H Q E h => ?_) (fun f cdv A outer s H vs Q E hr h => ?_)
  · obtain ⟨_, _, rfl, _⟩ := h
    rfl
  refine ⟨_, (pss_one (ps_ret (pe_callTy call_tuple_of (by rfl) z_tuple (by decide +kernel) (pa_cons (pe_lc (own := [("value", 1)]) (g := gName 1) (tt := tYes) rfl sc_row_rank.nd (pi_list (pv 0)) (blkOk_by (N := n_row_rank) (sc := C8.fnScope s_row_rank) (by decide +kernel)) (fun _ _ _ _ _ => pg_name (i := 1) sc_row_rank.nd rfl (Or.inl rfl)) (fun _ _ _ _ _ => pts_nil) (fun _ _ _ _ _ => (C8.pe_c c_rank hr (by decide) (by rfl) (pa_cons (pv 1) pa_nil)))) pa_nil)))), ?_⟩
  obtain ⟨a, xs, rfl, hS, hx, q⟩ := h
  exact s_retK (ek_tuple (lk_lcL rkN (ev_var rfl) hS (by have := hx.1; omega) (fun _ => rfl) fun x H1 e1 hm => ek_rk (ec_rank (ev_var rfl) (hx.2 x hm)) (hx.2 x hm))) q
end

--@SPLIT
/-! ### how often each row is there -/
def cR (L : List (List V)) (k : NK) : Nat := K76.cnt rowN k L
/-- m k at each key k, 0 where no key is -/
def CtsW (kvs : List (NK × V)) (m : NK → Nat) : Prop := ∀ k, (valV kvs k).getD (.int 0) = .int ((m k : Nat) : Int)
theorem CtsW.put {kvs : List (NK × V)} {m : NK → Nat} {k : NK} {n : Nat} (h : CtsW kvs m) : CtsW (putK kvs k (.int (n : Int))) fun j => if j = k then n else m j := fun j => by
  rw [valV_put]
  by_cases e : j = k
  · rw [if_pos e]
    show V.int (n : Int) = V.int (((if j = k then n else m j : Nat)) : Int)
    rw [if_pos e]
  · rw [if_neg e]
    show _ = V.int (((if j = k then n else m j : Nat)) : Int)
    rw [if_neg e]
    exact h j
theorem CtsW.congr {kvs : List (NK × V)} {m n : NK → Nat} (h : CtsW kvs m) (e : ∀ k, m k = n k) : CtsW kvs n := fun k => by rw [← e k]; exact h k
def OkBag (L : List (List V)) : Prop := (∀ xs ∈ L, OkRw xs) ∧ L.length ≤ 1000
theorem al_get {H : Hp} {qs : List Addr} {L : List (List V)} {i : Nat} {x : V} (h : Al2 RowAt H qs L) (hi : (qs.map V.ref)[i]? = some x) : ∃ b xs, x = .ref b ∧ H b = some (.lst xs) ∧ L[i]? = some xs ∧ qs[i]? = some b := by
  rw [List.getElem?_map] at hi
  cases e : qs[i]? with
  | none => rw [e] at hi; cases hi
  | some b =>
    rw [e] at hi
    obtain rfl := Option.some.inj hi
    have hl : i < L.length := by rw [← h.1]; exact (List.getElem?_eq_some_iff.mp e).1
    exact ⟨b, L[i], rfl, h.2 i b _ e (List.getElem?_eq_getElem hl), List.getElem?_eq_getElem hl, rfl⟩
theorem cR_take {L : List (List V)} {i : Nat} {xs : List V} (h : L[i]? = some xs) (k : NK) : cR (L.take (i + 1)) k = if k = rowN xs then cR (L.take i) (rowN xs) + 1 else cR (L.take i) k := by
  unfold cR
  rw [List.take_add_one, h, K76.cnt_app]
  show _ + K76.cnt rowN k [xs] = _
  rw [K76.cnt_cons, K76.cnt_nil, Nat.zero_add]
  by_cases e : rowN xs = k
  · subst e
    rw [if_pos rfl, if_pos rfl]
  · rw [if_neg e, if_neg fun z => e z.symm, Nat.add_zero]
def sp__how_often (P : Program) (w : World) (K : PySem.W.Frag) (mg : Str → Option Value) (base : Heap) : Sp := fun vs H Q _ => ∃ (p : Addr) (L : List (List V)), vs = [.ref p] ∧ Lst2 RowAt H p L ∧ OkBag L ∧
  ∀ d H' kvs, H d = none → Ex H H' → NDict P w H' d kvs → CtsW kvs (cR L) → kvs.length ≤ L.length → Q (.ref d) H'
section
variable {P : Program} {w : World} {K : PySem.W.Frag} {mg : Str → Option Value} {base : Heap}
theorem ok__how_often (D : Dn K mg "_how_often" s__how_often ["rows"]) (c_row_rank : C8.Cal P w K mg base 3 "row_rank" (sp_row_rank K) []) :
    C8.Cal P w K mg base 4 "_how_often" (sp__how_often P w K mg base) [] := by
  refine cal_of D sc__how_often (fun vs H Q E h => ?_) (fun f cdv A outer s H vs Q E hr h => ?_)
  · obtain ⟨_, _, rfl, _⟩ := h
    rfl
  refine ⟨_, (pss_cons (ps_set (i := 1) sc__how_often.nd rfl (.inl rfl) pe_dnewN)
    (pss_cons (ps_for PassesOwn.never rfl (pi_list (pv 0)) (pg_name (i := 2) sc__how_often.nd rfl (.inl rfl))
      (pss_cons (ps_set (i := 3) sc__how_often.nd rfl (.inl rfl) (C8.pe_c c_row_rank hr (by decide) (by rfl) (pa_cons (pv 2) pa_nil)))
    (pss_one (ps_nput (hu64 hr) (pv 1) (pv 3) (pe_op op_add (pe_ngetOr (hu64 hr) (pv 1) (pv 3) pe_int ⟨by rfl, by rfl, by rfl, by rfl⟩) pe_int) rfl))))
    (pss_one (ps_ret (pv 1))))), ?_⟩
  obtain ⟨p, L, rfl, ⟨qs, hp, hA⟩, hL, q⟩ := h
  have lenQ : (qs.map V.ref).length = L.length := by rw [List.length_map, hA.1]
  have hz := hL.2
  refine q_dnewN (P := P) (w := w) fun d H1 hd e1 nd => ?_
  refine q_forLn (xs := qs.map V.ref) (ev_var rfl) (sq_of (e1 _ _ hp)) (fun i σ' H' => ∃ v2 v3 kvs, σ' = [some (.ref p), some (.ref d), v2, v3] ∧ Ex H H' ∧ NDict P w H' d kvs ∧ CtsW kvs (cR (L.take i)) ∧ kvs.length ≤ i)
    (fun H3 e3 => ⟨none, none, [], rfl, e1.trans e3, nd.ex e3, fun k => rfl, Nat.le_refl _⟩) (fun i σ' H' _ pv => ?_) (fun i x σ' H' hi pv => ?_) fun σ' H' pv => ?_
  · obtain ⟨v2, v3, kvs, rfl, e, _⟩ := pv
    exact sq_of (e _ _ hp)
  · obtain ⟨v2, v3, kvs, rfl, e, nd', hc, hn⟩ := pv
    obtain ⟨b, xs, rfl, hb, hxs, _⟩ := al_get hA hi
    have okx := hL.1 xs (List.mem_of_getElem? hxs)
    have hi2 := (List.getElem?_eq_some_iff.mp hxs).1
    refine q_asgK (ek_row (ev_var rfl) (sq_of (e _ _ hb)) okx) fun kp H3 hkp e3 nk => ?_
    have hv := hc (rowN xs)
    refine s_nput (P := P) (w := w) (v := .int ((cR (L.take i) (rowN xs) + 1 : Nat) : Int)) (ev_is (ev_op (ev_is (ev_ngetOr (ev_var rfl) (ev_var rfl) ev_c (.inl (nd'.ex e3)) nk (dep_row xs)) hv) ev_c rv_I0) (by rw [Int.natCast_add]; rfl)) (ev_var rfl) (ev_var rfl) (nd'.ex e3) nk (dep_row xs) (by omega) fun H5 ys e5 nd5 => ?_
    refine ⟨_, _, _, rfl, Ex.mut ((e.trans e3).trans e5) hd, nd5, hc.put.congr fun k => (cR_take hxs k).symm, ?_⟩
    have := length_putK kvs (rowN xs) (.int ((cR (L.take i) (rowN xs) + 1 : Nat) : Int))
    omega
  · obtain ⟨v2, v3, kvs, rfl, e, nd', hc, hn⟩ := pv
    rw [lenQ] at hn hc
    rw [List.take_length] at hc
    exact s_ret (ev_var rfl) fun H3 e3 => q d H3 kvs hd (e.trans e3) (nd'.ex e3) hc hn
end

--@SPLIT
/-! ### without the last ones, without the first ones -/
theorem CtsW.at {kvs : List (NK × V)} {m : NK → Nat} {k : NK} (h : CtsW kvs m) (hk : 0 < m k) : valV kvs k = some (.int ((m k : Nat) : Int)) := by
  have := h k
  cases e : valV kvs k with
  | none =>
    rw [e] at this
    have z : V.int 0 = V.int ((m k : Nat) : Int) := this
    injection z with z
    omega
  | some v =>
    rw [e] at this
    rw [← this]
    rfl
theorem cR_drop {L : List (List V)} {i : Nat} {xs : List V} (h : L[i]? = some xs) (k : NK) : cR (L.drop i) k = cR (L.drop (i + 1)) k + if rowN xs = k then 1 else 0 := by
  have hi := (List.getElem?_eq_some_iff.mp h)
  unfold cR
  rw [List.drop_eq_getElem_cons hi.1, hi.2, K76.cnt_cons]
theorem drop_is {L : List (List V)} {i : Nat} {xs : List V} (h : L[i]? = some xs) : L.drop i = xs :: L.drop (i + 1) := by
  have hi := (List.getElem?_eq_some_iff.mp h)
  rw [List.drop_eq_getElem_cons hi.1, hi.2]
def RowsR (Q : VK) (H : Hp) (L : List (List V)) : Prop := ∀ r H', H r = none → Ex H H' → Lst2 RowAt H' r L → Q (.ref r) H'
def sp__without_last (P : Program) (w : World) (K : PySem.W.Frag) (mg : Str → Option Value) (base : Heap) : Sp := fun vs H Q _ => ∃ (p m : Addr) (L : List (List V)) (kvm : List (NK × V)) (mm : NK → Nat), vs = [.ref p, .ref m] ∧ Lst2 RowAt H p L ∧ OkBag L ∧
  NDict P w H m kvm ∧ CtsW kvm mm ∧ RowsR Q H (K76.wl rowN L mm)
def sp__without_first (P : Program) (w : World) (K : PySem.W.Frag) (mg : Str → Option Value) (base : Heap) : Sp := fun vs H Q _ => ∃ (p m : Addr) (L : List (List V)) (kvm : List (NK × V)) (mm : NK → Nat), vs = [.ref p, .ref m] ∧ Lst2 RowAt H p L ∧ OkBag L ∧
  NDict P w H m kvm ∧ CtsW kvm mm ∧ kvm.length ≤ 1000 ∧ RowsR Q H (K76.wf rowN L mm)
section
variable {P : Program} {w : World} {K : PySem.W.Frag} {mg : Str → Option Value} {base : Heap}
section
variable {σ : L2.St} {H : Hp} {ta tb : TE} {E : XK} {p m : Addr} {L : List (List V)} {kvm : List (NK × V)} {mm : NK → Nat} {D : Ends} {tz : TS}
theorem q_howOften {i : Nat} (ha : Ev ta σ H (.ref p)) (hp : Lst2 RowAt H p L) (hL : OkBag L) (k : ∀ d H1 kvs, H d = none → Ex H H1 → NDict P w H1 d kvs → CtsW kvs (cR L) → kvs.length ≤ L.length → tz D (σ.set i (some (.ref d))) H1) :
    tSeq (tAsg (tCall (sp__how_often P w K mg base) [] E (tCons ta tNil)) (gName i)) tz D σ H := ha H (Ex.refl H) _ fun H1 e1 => ⟨p, L, rfl, hp.mono e1 fun q l h => e1 _ _ h, hL, fun d H2 kvs hd e2 nd hc hl => k d H2 kvs (fresh_back e1 hd) (e1.trans e2) nd hc hl⟩
end
theorem ok__without_last (D : Dn K mg "_without_last" s__without_last ["rows", "many"]) (c__how_often : C8.Cal P w K mg base 4 "_how_often" (sp__how_often P w K mg base) []) (c_row_rank : C8.Cal P w K mg base 3 "row_rank" (sp_row_rank K) []) :
    C8.Cal P w K mg base 5 "_without_last" (sp__without_last P w K mg base) [] := by
  refine cal_of D sc__without_last (fun vs H Q E h => ?_) (fun f cdv A outer s H vs Q E hr h => ?_)
  · obtain ⟨_, _, _, _, _, rfl, _⟩ := h
    rfl
  refine ⟨_, (pss_cons (ps_set (i := 2) sc__without_last.nd rfl (.inl rfl) (C8.pe_c c__how_often hr (by decide) (by rfl) (pa_cons (pv 0) pa_nil)))
    (pss_cons (ps_set (i := 3) sc__without_last.nd rfl (.inl rfl) (pe_lst pa_nil))
    (pss_cons (ps_for PassesOwn.never rfl (pi_list (pv 0)) (pg_name (i := 4) sc__without_last.nd rfl (.inl rfl))
      (pss_cons (ps_set (i := 5) sc__without_last.nd rfl (.inl rfl) (C8.pe_c c_row_rank hr (by decide) (by rfl) (pa_cons (pv 4) pa_nil)))
    (pss_cons (ps_if (pt_cmpR op_gt (pe_ngetR (hu64 hr) (pv 2) (pv 5) (fun _ _ => rfl)) (pe_ngetOr (hu64 hr) (pv 1) (pv 5) pe_int ⟨by rfl, by rfl, by rfl, by rfl⟩) (nomark _))
      (pss_one (ps_expr (pe_bm PySem.F.plainAttrs_list PySem.F.slot_list_append PySem.F.type_list_append mt_append (pv 3) (pa_cons (pv 4) pa_nil))))
      pss_nil)
    (pss_one (ps_naug (hu64 hr) (pv 2) (pv 5) pe_int in_sub (fun _ _ _ => rfl))))))
    (pss_one (ps_ret (pv 3)))))), ?_⟩
  obtain ⟨p, m, L, kvm, mm, rfl, ⟨qs, hp, hA⟩, hL, hm, hmc, q⟩ := h
  have lenQ : (qs.map V.ref).length = L.length := by rw [List.length_map, hA.1]
  have hz := hL.2
  refine q_howOften (ev_var rfl) ⟨qs, hp, hA⟩ hL fun d H1 kvs0 hd e1 nd0 hc0 hl0 => ?_
  refine q_asgL (el_lst ea_nil (by decide)) fun l H2 hl e2 h2 => ?_
  have hdl : d ≠ l := fun z => by
    obtain ⟨o, ho⟩ := nd0.some
    rw [z, hl] at ho
    cases ho
  have hlH : H l = none := fresh_back e1 hl
  refine q_forLn (xs := qs.map V.ref) (ev_var rfl) (sq_of ((e1.trans e2) _ _ hp)) (fun i σ' H' => ∃ v4 v5 kvs rs acc, σ' = [some (.ref p), some (.ref m), some (.ref d), some (.ref l), v4, v5] ∧ Ex H H' ∧ NDict P w H' d kvs ∧ CtsW kvs (cR (L.drop i)) ∧ kvs.length ≤ L.length + i ∧
      H' l = some (.lst (rs.map V.ref)) ∧ Al2 RowAt H rs acc ∧ acc.length ≤ i ∧ acc ++ K76.wl rowN (L.drop i) mm = K76.wl rowN L mm)
    (fun H3 e3 => ⟨none, none, kvs0, [], [], rfl, (e1.trans e2).trans e3, (nd0.ex e2).ex e3, hc0, by omega, e3 _ _ h2, Al2.nil, Nat.le_refl _, rfl⟩) (fun i σ' H' _ pv => ?_) (fun i x σ' H' hi pv => ?_) fun σ' H' pv => ?_
  · obtain ⟨v4, v5, kvs, rs, acc, rfl, e, _⟩ := pv
    exact sq_of (e _ _ hp)
  · obtain ⟨v4, v5, kvs, rs, acc, rfl, e, nd, hc, hn, hl', hAc, hAl, hw⟩ := pv
    obtain ⟨b, xs, rfl, hb, hxs, hqb⟩ := al_get hA hi
    have okx := hL.1 xs (List.mem_of_getElem? hxs)
    have hi2 := (List.getElem?_eq_some_iff.mp hxs).1
    have hrl : (rs.map V.ref).length = acc.length := by rw [List.length_map, hAc.1]
    refine q_asgK (ek_row (ev_var rfl) (sq_of (e _ _ hb)) okx) fun kp H3 hkp e3 nk => ?_
    have hpos : 0 < cR (L.drop i) (rowN xs) := by rw [cR_drop hxs, if_pos rfl]; omega
    have hk := hc.at hpos
    have hmv := hmc (rowN xs)
    have hput : CtsW (putK kvs (rowN xs) (.int (((cR (L.drop (i + 1)) (rowN xs) : Nat)) : Int))) (cR (L.drop (i + 1))) := hc.put.congr fun j => by
      by_cases ej : j = rowN xs
      · rw [if_pos ej, ej]
      · rw [if_neg ej, cR_drop hxs, if_neg fun z => ej z.symm]
        omega
    have hval : V.int (((cR (L.drop i) (rowN xs) : Nat) : Int) - 1) = V.int (((cR (L.drop (i + 1)) (rowN xs) : Nat)) : Int) := by
      have := cR_drop hxs (rowN xs)
      rw [if_pos rfl] at this
      rw [this]
      congr 1
      omega
    have hlen : (putK kvs (rowN xs) (.int (((cR (L.drop (i + 1)) (rowN xs) : Nat)) : Int))).length ≤ L.length + (i + 1) := by
      have := length_putK kvs (rowN xs) (.int (((cR (L.drop (i + 1)) (rowN xs) : Nat)) : Int))
      omega
    have x3 := e.trans e3
    have hwd : K76.wl rowN (L.drop i) mm = if mm (rowN xs) < cR (L.drop i) (rowN xs) then xs :: K76.wl rowN (L.drop (i + 1)) mm else K76.wl rowN (L.drop (i + 1)) mm := by
      unfold cR
      rw [drop_is hxs]
      rfl
    refine q_when (b := decide (((mm (rowN xs) : Nat) : Int) < ((cR (L.drop i) (rowN xs) : Nat) : Int))) (et_test (ev_op (ev_ngetR (ev_var rfl) (ev_var rfl) (.inl (nd.ex e3)) nk (dep_row xs) hk) (ev_is (ev_ngetOr (ev_var rfl) (ev_var rfl) ev_c (.inl (hm.ex x3)) nk (dep_row xs)) hmv) rv_I0)) (fun ht H4 e4 => ?_) fun ht H4 e4 => ?_
    · have ht' : mm (rowN xs) < cR (L.drop i) (rowN xs) := by have := of_decide_eq_true ht; omega
      refine s_app (e4 _ _ (e3 _ _ hl')) (ev_var rfl) (ev_var rfl) (by omega) fun H5 e5 => ?_
      have nd5 : NDict P w (upd H5 l (.lst (rs.map V.ref ++ [.ref b]))) d kvs := (((nd.ex e3).ex e4).ex e5).upd (e5 _ _ (e4 _ _ (e3 _ _ hl'))) (fun xs z => nomatch z) hdl
      have x5 : Ex H (upd H5 l (.lst (rs.map V.ref ++ [.ref b]))) := Ex.mut ((x3.trans e4).trans e5) hlH
      have nk5 : NKey (upd H5 l (.lst (rs.map V.ref ++ [.ref b]))) (rowN xs) (.ref kp) := ((nk.ex e4).ex e5).mono (keep_lst (e5 _ _ (e4 _ _ (e3 _ _ hl'))))
      refine s_naugSub (P := P) (w := w) (n := ((cR (L.drop i) (rowN xs) : Nat) : Int)) (m := 1) (ev_var rfl) (ev_var rfl) ev_c nd5 nk5 (dep_row xs) (by omega) hk fun H6 ys e6 nd6 => ?_
      rw [hval] at nd6
      refine ⟨_, _, _, rs ++ [b], acc ++ [xs], rfl, Ex.mut (x5.trans e6) (fresh_back (Ex.refl H) hd), nd6, hput, hlen, ?_, hAc.snoc hb, by rw [List.length_append]; exact Nat.succ_le_succ hAl, ?_⟩
      · rw [upd_ne (Ne.symm hdl), e6 _ _ upd_same, List.map_append]
        rfl
      · rw [List.append_assoc, ← hw, hwd, if_pos ht']
        rfl
    · have ht' : ¬ mm (rowN xs) < cR (L.drop i) (rowN xs) := by have := of_decide_eq_false ht; omega
      refine s_naugSub (P := P) (w := w) (n := ((cR (L.drop i) (rowN xs) : Nat) : Int)) (m := 1) (ev_var rfl) (ev_var rfl) ev_c ((nd.ex e3).ex e4) (nk.ex e4) (dep_row xs) (by omega) hk fun H6 ys e6 nd6 => ?_
      rw [hval] at nd6
      refine ⟨_, _, _, rs, acc, rfl, Ex.mut ((x3.trans e4).trans e6) hd, nd6, hput, hlen, ?_, hAc, by omega, ?_⟩
      · rw [upd_ne (Ne.symm hdl)]
        exact e6 _ _ (e4 _ _ (e3 _ _ hl'))
      · rw [← hw, hwd, if_neg ht']
  · obtain ⟨v4, v5, kvs, rs, acc, rfl, e, nd, hc, hn, hl', hAc, hAl, hw⟩ := pv
    rw [lenQ, List.drop_length] at hw
    have hw' : acc = K76.wl rowN L mm := by rw [← hw]; exact (List.append_nil _).symm
    exact s_ret (ev_var rfl) fun H3 e3 => q l H3 hlH (e.trans e3) ⟨rs, e3 _ _ hl', by rw [← hw']; exact hAc.mono fun q l _ hr => (e.trans e3) _ _ hr⟩
end

--@SPLIT
/-! ### {key: .. for key in d if ..}, d a dict keyed by nested tuples, of whole numbers -/
def ExB (d : Addr) (H H' : Hp) : Prop := ∀ a o, a ≠ d → H a = some o → H' a = some o
theorem ExB.ex {d : Addr} {H H' H'' : Hp} (h : ExB d H H') (e : Ex H' H'') : ExB d H H'' := fun a o n q => e _ _ (h a o n q)
theorem NDict.exB {P : Program} {w : World} {H H' : Hp} {c d : Addr} {kvs kvm : List (NK × V)} (h : NDict P w H c kvs) (hd : NDict P w H d kvm) (n : c ≠ d) (e : ExB d H H') : NDict P w H' c kvs := by
  obtain ⟨xs, h1, h2, h3⟩ := h
  obtain ⟨ys, g1, _⟩ := hd
  exact ⟨xs, e _ _ n h1, fun x hx => ⟨(h2 x hx).1.mono fun b zs q => e _ _ (fun z => by rw [z, g1] at q; cases q) q, (h2 x hx).2⟩, h3⟩
/-- the numbers that are chosen of the first n keys -/
def csN (kvm : List (NK × V)) (sel : NK → Bool) (val : NK → Nat) (n : Nat) (k : NK) : Nat := if ((kvm.take n).any (fun kv => decide (kv.1 = k)) && sel k) = true then val k else 0
theorem csN_no {kvm : List (NK × V)} {sel : NK → Bool} {val : NK → Nat} {n : Nat} {k : NK} {v : V} (h : kvm[n]? = some (k, v)) (hs : sel k = false) (j : NK) : csN kvm sel val n j = csN kvm sel val (n + 1) j := by
  unfold csN
  rw [List.take_add_one, h, List.any_append]
  show _ = if ((_ || (decide (k = j) || false)) && sel j) = true then val j else 0
  by_cases e : k = j
  · subst e
    rw [hs, Bool.and_false, Bool.and_false]
  · rw [decide_eq_false e, Bool.or_false, Bool.or_false]
theorem csN_yes {kvm : List (NK × V)} {sel : NK → Bool} {val : NK → Nat} {n : Nat} {k : NK} {v : V} (h : kvm[n]? = some (k, v)) (hs : sel k = true) (j : NK) : (if j = k then val k else csN kvm sel val n j) = csN kvm sel val (n + 1) j := by
  unfold csN
  rw [List.take_add_one, h, List.any_append]
  show _ = if ((_ || (decide (k = j) || false)) && sel j) = true then val j else 0
  by_cases e : j = k
  · subst e
    rw [if_pos rfl, decide_eq_true rfl, hs, Bool.true_or, Bool.or_true, Bool.and_self, if_pos rfl]
  · rw [if_neg e, decide_eq_false (fun z => e z.symm), Bool.or_false, Bool.or_false]
theorem q_dcK {P : Program} {w : World} {σ : L2.St} {H : Hp} {tl tk tv : TE} {tt : TT} {D : Ends} {tz : TS} {d : Addr} {kvm : List (NK × V)} {i j : Nat} {vs : List Nat} {sel : NK → Bool} {val : NK → Nat}
    (ha : ∀ H1, Ev tl σ H1 (.ref d)) (hm : NDict P w H d kvm) (hz : kvm.length ≤ 40000) (hw : ∀ x, wipe ((wipe σ vs).set j (some x)) vs = wipe σ vs) (hk : ∀ x H1, Ev tk ((wipe σ vs).set j (some x)) H1 x)
    (ht : ∀ k q H1, ExB d H H1 → NDictR P w H1 d kvm → NKey H1 k (.ref q) → k.depth ≤ 8 → ∀ Q : Bool → Hp → Prop, (∀ H2, Ex H1 H2 → Q (sel k) H2) → tt ((wipe σ vs).set j (some (.ref q))) H1 Q)
    (hv : ∀ k q v H1, ExB d H H1 → NDictR P w H1 d kvm → NKey H1 k (.ref q) → k.depth ≤ 8 → valV kvm k = some v → sel k = true → Ev tv ((wipe σ vs).set j (some (.ref q))) H1 (.int ((val k : Nat) : Int)))
    (q : ∀ p H1 kvs, H p = none → Ex H H1 → NDict P w H1 p kvs → CtsW kvs (csN kvm sel val kvm.length) → kvs.length ≤ kvm.length → tz D (σ.set i (some (.ref p))) H1) :
    tSeq (tLock (tAsg (tDcN P w (iNKeys P w tl) (gName j) tt tk tv vs) (gName i))) tz D σ H := by
  obtain ⟨xs, hd, hF, hback⟩ := nd_lock hm
  refine ⟨d, NObj P w d xs, hd, True.intro, fun od => ?_⟩
  have xb : ExB d H (upd H d (.frz od (NObj P w d xs))) := fun a o n e => by rw [upd_ne n]; exact e
  refine ha _ _ (Ex.refl _) _ fun H1 e1 => ⟨d, od, kvm, rfl, (hF od).ex e1, fun Dn hD => ?_⟩
  have hdD : Dn ≠ d := fun z => by
    have := e1 d _ upd_same
    rw [← z, hD] at this
    cases this
  have hDH : H Dn = none := by
    have := fresh_back e1 hD
    rwa [upd_ne hdD] at this
  refine ⟨fun n m H' => m = kvm.length - n ∧ n ≤ kvm.length ∧ Ex H1 H' ∧ ∃ kvs, NDict P w H' Dn kvs ∧ kvs.length ≤ n ∧ CtsW kvs (csN kvm sel val n), ⟨kvm.length, ?_⟩, ?_⟩
  · rintro x rfl
    exact ⟨by omega, Nat.zero_le _, Ex.new hD, [], ⟨[], upd_same, fun x hx => (by cases hx), Paired.nil, Nat.zero_le _⟩, Nat.le_refl _, fun k => rfl⟩
  · rintro n m H' ⟨rfl, hn, x1, kvs, nd, hl, hc⟩
    have F' := (hF od).ex (e1.trans x1)
    by_cases hlt : n < kvm.length
    · refine .inr ⟨⟨F', hlt⟩, fun H2 => n + 1 ≤ kvm.length ∧ Ex H1 H2 ∧ ∃ kvs, NDict P w H2 Dn kvs ∧ kvs.length ≤ n + 1 ∧ CtsW kvs (csN kvm sel val (n + 1)), fun H2 h2 => ⟨kvm.length - (n + 1), by omega, rfl, h2⟩, ?_⟩
      rintro x H2 ⟨rfl, k, v, b, hkv, rfl, hq, kd⟩
      refine ⟨hw _, ?_⟩
      have xb' := (xb.ex e1).ex x1
      refine ht k b H2 xb' (.inr ⟨od, F'⟩) hq kd _ fun H3 e3 => ?_
      cases hs : sel k with
      | false => exact ⟨hlt, x1.trans e3, kvs, nd.ex e3, by omega, hc.congr fun j => csN_no hkv hs j⟩
      | true =>
        have hin : (valV kvm k).isSome = true := by
          rw [← valV_any, List.any_eq_true]
          exact ⟨_, List.mem_of_getElem? hkv, decide_eq_true rfl⟩
        obtain ⟨v', hv'⟩ := Option.isSome_iff_exists.mp hin
        refine hk _ H3 _ (Ex.refl _) _ fun H4 e4 => ?_
        refine hv k b v' H4 ((xb'.ex e3).ex e4) (.inr ⟨od, (F'.ex e3).ex e4⟩) ((hq.ex e3).ex e4) kd hv' hs _ (Ex.refl _) _ fun H5 e5 => ?_
        refine ⟨kvs, k, b, rfl, ((nd.ex e3).ex e4).ex e5, ((hq.ex e3).ex e4).ex e5, kd, sz_lt (by omega), fun ys nd' => ⟨hlt, Ex.mut (((x1.trans e3).trans e4).trans e5) hD, _, nd', ?_, hc.put.congr fun j => csN_yes hkv hs j⟩⟩
        have := length_putK kvs k (.int ((val k : Nat) : Int))
        omega
    · have hne : n = kvm.length := by omega
      subst hne
      have hfr := x1 _ _ (e1 d _ upd_same)
      refine .inl ⟨⟨F', Nat.le_refl _⟩, hfr, ?_⟩
      refine q Dn _ kvs hDH (fun a o e => ?_) (nd.upd hfr (fun xs z => nomatch z) hdD) hc hl
      by_cases z : a = d
      · rw [z, upd_same, ← hd, ← z, e]
      · rw [upd_ne z]
        exact x1 _ _ (e1 _ _ (xb a o z e))
theorem csN_all {kvm : List (NK × V)} {sel : NK → Bool} {val : NK → Nat} (k : NK) : csN kvm sel val kvm.length k = if ((valV kvm k).isSome && sel k) = true then val k else 0 := by
  unfold csN
  rw [List.take_length, valV_any]

--@SPLIT
theorem CtsW.no {kvs : List (NK × V)} {m : NK → Nat} {k : NK} (h : CtsW kvs m) (hk : valV kvs k = none) : m k = 0 := by
  have := h k
  rw [hk] at this
  have z : V.int 0 = V.int ((m k : Nat) : Int) := this
  injection z with z
  omega
theorem CtsW.is {kvs : List (NK × V)} {m : NK → Nat} {k : NK} {v : V} (h : CtsW kvs m) (hk : valV kvs k = some v) : v = .int ((m k : Nat) : Int) := by
  have := h k
  rw [hk] at this
  exact this
section
variable {P : Program} {w : World} {K : PySem.W.Frag} {mg : Str → Option Value} {base : Heap}
theorem ok__without_first (D : Dn K mg "_without_first" s__without_first ["rows", "many"]) (c_row_rank : C8.Cal P w K mg base 3 "row_rank" (sp_row_rank K) []) :
    C8.Cal P w K mg base 4 "_without_first" (sp__without_first P w K mg base) [] := by
  refine cal_of D sc__without_first (fun vs H Q E h => ?_) (fun f cdv A outer s H vs Q E hr h => ?_)
  · obtain ⟨_, _, _, _, _, rfl, _⟩ := h
    rfl
  refine ⟨_, (pss_cons (ps_lock (ps_setDcN (i := 2) (hu64 hr) (own := [("key", 5)]) (g := gName 5) (tt := tYes) rfl sc__without_first.nd rfl rfl (swD_true rfl rfl rfl (by decide +kernel)) (pi_nkeys (pv 1)) (blkOk_by (N := n__without_first) (sc := C8.fnScope s__without_first) (by decide +kernel)) (fun _ _ _ _ _ => pg_name (i := 5) sc__without_first.nd rfl (Or.inl rfl)) (fun _ _ _ _ _ => pts_nil) (fun _ _ _ _ _ => (pv 5)) (fun _ _ _ _ _ => (pe_ngetRK (P := P) (w := w) rfl rfl (hu64 hr) (pv 1) (pv 5) (fun _ _ => rfl)))))
    (pss_cons (ps_set (i := 3) sc__without_first.nd rfl (.inl rfl) (pe_lst pa_nil))
    (pss_cons (ps_for PassesOwn.never rfl (pi_list (pv 0)) (pg_name (i := 4) sc__without_first.nd rfl (.inl rfl))
      (pss_cons (ps_set (i := 5) sc__without_first.nd rfl (.inl rfl) (C8.pe_c c_row_rank hr (by decide) (by rfl) (pa_cons (pv 4) pa_nil)))
    (pss_one (ps_if (pt_cmpR op_gt (pe_ngetOr (hu64 hr) (pv 2) (pv 5) pe_int ⟨by rfl, by rfl, by rfl, by rfl⟩) pe_int (nomark _))
      (pss_one (ps_naug (hu64 hr) (pv 2) (pv 5) pe_int in_sub (fun _ _ _ => rfl)))
      (pss_one (ps_expr (pe_bm PySem.F.plainAttrs_list PySem.F.slot_list_append PySem.F.type_list_append mt_append (pv 3) (pa_cons (pv 4) pa_nil))))))))
    (pss_one (ps_ret (pv 3)))))), ?_⟩
  obtain ⟨p, m, L, kvm, mm, rfl, ⟨qs, hp, hA⟩, hL, hm, hmc, hml, q⟩ := h
  have lenQ : (qs.map V.ref).length = L.length := by rw [List.length_map, hA.1]
  have hz := hL.2
  refine q_dcK (P := P) (w := w) (sel := fun _ => true) (val := mm) (fun H1 => ev_var rfl) hm (by omega) (fun _ => rfl) (fun x H1 => ev_var rfl) (fun k b H1 _ _ _ _ Q q => q H1 (Ex.refl H1)) (fun k b v H1 xb nd nk kd hv _ => ev_is (ev_ngetR (ev_var rfl) (ev_var rfl) nd nk kd hv) (hmc.is hv)) fun d H1 kvs0 hd e1 nd0 hc0 hl0 => ?_
  refine q_asgL (el_lst ea_nil (by decide)) fun l H2 hl e2 h2 => ?_
  have hdl : d ≠ l := fun z => by
    obtain ⟨o, ho⟩ := nd0.some
    rw [z, hl] at ho
    cases ho
  have hlH : H l = none := fresh_back e1 hl
  have hc1 : CtsW kvs0 mm := hc0.congr fun k => by
    rw [csN_all]
    cases e : valV kvm k with
    | none => rw [hmc.no e]; rfl
    | some v => rfl
  refine q_forLn (xs := qs.map V.ref) (ev_var rfl) (sq_of ((e1.trans e2) _ _ hp)) (fun i σ' H' => ∃ v4 v5 kvs rs acc mi, σ' = [some (.ref p), some (.ref m), some (.ref d), some (.ref l), v4, v5] ∧ Ex H H' ∧ NDict P w H' d kvs ∧ CtsW kvs mi ∧ kvs.length ≤ 1000 + i ∧
      H' l = some (.lst (rs.map V.ref)) ∧ Al2 RowAt H rs acc ∧ acc.length ≤ i ∧ acc ++ K76.wf rowN (L.drop i) mi = K76.wf rowN L mm)
    (fun H3 e3 => ⟨none, none, kvs0, [], [], mm, rfl, (e1.trans e2).trans e3, (nd0.ex e2).ex e3, hc1, by omega, e3 _ _ h2, Al2.nil, Nat.le_refl _, rfl⟩) (fun i σ' H' _ pv => ?_) (fun i x σ' H' hi pv => ?_) fun σ' H' pv => ?_
  · obtain ⟨v4, v5, kvs, rs, acc, mi, rfl, e, _⟩ := pv
    exact sq_of (e _ _ hp)
  · obtain ⟨v4, v5, kvs, rs, acc, mi, rfl, e, nd, hc, hn, hl', hAc, hAl, hw⟩ := pv
    obtain ⟨b, xs, rfl, hb, hxs, hqb⟩ := al_get hA hi
    have okx := hL.1 xs (List.mem_of_getElem? hxs)
    have hi2 := (List.getElem?_eq_some_iff.mp hxs).1
    have hrl : (rs.map V.ref).length = acc.length := by rw [List.length_map, hAc.1]
    refine q_asgK (ek_row (ev_var rfl) (sq_of (e _ _ hb)) okx) fun kp H3 hkp e3 nk => ?_
    have hcv := hc (rowN xs)
    have x3 := e.trans e3
    have hwd : K76.wf rowN (L.drop i) mi = if 0 < mi (rowN xs) then K76.wf rowN (L.drop (i + 1)) (fun k => if k = rowN xs then mi k - 1 else mi k) else xs :: K76.wf rowN (L.drop (i + 1)) mi := by
      rw [drop_is hxs]
      rfl
    refine s_if (b := decide (((mi (rowN xs) : Nat) : Int) > 0)) (et_test (ev_op (ev_is (ev_ngetOr (ev_var rfl) (ev_var rfl) ev_c (.inl (nd.ex e3)) nk (dep_row xs)) hcv) ev_c rv_I0)) (fun ht H4 e4 => ?_) fun ht H4 e4 => ?_
    · have ht' : 0 < mi (rowN xs) := by have := of_decide_eq_true ht; omega
      have hk := hc.at ht'
      refine s_naugSub (P := P) (w := w) (n := ((mi (rowN xs) : Nat) : Int)) (m := 1) (ev_var rfl) (ev_var rfl) ev_c ((nd.ex e3).ex e4) (nk.ex e4) (dep_row xs) (by omega) hk fun H6 ys e6 nd6 => ?_
      rw [show ((mi (rowN xs) : Nat) : Int) - 1 = (((mi (rowN xs) - 1 : Nat)) : Int) by omega] at nd6
      refine ⟨_, _, _, rs, acc, (fun k => if k = rowN xs then mi k - 1 else mi k), rfl, Ex.mut ((x3.trans e4).trans e6) hd, nd6, hc.put.congr fun j => ?_, ?_, ?_, hAc, by omega, ?_⟩
      · by_cases ej : j = rowN xs
        · rw [if_pos ej, if_pos ej, ej]
        · rw [if_neg ej, if_neg ej]
      · have := length_putK kvs (rowN xs) (.int (((mi (rowN xs) - 1 : Nat)) : Int))
        omega
      · rw [upd_ne (Ne.symm hdl)]
        exact e6 _ _ (e4 _ _ (e3 _ _ hl'))
      · rw [← hw, hwd, if_pos ht']
    · have ht' : ¬ 0 < mi (rowN xs) := by have := of_decide_eq_false ht; omega
      refine s_app (e4 _ _ (e3 _ _ hl')) (ev_var rfl) (ev_var rfl) (by omega) fun H5 e5 => ?_
      have nd5 : NDict P w (upd H5 l (.lst (rs.map V.ref ++ [.ref b]))) d kvs := (((nd.ex e3).ex e4).ex e5).upd (e5 _ _ (e4 _ _ (e3 _ _ hl'))) (fun xs z => nomatch z) hdl
      refine ⟨_, _, kvs, rs ++ [b], acc ++ [xs], mi, rfl, Ex.mut ((x3.trans e4).trans e5) hlH, nd5, hc, by omega, ?_, hAc.snoc hb, by rw [List.length_append]; exact Nat.succ_le_succ hAl, ?_⟩
      · rw [upd_same, List.map_append]
        rfl
      · rw [List.append_assoc, ← hw, hwd, if_neg ht']
        rfl
  · obtain ⟨v4, v5, kvs, rs, acc, mi, rfl, e, nd, hc, hn, hl', hAc, hAl, hw⟩ := pv
    rw [lenQ, List.drop_length] at hw
    have hw' : acc = K76.wf rowN L mm := by rw [← hw]; exact (List.append_nil _).symm
    exact s_ret (ev_var rfl) fun H3 e3 => q l H3 hlH (e.trans e3) ⟨rs, e3 _ _ hl', by rw [← hw']; exact hAc.mono fun q l _ hr => (e.trans e3) _ _ hr⟩
end

--@SPLIT
/-! ### changes -/
theorem map_getD {α : Type} (g : List V → α) : ∀ L : List (List V), (List.range L.length).map (fun i => g (L.getD i [])) = L.map g := fun L => by
  apply List.ext_getElem?
  intro i
  rw [List.getElem?_map, List.getElem?_map]
  by_cases h : i < L.length
  · rw [List.getElem?_range h, List.getElem?_eq_getElem h]
    show some (g (L.getD i [])) = some (g L[i])
    rw [List.getD_eq_getElem?_getD, List.getElem?_eq_getElem h]
    rfl
  · rw [List.getElem?_eq_none (by rw [List.length_range]; omega), List.getElem?_eq_none (by omega)]
    rfl
theorem nu_back' {H0 H1 H : Hp} (e : ∀ a, H1 a = none → H0 a = none) : Ex (nu H1 H) (nu H0 H) := fun a o h => by
  unfold nu at h ⊢
  cases z : H1 a with
  | none => rw [z] at h; rw [e a z]; exact h
  | some u => rw [z] at h; cases h
theorem al_wo {H : Hp} {p : Addr} {o : HO} {qs : List Addr} {L : List (List V)} (h : Al2 RowAt H qs L) (hp : H p = some o) (ho : ∀ xs, o ≠ .lst xs) : Al2 RowAt (wo p H) qs L := ⟨h.1, fun i q l a b => by
  have z := h.2 i q l a b
  show wo p H q = _
  rw [wo_ne fun e => ?_]
  · exact z
  · rw [e] at z
    rw [show H p = _ from z] at hp
    exact ho _ (Option.some.inj hp).symm⟩
theorem ls_wo {H : Hp} {p a : Addr} {o : HO} {L : List (List V)} (h : Lst2 RowAt H a L) (hp : H p = some o) (ho : ∀ xs, o ≠ .lst xs) : Lst2 RowAt (wo p H) a L := by
  obtain ⟨qs, h1, h2⟩ := h
  refine ⟨qs, ?_, al_wo h2 hp ho⟩
  rw [wo_ne fun e => ?_]
  · exact h1
  · rw [← e, h1] at hp
    exact ho _ (Option.some.inj hp).symm
def chF (g c : V) : List (Str × V) := putF "come" c (putF "gone" g [])
theorem chF_g {g c : V} : (chF g c).lookup ("gone" : Str) = some g := by
  unfold chF
  rw [lookup_putF, if_neg (by decide +kernel), lookup_putF, if_pos rfl]
theorem chF_c {g c : V} : (chF g c).lookup ("come" : Str) = some c := by
  unfold chF
  rw [lookup_putF, if_pos rfl]
theorem putF_le (f : Str) (v : V) : ∀ fs : List (Str × V), (putF f v fs).length ≤ fs.length + 1
  | [] => Nat.le_refl _
  | (g, x) :: r => by
    unfold putF
    split
    · show r.length + 1 ≤ r.length + 1 + 1
      omega
    · have := putF_le f v r
      show (putF f v r).length + 1 ≤ r.length + 1 + 1
      omega
def ChAt (K : PySem.W.Frag) (H : Hp) (p : Addr) (x : List (List V) × List (List V)) : Prop := ∃ dx g c, H p = some (.ins (clsAt K "Change") dx (chF (.ref g) (.ref c))) ∧ Lst2 RowAt H g x.1 ∧ Lst2 RowAt H c x.2
theorem ChAt.mn (K : PySem.W.Frag) : Mn (ChAt K) := fun H H' q l e ⟨dx, g, c, h1, h2, h3⟩ => ⟨dx, g, c, e _ _ h1, Lst2.mn RowAt.mn _ _ _ _ e h2, Lst2.mn RowAt.mn _ _ _ _ e h3⟩
def OkB (L : List (List V)) : Prop := OkBag L
def sp_Change____init__ (K : PySem.W.Frag) : Sp := fun vs H Q _ => ∃ (p dx g c : Addr) (G C : List (List V)), vs = [.ref p, .ref g, .ref c] ∧ H p = some (.ins (clsAt K "Change") dx []) ∧ Lst2 RowAt H g G ∧ Lst2 RowAt H c C ∧ G.length ≤ 1000 ∧ C.length ≤ 1000 ∧
  ∀ H' g' c', Ex (wo p H) H' → H' p = some (.ins (clsAt K "Change") dx (chF (.ref g') (.ref c'))) → Lst2 RowAt (nu H H') g' G → Lst2 RowAt (nu H H') c' C → Q .non H'
def sp_Change__nothing (K : PySem.W.Frag) : Sp := fun vs H Q _ => ∃ (p : Addr) (x : List (List V) × List (List V)), vs = [.ref p] ∧ ChAt K H p x ∧ ∀ H', Ex H H' → Q (.bl (x.1.isEmpty && x.2.isEmpty)) H'
def smallOf (x : List (List V) × List (List V)) : List (List V) × List (List V) :=
  (K76.wl rowN x.1 fun k => min (cR x.1 k) (cR x.2 k), K76.wl rowN x.2 fun k => min (cR x.1 k) (cR x.2 k))
def sp_Change__small (K : PySem.W.Frag) : Sp := fun vs H Q _ => ∃ (p : Addr) (x : List (List V) × List (List V)), vs = [.ref p] ∧ ChAt K H p x ∧ OkBag x.1 ∧ OkBag x.2 ∧ ∀ q H', H q = none → Ex H H' → ChAt K H' q (smallOf x) → Q (.ref q) H'
def sp_changed_rows (K : PySem.W.Frag) : Sp := fun vs H Q _ => ∃ (r p : Addr) (L : List (List V)) (x : List (List V) × List (List V)), vs = [.ref r, .ref p] ∧ Lst2 RowAt H r L ∧ ChAt K H p x ∧ OkBag L ∧ OkBag x.1 ∧ x.2.length ≤ 1000 ∧
  ∀ q H', H q = none → Ex H H' → Lst2 RowAt (nu H H') q (K76.wf rowN L (cR x.1) ++ x.2) → Q (.ref q) H'
section
variable {K : PySem.W.Frag} {σ : L2.St} {H : Hp} {ta tb tc te tl : TE} {D : Ends} {tz : TS}
/-- [list(row) for row in rows] -/
theorem rn_copy {a : Addr} {L : List (List V)} {j : Nat} {vs : List Nat} (h : Ev tl σ H (.ref a)) (hx : Lst2 RowAt H a L) (hz : L.length ≤ 40000) (hw : ∀ x, wipe ((wipe σ vs).set j (some x)) vs = wipe σ vs) (hj : ∀ x, ((wipe σ vs).set j (some x))[j]? = some (some x)) :
    EvRn (fun H p => Lst2 RowAt H p L) (tLc (iList K tl) (gName j) tYes (tCB (rListS K) (tCons (tVar j) tNil)) vs) σ H := by
  obtain ⟨qs, h1, h2⟩ := hx
  have hl : (qs.map V.ref).length = L.length := by rw [List.length_map, h2.1]
  intro H1 e1 Q q
  refine er_lcN RowAt.mn (fun i => L.getD i []) h (sq_of h1) (by omega) hw (fun i x H2 e2 hi => ?_) H1 e1 Q fun p H2 hp e2 hR => q p H2 hp e2 ?_
  · obtain ⟨b, xs, rfl, hb, hxs, _⟩ := al_get h2 hi
    rw [List.getD_eq_getElem?_getD, hxs]
    exact rn_list (ev_var (hj _)) (sq_of (e2 _ _ hb))
  · have := map_getD (fun r => r) L
    rw [List.map_id'] at this
    rw [hl, this] at hR
    exact hR
theorem lc_src {g : TG} {tt : TT} {vs : List Nat} {Q : VK} {G : Addr → Hp → Prop} (h : ∀ Q' : VK, (∀ p H2, G p H2 → Q' (.ref p) H2) → tl σ H Q') (k : ∀ p H2, G p H2 → tLc (iList K (tC (.ref p))) g tt te vs σ H2 Q) : tLc (iList K tl) g tt te vs σ H Q := h _ fun p H2 hp => k p H2 hp
theorem ev_fld {p C dx : Addr} {fs : List (Str × V)} {f : Str} {v : V} (ha : Ev ta σ H (.ref p)) (hp : H p = some (.ins C dx fs)) (c : Cls K C) (n : NoAttr K C f) (l : fs.lookup f = some v) : Ev (tFld K ta f) σ H v := fun H1 e Q q => ha H1 e _ fun H2 e2 => ⟨p, C, dx, fs, v, rfl, (e.trans e2) _ _ hp, c, n, l, q H2 e2⟩
theorem s_fldR {p C dx : Addr} {fs : List (Str × V)} {f : Str} {R : Hp → Addr → Prop} (hv : EvRn R te σ H) (ha : ∀ H1, Ex H H1 → Ev ta σ H1 (.ref p)) (hp : H p = some (.ins C dx fs)) (c : Cls K C) (n : NoAttr K C f) (hl : fs.length < 1000) (hm : ∀ H H' q, Ex H H' → R H q → R H' q) (k : ∀ r H1, H r = none → Ex H H1 → R (nu H H1) r → D.nx σ (upd H1 p (.ins C dx (putF f (.ref r) fs)))) : sFld K ta te f D σ H :=
  hv H (Ex.refl H) _ fun r H1 hr e1 hR => ha H1 e1 H1 (Ex.refl H1) _ fun H2 e2 => ⟨p, C, dx, fs, rfl, (e1.trans e2) _ _ hp, c, n, hl, k r H2 hr (e1.trans e2) (hm _ _ _ (nu_mono e2) hR)⟩
theorem q_fldR {p C dx : Addr} {fs : List (Str × V)} {f : Str} {R : Hp → Addr → Prop} (hv : EvRn R te σ H) (ha : ∀ H1, Ex H H1 → Ev ta σ H1 (.ref p)) (hp : H p = some (.ins C dx fs)) (c : Cls K C) (n : NoAttr K C f) (hl : fs.length < 1000) (hm : ∀ H H' q, Ex H H' → R H q → R H' q) (k : ∀ r H1, H r = none → Ex H H1 → R (nu H H1) r → tz D σ (upd H1 p (.ins C dx (putF f (.ref r) fs)))) : tSeq (sFld K ta te f) tz D σ H := s_fldR (D := { D with nx := tz D }) hv ha hp c n hl hm k
theorem ev_notL {a : Addr} {xs : List V} (h : Ev te σ H (.ref a)) (hx : SqL K H a xs) : Ev (tNotT K te) σ H (.bl (!(!xs.isEmpty))) := fun H1 e Q q => h H1 e _ fun H2 e2 => ⟨!xs.isEmpty, .inl ⟨xs, ex_l (e.trans e2) hx, rfl⟩, q H2 e2⟩
/-- Change(g, c) -/
theorem rn_change {g c : Addr} {G C : List (List V)} (ha : Ev ta σ H (.ref g)) (hb : Ev tb σ H (.ref c)) (hg : Lst2 RowAt H g G) (hc : Lst2 RowAt H c C) (zg : G.length ≤ 1000) (zc : C.length ≤ 1000) :
    EvRn (fun H p => ChAt K H p (G, C)) (tMake (clsAt K "Change") (sp_Change____init__ K) [] C8.E0 (tCons ta (tCons tb tNil))) σ H := fun H0 e0 Q q =>
  ha H0 e0 _ fun H1 e1 => hb H1 (e0.trans e1) _ fun H2 e2 => fun x dx hx hdx ne => by
    have e02 : Ex H0 H2 := e1.trans e2
    have e12 := e0.trans e02
    generalize hH3 : upd (upd H2 dx (.own x)) x (.ins (clsAt K "Change") dx []) = H3
    have up : Ex H2 (wo x H3) := fun b o hb => by
      have nb : b ≠ x := fun z => by rw [z, hx] at hb; cases hb
      have nd : b ≠ dx := fun z => by rw [z, hdx] at hb; cases hb
      rw [wo_ne nb, ← hH3, upd_ne nb, upd_ne nd]
      exact hb
    have up2 : Ex H2 H3 := up.trans (wo_le _ _)
    have hno : ∀ a, H3 a = none → H0 a = none := fun a ha => fresh_back e02 (by
      cases z : H2 a with
      | none => rfl
      | some o => rw [up2 _ _ z] at ha; cases ha)
    have hxat : H3 x = some (.ins (clsAt K "Change") dx []) := by rw [← hH3]; exact upd_same
    refine ⟨x, dx, g, c, G, C, rfl, hxat, Lst2.mn RowAt.mn _ _ _ _ (e12.trans up2) hg, Lst2.mn RowAt.mn _ _ _ _ (e12.trans up2) hc, zg, zc, fun H' g' c' e' h' hg' hc' => ⟨rfl, ?_⟩⟩
    have hx0 : H0 x = none := fresh_back e02 hx
    exact q x H' hx0 (e02.trans (up.trans e')) ⟨dx, g', c', nu_at hx0 h', Lst2.mn RowAt.mn _ _ _ _ (nu_back' hno) hg', Lst2.mn RowAt.mn _ _ _ _ (nu_back' hno) hc'⟩
end
section
variable {P : Program} {w : World} {K : PySem.W.Frag} {mg : Str → Option Value} {base : Heap}
theorem ok_Change____init__ (D : MetD K "Change" "__init__" "Change.__init__" s_Change____init__ ["self", "gone", "come"]) (C_Change : ClsD K mg "Change" ["gone", "come"]) (z_list : mg "list" = none) :
    C8.Mak P w K mg base 1 "Change" (clsAt K "Change") (sp_Change____init__ K) [] := by
  refine mak_of C_Change D sc_Change____init__ (fun vs H Q E h => ?_) (fun f cdv A outer s H vs Q E hr h => ?_)
  · obtain ⟨_, _, _, _, _, _, rfl, _⟩ := h
    rfl
  refine ⟨_, (pss_cons (ps_fld (pv 0) (pe_lc (own := [("row", 3)]) (g := gName 3) (tt := tYes) rfl sc_Change____init__.nd (pi_list (pv 1)) (blkOk_by (N := n_Change____init__) (sc := C8.fnScope s_Change____init__) (by decide +kernel)) (fun _ _ _ _ _ => pg_name (i := 3) sc_Change____init__.nd rfl (Or.inl rfl)) (fun _ _ _ _ _ => pts_nil) (fun _ _ _ _ _ => (pe_callTy (call_list_ofK (K := K) rfl) (by rfl) z_list (by decide +kernel) (pa_cons (pv 3) pa_nil)))) rfl)
    (pss_one (ps_fld (pv 0) (pe_lc (own := [("row", 3)]) (g := gName 3) (tt := tYes) rfl sc_Change____init__.nd (pi_list (pv 2)) (blkOk_by (N := n_Change____init__) (sc := C8.fnScope s_Change____init__) (by decide +kernel)) (fun _ _ _ _ _ => pg_name (i := 3) sc_Change____init__.nd rfl (Or.inl rfl)) (fun _ _ _ _ _ => pts_nil) (fun _ _ _ _ _ => (pe_callTy (call_list_ofK (K := K) rfl) (by rfl) z_list (by decide +kernel) (pa_cons (pv 3) pa_nil)))) rfl))), ?_⟩
  obtain ⟨p, dx, g, c, G, C, rfl, hp, hG, hC, zg, zc, q⟩ := h
  have cl := C_Change.cl
  refine q_fldR (R := fun H q => Lst2 RowAt H q G) (rn_copy (ev_var rfl) hG (by omega) (fun _ => rfl) (fun _ => rfl)) (fun _ _ => ev_var rfl) hp cl C_Change.na.1 (by decide) (fun H H' q e h => Lst2.mn RowAt.mn _ _ _ _ e h) fun r1 H1 hr1 e1 hR1 => ?_
  have x1 : Ex (wo p H) (upd H1 p (.ins (clsAt K "Change") dx (putF "gone" (.ref r1) []))) := wx_mut (wx_of e1)
  have hC1 : Lst2 RowAt (upd H1 p (.ins (clsAt K "Change") dx (putF "gone" (.ref r1) []))) c C := Lst2.mn RowAt.mn _ _ _ _ x1 (ls_wo hC hp fun xs z => nomatch z)
  refine s_fldR (R := fun H q => Lst2 RowAt H q C) (rn_copy (ev_var rfl) hC1 (by omega) (fun _ => rfl) (fun _ => rfl)) (fun _ _ => ev_var rfl) upd_same cl C_Change.na.2.1 (Nat.lt_of_le_of_lt (putF_le _ _ _) (by decide)) (fun H H' q e h => Lst2.mn RowAt.mn _ _ _ _ e h) fun r2 H2 hr2 e2 hR2 => ?_
  refine q _ r1 r2 (wx_mut (x1.trans e2)) upd_same ?_ ?_
  · rw [nu_upd hp]
    refine Lst2.mn RowAt.mn _ _ _ _ ?_ hR1
    rw [← nu_upd (H := H1) (o := .ins (clsAt K "Change") dx (putF "gone" (.ref r1) [])) hp]
    exact nu_mono e2
  · rw [nu_upd hp]
    refine Lst2.mn RowAt.mn _ _ _ _ (nu_back' fun a ha => ?_) hR2
    cases z : H a with
    | none => rfl
    | some o =>
      by_cases ea : a = p
      · rw [ea, upd_same] at ha; cases ha
      · rw [upd_ne ea, e1 _ _ z] at ha; cases ha
theorem ok_Change__nothing (D : PrpD K "Change" "nothing" "Change.nothing" s_Change__nothing ["self"]) (C_Change : ClsD K mg "Change" ["gone", "come"]) :
    Prp P w K mg base 1 (clsAt K "Change") "nothing" (sp_Change__nothing K) := by
  refine prp_of C_Change D sc_Change__nothing (fun vs H Q E h => ?_) (fun f cdv A outer s H vs Q E hr h => ?_)
  · obtain ⟨_, _, rfl, _⟩ := h
    rfl
  refine ⟨_, (pss_one (ps_ret (pe_and (pe_notT (pe_fld (pv 0) (by rfl))) (pe_one (pe_notT (pe_fld (pv 0) (by rfl))))))), ?_⟩
  obtain ⟨p, x, rfl, ⟨dx, g, c, hp, ⟨qg, hg, hG⟩, ⟨qc, hc, hC⟩⟩, q⟩ := h
  have cl := C_Change.cl
  refine s_ret (ev_andV (a := !(!(qg.map V.ref).isEmpty)) (b := !(!(qc.map V.ref).isEmpty)) (ev_notL (ev_fld (ev_var rfl) hp cl C_Change.na.1 chF_g) (sq_of hg)) fun _ => ev_notL (ev_fld (ev_var rfl) hp cl C_Change.na.2.1 chF_c) (sq_of hc)) fun H1 e1 => ?_
  have e : ∀ {qs : List Addr} {L : List (List V)}, qs.length = L.length → (!(!(qs.map V.ref).isEmpty)) = L.isEmpty := fun {qs L} h => by
    cases qs <;> cases L <;> first | rfl | simp at h
  have := q H1 e1
  rw [← e hG.1, ← e hC.1] at this
  exact this
end

--@SPLIT
/-! ### the small change, changed rows -/
/-- an object with a word -/
def EvW (R : Hp → Addr → Prop) (te : TE) (σ : L2.St) (H : Hp) : Prop := ∀ H1, Ex H H1 → ∀ Q : VK, (∀ p H2, Ex H1 H2 → R H2 p → Q (.ref p) H2) → te σ H1 Q
section
variable {K : PySem.W.Frag} {σ : L2.St} {H : Hp} {ta tb tc te tl : TE} {D : Ends} {tz : TS}
theorem ew_ev {α : Type} {R : Hp → Addr → α → Prop} (hm : Mn R) {p : Addr} {x : α} (h : Ev te σ H (.ref p)) (hp : R H p x) : EvW (fun H p => R H p x) te σ H := fun H1 e Q q => h H1 e _ fun H2 e2 => q p H2 e2 (hm _ _ _ _ (e.trans e2) hp)
theorem ew_ro {R : Hp → Addr → Prop} (h : EvRo R te σ H) : EvW R te σ H := fun H1 e Q q => h H1 e _ fun p H2 _ e2 hR => q p H2 e2 hR
theorem el_cat {l b : Addr} {xs ys : List V} (ha : Ev ta σ H (.ref l)) (hb : Ev tb σ H (.ref b)) (h1 : H l = some (.lst xs)) (h2 : H b = some (.lst ys)) (hz : xs.length + ys.length ≤ 100000) : EvL (tOp rCat ta tb) σ H (xs ++ ys) := fun H1 e Q q =>
  ha H1 e _ fun H2 e2 => hb H2 (e.trans e2) _ fun H3 e3 => ⟨l, b, xs, ys, rfl, rfl, ((e.trans e2).trans e3) _ _ h1, ((e.trans e2).trans e3) _ _ h2, sz_of hz, fun p hp => q p _ (fresh_back (e2.trans e3) hp) ((e2.trans e3).trans (Ex.new hp)) upd_same⟩
theorem rn_changeW {G C : List (List V)} (ha : EvW (fun H p => Lst2 RowAt H p G) ta σ H) (hb : EvW (fun H p => Lst2 RowAt H p C) tb σ H) (zg : G.length ≤ 1000) (zc : C.length ≤ 1000) :
    EvRn (fun H p => ChAt K H p (G, C)) (tMake (clsAt K "Change") (sp_Change____init__ K) [] C8.E0 (tCons ta (tCons tb tNil))) σ H := fun H0 e0 Q q =>
  ha H0 e0 _ fun g H1 e1 hg => hb H1 (e0.trans e1) _ fun c H2 e2 hc => rn_change (ta := tC (.ref g)) (tb := tC (.ref c)) (H := H2) (σ := σ) ev_c ev_c (Lst2.mn RowAt.mn _ _ _ _ e2 hg) hc zg zc H2 (Ex.refl H2) Q fun p H3 hp e3 hR => q p H3 (fresh_back (e1.trans e2) hp) ((e1.trans e2).trans e3) (ChAt.mn K _ _ _ _ (nu_back (e1.trans e2)) hR)
end
theorem wl_len {α κ : Type} [DecidableEq κ] (f : α → κ) (xs : List α) (m : κ → Nat) : (K76.wl f xs m).length ≤ xs.length := (K76.wl_sub f xs m).length_le
theorem wf_len {α κ : Type} [DecidableEq κ] (f : α → κ) (xs : List α) (m : κ → Nat) : (K76.wf f xs m).length ≤ xs.length := (K76.wf_sub f xs m).length_le
theorem isEmpty_len {L : List (List V)} : ∀ {M : List Addr}, M.length = L.length → (M.map V.ref).isEmpty = L.isEmpty := fun {M} h => by
  cases M <;> cases L <;> first | rfl | simp at h
section
variable {P : Program} {w : World} {K : PySem.W.Frag} {mg : Str → Option Value} {base : Heap}
section
variable {σ : L2.St} {H : Hp} {ta tb : TE} {E : XK} {p m : Addr} {L : List (List V)} {kvm : List (NK × V)} {mm : NK → Nat}
theorem ro_wl (ha : Ev ta σ H (.ref p)) (hb : ∀ H1, Ex H H1 → Ev tb σ H1 (.ref m)) (hp : Lst2 RowAt H p L) (hL : OkBag L) (hm : NDict P w H m kvm) (hc : CtsW kvm mm) : EvRo (fun H r => Lst2 RowAt H r (K76.wl rowN L mm)) (tCall (sp__without_last P w K mg base) [] E (tCons ta (tCons tb tNil))) σ H := fun H1 e1 Q q =>
  ha H1 e1 _ fun H2 e2 => hb H2 (e1.trans e2) H2 (Ex.refl H2) _ fun H3 e3 => ⟨p, m, L, kvm, mm, rfl, Lst2.mn RowAt.mn _ _ _ _ ((e1.trans e2).trans e3) hp, hL, hm.ex ((e1.trans e2).trans e3), hc, fun r H4 hr e4 hR => q r H4 (fresh_back (e2.trans e3) hr) ((e2.trans e3).trans e4) hR⟩
end
theorem ok_Change__small (D : MetD K "Change" "small" "Change.small" s_Change__small ["self"]) (C_Change : ClsD K mg "Change" ["gone", "come"]) (c_Change____init__ : C8.Mak P w K mg base 1 "Change" (clsAt K "Change") (sp_Change____init__ K) []) (c__how_often : C8.Cal P w K mg base 4 "_how_often" (sp__how_often P w K mg base) []) (c__without_last : C8.Cal P w K mg base 5 "_without_last" (sp__without_last P w K mg base) []) (z_min : mg "min" = none) :
    C8.Met P w K mg base 6 (clsAt K "Change") "small" (sp_Change__small K) [] := by
  refine met_of C_Change D sc_Change__small (fun vs H Q E h => ?_) (fun f cdv A outer s H vs Q E hr h => ?_)
  · obtain ⟨_, _, rfl, _⟩ := h
    rfl
  refine ⟨_, (pss_cons (ps_asg (pe_tup (pa_cons (C8.pe_c c__how_often hr (by decide) (by rfl) (pa_cons (pe_fld (pv 0) (by rfl)) pa_nil)) (pa_cons (C8.pe_c c__how_often hr (by decide) (by rfl) (pa_cons (pe_fld (pv 0) (by rfl)) pa_nil)) pa_nil))) (pg_tup rfl (pgs_cons (pg_name (i := 1) sc_Change__small.nd rfl (.inr rfl)) (pgs_cons (pg_name (i := 2) sc_Change__small.nd rfl (.inr rfl)) pgs_nil))))
    (pss_cons (ps_lock (ps_setDcN (i := 3) (hu64 hr) (own := [("key", 4)]) (g := gName 4) rfl sc_Change__small.nd rfl rfl (swD_true rfl rfl rfl (by decide +kernel)) (pi_nkeys (pv 1)) (blkOk_by (N := n_Change__small) (sc := C8.fnScope s_Change__small) (by decide +kernel)) (fun _ _ _ _ _ => pg_name (i := 4) sc_Change__small.nd rfl (Or.inl rfl)) (fun _ _ _ _ _ => (pts_one (pt_cmpR (op_ninRK (P := P) (w := w) rfl rfl (hu64 hr)) (pv 4) (pv 2) (by with_unfolding_all rfl)))) (fun _ _ _ _ _ => (pv 4)) (fun _ _ _ _ _ => (pe_callB (call_min2 rfl) (by rfl) z_min (by decide +kernel) (pa_cons (pe_ngetRK (P := P) (w := w) rfl rfl (hu64 hr) (pv 1) (pv 4) (fun _ _ => rfl)) (pa_cons (pe_ngetRK (P := P) (w := w) rfl rfl (hu64 hr) (pv 2) (pv 4) (fun _ _ => rfl)) pa_nil))))))
    (pss_one (ps_ret (C8.pe_mk c_Change____init__ hr (by decide) (by rfl) (pa_cons (C8.pe_c c__without_last hr (by decide) (by rfl) (pa_cons (pe_fld (pv 0) (by rfl)) (pa_cons (pv 3) pa_nil))) (pa_cons (C8.pe_c c__without_last hr (by decide) (by rfl) (pa_cons (pe_fld (pv 0) (by rfl)) (pa_cons (pv 3) pa_nil))) pa_nil))))))), ?_⟩
  obtain ⟨p, x, rfl, ⟨dx, g, c, hp, hG, hC⟩, oG, oC, q⟩ := h
  have cl := C_Change.cl
  refine (ev_fld (ev_var rfl) hp cl C_Change.na.1 chF_g) H (Ex.refl H) _ fun H1 e1 => ⟨g, x.1, rfl, Lst2.mn RowAt.mn _ _ _ _ e1 hG, oG, fun d1 H2 kv1 hd1 e2 nd1 hc1 hl1 => ?_⟩
  have x2 := e1.trans e2
  refine (ev_fld (ev_var rfl) (x2 _ _ hp) cl C_Change.na.2.1 chF_c) H2 (Ex.refl H2) _ fun H3 e3 => ⟨c, x.2, rfl, Lst2.mn RowAt.mn _ _ _ _ (x2.trans e3) hC, oC, fun d2 H4 kv2 hd2 e4 nd2 hc2 hl2 => ⟨sz_of (by show 2 ≤ 100000; decide), fun t ht => gt2 (st_of upd_same) ?_⟩⟩
  have x4 := (e3.trans e4).trans (Ex.new (o := .tup [.ref d1, .ref d2]) ht)
  have nd1' := nd1.ex x4
  have nd2' : NDict P w (upd H4 t (.tup [.ref d1, .ref d2])) d2 kv2 := nd2.ex (Ex.new ht)
  have hne : d2 ≠ d1 := fun z => by
    obtain ⟨o, ho⟩ := (nd1.ex e3).some
    rw [← z, hd2] at ho
    cases ho
  have z1 := oG.2
  generalize hH5 : upd H4 t (.tup [.ref d1, .ref d2]) = H5 at x4 nd1' nd2'
  have x5 : Ex H H5 := x2.trans x4
  refine q_dcK (P := P) (w := w) (sel := fun k => (valV kv2 k).isSome) (val := fun k => min (cR x.1 k) (cR x.2 k)) (fun H1 => ev_var rfl) nd1' (by omega) (fun _ => rfl) (fun x H1 => ev_var rfl)
    (fun k b H1 xb nd nk kd => (et_test (ev_ninR (ev_var rfl) (ev_var rfl) (.inl (nd2'.exB nd1' hne xb)) nk kd)) H1 (Ex.refl H1))
    (fun k b v H1 xb nd nk kd hv hs => ?_) fun d H6 kvs hd e6 nd hc hl => ?_
  · obtain ⟨v2, hv2⟩ := Option.isSome_iff_exists.mp hs
    refine ev_is (ev_min2 (ev_is (ev_ngetR (ev_var rfl) (ev_var rfl) nd nk kd hv) (hc1.is hv)) (ev_is (ev_ngetR (ev_var rfl) (ev_var rfl) (.inl (nd2'.exB nd1' hne xb)) nk kd hv2) (hc2.is hv2))) ?_
    congr 1
    split <;> omega
  have hc' : CtsW kvs fun k => min (cR x.1 k) (cR x.2 k) := hc.congr fun k => by
    rw [csN_all]
    cases v1 : valV kv1 k with
    | none => rw [hc1.no v1, Nat.zero_min]; rfl
    | some a =>
      cases v2 : valV kv2 k with
      | none => rw [hc2.no v2, Nat.min_zero]; rfl
      | some b => rfl
  have x6 := x5.trans e6
  refine s_retR (rn_changeW (ew_ro (ro_wl (ev_fld (ev_var rfl) (x6 _ _ hp) cl C_Change.na.1 chF_g) (fun _ _ => ev_var rfl) (Lst2.mn RowAt.mn _ _ _ _ x6 hG) oG nd hc')) (ew_ro (ro_wl (ev_fld (ev_var rfl) (x6 _ _ hp) cl C_Change.na.2.1 chF_c) (fun _ _ => ev_var rfl) (Lst2.mn RowAt.mn _ _ _ _ x6 hC) oC nd hc')) (Nat.le_trans (wl_len _ _ _) oG.2) (Nat.le_trans (wl_len _ _ _) oC.2)) fun r H7 hr e7 hR => q r H7 (fresh_back x6 hr) (x6.trans e7) (ChAt.mn K _ _ _ _ nu_le hR)
theorem ok_changed_rows (D : Dn K mg "changed_rows" s_changed_rows ["rows", "change"]) (C_Change : ClsD K mg "Change" ["gone", "come"]) (c__how_often : C8.Cal P w K mg base 4 "_how_often" (sp__how_often P w K mg base) []) (c__without_first : C8.Cal P w K mg base 4 "_without_first" (sp__without_first P w K mg base) []) (z_list : mg "list" = none) :
    C8.Cal P w K mg base 5 "changed_rows" (sp_changed_rows K) [] := by
  refine cal_of D sc_changed_rows (fun vs H Q E h => ?_) (fun f cdv A outer s H vs Q E hr h => ?_)
  · obtain ⟨_, _, _, _, rfl, _⟩ := h
    rfl
  refine ⟨_, (pss_cons (ps_set (i := 2) sc_changed_rows.nd rfl (.inl rfl) (C8.pe_c c__without_first hr (by decide) (by rfl) (pa_cons (pv 0) (pa_cons (C8.pe_c c__how_often hr (by decide) (by rfl) (pa_cons (pe_fld (pv 1) (by rfl)) pa_nil)) pa_nil))))
    (pss_one (ps_ret (pe_lc (own := [("row", 3)]) (g := gName 3) (tt := tYes) rfl sc_changed_rows.nd (pi_list (pe_op op_cat (pv 2) (pe_fld (pv 1) (by rfl)))) (blkOk_by (N := n_changed_rows) (sc := C8.fnScope s_changed_rows) (by decide +kernel)) (fun _ _ _ _ _ => pg_name (i := 3) sc_changed_rows.nd rfl (Or.inl rfl)) (fun _ _ _ _ _ => pts_nil) (fun _ _ _ _ _ => (pe_callTy (call_list_ofK (K := K) rfl) (by rfl) z_list (by decide +kernel) (pa_cons (pv 3) pa_nil))))))), ?_⟩
  obtain ⟨r, p, L, x, rfl, hL, ⟨dx, g, c, hp, hG, hC⟩, oL, oG, zC, q⟩ := h
  have cl := C_Change.cl
  refine ⟨.ref r, rfl, (ev_fld (ev_var rfl) hp cl C_Change.na.1 chF_g) H (Ex.refl H) _ fun H1 e1 => ⟨g, x.1, rfl, Lst2.mn RowAt.mn _ _ _ _ e1 hG, oG, fun d1 H2 kv1 hd1 e2 nd1 hc1 hl1 => ?_⟩⟩
  have x2 := e1.trans e2
  refine ⟨r, d1, L, kv1, cR x.1, rfl, Lst2.mn RowAt.mn _ _ _ _ x2 hL, oL, nd1, hc1, Nat.le_trans hl1 oG.2, fun k H3 hk e3 hK => ?_⟩
  have x3 := x2.trans e3
  obtain ⟨qs, hqs, hA⟩ := hK
  obtain ⟨qc, hqc, hB⟩ := Lst2.mn RowAt.mn _ _ _ _ x3 hC
  have l1 := wf_len rowN L (cR x.1)
  have l2 := oL.2
  have hlq : (qs.map V.ref).length = (K76.wf rowN L (cR x.1)).length := by rw [List.length_map, hA.1]
  have hlc : (qc.map V.ref).length = x.2.length := by rw [List.length_map, hB.1]
  refine lc_src (G := fun a H5 => Ex H3 H5 ∧ Lst2 RowAt H5 a (K76.wf rowN L (cR x.1) ++ x.2)) (fun Q' k' => el_cat (ev_var rfl) (ev_fld (ev_var rfl) (x3 _ _ hp) cl C_Change.na.2.1 chF_c) hqs hqc (by omega) H3 (Ex.refl H3) _ fun a H5 ha e5 h5 => k' a H5 ⟨e5, qs ++ qc, by rw [h5, List.map_append], ?_⟩) fun a H5 hG5 => ?_
  · refine ⟨by rw [List.length_append, List.length_append, hA.1, hB.1], fun i q' l' a b => ?_⟩
    by_cases hi : i < qs.length
    · rw [List.getElem?_append_left hi] at a
      rw [List.getElem?_append_left (by rw [← hA.1]; exact hi)] at b
      exact e5 _ _ (hA.2 i q' l' a b)
    · rw [List.getElem?_append_right (by omega)] at a
      rw [List.getElem?_append_right (by rw [← hA.1]; omega), ← hA.1] at b
      exact e5 _ _ (hB.2 _ q' l' a b)
  · obtain ⟨e5, h5⟩ := hG5
    exact rn_copy ev_c h5 (by rw [List.length_append]; omega) (fun _ => rfl) (fun _ => rfl) H5 (Ex.refl H5) _ fun b H6 hb e6 hR => q b H6 (fresh_back (x3.trans e5) hb) ((x3.trans e5).trans e6) (Lst2.mn RowAt.mn _ _ _ _ (nu_back (x3.trans e5)) hR)
end

--@SPLIT
/-! ### sorting by keys that compare two by two: ranks, rows of ranks -/
mutual
theorem rd_det {h : Heap} : ∀ {d e : PyData} {v : Value} {as bs : List Addr}, noL d = true → Reads h v d as → Reads h v e bs → d = e
  | .none, _, _, _, _, _, .none, r => by cases r; rfl
  | .bool _, _, _, _, _, _, .bool _, r => by cases r; rfl
  | .int _, _, _, _, _, _, .int _ _, r => by cases r; rfl
  | .str _, _, _, _, _, _, .str _ _, r => by cases r; rfl
  | .tuple xs, _, _, _, _, n, .tuple h1 h2 h3 h4, r => by
    cases r with
    | list k1 k2 _ _ => rw [h1] at k1; cases k1; rw [h2] at k2; exact absurd (Value.type.inj k2) (by decide)
    | dict k1 k2 _ _ _ => rw [h1] at k1; cases k1; rw [h2] at k2; exact absurd (Value.type.inj k2) (by decide)
    | tuple k1 k2 k3 k4 =>
      rw [h1] at k1
      cases k1
      rw [h3] at k3
      cases k3
      rw [rd_dets (by simpa [noL] using n) h4 k4]
  | .list _, _, _, _, _, n, _, _ => by simp [noL] at n
  | .dict _, _, _, _, _, n, _, _ => by simp [noL] at n
theorem rd_dets {h : Heap} : ∀ {ds es : List PyData} {vs : List Value} {as bs : List Addr}, noLs ds = true → ReadsAll h vs ds as → ReadsAll h vs es bs → ds = es
  | [], _, _, _, _, _, .nil, r => by cases r; rfl
  | d :: ds, _, _, _, _, n, .cons h1 h2, r => by
    cases r with
    | cons k1 k2 =>
      have n' : (noL d && noLs ds) = true := n
      rw [Bool.and_eq_true] at n'
      rw [rd_det n'.1 h1 k1, rd_dets n'.2 h2 k2]
end
abbrev Tks := List (Int ⊕ List Nat)
abbrev tkLt (a b : Tks) : Bool := PyProof.Rows.lexLt PyProof.Rows.itemOrd a b
structure KFam {β : Type} (k : β → List PyData) (t : β → Tks) (fst : Bool) (P : β → Prop) : Prop where
  lt : ∀ x y, P x → P y → ltDs (k x) (k y) = tkLt (t x) (t y)
  ord : ∀ x y, P x → P y → ordDs (k x) (k y) = true
  lay : ∀ x, P x → PyData.canLayAll0 (k x) = true
  dep : ∀ x, P x → PyData.depthAll (k x) ≤ 50
  nol : ∀ x, P x → noLs (k x) = true
  head : ∀ x, P x → ∃ d r, k x = d :: r ∧ if fst = true then ∃ n, d = .int n else ∃ ys, d = .tuple ys
section
variable {β : Type} {k : β → List PyData} {t : β → Tks} {fst : Bool} {Pr : β → Prop}
theorem KFam.uniq (F : KFam k t fst Pr) {h : Heap} {v : Value} {x y : β} {as bs : List Addr} (hx : Pr x) (hy : Pr y) (r : Reads h v (.tuple (k x)) as) (r2 : Reads h v (.tuple (k y)) bs) : t x = t y := by
  have e : k x = k y := PyData.tuple.inj (rd_det (d := .tuple (k x)) (by simpa [noL] using F.nol x hx) r r2)
  have h1 : tkLt (t x) (t y) = false := by rw [← F.lt x y hx hy, ← e, F.lt x x hx hx]; exact PyProof.Rows.lex_irrefl _
  have h2 : tkLt (t y) (t x) = false := by rw [← F.lt y x hy hx, ← e, F.lt x x hx hx]; exact PyProof.Rows.lex_irrefl _
  exact (PyProof.Rows.listOrd PyProof.Rows.itemOrd).total _ _ h1 h2
noncomputable def ownKind (h : Heap) (k : β → List PyData) (t : β → Tks) (Pr : β → Prop) : PyProof.Rows.KeyKind where
  toKeyOrd := PyProof.Rows.listOrd PyProof.Rows.itemOrd
  keyOf v := open Classical in if q : ∃ x, Pr x ∧ ∃ as, Reads h v (.tuple (k x)) as then some (t q.choose) else none
  dflt := ([] : Tks)
theorem own_some (F : KFam k t fst Pr) {h : Heap} {v : Value} {x : β} {as : List Addr} (hx : Pr x) (r : Reads h v (.tuple (k x)) as) : (ownKind h k t Pr).keyOf v = some (t x) := by
  have q : ∃ x, Pr x ∧ ∃ as, Reads h v (.tuple (k x)) as := ⟨x, hx, as, r⟩
  have e : (ownKind h k t Pr).keyOf v = some (t q.choose) := by
    show (open Classical in if q : ∃ x, Pr x ∧ ∃ as, Reads h v (.tuple (k x)) as then some (t q.choose) else none) = _
    exact dif_pos q
  obtain ⟨h1, bs, h2⟩ := q.choose_spec
  rw [e, F.uniq h1 hx h2 r]
theorem own_inv {h : Heap} {v : Value} {c : Tks} (e : (ownKind h k t Pr).keyOf v = some c) : ∃ x as, Pr x ∧ Reads h v (.tuple (k x)) as ∧ c = t x := by
  by_cases q : ∃ x, Pr x ∧ ∃ as, Reads h v (.tuple (k x)) as
  · have e2 : (ownKind h k t Pr).keyOf v = some (t q.choose) := by
      show (open Classical in if q : ∃ x, Pr x ∧ ∃ as, Reads h v (.tuple (k x)) as then some (t q.choose) else none) = _
      exact dif_pos q
    obtain ⟨h1, bs, h2⟩ := q.choose_spec
    rw [e2] at e
    exact ⟨_, bs, h1, h2, (Option.some.inj e).symm⟩
  · have e2 : (ownKind h k t Pr).keyOf v = none := by
      show (open Classical in if q : ∃ x, Pr x ∧ ∃ as, Reads h v (.tuple (k x)) as then some (t q.choose) else none) = _
      exact dif_neg q
    rw [e2] at e
    cases e
end
section
open PySem.W PySem.Calls PySem.SeqAt
variable {prog : Program} {w : World} {A : Around} {s : Shared}
theorem kat_ord {b : Bool} {Q : Bool → Shared → Prop} : ∀ (xs ys : List PyData) (i : Nat) (us vs : List Value) (as bs : List Addr), ReadsAll s.heap us xs as → ReadsAll s.heap vs ys bs → PyData.canLayAll0 xs = true → PyData.canLayAll0 ys = true → ordDs xs ys = true →
    (b = true → i = 0 → ∀ x r y r', xs = x :: r → ys = y :: r' → ∃ m n, x = .int m ∧ y = .int n) → A.units + PyData.depthAll xs < cLine → Q (ltDs xs ys) s → KatLex prog w A b (decide (xs.length < ys.length)) Q (us.zip vs) i s
  | [], [], i, _, _, _, _, r1, r2, _, _, _, _, _, hq => by
    cases r1
    exact kat_nil hq
  | [], y :: ys, i, _, _, _, _, r1, r2, _, _, _, _, _, hq => by
    cases r1
    exact kat_nil (by rw [show decide (([] : List PyData).length < (y :: ys).length) = true from decide_eq_true (Nat.zero_lt_succ _)]; exact hq)
  | x :: xs, [], i, _, _, _, _, r1, r2, _, _, _, _, _, hq => by
    cases r2
    rw [List.zip_nil_right]
    exact kat_nil (by rw [show decide ((x :: xs).length < ([] : List PyData).length) = false from decide_eq_false (Nat.not_lt_zero _)]; exact hq)
  | x :: xs, y :: ys, i, _, _, _, _, r1, r2, c1, c2, o, hb, hu, hq => by
    have a1 : x.canLay0 = true ∧ PyData.canLayAll0 xs = true := by simpa [PyData.canLayAll0] using c1
    have a2 : y.canLay0 = true ∧ PyData.canLayAll0 ys = true := by simpa [PyData.canLayAll0] using c2
    have hd : A.units + max x.depth (PyData.depthAll xs) < cLine := hu
    cases r1 with
    | cons p1 q1 =>
      cases r2 with
      | cons p2 q2 =>
        rw [show decide ((x :: xs).length < (y :: ys).length) = decide (xs.length < ys.length) by simp, List.zip_cons_cons]
        have he := PySem.SeqAt.eqAt_reads x y A s _ _ _ _ p1 p2 a1.1 a2.1 (by omega)
        refine kat_cons (he prog w _ _ ?_)
        by_cases c : PyData.eqv x y = true
        · rw [c]
          refine kat_yes (kat_ord xs ys (i + 1) _ _ _ _ q1 q2 a1.2 a2.2 (by rw [ordDs, if_pos c] at o; exact o) (fun _ z => absurd z (Nat.succ_ne_zero i)) (by omega) ?_)
          rw [ltDs, if_pos c] at hq
          exact hq
        · rw [Bool.not_eq_true] at c
          rw [c]
          refine kat_no ?_
          rw [ordDs, if_neg (by rw [c]; decide)] at o
          rw [ltDs, if_neg (by rw [c]; decide)] at hq
          cases hf : (b && i == 0) with
          | false =>
            rw [oneLt'_eq]
            simp only [Bool.false_eq_true, if_false]
            exact wpAny_bind (lt_reads _ x y A s _ _ _ _ (Nat.le_refl _) p1 p2 a1.1 a2.1 o (by omega) prog w _ _ (wpAny_truthy_bool hq))
          | true =>
            have hf2 : b = true ∧ i = 0 := by simpa using hf
            obtain ⟨m, n, rfl, rfl⟩ := hb hf2.1 hf2.2 x xs y ys rfl rfl
            cases p1
            cases p2
            exact oneLt_int hq
theorem own_tups {β : Type} {k : β → List PyData} {t : β → Tks} {fst : Bool} {Pr : β → Prop} (F : KFam k t fst Pr) : ∀ {vs : List Value} {xs : List β}, EachIs (fun v x => ∃ as, Reads s.heap v (.tuple (k x)) as) vs xs → (∀ x ∈ xs, Pr x) → ∃ fs, KatTups s.heap vs fs ∧ fs.length = vs.length ∧ ∀ f ∈ fs, ∃ d as, (if fst = true then ∃ n, d = PyData.int n else ∃ ys, d = PyData.tuple ys) ∧ Reads s.heap f d as
  | _, _, .nil, _ => ⟨[], KatTups.nil, rfl, fun f hf => nomatch hf⟩
  | _, _, .cons (b := x) ⟨as, r⟩ rest, hp => by
    obtain ⟨fs, h1, h2, h3⟩ := own_tups F rest fun y hy => hp y (List.mem_cons_of_mem _ hy)
    obtain ⟨d, l, hk, hd⟩ := F.head x (hp x (List.mem_cons_self ..))
    rw [hk] at r
    cases r with
    | @tuple a o us n _ _ g1 g2 g3 g4 =>
      cases hu : us.toList with
      | nil => rw [hu] at g4; cases g4
      | cons f fr =>
        rw [hu] at g4
        cases g4 with
        | cons p1 p2 =>
          have at0 : us[0]? = some f := by rw [← Array.getElem?_toList, hu]; rfl
          refine ⟨f :: fs, KatTups.cons g1 g2 g3 at0 h1, by rw [List.length_cons, List.length_cons, h2], fun g hg => ?_⟩
          rcases List.mem_cons.mp hg with z | z
          · rw [z]; exact ⟨d, _, hd, p1⟩
          · exact h3 g z
/-- such values can be sorted -/
theorem own_sorts {β : Type} {k : β → List PyData} {t : β → Tks} {fst : Bool} {Pr : β → Prop} (F : KFam k t fst Pr) {vs : List Value} {xs : List β} (e : EachIs (fun v x => ∃ as, Reads s.heap v (.tuple (k x)) as) vs xs) (hp : ∀ x ∈ xs, Pr x) (hu : A.units + 60 < cLine) : SortsAt prog w A s (ownKind s.heap k t Pr) vs := by
  refine ⟨fun v hv => ?_, tuples' fst, ?_, fun h2 E Q hq => ?_⟩
  · obtain ⟨x, hx, as, r⟩ := e.left v hv
    exact ⟨_, own_some F (hp x hx) r⟩
  · intro E u v a b Q ha hb hq
    obtain ⟨x, as, hx, ra, rfl⟩ := own_inv ha
    obtain ⟨y, bs, hy, rb, rfl⟩ := own_inv hb
    have hq2 : Q (ltDs (k x) (k y)) s := by rw [F.lt x y hx hy]; exact hq
    have hdx := F.dep x hx
    cases ra with
    | @tuple l o us n _ _ h1 h2 h3 h4 =>
      cases rb with
      | @tuple l' o' us' n' _ _ k1 k2 k3 k4 =>
        have l1 : us.size = (k x).length := by simpa using reads_len h4
        have l2 : us'.size = (k y).length := by simpa using reads_len k4
        refine kat_lt h1 h3 k1 k3 ?_
        rw [l1, l2]
        refine kat_ord (k x) (k y) 0 _ _ _ _ h4 k4 (F.lay x hx) (F.lay y hy) (F.ord x y hx hy) (fun hb _ x' r y' r' ex ey => ?_) (by omega) hq2
        obtain ⟨d, l, e1, g1⟩ := F.head x hx
        obtain ⟨d', l', e2, g2⟩ := F.head y hy
        rw [if_pos hb] at g1 g2
        rw [e1] at ex
        rw [e2] at ey
        cases ex
        cases ey
        obtain ⟨m, rfl⟩ := g1
        obtain ⟨n, rfl⟩ := g2
        exact ⟨m, n, rfl, rfl⟩
  · obtain ⟨fs, t1, t2, t3⟩ := own_tups F e hp
    have hT : ∀ T : Value, (∀ d, (if fst = true then ∃ n, d = PyData.int n else ∃ ys, d = PyData.tuple ys) → dataType d = T) → (T == T) = true → (T != Value.type "tuple") = fst → wpAny (model prog w) A (keyKind' vs.toArray) Q E s := fun T hd hT2 hf => by
      refine kat_kind (T := T) t1 (by omega) (fun f hf2 => ?_) hT2 (by rw [hf]; exact hq)
      obtain ⟨d, as, g1, g2⟩ := t3 f hf2
      rw [← hd d g1]
      exact looks_reads g2
    cases fst with
    | true => exact hT (.type "int") (fun d ⟨n, hn⟩ => by rw [hn]; rfl) (by decide) (by decide)
    | false => exact hT (.type "tuple") (fun d ⟨n, hn⟩ => by rw [hn]; rfl) (by decide) (by decide)
end

--@SPLIT
/-! ### sorted(a list of lists of ranks) -/
theorem vlt_two' {x y : V} : ltD (rkD x) (rkD y) = (if kr x = kr y then (if PyData.eqv (payD x) (payD y) = true then false else ltD (payD x) (payD y)) else decide (kr x < kr y)) := by
  show ltD (.tuple [.int (kr x), payD x]) (.tuple [.int (kr y), payD y]) = _
  rw [ltD, ltDs]
  by_cases h : kr x = kr y
  · rw [if_pos (show PyData.eqv (.int (kr x)) (.int (kr y)) = true from beq_iff_eq.mpr h), if_pos h, ltDs]
    rfl
  · rw [if_neg (show ¬ PyData.eqv (.int (kr x)) (.int (kr y)) = true from fun z => h (beq_iff_eq.mp z)), if_neg h, ltD]
def payT : V → Int ⊕ List Nat
  | .bl b => .inl (if b = true then 1 else 0)
  | .int i => .inl i
  | .str s => .inr s.cps.toList
  | _ => .inl 0
def tkR (x : V) : Tks := [.inl (kr x), payT x]
theorem lex_two (m n : Int) (a b : Int ⊕ List Nat) : tkLt [.inl m, a] [.inl n, b] = if m = n then PyProof.Rows.itemLt a b else decide (m < n) := by
  by_cases h : m = n
  · subst h
    rw [if_pos rfl]
    show PyProof.Rows.lexLt PyProof.Rows.itemOrd (Sum.inl m :: [a]) (Sum.inl m :: [b]) = _
    rw [PyProof.Rows.lex_self, PyProof.Rows.lex_cons]
    show (PyProof.Rows.itemLt a b || (!PyProof.Rows.itemLt b a && false)) = _
    rw [Bool.and_false, Bool.or_false]
  · rw [if_neg h]
    exact PyProof.Rows.lex_diff (O := PyProof.Rows.itemOrd) (x := Sum.inl m) (y := Sum.inl n) fun z => h (Sum.inl.inj z)
theorem rk_lt {x y : V} (hx : Ok x) (hy : Ok y) : ltD (rkD x) (rkD y) = tkLt (tkR x) (tkR y) := by
  rw [vlt_two']
  have same : ∀ a b : Int, (if PyData.eqv (.int a) (.int b) = true then false else ltD (.int a) (.int b)) = decide (a < b) := fun a b => by
    show (if (a == b) = true then false else ltD (.int a) (.int b)) = _
    rw [ltD]
    by_cases z : a = b
    · subst z; simp
    · simp [z]
  rw [show tkLt (tkR x) (tkR y) = _ from lex_two _ _ _ _]
  by_cases h : kr x = kr y
  · rw [if_pos h, if_pos h]
    cases hx <;> cases hy <;> first | exact same _ _ | exact absurd h (by decide) | (simp [kr] at h; done) | skip
    rename_i a _ b _
    show (if (a == b) = true then false else ltD (.str a) (.str b)) = decide (a.cps.toList < b.cps.toList)
    rw [ltD]
    by_cases z : a = b
    · subst z; simp
    · simp [z]
  · rw [if_neg h, if_neg h]
/-- equal as data: equal as signs -/
theorem rk_eqv {x y : V} (hx : Ok x) (hy : Ok y) : PyData.eqv (rkD x) (rkD y) = decide (tkR x = tkR y) := by
  have two : PyData.eqv (rkD x) (rkD y) = ((kr x == kr y) && PyData.eqv (payD x) (payD y)) := by
    show ((kr x == kr y) && (PyData.eqv (payD x) (payD y) && true)) = _
    rw [Bool.and_true]
  rw [two]
  by_cases h : kr x = kr y
  · rw [show (kr x == kr y) = true from beq_iff_eq.mpr h, Bool.true_and, Bool.eq_iff_iff, decide_eq_true_eq]
    have hc : tkR x = tkR y ↔ payT x = payT y := by
      unfold tkR
      rw [h]
      constructor
      · intro z; simpa using z
      · intro z; rw [z]
    rw [hc]
    cases hx <;> cases hy <;> first | (simp [kr] at h; done) | (simp [payT, payD, PyData.eqv]; done) | skip
    · rename_i a _ b _
      show (a == b) = true ↔ Sum.inr a.cps.toList = Sum.inr b.cps.toList
      rw [beq_iff_eq]
      refine ⟨fun z => by rw [z], fun z => PySem.W.str_of_cps (Sum.inr.inj z)⟩
  · rw [show (kr x == kr y) = false from by rw [Bool.eq_false_iff]; exact fun z => h (beq_iff_eq.mp z), Bool.false_and]
    symm
    refine decide_eq_false fun z => h ?_
    have := (List.cons.inj z).1
    exact Sum.inl.inj this
def tkL : List V → Tks
  | [] => [.inl 0]
  | x :: r => .inl 1 :: (tkR x ++ tkL r)
theorem lex_same_len : ∀ (p q : Tks), p.length = q.length → p ≠ q → ∀ a b, tkLt (p ++ a) (q ++ b) = tkLt p q
  | [], [], _, h, _, _ => absurd rfl h
  | [], _ :: _, h, _, _, _ => by simp at h
  | _ :: _, [], h, _, _, _ => by simp at h
  | x :: p, y :: q, hl, h, a, b => by
    by_cases e : x = y
    · subst e
      have ih := lex_same_len p q (by simpa using hl) (fun z => h (by rw [z])) a b
      show PyProof.Rows.lexLt PyProof.Rows.itemOrd (x :: (p ++ a)) (x :: (q ++ b)) = PyProof.Rows.lexLt PyProof.Rows.itemOrd (x :: p) (x :: q)
      rw [PyProof.Rows.lex_self, PyProof.Rows.lex_self]
      exact ih
    · exact (PyProof.Rows.lex_diff (O := PyProof.Rows.itemOrd) e).trans (PyProof.Rows.lex_diff (O := PyProof.Rows.itemOrd) e).symm
theorem row_lt : ∀ {xs ys : List V}, (∀ x ∈ xs, Ok x) → (∀ y ∈ ys, Ok y) → ltDs (xs.map rkD) (ys.map rkD) = tkLt (tkL xs) (tkL ys)
  | [], [], _, _ => by
    show ltDs [] [] = _
    rw [ltDs]
    exact (PyProof.Rows.lex_irrefl _).symm
  | [], y :: ys, _, _ => by
    show ltDs [] (rkD y :: ys.map rkD) = _
    rw [ltDs]
    symm
    exact (PyProof.Rows.lex_diff (O := PyProof.Rows.itemOrd) (x := Sum.inl 0) (y := Sum.inl 1) (by simp)).trans (by decide)
  | x :: xs, [], _, _ => by
    show ltDs (rkD x :: xs.map rkD) [] = _
    rw [ltDs]
    symm
    exact (PyProof.Rows.lex_diff (O := PyProof.Rows.itemOrd) (x := Sum.inl 1) (y := Sum.inl 0) (by simp)).trans (by decide)
  | x :: xs, y :: ys, hx, hy => by
    have ih := row_lt (fun z hz => hx z (List.mem_cons_of_mem _ hz)) (fun z hz => hy z (List.mem_cons_of_mem _ hz))
    have ox := hx x List.mem_cons_self
    have oy := hy y List.mem_cons_self
    have e1 : tkLt (tkL (x :: xs)) (tkL (y :: ys)) = tkLt (tkR x ++ tkL xs) (tkR y ++ tkL ys) := PyProof.Rows.lex_self _ _ _
    rw [List.map_cons, List.map_cons, ltDs, e1, rk_eqv ox oy]
    by_cases e : tkR x = tkR y
    · rw [if_pos (decide_eq_true e), e]
      exact ih.trans (PySem.W.lex_pre (tkR y) (tkL xs) (tkL ys)).symm
    · rw [if_neg (by rw [decide_eq_true_eq]; exact e), rk_lt ox oy]
      exact (lex_same_len (tkR x) (tkR y) rfl e _ _).symm
theorem tk_inj : ∀ {xs ys : List V}, (∀ x ∈ xs, Ok x) → (∀ y ∈ ys, Ok y) → tkL xs = tkL ys → xs.map rkN = ys.map rkN
  | [], [], _, _, _ => rfl
  | [], y :: ys, _, _, h => by simp [tkL] at h
  | x :: xs, [], _, _, h => by simp [tkL] at h
  | x :: xs, y :: ys, hx, hy, h => by
    have h2 : tkR x ++ tkL xs = tkR y ++ tkL ys := (List.cons.inj h).2
    have h3 := List.append_inj h2 rfl
    have ih := tk_inj (fun z hz => hx z (List.mem_cons_of_mem _ hz)) (fun z hz => hy z (List.mem_cons_of_mem _ hz)) h3.2
    have ox := hx x List.mem_cons_self
    have oy := hy y List.mem_cons_self
    have e := rk_eqv ox oy
    rw [decide_eq_true h3.1, ← rk_data ox, ← rk_data oy, eqv_key] at e
    rw [List.map_cons, List.map_cons, ih, of_decide_eq_true e]
theorem nols_rk : ∀ {xs : List V}, (∀ x ∈ xs, Ok x) → noLs (xs.map rkD) = true
  | [], _ => rfl
  | x :: xs, h => by
    show (noL (rkD x) && noLs (xs.map rkD)) = true
    rw [noL_rk (h x List.mem_cons_self), nols_rk fun y hy => h y (List.mem_cons_of_mem _ hy)]
    rfl
def OkAll (xs : List V) : Prop := ∀ x ∈ xs, Ok x
section
open PySem.W PySem.Calls PySem.SeqAt
theorem rdl_det {h : Heap} {v : Value} {xs ys : List PyData} {as bs : List Addr} (n : noLs xs = true) (r : Reads h v (.list xs) as) (k : Reads h v (.list ys) bs) : xs = ys := by
  cases r with
  | list h1 h2 h3 h4 =>
    cases k with
    | list k1 k2 k3 k4 =>
      rw [h1] at k1
      cases k1
      rw [h3] at k3
      cases k3
      exact rd_dets n h4 k4
theorem row_uniq {h : Heap} {v : Value} {xs ys : List V} {as bs : List Addr} (hx : OkAll xs) (hy : OkAll ys) (r : Reads h v (.list (xs.map rkD)) as) (k : Reads h v (.list (ys.map rkD)) bs) : tkL xs = tkL ys := by
  have e := rdl_det (nols_rk hx) r k
  have h1 : tkLt (tkL xs) (tkL ys) = false := by rw [← row_lt hx hy, ← e, row_lt hx hx]; exact PyProof.Rows.lex_irrefl _
  have h2 : tkLt (tkL ys) (tkL xs) = false := by rw [← row_lt hy hx, ← e, row_lt hx hx]; exact PyProof.Rows.lex_irrefl _
  exact (PyProof.Rows.listOrd PyProof.Rows.itemOrd).total _ _ h1 h2
noncomputable def rowKind (h : Heap) : PyProof.Rows.KeyKind where
  toKeyOrd := PyProof.Rows.listOrd PyProof.Rows.itemOrd
  keyOf v := open Classical in if q : ∃ x, OkAll x ∧ ∃ as, Reads h v (.list (x.map rkD)) as then some (tkL q.choose) else none
  dflt := ([] : Tks)
theorem row_some {h : Heap} {v : Value} {x : List V} {as : List Addr} (hx : OkAll x) (r : Reads h v (.list (x.map rkD)) as) : (rowKind h).keyOf v = some (tkL x) := by
  have q : ∃ x, OkAll x ∧ ∃ as, Reads h v (.list (x.map rkD)) as := ⟨x, hx, as, r⟩
  have e : (rowKind h).keyOf v = some (tkL q.choose) := by
    show (open Classical in if q : ∃ x, OkAll x ∧ ∃ as, Reads h v (.list (x.map rkD)) as then some (tkL q.choose) else none) = _
    exact dif_pos q
  obtain ⟨h1, bs, h2⟩ := q.choose_spec
  rw [e, row_uniq h1 hx h2 r]
theorem row_inv {h : Heap} {v : Value} {c : Tks} (e : (rowKind h).keyOf v = some c) : ∃ x as, OkAll x ∧ Reads h v (.list (x.map rkD)) as ∧ c = tkL x := by
  by_cases q : ∃ x, OkAll x ∧ ∃ as, Reads h v (.list (x.map rkD)) as
  · have e2 : (rowKind h).keyOf v = some (tkL q.choose) := by
      show (open Classical in if q : ∃ x, OkAll x ∧ ∃ as, Reads h v (.list (x.map rkD)) as then some (tkL q.choose) else none) = _
      exact dif_pos q
    obtain ⟨h1, bs, h2⟩ := q.choose_spec
    rw [e2] at e
    exact ⟨_, bs, h1, h2, (Option.some.inj e).symm⟩
  · have e2 : (rowKind h).keyOf v = none := by
      show (open Classical in if q : ∃ x, OkAll x ∧ ∃ as, Reads h v (.list (x.map rkD)) as then some (tkL q.choose) else none) = _
      exact dif_neg q
    rw [e2] at e
    cases e
theorem first_rk : ∀ xs ys : List V, firstLt (fun j => PyData.eqv (rkD (xs.getD j .non)) (rkD (ys.getD j .non))) (fun j => ltD (rkD (xs.getD j .non)) (rkD (ys.getD j .non))) (decide (xs.length < ys.length)) (List.range (min xs.length ys.length)) = ltDs (xs.map rkD) (ys.map rkD)
  | [], [] => by
    show _ = ltDs [] []
    rw [ltDs]
    rfl
  | [], y :: ys => by
    show _ = ltDs [] (rkD y :: ys.map rkD)
    rw [ltDs, show min ([] : List V).length (y :: ys).length = 0 from Nat.zero_min _]
    rfl
  | x :: xs, [] => by
    show _ = ltDs (rkD x :: xs.map rkD) []
    rw [ltDs, show min (x :: xs).length ([] : List V).length = 0 from Nat.min_zero _]
    rfl
  | x :: xs, y :: ys => by
    have ih := first_rk xs ys
    have em : min (x :: xs).length (y :: ys).length = min xs.length ys.length + 1 := by
      rw [List.length_cons, List.length_cons]
      omega
    have ed : decide ((x :: xs).length < (y :: ys).length) = decide (xs.length < ys.length) := by
      rw [List.length_cons, List.length_cons]
      exact decide_eq_decide.mpr (by omega)
    rw [em, ed, List.range_succ_eq_map, List.map_cons, List.map_cons, ltDs]
    cases hx : PyData.eqv (rkD x) (rkD y) with
    | true =>
      rw [if_pos rfl, ← ih]
      show (if PyData.eqv (rkD x) (rkD y) = true then _ else _) = _
      rw [if_pos hx]
      exact firstLt_map _ _ _ _ _
    | false =>
      rw [if_neg (by decide)]
      show (if PyData.eqv (rkD x) (rkD y) = true then _ else _) = _
      rw [if_neg (by rw [hx]; decide)]
      rfl
variable {prog : Program} {w : World} {A : Around} {s : Shared}
theorem rk_ats : ∀ {xs ys : List V} {vs ws : List Value} {as bs : List Addr}, OkAll xs → OkAll ys → ReadsAll s.heap vs (xs.map rkD) as → ReadsAll s.heap ws (ys.map rkD) bs → A.units + 10 < cLine → ∀ j (j1 : j < vs.length) (j2 : j < ws.length),
    EqAt A s vs[j] ws[j] (PyData.eqv (rkD (xs.getD j .non)) (rkD (ys.getD j .non))) ∧ RcLt A s vs[j] ws[j] (ltD (rkD (xs.getD j .non)) (rkD (ys.getD j .non)))
  | [], _, _, _, _, _, _, _, r1, _, _, j, j1, _ => by
    cases r1
    exact absurd j1 (Nat.not_lt_zero _)
  | _ :: _, [], _, _, _, _, _, _, _, r2, _, j, _, j2 => by
    cases r2
    exact absurd j2 (Nat.not_lt_zero _)
  | x :: xs, y :: ys, _, _, _, _, hx, hy, r1, r2, hu, j, j1, j2 => by
    cases r1 with
    | cons p1 q1 =>
      cases r2 with
      | cons p2 q2 =>
        have ox := hx x List.mem_cons_self
        have oy := hy y List.mem_cons_self
        have dx : (rkD ((x :: xs).getD 0 V.non)).depth = 1 := dep_rk ox
        cases j with
        | zero => exact ⟨PySem.SeqAt.eqAt_reads _ _ A s _ _ _ _ p1 p2 (lay_rk ox) (lay_rk oy) (by omega), lt_reads _ _ _ A s _ _ _ _ (Nat.le_refl _) p1 p2 (lay_rk ox) (lay_rk oy) (ord_rk ox oy) (by omega)⟩
        | succ j => exact rk_ats (fun z hz => hx z (List.mem_cons_of_mem _ hz)) (fun z hz => hy z (List.mem_cons_of_mem _ hz)) q1 q2 hu j (Nat.lt_of_succ_lt_succ j1) (Nat.lt_of_succ_lt_succ j2)
theorem row_sorts {vs : List Value} {xs : List (List V)} (e : EachIs (fun v x => ∃ as, Reads s.heap v (.list (x.map rkD)) as) vs xs) (hp : ∀ x ∈ xs, OkAll x) (hu : A.units + 60 < cLine) : SortsAt prog w A s (rowKind s.heap) vs := by
  refine ⟨fun v hv => ?_, oneType', ?_, fun h2 E Q hq => ?_⟩
  · obtain ⟨x, hx, as, r⟩ := e.left v hv
    exact ⟨_, row_some (hp x hx) r⟩
  · intro E u v a b Q ha hb hq
    obtain ⟨x, as, hx, ra, rfl⟩ := row_inv ha
    obtain ⟨y, bs, hy, rb, rfl⟩ := row_inv hb
    have hq2 : Q (ltDs (x.map rkD) (y.map rkD)) s := by rw [row_lt hx hy]; exact hq
    rw [keyLt'_oneType]
    cases ra with
    | @list l o us n _ _ h1 h2 h3 h4 =>
      cases rb with
      | @list l' o' us' n' _ _ k1 k2 k3 k4 =>
        have n1 : us.size = x.length := by simpa using reads_len h4
        have n2 : us'.size = y.length := by simpa using reads_len k4
        rw [← first_rk, ← n1, ← n2] at hq2
        rw [oneLt'_eq]
        simp only [if_true]
        refine wpAny_bind (wpAny_cRoomFor (by omega) ?_)
        have hA : A.in1.units + 10 < cLine := by show A.units + 1 + 10 < cLine; omega
        refine wpAny_bind (wpAny_callSpecialIfBound?_slot (T := "list") ⟨_, h1, h2⟩ F.slot_list_lt (call_list_lt (e := fun j => PyData.eqv (rkD (x.getD j .non)) (rkD (y.getD j .non))) (r := fun j => ltD (rkD (x.getD j .non)) (rkD (y.getD j .non))) ⟨_, h1, h2, _, h3⟩ ⟨_, k1, k2, _, k3⟩ (fun j j1 j2 => ?_) (fun j j1 j2 hj => ?_) ?_))
        · have := (rk_ats (A := A.in1) hx hy h4 k4 hA j (by simpa using j1) (by simpa using j2)).1
          simpa using this
        · have := (rk_ats (A := A.in1) hx hy h4 k4 hA j (by simpa using j1) (by simpa using j2)).2
          simpa using this
        · exact wpAny_truthy_bool hq2
  · refine kas_kind (T := .type "list") h2 (fun v hv => ?_) (by decide) (by decide) hq
    obtain ⟨x, hx, as, r⟩ := e.left v hv
    exact looks_reads r
end
def sortT {β : Type} (t : β → Tks) (rev : Bool) (xs : List β) : List β := xs.mergeSort (PySem.W.sortLe (PyProof.Rows.listOrd PyProof.Rows.itemOrd) rev t)
theorem sortT_perm {β : Type} (t : β → Tks) (rev : Bool) (xs : List β) : (sortT t rev xs).Perm xs := List.mergeSort_perm _ _
theorem each_mapG {α β γ : Type} {R : α → γ → Prop} (f : β → γ) : ∀ {as : List α} {bs : List β}, PySem.W.EachIs (fun a b => R a (f b)) as bs → PySem.W.EachIs R as (bs.map f)
  | _, _, .nil => .nil
  | _, _, .cons h t => .cons h (each_mapG f t)
def rSortedL (K : PySem.W.Frag) : List V → Hp → VK → Prop := fun vs H Q => ∃ (a : Addr) (L : List (List V)) (ys : List V), vs = [.ref a] ∧ SqL K H a ys ∧ DpAll K H ys (L.map fun x => .list (x.map rkD)) ∧ (∀ x ∈ L, OkAll x) ∧
  ∀ p H' zs, H p = none → Ex H H' → H' p = some (.lst zs) → DpAll K H' zs ((sortT tkL false L).map fun x => .list (x.map rkD)) → Q (.ref p) H'
theorem each2_dps {K : PySem.W.Frag} {H : Hp} {k : List V → PyData} {R : Value → (V × List V) → Prop} : ∀ {bs : List (V × List V)}, (∀ b ∈ bs, Dp K H b.1 (k b.2)) → DpAll K H (bs.map (·.1)) (bs.map fun b => k b.2)
  | [], _ => .nil
  | b :: bs, h => .cons (h b List.mem_cons_self) (each2_dps (R := R) fun c hc => h c (List.mem_cons_of_mem _ hc))
theorem zip_dps {K : PySem.W.Frag} {H : Hp} {k : List V → PyData} : ∀ {ys : List V} {L : List (List V)}, DpAll K H ys (L.map k) → ∃ bs : List (V × List V), ys = bs.map (·.1) ∧ L = bs.map (·.2) ∧ ∀ b ∈ bs, Dp K H b.1 (k b.2)
  | [], [], _ => ⟨[], rfl, rfl, fun b hb => nomatch hb⟩
  | y :: ys, [], h => by cases h
  | [], _ :: _, h => by cases h
  | y :: ys, x :: L, h => by
    cases h with
    | cons h1 h2 =>
      obtain ⟨bs, e1, e2, e3⟩ := zip_dps h2
      refine ⟨(y, x) :: bs, by rw [e1]; rfl, by rw [e2]; rfl, fun b hb => ?_⟩
      rcases List.mem_cons.mp hb with z | z
      · rw [z]; exact h1
      · exact e3 b z
section
open PySem.W PySem.Calls
variable {X : Cx}
theorem each_of_vals {K : PySem.W.Frag} {pins : List (Addr × Obj)} {σ : L2.St} {H : Hp} {s : Shared} (I : Inv X pins σ H s) : ∀ {bs : List (V × List V)} {us : List Value}, Vals (bs.map (·.1)) us → (∀ b ∈ bs, Dp X.K H b.1 (.list (b.2.map rkD))) →
    EachIs (fun v b => RelV b.1 v ∧ ∃ as, Reads s.heap v (.list (b.2.map rkD)) as) us bs
  | [], _, r, _ => by cases r; exact .nil
  | b :: bs, _, r, d => by
    cases r with
    | cons r1 r2 =>
      obtain ⟨as, g⟩ := Dp.reads I _ _ _ (d b List.mem_cons_self) r1
      exact .cons ⟨r1, as, g⟩ (each_of_vals (K := K) I r2 fun c hc => d c (List.mem_cons_of_mem _ hc))
theorem each_to_vals {s : Shared} : ∀ {bs : List (V × List V)} {us : List Value}, EachIs (fun v b => RelV b.1 v ∧ ∃ as, Reads s.heap v (.list (b.2.map rkD)) as) us bs → Vals (bs.map (·.1)) us
  | _, _, .nil => .nil
  | _, _, .cons h t => .cons h.1 (each_to_vals t)
theorem sort_map2 {bs : List (V × List V)} : (bs.mergeSort (sortLe (PyProof.Rows.listOrd PyProof.Rows.itemOrd) false fun b => tkL b.2)).map (·.2) = sortT tkL false (bs.map (·.2)) := by
  unfold sortT
  rw [List.map_mergeSort]
  intro a _ b _
  rfl
theorem call_sortedL (hu : X.A.units + 64 < cLine) : CallR X (.builtin "sorted") (rSortedL X.K) := by
  intro pins s σ H vs us Q I r h
  obtain ⟨a, L, ys, rfl, hs, hd, hok, q⟩ := h
  obtain ⟨bs, rfl, rfl, hb⟩ := zip_dps hd
  obtain ⟨its, rv, hl, hz⟩ := I.list hs
  rw [Vals.ref1 r]
  have he := each_of_vals (K := X.K) I rv hb
  have hZ : its.length ≤ sizeLine := by rw [← rv.length]; exact hz
  have he2 : EachIs (fun v x => ∃ as, Reads (sortingHeap (copyHeap s.heap its) (s.heap.objs.size + 1) its) v (.list ((x : V × List V).2.map rkD)) as) its bs := he.mono fun _ _ ⟨_, as, r⟩ => ⟨as, PyProof.Rows.Reads.keeps (fun _ _ => sorting_copy_old) r⟩
  have hok2 : ∀ b ∈ bs, OkAll b.2 := fun b hb2 => hok _ (List.mem_map.mpr ⟨b, hb2, rfl⟩)
  have he3 : EachIs (fun v (x : List V) => ∃ as, Reads (sortingHeap (copyHeap s.heap its) (s.heap.objs.size + 1) its) v (.list (x.map rkD)) as) its (bs.map (·.2)) := each_mapG (R := fun v (x : List V) => ∃ as, Reads (sortingHeap (copyHeap s.heap its) (s.heap.objs.size + 1) its) v (.list (x.map rkD)) as) (fun b : V × List V => b.2) he2
  refine sorted_vals hl.isList (row_sorts (s := { s with heap := sortingHeap (copyHeap s.heap its) (s.heap.objs.size + 1) its }) he3 (fun x hx => hok x hx) (by show X.A.units + 1 + 1 + 60 < cLine; omega)) hZ ?_
  have hout := sortVals_each (κ := rowKind (sortingHeap (copyHeap s.heap its) (s.heap.objs.size + 1) its)) (rev := false) (fun b : V × List V => tkL b.2) he ((each_mem he2).mono fun v b ⟨⟨as, g⟩, hb2⟩ => row_some (hok2 b hb2) g)
  generalize sortVals (rowKind (sortingHeap (copyHeap s.heap its) (s.heap.objs.size + 1) its)) false its its = out at hout
  have hv := each_to_vals hout
  obtain ⟨ep, he'⟩ := PyProof.Rows.sortedAll_at s.heap its out.toArray
  have hlen : ((bs.mergeSort (sortLe (PyProof.Rows.listOrd PyProof.Rows.itemOrd) false fun b => tkL b.2)).map (·.1)).length ≤ sizeLine := by
    rw [List.length_map, (List.mergeSort_perm _ _).length_eq, ← List.length_map (f := (·.1))]
    exact hz
  refine ⟨.ref _, upd H (s.heap.objs.size + 1) (.lst _), I.laid (t' := s.toks) (fun _ _ => PyProof.Rows.sortedAll_old) (Nat.le_succ _) ⟨hlen, out, ep, hv, he'⟩, rfl, q _ _ _ (I.hok.fresh (Nat.le_succ _)) (Ex.new (I.hok.fresh (Nat.le_succ _))) upd_same ?_⟩
  rw [← sort_map2, List.map_map]
  exact each2_dps (R := fun _ _ => True) (k := fun x => .list (x.map rkD)) fun b hb2 => ex_dp (Ex.new (I.hok.fresh (Nat.le_succ _))) (hb b ((List.mergeSort_perm _ _).mem_iff.mp hb2))
end
/-! the sorted list is one for all arrangements -/
def tkP : NK → Int ⊕ List Nat
  | .num n => .inl n
  | .text s => .inr s.cps.toList
  | _ => .inl 0
def tkI : NK → Tks
  | .tup [.num k, p] => [.inl k, tkP p]
  | _ => []
def tkLN : List NK → Tks
  | [] => [.inl 0]
  | k :: r => .inl 1 :: (tkI k ++ tkLN r)
def tkN : NK → Tks
  | .tup ks => tkLN ks
  | _ => []
theorem tkL_N : ∀ {xs : List V}, OkAll xs → tkL xs = tkLN (xs.map rkN)
  | [], _ => rfl
  | x :: xs, h => by
    have ox := h x List.mem_cons_self
    have e : tkR x = tkI (rkN x) := by cases ox <;> rfl
    rw [List.map_cons, tkLN, ← tkL_N fun y hy => h y (List.mem_cons_of_mem _ hy), ← e]
    rfl
theorem tkN_row {xs : List V} (h : OkAll xs) : tkL xs = tkN (rowN xs) := tkL_N h
theorem tks_le {β : Type} (t : β → Tks) (xs : List β) : ((sortT t false xs).map t).Pairwise fun a b => tkLt b a = false := by
  rw [List.pairwise_map]
  refine (PySem.W.sort_pairwise (PySem.W.sortLe_total (PyProof.Rows.listOrd PyProof.Rows.itemOrd) false t) xs).imp fun {a b} h => ?_
  have h2 : (!tkLt (t b) (t a)) = true := h
  simpa using h2
theorem one_sorted : ∀ {a b : List Tks}, a.Pairwise (fun x y => tkLt y x = false) → b.Pairwise (fun x y => tkLt y x = false) → a.Perm b → a = b
  | [], b, _, _, h => (List.nil_perm.mp h).symm
  | x :: a, [], _, _, h => absurd (List.perm_nil.mp h) (by simp)
  | x :: a, y :: b, h1, h2, h => by
    have e : x = y := by
      rw [List.pairwise_cons] at h1 h2
      have hx : x ∈ y :: b := h.subset List.mem_cons_self
      have hy : y ∈ x :: a := h.symm.subset List.mem_cons_self
      rcases List.mem_cons.mp hx with z | z
      · exact z
      · rcases List.mem_cons.mp hy with u | u
        · exact u.symm
        · exact (PyProof.Rows.listOrd PyProof.Rows.itemOrd).total _ _ (h2.1 x z) (h1.1 y u)
    subst e
    rw [one_sorted (List.pairwise_cons.mp h1).2 (List.pairwise_cons.mp h2).2 (List.Perm.cons_inv h)]
theorem map_rkD {xs : List V} (h : OkAll xs) : xs.map rkD = (xs.map rkN).map NestedKey.data := by
  rw [List.map_map]
  exact List.map_congr_left fun x hx => (rk_data (h x hx)).symm
theorem maps_tk : ∀ {A B : List (List V)}, (∀ x ∈ A, OkAll x) → (∀ x ∈ B, OkAll x) → A.map tkL = B.map tkL → A.map (fun x => PyData.list (x.map rkD)) = B.map fun x => PyData.list (x.map rkD)
  | [], [], _, _, _ => rfl
  | [], _ :: _, _, _, h => by simp at h
  | _ :: _, [], _, _, h => by simp at h
  | a :: A, b :: B, hA, hB, h => by
    have h2 := List.cons.inj h
    have ha := hA a List.mem_cons_self
    have hb := hB b List.mem_cons_self
    rw [List.map_cons, List.map_cons, maps_tk (fun x hx => hA x (List.mem_cons_of_mem _ hx)) (fun x hx => hB x (List.mem_cons_of_mem _ hx)) h2.2, map_rkD ha, map_rkD hb, tk_inj ha hb h2.1]
theorem sort_one {L M : List (List V)} (hL : ∀ x ∈ L, OkAll x) (hM : ∀ x ∈ M, OkAll x) (h : (L.map rowN).Perm (M.map rowN)) : (sortT tkL false L).map (fun x => PyData.list (x.map rkD)) = (sortT tkL false M).map fun x => PyData.list (x.map rkD) := by
  have mem : ∀ {L : List (List V)} {x}, x ∈ sortT tkL false L → x ∈ L := fun hx => (sortT_perm _ _ _).mem_iff.mp hx
  refine maps_tk (fun x hx => hL x (mem hx)) (fun x hx => hM x (mem hx)) (one_sorted (tks_le _ _) (tks_le _ _) ?_)
  refine ((sortT_perm tkL false L).map tkL).trans (List.Perm.trans ?_ ((sortT_perm tkL false M).map tkL).symm)
  have e : ∀ {L : List (List V)}, (∀ x ∈ L, OkAll x) → L.map tkL = (L.map rowN).map tkN := fun h => by
    rw [List.map_map]
    exact List.map_congr_left fun x hx => tkN_row (h x hx)
  rw [e hL, e hM]
  exact h.map tkN

--@SPLIT
/-! ### lists of lists of ranks: made, asked, sorted, less one -/
theorem hu65 {A : Around} {k : Nat} (hr : Room k A) : A.units + 65 < cLine := by
  have := hr.un
  omega
section
variable {K : PySem.W.Frag}
mutual
theorem dp_wo {H : Hp} {D : Addr} {ys : List V} (hD : H D = some (.lst ys)) : ∀ {v : V} {d : PyData}, noL d = true → Dp K H v d → Dp K (wo D H) v d
  | _, _, _, .non => .non
  | _, _, _, .bl b => .bl b
  | _, _, _, .int i => .int i
  | _, _, _, .str x => .str x
  | _, _, n, .lst h a => by simp [noL] at n
  | _, _, n, .tup h a => by
    refine .tup ?_ (dps_wo hD (by simpa [noL] using n) a)
    rcases h with (h | ⟨o, h⟩) | h
    · exact .inl (.inl (by rw [wo_ne (by intro z; rw [z, hD] at h; cases h)]; exact h))
    · exact .inl (.inr ⟨o, by rw [wo_ne (by intro z; rw [z, hD] at h; cases h)]; exact h⟩)
    · exact .inr h
theorem dps_wo {H : Hp} {D : Addr} {ys : List V} (hD : H D = some (.lst ys)) : ∀ {vs : List V} {ds : List PyData}, noLs ds = true → DpAll K H vs ds → DpAll K (wo D H) vs ds
  | _, _, _, .nil => .nil
  | _, _, n, .cons h t => by
    have n' : (noL _ && noLs _) = true := n
    rw [Bool.and_eq_true] at n'
    exact .cons (dp_wo hD n'.1 h) (dps_wo hD n'.2 t)
end
end
def rowD (xs : List V) : PyData := .list (xs.map rkD)
def RkAt (K : PySem.W.Frag) (H : Hp) (p : Addr) (xs : List V) : Prop := ∃ ys, H p = some (.lst ys) ∧ DpAll K H ys (xs.map rkD)
theorem RkAt.mn (K : PySem.W.Frag) : Mn (RkAt K) := fun H H' q l e ⟨ys, h1, h2⟩ => ⟨ys, e _ _ h1, ex_dps e h2⟩
theorem RkAt.dp {K : PySem.W.Frag} {H : Hp} {p : Addr} {xs : List V} (h : RkAt K H p xs) : Dp K H (.ref p) (rowD xs) := by
  obtain ⟨ys, h1, h2⟩ := h
  exact .lst (sq_of h1) h2
theorem al_dps {K : PySem.W.Frag} {H : Hp} : ∀ {qs : List Addr} {L : List (List V)}, Al2 (RkAt K) H qs L → DpAll K H (qs.map V.ref) (L.map rowD)
  | [], [], _ => .nil
  | [], _ :: _, h => by have := h.1; simp at this
  | _ :: _, [], h => by have := h.1; simp at this
  | q :: qs, x :: L, h => .cons (h.2 0 q x rfl rfl).dp (al_dps ⟨by have := h.1; simpa using this, fun i q' l' a b => h.2 (i + 1) q' l' (by simpa using a) (by simpa using b)⟩)
theorem sh_row {xs : List V} (h : OkAll xs) : SeqAt.shaped (rowD xs) = true := sh_ranks h
theorem lays_row : ∀ {L : List (List V)}, (∀ r ∈ L, OkAll r) → PyData.canLayAll0 (L.map rowD) = true
  | [], _ => rfl
  | x :: L, h => by
    show (PyData.canLayAll0 (x.map rkD) && PyData.canLayAll0 (L.map rowD)) = true
    rw [lays_rk (h x List.mem_cons_self), lays_row fun y hy => h y (List.mem_cons_of_mem _ hy)]
    rfl
theorem deps_row : ∀ {L : List (List V)}, (∀ r ∈ L, OkAll r) → PyData.depthAll (L.map rowD) ≤ 2
  | [], _ => by show 0 ≤ 2; decide
  | x :: L, h => by
    show max (PyData.depthAll (x.map rkD) + 1) (PyData.depthAll (L.map rowD)) ≤ 2
    have := deps_rk (h x List.mem_cons_self)
    have := deps_row fun y hy => h y (List.mem_cons_of_mem _ hy)
    omega
theorem sh_rows {L : List (List V)} (h : ∀ r ∈ L, OkAll r) : SeqAt.shaped (.list (L.map rowD)) = true := by
  have hd := deps_row h
  show (PyData.canLayAll0 (L.map rowD) && decide (PyData.depthAll (L.map rowD) + 1 ≤ 64)) = true
  rw [lays_row h, decide_eq_true (by omega)]
  rfl
theorem eqv_row {x y : List V} (hx : OkAll x) (hy : OkAll y) : PyData.eqv (rowD x) (rowD y) = decide (rowN x = rowN y) := by
  rw [← eqv_key, row_data hx, row_data hy]
  rfl
/-- xs.remove(x): x is in it -/
def rRemD (K : PySem.W.Frag) : V → List V → Hp → VK → Prop := fun x xs H Q => ∃ (l : Addr) (ys : List V) (y : V) (ds : List PyData) (d : PyData) (j : Nat), x = .ref l ∧ xs = [y] ∧ H l = some (.lst ys) ∧ DpAll K H ys ds ∧ Dp K H y d ∧ SeqAt.shaped (.list ds) = true ∧ SeqAt.shaped d = true ∧ SeqAt.dataPlace ds d = some j ∧
  Q .non (upd H l (.lst (ys.eraseIdx j)))
theorem mt_removeD {X : Cx} (hu : X.A.units + 65 < cLine) : MtR X "list.remove" (rRemD X.K) := by
  intro pins s σ H x xs v us Q I rx rxs h
  obtain ⟨l, ys, y, ds, d, j, rfl, rfl, hH, hds, hd, sl, sd, hp, q⟩ := h
  cases rx
  obtain ⟨u, rfl, ru⟩ := rxs.one
  obtain ⟨z, its, n, r, hl, e⟩ := I.lstM hH
  obtain ⟨as, rs⟩ := Dp.readsAll I ds _ its hds r
  obtain ⟨bs, rx⟩ := Dp.reads I d y u hd ru
  have c1 : PyData.canLayAll0 ds = true := SeqAt.canLay_of_shaped sl
  have c2 := SeqAt.canLay_of_shaped sd
  have dd := SeqAt.depth_of_shaped sd
  refine SeqAt.remove_list_data (vs := its.toArray) ⟨_, e, rfl, n, rfl⟩ rs rx (PySem.PyData.plainAll_of_canLay0 _ c1) (PySem.PyData.plain_of_canLay0 _ c2) (by omega) hp (by rw [List.size_toArray]; omega) ?_
  refine ⟨.non, _, I.lset (its' := its.eraseIdx j) (t' := s.toks) hH e ?_ (r.eraseIdx j) ?_, rfl, q⟩
  · show its.toArray.eraseIdxIfInBounds j = (its.eraseIdx j).toArray
    rw [List.eraseIdxIfInBounds_toArray]
  · exact Nat.le_trans (List.length_eraseIdx_le ..) z
theorem place_erase {x : List V} (hx : OkAll x) : ∀ {M : List (List V)}, (∀ r ∈ M, OkAll r) → rowN x ∈ M.map rowN → ∃ j, SeqAt.dataPlace (M.map rowD) (rowD x) = some j ∧ (M.eraseIdx j).map rowN = (M.map rowN).erase (rowN x)
  | [], _, h => by simp at h
  | z :: M, hM, h => by
    have hz := hM z List.mem_cons_self
    by_cases e : rowN z = rowN x
    · refine ⟨0, ?_, ?_⟩
      · unfold SeqAt.dataPlace
        rw [List.map_cons, List.findIdx?_cons, eqv_row hz hx, decide_eq_true e]
        rfl
      · rw [List.map_cons, e, List.erase_cons_head]
        rfl
    · have h2 : rowN x ∈ M.map rowN := by
        rw [List.map_cons] at h
        rcases List.mem_cons.mp h with q | q
        · exact absurd q.symm e
        · exact q
      obtain ⟨j, h3, h4⟩ := place_erase hx (fun r hr => hM r (List.mem_cons_of_mem _ hr)) h2
      refine ⟨j + 1, ?_, ?_⟩
      · unfold SeqAt.dataPlace at h3 ⊢
        rw [List.map_cons, List.findIdx?_cons, eqv_row hz hx, decide_eq_false e, h3]
        rfl
      · rw [List.map_cons, List.erase_cons_tail (by simpa using e), ← h4]
        rfl
theorem any_row {x : List V} (hx : OkAll x) {M : List (List V)} (hM : ∀ r ∈ M, OkAll r) : ((M.map rowD).any fun z => PyData.eqv z (rowD x)) = decide (rowN x ∈ M.map rowN) := by
  rw [Bool.eq_iff_iff, List.any_eq_true, decide_eq_true_eq, List.mem_map]
  constructor
  · rintro ⟨d, hd, he⟩
    obtain ⟨z, hz, rfl⟩ := List.mem_map.mp hd
    rw [eqv_row (hM z hz) hx, decide_eq_true_eq] at he
    exact ⟨z, hz, he⟩
  · rintro ⟨z, hz, he⟩
    exact ⟨rowD z, List.mem_map.mpr ⟨z, hz, rfl⟩, by rw [eqv_row (hM z hz) hx, decide_eq_true he]⟩
theorem Al2.erase {α : Type} {R : Hp → Addr → α → Prop} {H : Hp} {qs : List Addr} {L : List α} (h : Al2 R H qs L) (j : Nat) : Al2 R H (qs.eraseIdx j) (L.eraseIdx j) := by
  refine ⟨by rw [List.length_eraseIdx, List.length_eraseIdx, h.1], fun i q l a b => ?_⟩
  rw [List.getElem?_eraseIdx] at a b
  split at a
  · rename_i hi
    rw [if_pos hi] at b
    exact h.2 i q l a b
  · rename_i hi
    rw [if_neg hi] at b
    exact h.2 _ q l a b
theorem map_eraseR : ∀ (qs : List Addr) (j : Nat), (qs.map V.ref).eraseIdx j = (qs.eraseIdx j).map V.ref
  | [], j => by simp
  | a :: r, 0 => by simp
  | a :: r, j + 1 => by
    have ih := map_eraseR r j
    simp [ih]
def sp__law_bag (K : PySem.W.Frag) : Sp := fun vs H Q _ => ∃ (a : Addr) (L : List (List V)), vs = [.ref a] ∧ Lst2 RowAt H a L ∧ OkRows L ∧ ∀ p H' zs, H p = none → Ex H H' → H' p = some (.lst zs) → DpAll K H' zs ((sortT tkL false L).map rowD) → Q (.ref p) H'
def sp__law_same_bag (K : PySem.W.Frag) : Sp := fun vs H Q _ => ∃ (p q : Addr) (L M : List (List V)), vs = [.ref p, .ref q] ∧ Lst2 RowAt H p L ∧ Lst2 RowAt H q M ∧ OkRows L ∧ OkRows M ∧ (L.map rowN).Perm (M.map rowN) ∧ ∀ H', Ex H H' → Q (.bl true) H'
def sp__law_without (K : PySem.W.Frag) : Sp := fun vs H Q _ => ∃ (p q : Addr) (L M : List (List V)) (ps : List Addr), vs = [.ref p, .ref q] ∧ H p = some (.lst (ps.map V.ref)) ∧ Al2 RowAt H ps L ∧ Lst2 RowAt H q M ∧ OkRows L ∧ OkRows M ∧ RowsR Q H (K76.wf rowN L (cR M))
def sp__law_more (K : PySem.W.Frag) : Sp := fun vs H Q _ => ∃ (p q : Addr) (L M : List (List V)), vs = [.ref p, .ref q] ∧ Lst2 RowAt H p L ∧ Lst2 RowAt H q M ∧ OkRows L ∧ OkRows M ∧ RowsR Q H (K76.wl rowN L fun k => min (cR L k) (cR M k))
theorem OkRows.all {L : List (List V)} (h : OkRows L) : ∀ r ∈ L, OkAll r := fun r hr => (h.2 r hr).1
section
variable {K : PySem.W.Frag} {σ : L2.St} {H : Hp} {ta tb te tl : TE} {E : XK} {D : Ends} {tz : TS}
/-- [_law_ranks(row) for row in rows] -/
theorem ro_ranks {a : Addr} {L : List (List V)} {j : Nat} {vs : List Nat} (h : Ev tl σ H (.ref a)) (hx : Lst2 RowAt H a L) (hL : OkRows L) (hw : ∀ x, wipe ((wipe σ vs).set j (some x)) vs = wipe σ vs) (hj : ∀ x, ((wipe σ vs).set j (some x))[j]? = some (some x)) :
    EvRo (fun H p => Lst3 (RkAt K) H p L) (tLc (iList K tl) (gName j) tYes (tCall (sp__law_ranks K) [] E (tCons (tVar j) tNil)) vs) σ H := by
  obtain ⟨qs, h1, h2⟩ := hx
  have hl : (qs.map V.ref).length = L.length := by rw [List.length_map, h2.1]
  have hz := hL.1
  intro H1 e1 Q q
  refine er_lcD (RkAt.mn K) (fun i => L.getD i []) h (sq_of h1) (by omega) hw (fun i x H2 D e2 hD hD1 hi Q2 k => ?_) H1 e1 Q fun p H2 hp e2 hR => q p H2 hp e2 ?_
  · obtain ⟨b, xs, rfl, hb, hxs, _⟩ := al_get h2 hi
    have ok := hL.2 xs (List.mem_of_getElem? hxs)
    rw [List.getD_eq_getElem?_getD, hxs] at k
    obtain ⟨ys, hys⟩ := hD1
    refine ld_ranks (ev_var (hj _)) (sq_of (e2 _ _ hb)) ok H2 (Ex.refl H2) Q2 fun p H3 zs hp e3 h3 hd => k p H3 hp e3 ⟨zs, ?_, ?_⟩
    · rw [wo_ne fun z => ?_]
      · exact h3
      · rw [z, hys] at hp; cases hp
    · exact dps_wo (e3 _ _ hys) (nols_rk ok.1) hd
  · have := map_getD (fun r => r) L
    rw [List.map_id'] at this
    rw [hl, this] at hR
    exact hR
theorem s_retCB {R : Hp → Addr → Prop} {r : List V → Hp → VK → Prop} (h : EvRo R te σ H) (k : ∀ p H1, H p = none → Ex H H1 → R H1 p → r [.ref p] H1 D.rt) : tRet (tCB r (tCons te tNil)) D σ H := h H (Ex.refl H) _ k
theorem eb_bag {a : Addr} {L : List (List V)} (ha : Ev ta σ H (.ref a)) (hx : Lst2 RowAt H a L) (hL : OkRows L) : EvLD K (tCall (sp__law_bag K) [] E (tCons ta tNil)) σ H ((sortT tkL false L).map rowD) := fun H1 e Q q =>
  ha H1 e _ fun H2 e2 => ⟨a, L, rfl, Lst2.mn RowAt.mn _ _ _ _ (e.trans e2) hx, hL, fun p H3 ys hp e3 h3 hd => q p H3 ys (fresh_back e2 hp) (e2.trans e3) h3 hd⟩
end
section
variable {P : Program} {w : World} {K : PySem.W.Frag} {mg : Str → Option Value} {base : Heap}
theorem ok__law_bag (D : Dn K mg "_law_bag" s__law_bag ["rows"]) (c__law_ranks : C8.Cal P w K mg base 2 "_law_ranks" (sp__law_ranks K) []) (z_sorted : mg "sorted" = none) :
    C8.Cal P w K mg base 3 "_law_bag" (sp__law_bag K) [] := by
  refine cal_of D sc__law_bag (fun vs H Q E h => ?_) (fun f cdv A outer s H vs Q E hr h => ?_)
  · obtain ⟨_, _, rfl, _⟩ := h
    rfl
  refine ⟨_, (pss_one (ps_ret (pe_callB (call_sortedL (hu64 hr)) (by rfl) z_sorted (by decide +kernel) (pa_cons (pe_lc (own := [("row", 1)]) (g := gName 1) (tt := tYes) rfl sc__law_bag.nd (pi_list (pv 0)) (blkOk_by (N := n__law_bag) (sc := C8.fnScope s__law_bag) (by decide +kernel)) (fun _ _ _ _ _ => pg_name (i := 1) sc__law_bag.nd rfl (Or.inl rfl)) (fun _ _ _ _ _ => pts_nil) (fun _ _ _ _ _ => (C8.pe_c c__law_ranks hr (by decide) (by rfl) (pa_cons (pv 1) pa_nil)))) pa_nil)))), ?_⟩
  obtain ⟨a, L, rfl, hx, hL, q⟩ := h
  refine s_retCB (ro_ranks (K := K) (ev_var rfl) hx hL (fun _ => rfl) (fun _ => rfl)) fun p H1 hp e1 hR => ?_
  obtain ⟨qs, h1, h2⟩ := hR
  have h3 := al_dps (h2.mono (S := RkAt K) (H' := H1) fun q l _ => RkAt.mn K _ _ _ _ (wo_le _ _))
  exact ⟨p, L, _, rfl, sq_of h1, h3, hL.all, fun r H2 zs hr e2 h2 hd => q r H2 zs (fresh_back e1 hr) (e1.trans e2) h2 hd⟩
theorem ok__law_same_bag (D : Dn K mg "_law_same_bag" s__law_same_bag ["told", "due"]) (c__law_bag : C8.Cal P w K mg base 3 "_law_bag" (sp__law_bag K) []) (z_isinstance : mg "isinstance" = none) (z_len : mg "len" = none) (z_list : mg "list" = none) :
    C8.Cal P w K mg base 4 "_law_same_bag" (sp__law_same_bag K) [] := by
  refine cal_of D sc__law_same_bag (fun vs H Q E h => ?_) (fun f cdv A outer s H vs Q E hr h => ?_)
  · obtain ⟨_, _, _, _, rfl, _⟩ := h
    rfl
  refine ⟨_, (pss_cons (ps_if (PW.pt (pw_or (pt_not (pt_val (pe_callB call_isi (by rfl) z_isinstance (by decide +kernel) (pa_cons (pv 0) (pa_cons (pe_bltn (v := .ty "list") (u := .type "list") rfl z_list (by decide +kernel) rfl) pa_nil))))) (pw_or1 (pt_cmpR op_ne (pe_callB call_len_seq (by rfl) z_len PySem.boot_len (pa_cons (pv 0) pa_nil)) (pe_callB call_len_seq (by rfl) z_len PySem.boot_len (pa_cons (pv 1) pa_nil)) (nomark _)))))
      (pss_one (ps_ret pe_bl))
      pss_nil)
    (pss_cons (ps_for PassesOwn.never rfl (pi_list (pv 0)) (pg_name (i := 2) sc__law_same_bag.nd rfl (.inl rfl))
      (pss_one (ps_if (pt_not (pt_val (pe_callB call_isi (by rfl) z_isinstance (by decide +kernel) (pa_cons (pv 2) (pa_cons (pe_bltn (v := .ty "list") (u := .type "list") rfl z_list (by decide +kernel) rfl) pa_nil)))))
      (pss_one (ps_ret pe_bl))
      pss_nil)))
    (pss_one (ps_ret (pe_cmpR (op_eqD (hu64 hr)) (C8.pe_c c__law_bag hr (by decide) (by rfl) (pa_cons (pv 0) pa_nil)) (C8.pe_c c__law_bag hr (by decide) (by rfl) (pa_cons (pv 1) pa_nil)) (nomark _)))))), ?_⟩
  obtain ⟨p, q', L, M, rfl, ⟨ps, hp, hA⟩, ⟨qs, hq, hB⟩, hL, hM, hPm, q⟩ := h
  have hz := hL.1
  have lenE : (ps.map V.ref).length = L.length := by rw [List.length_map, hA.1]
  have lenM : (qs.map V.ref).length = L.length := by
    have := hPm.length_eq
    rw [List.length_map, List.length_map] at this
    rw [List.length_map, hB.1, this]
  refine q_when (b := !true || !decide (V.int ((L.length : Nat) : Int) = V.int ((L.length : Nat) : Int))) (et_or (et_not (et_B (ev_isi' (T := "list") (ev_var rfl) (tx_lst hp) (by decide +kernel)))) fun _ => et_test (ev_op (ev_is (ev_len (ev_var rfl) (sq_of hp)) (by rw [lenE])) (ev_is (ev_len (ev_var rfl) (sq_of hq)) (by rw [lenM])) (rv_ne rfl))) (fun hb => by simp at hb) fun _ H1 e1 => ?_
  refine q_forLn (xs := ps.map V.ref) (ev_var rfl) (sq_of (e1 _ _ hp)) (fun i σ' H' => ∃ kv, σ' = [some (.ref p), some (.ref q'), kv] ∧ Ex H H') (fun H2 e2 => ⟨none, rfl, e1.trans e2⟩) (fun i σ' H' _ pv => ?_) (fun i x σ' H' hi pv => ?_) fun σ' H' pv => ?_
  · obtain ⟨kv, rfl, e⟩ := pv
    exact sq_of (e _ _ hp)
  · obtain ⟨kv, rfl, e⟩ := pv
    obtain ⟨b, xs, rfl, hb, hxs, _⟩ := al_get hA hi
    exact s_when (b := !true) (et_not (et_B (ev_isi' (T := "list") (ev_var rfl) (tx_lst (e _ _ hb)) (by decide +kernel)))) (fun hb => by simp at hb) fun _ H2 e2 => ⟨_, rfl, e.trans e2⟩
  · obtain ⟨kv, rfl, e⟩ := pv
    have sh : SeqAt.shaped (.list ((sortT tkL false L).map rowD)) = true := sh_rows fun r hr => hL.all r ((sortT_perm _ _ _).mem_iff.mp hr)
    have e9 : (sortT tkL false M).map rowD = (sortT tkL false L).map rowD := (sort_one hL.all hM.all hPm).symm
    have eb2 := eb_bag (K := K) (E := C8.E0) (ta := tVar 1) (σ := [some (.ref p), some (.ref q'), kv]) (ev_var rfl) (Lst2.mn RowAt.mn _ _ _ _ e ⟨qs, hq, hB⟩) hM
    rw [e9] at eb2
    exact s_ret (ev_is (ev_eqD (ed_lst (eb_bag (ev_var rfl) (Lst2.mn RowAt.mn _ _ _ _ e ⟨ps, hp, hA⟩) hL)) (ed_lst eb2) sh sh) (by rw [PySem.SeqAt.eqv_refl _ (SeqAt.canLay_of_shaped sh)])) fun H5 e5 => q H5 (e.trans e5)
end

--@SPLIT
/-! ### the law's rows: without others, more than others -/
theorem op_eqDK {X : L2.Cx} {K : PySem.W.Frag} (h : X.K = K) (hu : X.A.units + 64 < cLine) : OpR X (compareOp .Eq) (rEqD K) := h ▸ op_eqD hu
section
variable {K : PySem.W.Frag} {σ : L2.St} {H : Hp} {ta tb te tl : TE} {E : XK} {D : Ends} {tz : TS}
theorem ev_inRk {d : PyData} {ds : List PyData} (ha : EvD K ta σ H d) (hb : EvD K tb σ H (.list ds)) (s1 : SeqAt.shaped d = true) (s2 : SeqAt.shaped (.list ds) = true) : Ev (tOp (rInD K) ta tb) σ H (.bl (ds.any fun z => PyData.eqv z d)) := fun H1 ex Q q =>
  ha H1 ex _ fun x H2 e2 h2 => hb H2 (ex.trans e2) _ fun y H3 e3 h3 => ⟨d, ds, ex_dp e3 h2, h3, s1, s2, q H3 (e2.trans e3)⟩
theorem s_remD {l : Addr} {ys : List V} {ds : List PyData} {d : PyData} {j : Nat} (hl : H l = some (.lst ys)) (hds : DpAll K H ys ds) (ha : Ev ta σ H (.ref l)) (h : EvD K te σ H d) (s1 : SeqAt.shaped (.list ds) = true) (s2 : SeqAt.shaped d = true) (hp : SeqAt.dataPlace ds d = some j)
    (k : ∀ H1, Ex H H1 → D.nx σ (upd H1 l (.lst (ys.eraseIdx j)))) : tDrop (tBM K "list" (rRemD K) ta (tCons te tNil)) D σ H := ha H (Ex.refl H) _ fun H1 e1 =>
  ⟨Or.inl ⟨rfl, ys, sq_of (e1 l _ hl)⟩, h H1 e1 _ fun v H2 e2 hd => ⟨l, ys, v, ds, d, j, rfl, rfl, e2 _ _ (e1 _ _ hl), ex_dps (e1.trans e2) hds, hd, s1, s2, hp, k H2 (e1.trans e2)⟩⟩
theorem q_asgRk {i : Nat} {x : List V} (h : EvLD K te σ H (x.map rkD)) (k : ∀ p H1, H p = none → Ex H H1 → RkAt K H1 p x → tz D (σ.set i (some (.ref p))) H1) : tSeq (tAsg te (gName i)) tz D σ H := h H (Ex.refl H) _ fun p H1 ys hp e h1 hd => k p H1 hp e ⟨ys, h1, hd⟩
theorem given_len {n : Nat} {f : Nat → Bool} {v : Nat → V} : (given n f v).length = (List.range n).countP f := by
  unfold given
  rw [List.length_map, List.countP_eq_length_filter]
theorem count_range (k : NK) : ∀ L : List (List V), (List.range L.length).countP (fun i => decide (rowN (L.getD i []) = k)) = cR L k := fun L => by
  have e : (List.range L.length).map (fun i => L.getD i []) = L := by
    have := map_getD (fun r => r) L
    rwa [List.map_id'] at this
  unfold cR K76.cnt
  conv => rhs; rw [← e]
  rw [List.countP_map]
  rfl
/-- how many of the rows have such ranks -/
theorem ev_cnt {a rk : Addr} {L : List (List V)} {x : List V} {j i : Nat} {vs : List Nat} (h : Ev tl σ H (.ref a)) (hx : Lst2 RowAt H a L) (hL : OkRows L) (hr : RkAt K H rk x) (hxo : OkAll x) (hw : ∀ x, wipe ((wipe σ vs).set j (some x)) vs = wipe σ vs) (hj : ∀ x, ((wipe σ vs).set j (some x))[j]? = some (some x))
    (hi : ∀ y, ((wipe σ vs).set j (some y))[i]? = some (some (.ref rk))) :
    Ev (tCB (rLenS K) (tCons (tLc (iList K tl) (gName j) (tTest (tOp (rEqD K) (tCall (sp__law_ranks K) [] E (tCons (tVar j) tNil)) (tVar i))) (tVar j) vs) tNil)) σ H (.int ((cR L (rowN x) : Nat) : Int)) := by
  obtain ⟨qs, h1, h2⟩ := hx
  have hl : (qs.map V.ref).length = L.length := by rw [List.length_map, h2.1]
  have hz := hL.1
  refine ev_is (ev_lenN (el_lcL (K := K) (fun i => decide (rowN (L.getD i []) = rowN x)) (fun i => (qs.map V.ref).getD i .non) h (sq_of h1) (by omega) hw (fun i y H1 e1 hi2 => ?_) fun i y H1 e1 hi2 _ => ?_)) ?_
  · obtain ⟨b, xs, rfl, hb, hxs, _⟩ := al_get h2 hi2
    have ok := hL.2 xs (List.mem_of_getElem? hxs)
    rw [List.getD_eq_getElem?_getD, hxs]
    show EvT _ _ _ (decide (rowN xs = rowN x))
    rw [← eqv_row ok.1 hxo]
    exact et_test (ev_eqD (ed_lst (ld_ranks (ev_var (hj _)) (sq_of (e1 _ _ hb)) ok)) (ed_val (ev_var (hi _)) (RkAt.mn K _ _ _ _ e1 hr).dp) (sh_row ok.1) (sh_row hxo))
  · rw [List.getD_eq_getElem?_getD, hi2]
    exact ev_var (hj _)
  · rw [given_len, hl, count_range]
end
section
variable {P : Program} {w : World} {K : PySem.W.Frag} {mg : Str → Option Value} {base : Heap}
theorem ok__law_without (D : Dn K mg "_law_without" s__law_without ["rows", "others"]) (c__law_ranks : C8.Cal P w K mg base 2 "_law_ranks" (sp__law_ranks K) []) :
    C8.Cal P w K mg base 3 "_law_without" (sp__law_without K) [] := by
  refine cal_of D sc__law_without (fun vs H Q E h => ?_) (fun f cdv A outer s H vs Q E hr h => ?_)
  · obtain ⟨_, _, _, _, _, rfl, _⟩ := h
    rfl
  refine ⟨_, (pss_cons (ps_setLc (i := 2) (own := [("row", 4)]) (g := gName 4) (tt := tYes) rfl sc__law_without.nd rfl rfl (sw_true rfl rfl rfl (by decide +kernel)) (pi_list (pv 1)) (blkOk_by (N := n__law_without) (sc := C8.fnScope s__law_without) (by decide +kernel)) (fun _ _ _ _ _ => pg_name (i := 4) sc__law_without.nd rfl (Or.inl rfl)) (fun _ _ _ _ _ => pts_nil) (fun _ _ _ _ _ => (C8.pe_c c__law_ranks hr (by decide) (by rfl) (pa_cons (pv 4) pa_nil))))
    (pss_cons (ps_set (i := 3) sc__law_without.nd rfl (.inl rfl) (pe_lst pa_nil))
    (pss_cons (ps_for PassesOwn.never rfl (pi_list (pv 0)) (pg_name (i := 4) sc__law_without.nd rfl (.inl rfl))
      (pss_one (ps_if (pt_cmpR (op_inD (hu65 hr)) (C8.pe_c c__law_ranks hr (by decide) (by rfl) (pa_cons (pv 4) pa_nil)) (pv 2) (by with_unfolding_all rfl))
      (pss_one (ps_expr (pe_bm PySem.F.plainAttrs_list PySem.F.slot_list_remove PySem.F.type_list_remove (mt_removeD (hu65 hr)) (pv 2) (pa_cons (C8.pe_c c__law_ranks hr (by decide) (by rfl) (pa_cons (pv 4) pa_nil)) pa_nil))))
      (pss_one (ps_expr (pe_bm PySem.F.plainAttrs_list PySem.F.slot_list_append PySem.F.type_list_append mt_append (pv 3) (pa_cons (pv 4) pa_nil)))))))
    (pss_one (ps_ret (pv 3)))))), ?_⟩
  obtain ⟨p, q', L, M, ps, rfl, hp, hA, hM, oL, oM, q⟩ := h
  have lenP : (ps.map V.ref).length = L.length := by rw [List.length_map, hA.1]
  have hz := oL.1
  refine q_asgO (R := fun H p => Lst3 (RkAt K) H p M) (ro_ranks (ev_var rfl) hM oM (fun _ => rfl) (fun _ => rfl)) fun l H1 hl e1 ⟨qs0, h1, hB0⟩ => ?_
  refine q_asgL (el_lst ea_nil (by decide)) fun f H2 hf e2 h2 => ?_
  have hlf : f ≠ l := fun z => by rw [z, h1] at hf; cases hf
  have hfH : H f = none := fresh_back e1 hf
  refine q_forLn (xs := ps.map V.ref) (ev_var rfl) (sq_of ((e1.trans e2) _ _ hp)) (fun i σ' H' => ∃ v4 qs Mi rs acc, σ' = [some (.ref p), some (.ref q'), some (.ref l), some (.ref f), v4] ∧ Ex (wo l H1) H' ∧ H' l = some (.lst (qs.map V.ref)) ∧ Al2 (RkAt K) (wo l H1) qs Mi ∧ (∀ r ∈ Mi, OkAll r) ∧
      H' f = some (.lst (rs.map V.ref)) ∧ Al2 RowAt H rs acc ∧ acc.length ≤ i ∧ acc ++ K76.lw rowN (L.drop i) (Mi.map rowN) = K76.lw rowN L (M.map rowN))
    (fun H3 e3 => ⟨none, qs0, M, [], [], rfl, wx_of (e2.trans e3), (e2.trans e3) _ _ h1, hB0, oM.all, e3 _ _ h2, Al2.nil, Nat.le_refl _, rfl⟩) (fun i σ' H' _ pv => ?_) (fun i x σ' H' hi pv => ?_) fun σ' H' pv => ?_
  · obtain ⟨v4, qs, Mi, rs, acc, rfl, e, _⟩ := pv
    exact sq_of (wx_back hl e1 e _ _ hp)
  · obtain ⟨v4, qs, Mi, rs, acc, rfl, e, hl', hB, oMi, hf', hC, hn, hw⟩ := pv
    have eH : Ex H H' := wx_back hl e1 e
    obtain ⟨b, xs, rfl, hb, hxs, _⟩ := al_get hA hi
    have ok := oL.2 xs (List.mem_of_getElem? hxs)
    have hi2 := (List.getElem?_eq_some_iff.mp hxs).1
    have hrl : (rs.map V.ref).length = acc.length := by rw [List.length_map, hC.1]
    have hwd : K76.lw rowN (L.drop i) (Mi.map rowN) = if rowN xs ∈ Mi.map rowN then K76.lw rowN (L.drop (i + 1)) ((Mi.map rowN).erase (rowN xs)) else xs :: K76.lw rowN (L.drop (i + 1)) (Mi.map rowN) := by
      rw [drop_is hxs]
      rfl
    have dps : DpAll K H' (qs.map V.ref) (Mi.map rowD) := al_dps (hB.mono fun q l _ => RkAt.mn K _ _ _ _ e)
    refine s_if (b := decide (rowN xs ∈ Mi.map rowN)) (et_test (ev_is (ev_inRk (ed_lst (ld_ranks (ev_var rfl) (sq_of (eH _ _ hb)) ok)) (ed_val (ev_var rfl) (.lst (sq_of hl') dps)) (sh_row ok.1) (sh_rows oMi)) (congrArg V.bl (any_row ok.1 oMi)))) (fun ht H4 e4 => ?_) fun ht H4 e4 => ?_
    · have ht' := of_decide_eq_true ht
      obtain ⟨j, hj1, hj2⟩ := place_erase ok.1 oMi ht'
      refine s_remD (K := K) (e4 _ _ hl') (ex_dps e4 dps) (ev_var rfl) (ed_lst (ld_ranks (ev_var rfl) (sq_of ((eH.trans e4) _ _ hb)) ok)) (sh_rows oMi) (sh_row ok.1) hj1 fun H5 e5 => ?_
      refine ⟨_, qs.eraseIdx j, Mi.eraseIdx j, rs, acc, rfl, Ex.mut (e.trans (e4.trans e5)) (wo_self l H1), by rw [upd_same, map_eraseR], hB.erase j, fun r hr => oMi r (List.mem_of_mem_eraseIdx hr), ?_, hC, by omega, ?_⟩
      · rw [upd_ne hlf]
        exact e5 _ _ (e4 _ _ hf')
      · rw [← hw, hwd, if_pos ht', hj2]
    · have ht' := of_decide_eq_false ht
      refine s_app (v := .ref b) (e4 _ _ hf') (ev_var rfl) (ev_var rfl) (by omega) fun H5 e5 => ⟨_, qs, Mi, rs ++ [b], acc ++ [xs], rfl, Ex.mut (e.trans (e4.trans e5)) ?_, ?_, hB, oMi, ?_, hC.snoc hb, ?_, ?_⟩
      · rw [wo_ne hlf]; exact hf
      · rw [upd_ne (Ne.symm hlf)]
        exact e5 _ _ (e4 _ _ hl')
      · rw [upd_same, List.map_append]; rfl
      · rw [List.length_append]; exact Nat.succ_le_succ hn
      · rw [List.append_assoc, ← hw, hwd, if_neg ht']; rfl
  · obtain ⟨v4, qs, Mi, rs, acc, rfl, e, hl', hB, oMi, hf', hC, hn, hw⟩ := pv
    have eH : Ex H H' := wx_back hl e1 e
    rw [lenP, List.drop_length] at hw
    have hw' : acc = K76.wf rowN L (cR M) := by
      have h9 : acc = K76.lw rowN L (M.map rowN) := by rw [← hw]; exact (List.append_nil _).symm
      rw [h9, K76.lw_wf]
      exact K76.wf_congr rowN L fun k => K76.cnt_map rowN k M
    exact s_ret (ev_var rfl) fun H3 e3 => q f H3 hfH (eH.trans e3) ⟨rs, e3 _ _ hf', by rw [← hw']; exact hC.mono fun q l _ hr => (eH.trans e3) _ _ hr⟩
theorem ok__law_more (D : Dn K mg "_law_more" s__law_more ["rows", "others"]) (c__law_ranks : C8.Cal P w K mg base 2 "_law_ranks" (sp__law_ranks K) []) (z_len : mg "len" = none) :
    C8.Cal P w K mg base 3 "_law_more" (sp__law_more K) [] := by
  refine cal_of D sc__law_more (fun vs H Q E h => ?_) (fun f cdv A outer s H vs Q E hr h => ?_)
  · obtain ⟨_, _, _, _, rfl, _⟩ := h
    rfl
  refine ⟨_, (pss_cons (ps_set (i := 2) sc__law_more.nd rfl (.inl rfl) (pe_lst pa_nil))
    (pss_cons (ps_for PassesOwn.never rfl (pi_list (pv 0)) (pg_name (i := 3) sc__law_more.nd rfl (.inl rfl))
      (pss_cons (ps_set (i := 4) sc__law_more.nd rfl (.inr rfl) (C8.pe_c c__law_ranks hr (by decide) (by rfl) (pa_cons (pv 3) pa_nil)))
    (pss_cons (ps_set (i := 5) sc__law_more.nd rfl (.inl rfl) (pe_op op_sub (pe_callB call_len_seq (by rfl) z_len PySem.boot_len (pa_cons (pe_lc (own := [("r", 6)]) (g := gName 6) rfl sc__law_more.nd (pi_list (pv 0)) (blkOk_by (N := n__law_more) (sc := C8.fnScope s__law_more) (by decide +kernel)) (fun _ _ _ _ _ => pg_name (i := 6) sc__law_more.nd rfl (Or.inl rfl)) (fun _ _ _ _ _ => (pts_one (pt_cmpR (op_eqDK (K := K) rfl (hu64 hr)) (C8.pe_c c__law_ranks hr (by decide) (by rfl) (pa_cons (pv 6) pa_nil)) (pv 4) (nomark _)))) (fun _ _ _ _ _ => (pv 6))) pa_nil)) (pe_callB call_len_seq (by rfl) z_len PySem.boot_len (pa_cons (pe_lc (own := [("r", 6)]) (g := gName 6) rfl sc__law_more.nd (pi_list (pv 1)) (blkOk_by (N := n__law_more) (sc := C8.fnScope s__law_more) (by decide +kernel)) (fun _ _ _ _ _ => pg_name (i := 6) sc__law_more.nd rfl (Or.inl rfl)) (fun _ _ _ _ _ => (pts_one (pt_cmpR (op_eqDK (K := K) rfl (hu64 hr)) (C8.pe_c c__law_ranks hr (by decide) (by rfl) (pa_cons (pv 6) pa_nil)) (pv 4) (nomark _)))) (fun _ _ _ _ _ => (pv 6))) pa_nil))))
    (pss_one (ps_if (pt_cmpR op_lt (pe_callB call_len_seq (by rfl) z_len PySem.boot_len (pa_cons (pe_lc (own := [("r", 6)]) (g := gName 6) rfl sc__law_more.nd (pi_list (pv 2)) (blkOk_by (N := n__law_more) (sc := C8.fnScope s__law_more) (by decide +kernel)) (fun _ _ _ _ _ => pg_name (i := 6) sc__law_more.nd rfl (Or.inl rfl)) (fun _ _ _ _ _ => (pts_one (pt_cmpR (op_eqDK (K := K) rfl (hu64 hr)) (C8.pe_c c__law_ranks hr (by decide) (by rfl) (pa_cons (pv 6) pa_nil)) (pv 4) (nomark _)))) (fun _ _ _ _ _ => (pv 6))) pa_nil)) (pv 5) (nomark _))
      (pss_one (ps_expr (pe_bm PySem.F.plainAttrs_list PySem.F.slot_list_append PySem.F.type_list_append mt_append (pv 2) (pa_cons (pv 3) pa_nil))))
      pss_nil)))))
    (pss_one (ps_ret (pv 2))))), ?_⟩
  obtain ⟨p, q', L, M, rfl, ⟨ps, hp, hA⟩, hM, oL, oM, q⟩ := h
  have lenP : (ps.map V.ref).length = L.length := by rw [List.length_map, hA.1]
  have hz := oL.1
  refine q_asgL (el_lst ea_nil (by decide)) fun f H1 hf e1 h1 => ?_
  refine q_forLn (xs := ps.map V.ref) (ev_var rfl) (sq_of (e1 _ _ hp)) (fun i σ' H' => ∃ v3 v4 v5 rs acc, σ' = [some (.ref p), some (.ref q'), some (.ref f), v3, v4, v5, none] ∧ Ex H H' ∧ H' f = some (.lst (rs.map V.ref)) ∧ Al2 RowAt H rs acc ∧ acc.length ≤ i ∧ (∀ r ∈ acc, OkRow r) ∧
      K76.lm rowN (fun k => cR L k - cR M k) (L.drop i) acc = K76.lm rowN (fun k => cR L k - cR M k) L [])
    (fun H3 e3 => ⟨none, none, none, [], [], rfl, e1.trans e3, e3 _ _ h1, Al2.nil, Nat.le_refl _, (fun r h => nomatch h), rfl⟩) (fun i σ' H' _ pv => ?_) (fun i x σ' H' hi pv => ?_) fun σ' H' pv => ?_
  · obtain ⟨v3, v4, v5, rs, acc, rfl, e, _⟩ := pv
    exact sq_of (e _ _ hp)
  · obtain ⟨v3, v4, v5, rs, acc, rfl, e, hf', hC, hn, oA, hw⟩ := pv
    obtain ⟨b, xs, rfl, hb, hxs, _⟩ := al_get hA hi
    have ok := oL.2 xs (List.mem_of_getElem? hxs)
    have hi2 := (List.getElem?_eq_some_iff.mp hxs).1
    have hrl : (rs.map V.ref).length = acc.length := by rw [List.length_map, hC.1]
    have hwd : K76.lm rowN (fun k => cR L k - cR M k) (L.drop i) acc = if cR acc (rowN xs) < cR L (rowN xs) - cR M (rowN xs) then K76.lm rowN (fun k => cR L k - cR M k) (L.drop (i + 1)) (acc ++ [xs]) else K76.lm rowN (fun k => cR L k - cR M k) (L.drop (i + 1)) acc := by
      rw [drop_is hxs]
      rfl
    refine q_asgRk (ld_ranks (ev_var rfl) (sq_of (e _ _ hb)) ok) fun rk H2 hrk e2 h2 => ?_
    have x2 := e.trans e2
    refine q_asg (v := .int (((cR L (rowN xs) : Nat) : Int) - ((cR M (rowN xs) : Nat) : Int))) (ev_op (ev_cnt (ev_var rfl) (Lst2.mn RowAt.mn _ _ _ _ x2 ⟨ps, hp, hA⟩) oL h2 ok.1 (fun _ => rfl) (fun _ => rfl) (fun _ => rfl)) (ev_cnt (ev_var rfl) (Lst2.mn RowAt.mn _ _ _ _ x2 hM) oM h2 ok.1 (fun _ => rfl) (fun _ => rfl) (fun _ => rfl)) rv_I0) fun H3 e3 => ?_
    have x3 := x2.trans e3
    refine s_when (b := decide (((cR acc (rowN xs) : Nat) : Int) < ((cR L (rowN xs) : Nat) : Int) - ((cR M (rowN xs) : Nat) : Int))) (et_test (ev_op (ev_cnt (ev_var rfl) ⟨rs, (e2.trans e3) _ _ hf', hC.mono fun q l _ hr => x3 _ _ hr⟩ ⟨by omega, oA⟩ (RkAt.mn K _ _ _ _ e3 h2) ok.1 (fun _ => rfl) (fun _ => rfl) (fun _ => rfl)) (ev_var rfl) rv_I0)) (fun ht H4 e4 => ?_) fun ht H4 e4 => ?_
    · have ht' := of_decide_eq_true ht
      refine s_app (v := .ref b) (e4 _ _ ((e2.trans e3) _ _ hf')) (ev_var rfl) (ev_var rfl) (by omega) fun H5 e5 => ⟨_, _, _, rs ++ [b], acc ++ [xs], rfl, Ex.mut ((x3.trans e4).trans e5) hf, ?_, hC.snoc hb, ?_, fun r hr => ?_, ?_⟩
      · rw [upd_same, List.map_append]; rfl
      · rw [List.length_append]; exact Nat.succ_le_succ hn
      · rcases List.mem_append.mp hr with h | h
        · exact oA r h
        · rw [List.mem_singleton.mp h]; exact ok
      · rw [← hw, hwd, if_pos (by omega)]
    · have ht' := of_decide_eq_false ht
      refine ⟨_, _, _, rs, acc, rfl, x3.trans e4, e4 _ _ ((e2.trans e3) _ _ hf'), hC, by omega, oA, ?_⟩
      rw [← hw, hwd, if_neg (by omega)]
  · obtain ⟨v3, v4, v5, rs, acc, rfl, e, hf', hC, hn, oA, hw⟩ := pv
    rw [lenP, List.drop_length] at hw
    have hw' : acc = K76.wl rowN L fun k => min (cR L k) (cR M k) := by
      have h9 : acc = K76.lm rowN (fun k => cR L k - cR M k) L [] := hw
      rw [h9]
      exact K76.lm_all rowN L M
    exact s_ret (ev_var rfl) fun H3 e3 => q f H3 hf (e.trans e3) ⟨rs, e3 _ _ hf', by rw [← hw']; exact hC.mono fun q l _ hr => (e.trans e3) _ _ hr⟩
end

--@SPLIT
/-! ### rows that are drawn -/
theorem nu_wx {H0 H H' : Hp} {p : Addr} {o : HO} (hp : H0 p = some o) (e : Ex (wo p H) H') : Ex (nu H0 H) (nu H0 H') := fun a u h => by
  unfold nu at h ⊢
  cases z : H0 a with
  | some v => rw [z] at h; cases h
  | none =>
    rw [z] at h
    exact e a u (by rw [wo_ne fun y => by rw [y, hp] at z; cases z]; exact h)
theorem Dr.at {p : Addr} {H : Hp} (d : Dr p H) : ∃ s, H p = some (.lst [.int s]) := by
  obtain ⟨s, _, h⟩ := d
  exact ⟨s, h⟩
def OkR2 (r : List V) : Prop := r.length ≤ 2 ∧ ∀ x ∈ r, Ok x
theorem OkR2.row {r : List V} (h : OkR2 r) : OkRow r := ⟨h.2, Nat.le_trans h.1 (by decide)⟩
def sp__law_some_rows (K : PySem.W.Frag) : Sp := fun vs H Q _ => ∃ (p : Addr) (m : Nat), vs = [.ref p, .int (m : Int)] ∧ Dr p H ∧ m ≤ 1000 ∧ ∀ l H' L, H l = none → Ex (wo p H) H' → Dr p H' → Lst2 RowAt (nu H H') l L → L.length = m → (∀ r ∈ L, OkR2 r) → Q (.ref l) H'
section
variable {K : PySem.W.Frag} {σ : L2.St} {H : Hp} {p : Addr} {ta tb te tl tn : TE} {R S : V → Prop} {P : List V → Prop} {D : Ends} {tz : TS} {E : XK}
/-- [a drawn, b drawn] -/
theorem e1_two (ha : EvD1 ta σ p H R) (hb : EvD1 tb σ p H S) : EvLD1 (tLst (tCons ta (tCons tb tNil))) σ p H (fun xs => ∃ x y, xs = [x, y] ∧ R x ∧ S y) := fun H1 e d Q q =>
  ha H1 e d _ fun x H2 hx e2 d2 => hb H2 (wx_trans e e2) d2 _ fun y H3 hy e3 d3 => ⟨sz_of (by show 2 ≤ 100000; decide), fun l hl => by
    have hne : p ≠ l := dr_ne d3 hl
    refine q l _ [x, y] ⟨x, y, rfl, hx, hy⟩ ?_ (Ex.mut (wx_trans e2 e3) ?_) (d3.upd hne) upd_same
    · cases z : H1 l with
      | none => rfl
      | some o =>
        have := e3 l o (by rw [wo_ne (Ne.symm hne)]; exact e2 l o (by rw [wo_ne (Ne.symm hne)]; exact z))
        rw [hl] at this; cases this
    · rw [wo_ne (Ne.symm hne)]
      cases z : H1 l with
      | none => rfl
      | some o =>
        have := e3 l o (by rw [wo_ne (Ne.symm hne)]; exact e2 l o (by rw [wo_ne (Ne.symm hne)]; exact z))
        rw [hl] at this; cases this⟩
/-- (a written tuple)[a drawn place] -/
theorem e1_pickT {tt : TE} {xs : List V} {m : Int} (h : ∀ H1, EvU tt σ H1 xs) (hl : (xs.length : Int) = m) (hb : EvD1 tb σ p H (ZP fun d => 0 ≤ d ∧ d < m)) (hR : ∀ x ∈ xs, R x) : EvD1 (tOp (rIxT K) tt tb) σ p H R := fun H1 e d Q q =>
  h H1 H1 (Ex.refl H1) _ fun t H2 ht e2 h2 => hb H2 (e.trans e2) (d.ex e2) _ fun v H3 ⟨i, ev, i0, i1⟩ e3 d3 => by
    subst ev
    obtain ⟨k, rfl⟩ := Int.eq_ofNat_of_zero_le i0
    have hk : k < xs.length := by omega
    have hpt : t ≠ p := fun z => by
      obtain ⟨s, hs⟩ := d.at
      rw [← z, ht] at hs; cases hs
    exact rv_ixT (st_of (e3 t _ (by rw [wo_ne hpt]; exact h2))) (atI_nat (List.getElem?_eq_getElem hk)) H3 (Ex.refl H3) Q fun H4 e4 => q _ H4 (hR _ (List.getElem_mem hk)) ((wx_trans (wx_of e2) e3).trans e4) (d3.ex e4)
/-- [a new list that is drawn for k in range(n)] -/
theorem e1_lcR {j : Nat} {vs : List Nat} {n : Nat} (hn : Ev tn σ (wo p H) (.int (n : Int))) (hm : n ≤ 10000) (hw : ∀ x, wipe ((wipe σ vs).set j (some x)) vs = wipe σ vs)
    (he : ∀ i : Nat, EvLD1 te ((wipe σ vs).set j (some (.int (i : Int)))) p H P) : ∀ H0, Ex (wo p H) H0 → Dr p H0 → ∀ Q : VK, (∀ l H2 L, H0 l = none → Ex (wo p H0) H2 → Dr p H2 → Lst2 RowAt (nu H0 H2) l L → L.length = n → (∀ r ∈ L, P r) → Q (.ref l) H2) →
      tLc (iRng1 (tCons tn tNil)) (gName j) tYes te vs σ H0 Q := fun H0 e d Q q =>
  hn H0 e _ fun H1 e1 => by
    have d1 := d.ex e1
    obtain ⟨s0, hs0⟩ := d.at
    refine ⟨(n : Int), rfl, by omega, by omega, fun Dl hD => ?_⟩
    have hpd : p ≠ Dl := dr_ne d1 hD
    have hD0 : H0 Dl = none := fresh_back e1 hD
    refine lc_range (lo := 0) (n := ((n : Int)).toNat) (fun i H' => Ex (wo p H0) H' ∧ Dr p H' ∧ ∃ (qs : List Addr) (L : List (List V)), H' Dl = some (.lst (qs.map V.ref)) ∧ L.length = i ∧ Al2 RowAt (wo Dl (nu H0 H')) qs L ∧ ∀ r ∈ L, P r) ⟨Ex.mut (wx_of e1) (by rw [wo_ne (Ne.symm hpd)]; exact hD0), d1.upd hpd, [], [], upd_same, rfl, Al2.nil, fun x hx => by cases hx⟩ (fun i H' hi pv => ?_) (fun H' pv => ?_)
    · obtain ⟨p1, p2, qs, L, p3, p4, p5, p6⟩ := pv
      have e0 : (0 : Int) + (i : Int) = (i : Int) := Int.zero_add _
      show wipe ((wipe σ vs).set j (some (.int ((0 : Int) + (i : Int))))) vs = wipe σ vs ∧ te ((wipe σ vs).set j (some (.int ((0 : Int) + (i : Int))))) H' fun y H4 => ∃ acc, H4 Dl = some (.lst acc) ∧ acc.length < sizeLine ∧ _
      rw [e0]
      refine ⟨hw _, he i H' (wx_trans e p1) p2 _ fun b H4 ys hy hb e4 d4 h4 => ?_⟩
      have hbD : b ≠ Dl := fun z => by rw [z, p3] at hb; cases hb
      have hbp : b ≠ p := fun z => by
        obtain ⟨s, hs⟩ := p2.at
        rw [← z, hb] at hs; cases hs
      have hb0 : H0 b = none := by
        cases z : H0 b with
        | none => rfl
        | some o => rw [p1 b o (by rw [wo_ne hbp]; exact z)] at hb; cases hb
      have hl9 : qs.length = i := by rw [p5.1, p4]
      refine ⟨qs.map V.ref, e4 Dl _ (by rw [wo_ne (Ne.symm hpd)]; exact p3), sz_lt (by rw [List.length_map]; omega), Ex.mut (wx_trans p1 e4) (by rw [wo_ne (Ne.symm hpd)]; exact hD0), d4.upd hpd, qs ++ [b], L ++ [ys], by rw [upd_same, List.map_append]; rfl, by rw [List.length_append, p4]; rfl, ?_, fun x hx => ?_⟩
      · rw [wo_nu_upd]
        refine (p5.mono fun q l _ => RowAt.mn _ _ _ _ (wo_mono (nu_wx hs0 e4))).snoc ?_
        show wo Dl (nu H0 H4) b = _
        rw [wo_ne hbD]
        exact nu_at hb0 h4
      · rcases List.mem_append.mp hx with h | h
        · exact p6 x h
        · rw [List.mem_singleton.mp h]
          exact hy
    · obtain ⟨p1, p2, qs, L, p3, p4, p5, p6⟩ := pv
      exact q Dl H' L hD0 p1 p2 ⟨qs, nu_at hD0 p3, p5.mono fun q l _ => RowAt.mn _ _ _ _ (wo_le _ _)⟩ (by rw [p4]; exact Int.toNat_natCast n) p6
end
section
variable {P : Program} {w : World} {K : PySem.W.Frag} {mg : Str → Option Value} {base : Heap}
theorem ok__law_some_rows (D : Dn K mg "_law_some_rows" s__law_some_rows ["state", "many"]) (c__law_digit : C8.Cal P w K mg base 1 "_law_digit" (sp__law_digit K) []) (z_range : mg "range" = none) :
    C8.Cal P w K mg base 2 "_law_some_rows" (sp__law_some_rows K) [] := by
  refine cal_of D sc__law_some_rows (fun vs H Q E h => ?_) (fun f cdv A outer s H vs Q E hr h => ?_)
  · obtain ⟨_, _, rfl, _⟩ := h
    rfl
  refine ⟨_, (pss_one (ps_ret (pe_lc (own := [("k", 2)]) (g := gName 2) (tt := tYes) rfl sc__law_some_rows.nd (pi_range1 rfl z_range (pa_cons (pv 1) pa_nil)) (blkOk_by (N := n__law_some_rows) (sc := C8.fnScope s__law_some_rows) (by decide +kernel)) (fun _ _ _ _ _ => pg_name (i := 2) sc__law_some_rows.nd rfl (Or.inl rfl)) (fun _ _ _ _ _ => pts_nil) (fun _ _ _ _ _ => (pe_lst (pa_cons (C8.pe_c c__law_digit hr (by decide) (by rfl) (pa_cons (pv 0) (pa_cons pe_int pa_nil))) (pa_cons (pe_ix (ix_tupK (K := K) rfl) (pe_tup (pa_cons pe_non (pa_cons pe_bl (pa_cons pe_int (pa_cons pe_str pa_nil))))) (C8.pe_c c__law_digit hr (by decide) (by rfl) (pa_cons (pv 0) (pa_cons pe_int pa_nil))) (fun _ _ => rfl)) pa_nil))))))), ?_⟩
  obtain ⟨p, m, rfl, d, hm, q⟩ := h
  have hv : ∀ x ∈ [V.non, .bl true, .int 1, .str (PySem.Str.ofString "a")], Ok x := fun x hx => by
    rcases List.mem_cons.mp hx with z | hx
    · rw [z]; exact .non
    rcases List.mem_cons.mp hx with z | hx
    · rw [z]; exact .bl true
    rcases List.mem_cons.mp hx with z | hx
    · rw [z]; exact .int 1
    rcases List.mem_cons.mp hx with z | hx
    · rw [z]; exact .str _ (by decide +kernel)
    · cases hx
  refine e1_lcR (P := fun xs => ∃ x y, xs = [x, y] ∧ (ZP fun i => 0 ≤ i ∧ i < 3) x ∧ Ok y) (ev_var rfl) (by omega) (fun _ => rfl) (fun i => e1_two (ez_digit (ev_var rfl) ev_c (by decide) (by decide)) (e1_pickT (xs := [V.non, .bl true, .int 1, .str (PySem.Str.ofString "a")]) (fun H1 => eu_tup (ea_cons ev_c (ea_cons ev_c (ea_cons ev_c (ea_cons ev_c ea_nil)))) (by show 4 ≤ 100000; decide)) rfl (ez_digit (m := 4) (ev_var rfl) ev_c (by decide) (by decide)) hv)) H (wo_le p H) d _ fun l H2 L hl e2 d2 hL hn hP => q l H2 L hl e2 d2 hL hn fun r hr => ?_
  obtain ⟨x, y, rfl, ⟨i, rfl, _⟩, hy⟩ := hP r hr
  refine ⟨Nat.le_refl _, fun z hz => ?_⟩
  rcases List.mem_cons.mp hz with e | hz
  · rw [e]; exact .int i
  rcases List.mem_cons.mp hz with e | hz
  · rw [e]; exact hy
  · cases hz
end

--@SPLIT
/-! ### the law of changes -/
def sp_law (K : PySem.W.Frag) : Sp := fun vs H Q _ => ∃ (a : Addr) (ns : List Int), vs = [.ref a] ∧ SqL K H a (ns.map V.int) ∧ ns.length ≤ 63 ∧ ∀ H', Q (.bl true) H'
theorem sp_law_of {K : PySem.W.Frag} {H : Hp} {a : Addr} {ns : List Int} (hl : ns.length ≤ 63) (hS : SqL K H a (ns.map V.int)) : sp_law K [.ref a] H (fun v _ => v = .bl true) fun _ _ _ => False :=
  ⟨a, ns, rfl, hS, hl, fun _ => rfl⟩
theorem al_take {R : Hp → Addr → List V → Prop} {H : Hp} {qs : List Addr} {L : List (List V)} (h : Al2 R H qs L) (n : Nat) : Al2 R H (qs.take n) (L.take n) := by
  refine ⟨by rw [List.length_take, List.length_take, h.1], fun i q l a b => ?_⟩
  rw [List.getElem?_take] at a b
  split at a
  · rename_i hi
    rw [if_pos hi] at b
    exact h.2 i q l a b
  · cases a
theorem al_app {R : Hp → Addr → List V → Prop} {H : Hp} {qs ps : List Addr} {L M : List (List V)} (hA : Al2 R H qs L) (hB : Al2 R H ps M) : Al2 R H (qs ++ ps) (L ++ M) := by
  refine ⟨by rw [List.length_append, List.length_append, hA.1, hB.1], fun i q' l' a b => ?_⟩
  by_cases hi : i < qs.length
  · rw [List.getElem?_append_left hi] at a
    rw [List.getElem?_append_left (by rw [← hA.1]; exact hi)] at b
    exact hA.2 i q' l' a b
  · rw [List.getElem?_append_right (by omega)] at a
    rw [List.getElem?_append_right (by rw [← hA.1]; omega), ← hA.1] at b
    exact hB.2 _ q' l' a b
theorem sub_snoc {G L : List (List V)} {i : Nat} {xs : List V} (h : G.Sublist (L.take i)) (hx : L[i]? = some xs) : (G ++ [xs]).Sublist (L.take (i + 1)) := by
  rw [List.take_add_one, hx]
  exact h.append (List.Sublist.refl _)
theorem sub_up {G L : List (List V)} {i : Nat} (h : G.Sublist (L.take i)) : G.Sublist (L.take (i + 1)) := by
  rw [List.take_add_one]
  exact h.trans (List.sublist_append_left _ _)
section
variable {K : PySem.W.Frag} {σ : L2.St} {H : Hp} {p : Addr} {ta tb te tl tn : TE} {t : TT} {tu tz : TS} {D : Ends} {E : XK}
/-- [row for row in rows if what is drawn] -/
theorem e1_lcF {a : Addr} {qs : List Addr} {L : List (List V)} {G : Hp} {j : Nat} {vs : List Nat} (hl : ∀ H1, Ex (wo p H) H1 → Ev tl σ H1 (.ref a)) (ha : ∀ H1, Ex (wo p H) H1 → H1 a = some (.lst (qs.map V.ref))) (hA : Al2 RowAt G qs L) (hz : L.length ≤ 1000)
    (hw : ∀ x, wipe ((wipe σ vs).set j (some x)) vs = wipe σ vs) (hj : ∀ x, ((wipe σ vs).set j (some x))[j]? = some (some x)) (ht : ∀ x, EvDT t ((wipe σ vs).set j (some x)) p H (fun _ => True)) :
    ∀ H0, Ex (wo p H) H0 → Dr p H0 → ∀ Q : VK, (∀ l H2 cs C, H0 l = none → Ex (wo p H0) H2 → Dr p H2 → H2 l = some (.lst (cs.map V.ref)) → Al2 RowAt G cs C → C.Sublist L → Q (.ref l) H2) → tLc (iList K tl) (gName j) t (tVar j) vs σ H0 Q := fun H0 e d Q q =>
  (hl H0 e) H0 (Ex.refl H0) _ fun H1 e1 => by
    have d1 := d.ex e1
    have x1 := wx_trans e (wx_of e1)
    refine ⟨a, rfl, ⟨qs.map V.ref, sq_of (ha H1 x1)⟩, fun Dl hD => ?_⟩
    have hpd : p ≠ Dl := dr_ne d1 hD
    have hD0 : H0 Dl = none := fresh_back e1 hD
    have hln : qs.length = L.length := hA.1
    refine lc_list (xs := qs.map V.ref) (fun i H' => Ex (wo p H0) H' ∧ Dr p H' ∧ ∃ (cs : List Addr) (C : List (List V)), H' Dl = some (.lst (cs.map V.ref)) ∧ Al2 RowAt G cs C ∧ C.Sublist (L.take i)) ⟨Ex.mut (wx_of e1) (by rw [wo_ne (Ne.symm hpd)]; exact hD0), d1.upd hpd, [], [], upd_same, Al2.nil, List.nil_sublist _⟩ (fun i H' _ pv => sq_of (ha H' (wx_trans e pv.1))) (fun i x H' hi pv => ?_) (fun H' pv => ?_)
    · obtain ⟨p1, p2, cs, C, p3, p4, p5⟩ := pv
      obtain ⟨b, xs, rfl, hb, hxs, _⟩ := al_get hA hi
      refine ⟨hw _, ?_⟩
      refine ht (.ref b) H' (wx_trans e p1) p2 _ fun bb H3 _ e3 d3 => ?_
      have h3 : H3 Dl = some (.lst (cs.map V.ref)) := e3 Dl _ (by rw [wo_ne (Ne.symm hpd)]; exact p3)
      have x3 := wx_trans p1 e3
      cases bb with
      | false => exact ⟨x3, d3, cs, C, h3, p4, sub_up p5⟩
      | true =>
        have hcl := p5.length_le
        rw [List.length_take] at hcl
        rw [if_pos rfl]
        exact ⟨.ref b, hj _, cs.map V.ref, h3, sz_lt (by rw [List.length_map, p4.1]; omega), Ex.mut x3 (by rw [wo_ne (Ne.symm hpd)]; exact hD0), d3.upd hpd, cs ++ [b], C ++ [xs], by rw [upd_same, List.map_append]; rfl, p4.snoc hb, sub_snoc p5 hxs⟩
    · obtain ⟨p1, p2, cs, C, p3, p4, p5⟩ := pv
      exact q Dl H' cs C hD0 p1 p2 p3 p4 (p5.trans (List.take_sublist _ _))
theorem eb_srowsW {L : List (List V)} (ha : EvW (fun H p => Lst2 RowAt H p L) ta σ H) (hb : EvW (fun H p => Lst2 RowAt H p L) tb σ H) (hL : OkRows L) : Ev (tCall (sp__law_same_rows K) [] E (tCons ta (tCons tb tNil))) σ H (.bl true) := fun H1 e Q q =>
  ha H1 e _ fun p H2 e2 h2 => hb H2 (e.trans e2) _ fun r H3 e3 h3 => ⟨p, r, L, rfl, Lst2.mn RowAt.mn _ _ _ _ e3 h2, h3, hL, fun H4 e4 => q H4 ((e2.trans e3).trans e4)⟩
theorem eb_sbagW {L M : List (List V)} (ha : EvW (fun H p => Lst2 RowAt H p L) ta σ H) (hb : ∀ H1, Ex H H1 → EvW (fun H p => Lst2 RowAt H p M) tb σ H1) (hL : OkRows L) (hM : OkRows M) (hP : (L.map rowN).Perm (M.map rowN)) : Ev (tCall (sp__law_same_bag K) [] E (tCons ta (tCons tb tNil))) σ H (.bl true) := fun H1 e Q q =>
  ha H1 e _ fun p H2 e2 h2 => hb H2 (e.trans e2) H2 (Ex.refl H2) _ fun r H3 e3 h3 => ⟨p, r, L, M, rfl, Lst2.mn RowAt.mn _ _ _ _ e3 h2, h3, hL, hM, hP, fun H4 e4 => q H4 ((e2.trans e3).trans e4)⟩
theorem ro_more {p q : Addr} {L M : List (List V)} (ha : Ev ta σ H (.ref p)) (hb : Ev tb σ H (.ref q)) (hL : Lst2 RowAt H p L) (hM : Lst2 RowAt H q M) (oL : OkRows L) (oM : OkRows M) : EvRo (fun H r => Lst2 RowAt H r (K76.wl rowN L fun k => min (cR L k) (cR M k))) (tCall (sp__law_more K) [] E (tCons ta (tCons tb tNil))) σ H := fun H1 e1 Q k =>
  ha H1 e1 _ fun H2 e2 => hb H2 (e1.trans e2) _ fun H3 e3 => ⟨p, q, L, M, rfl, Lst2.mn RowAt.mn _ _ _ _ ((e1.trans e2).trans e3) hL, Lst2.mn RowAt.mn _ _ _ _ ((e1.trans e2).trans e3) hM, oL, oM, fun r H4 hr e4 hR => k r H4 (fresh_back (e2.trans e3) hr) ((e2.trans e3).trans e4) hR⟩
theorem ro_changed {r p : Addr} {L : List (List V)} {x : List (List V) × List (List V)} (ha : Ev ta σ H (.ref r)) (hb : Ev tb σ H (.ref p)) (hL : Lst2 RowAt H r L) (hx : ChAt K H p x) (oL : OkBag L) (o1 : OkBag x.1) (z2 : x.2.length ≤ 1000) : EvRo (fun H q => Lst2 RowAt H q (K76.wf rowN L (cR x.1) ++ x.2)) (tCall (sp_changed_rows K) [] E (tCons ta (tCons tb tNil))) σ H := fun H1 e1 Q k =>
  ha H1 e1 _ fun H2 e2 => hb H2 (e1.trans e2) _ fun H3 e3 => ⟨r, p, L, x, rfl, Lst2.mn RowAt.mn _ _ _ _ ((e1.trans e2).trans e3) hL, ChAt.mn K _ _ _ _ ((e1.trans e2).trans e3) hx, oL, o1, z2, fun q H4 hr e4 hR => k q H4 (fresh_back (e2.trans e3) hr) ((e2.trans e3).trans e4) (Lst2.mn RowAt.mn _ _ _ _ nu_le hR)⟩
theorem ev_nothing {p : Addr} {x : List (List V) × List (List V)} (ha : Ev ta σ H (.ref p)) (hx : ChAt K H p x) : Ev (tProp (clsAt K "Change") (sp_Change__nothing K) [] E ta) σ H (.bl (x.1.isEmpty && x.2.isEmpty)) := fun H1 e Q q =>
  ha H1 e _ fun H2 e2 => by
    obtain ⟨dx, g, c, h1, h2, h3⟩ := ChAt.mn K _ _ _ _ (e.trans e2) hx
    exact ⟨p, dx, _, rfl, h1, p, x, rfl, ⟨dx, g, c, h1, h2, h3⟩, fun H3 e3 => q H3 (e2.trans e3)⟩
theorem ev_nothingW {x : List (List V) × List (List V)} (ha : EvW (fun H p => ChAt K H p x) ta σ H) : Ev (tProp (clsAt K "Change") (sp_Change__nothing K) [] E ta) σ H (.bl (x.1.isEmpty && x.2.isEmpty)) := fun H1 e Q q =>
  ha H1 e _ fun p H2 e2 hx => by
    obtain ⟨dx, g, c, h1, h2, h3⟩ := hx
    exact ⟨p, dx, _, rfl, h1, p, x, rfl, ⟨dx, g, c, h1, h2, h3⟩, fun H3 e3 => q H3 (e2.trans e3)⟩
theorem ew_nil : EvW (fun H p => Lst2 RowAt H p []) (tLst tNil) σ H := fun H1 e Q q => el_lst ea_nil (by decide) H1 e _ fun p H2 hp e2 h2 => q p H2 e2 ⟨[], h2, Al2.nil⟩
theorem ro_small {p : Addr} {x : List (List V) × List (List V)} (ha : Ev ta σ H (.ref p)) (hx : ChAt K H p x) (o1 : OkBag x.1) (o2 : OkBag x.2) : EvRo (fun H q => ChAt K H q (smallOf x)) (tMeth (clsAt K "Change") "small" (sp_Change__small K) [] E ta tNil) σ H := fun H1 e Q q =>
  ha H1 e _ fun H2 e2 => by
    obtain ⟨dx, g, c, h1, h2, h3⟩ := ChAt.mn K _ _ _ _ (e.trans e2) hx
    refine ⟨p, dx, _, rfl, h1, ?_, p, x, rfl, ⟨dx, g, c, h1, h2, h3⟩, o1, o2, fun r H3 hr e3 hR => q r H3 (fresh_back e2 hr) (e2.trans e3) hR⟩
    unfold chF
    rw [lookup_putF, if_neg (by decide +kernel), lookup_putF, if_neg (by decide +kernel)]
    rfl
end
section
variable {K : PySem.W.Frag} {σ : L2.St} {H : Hp} {ta tb te tl : TE} {D : Ends} {tz : TS} {E : XK} {mg : Str → Option Value}
theorem q_pairRn {i : Nat} {R S : Hp → Addr → Prop} (hR : ∀ H H' q, Ex H H' → R H q → R H' q) (hS : ∀ H H' q, Ex H H' → S H q → S H' q) (ha : EvRn R ta σ H) (hb : ∀ H1, Ex H H1 → EvRn S tb σ H1)
    (k : ∀ g c t H', H g = none → H c = none → Ex H H' → R (nu H H') g → S (nu H H') c → H' t = some (.tup [.ref g, .ref c]) → tz D (σ.set i (some (.ref t))) H') : tSeq (tAsg (tTup (tCons ta (tCons tb tNil))) (gName i)) tz D σ H :=
  ha H (Ex.refl H) _ fun g H1 hg e1 h1 => hb H1 e1 H1 (Ex.refl H1) _ fun c H2 hc e2 h2 => ⟨sz_of (by show 2 ≤ 100000; decide), fun t ht =>
    k g c t _ hg (fresh_back e1 hc) ((e1.trans e2).trans (Ex.new ht)) (hR _ _ _ (nu_mono (e2.trans (Ex.new ht))) h1) (hS _ _ _ ((nu_back e1).trans (nu_mono (Ex.new ht))) h2) upd_same⟩
theorem q_appL {l : Addr} {xs ys : List V} (hl : H l = some (.lst xs)) (ha : Ev ta σ H (.ref l)) (h : EvL te σ H ys) (hz : xs.length < 100000) (k : ∀ p H1, H p = none → Ex H H1 → H1 p = some (.lst ys) → tz D σ (upd H1 l (.lst (xs ++ [.ref p])))) :
    tSeq (tDrop (tBM K "list" rAppend ta (tCons te tNil))) tz D σ H := s_appL (D := { D with nx := tz D }) hl ha h hz k
theorem ew_gone {p : Addr} {x : List (List V) × List (List V)} (C_Change : ClsD K mg "Change" ["gone", "come"]) (ha : Ev ta σ H (.ref p)) (hx : ChAt K H p x) : EvW (fun H p => Lst2 RowAt H p x.1) (tFld K ta "gone") σ H := by
  obtain ⟨dx, g, c, h1, h2, h3⟩ := hx
  exact ew_ev (Lst2.mn RowAt.mn) (ev_fld ha h1 C_Change.cl C_Change.na.1 chF_g) h2
theorem ew_come {p : Addr} {x : List (List V) × List (List V)} (C_Change : ClsD K mg "Change" ["gone", "come"]) (ha : Ev ta σ H (.ref p)) (hx : ChAt K H p x) : EvW (fun H p => Lst2 RowAt H p x.2) (tFld K ta "come") σ H := by
  obtain ⟨dx, g, c, h1, h2, h3⟩ := hx
  exact ew_ev (Lst2.mn RowAt.mn) (ev_fld ha h1 C_Change.cl C_Change.na.2.1 chF_c) h3
theorem ro_without {p q : Addr} {L M : List (List V)} (ha : Ev ta σ H (.ref p)) (hb : Ev tb σ H (.ref q)) (hL : Lst2 RowAt H p L) (hM : Lst2 RowAt H q M) (oL : OkRows L) (oM : OkRows M) : EvRo (fun H r => Lst2 RowAt H r (K76.wf rowN L (cR M))) (tCall (sp__law_without K) [] E (tCons ta (tCons tb tNil))) σ H := fun H1 e1 Q k =>
  ha H1 e1 _ fun H2 e2 => hb H2 (e1.trans e2) _ fun H3 e3 => by
    obtain ⟨ps, h1, h2⟩ := Lst2.mn RowAt.mn _ _ _ _ ((e1.trans e2).trans e3) hL
    exact ⟨p, q, L, M, ps, rfl, h1, h2, Lst2.mn RowAt.mn _ _ _ _ ((e1.trans e2).trans e3) hM, oL, oM, fun r H4 hr e4 hR => k r H4 (fresh_back (e2.trans e3) hr) ((e2.trans e3).trans e4) hR⟩
/-- rows that are new + rows -/
theorem q_catRo {i : Nat} {A C : List (List V)} {c : Addr} (h : EvRo (fun H r => Lst2 RowAt H r A) ta σ H) (hb : ∀ H1, Ex H H1 → Ev tb σ H1 (.ref c)) (hc : Lst2 RowAt H c C) (hz : A.length + C.length ≤ 100000)
    (k : ∀ p H', H p = none → Ex H H' → Lst2 RowAt H' p (A ++ C) → tz D (σ.set i (some (.ref p))) H') : tSeq (tAsg (tOp rCat ta tb) (gName i)) tz D σ H :=
  h H (Ex.refl H) _ fun r H1 hr e1 ⟨qs, h1, h2⟩ => hb H1 e1 H1 (Ex.refl H1) _ fun H2 e2 => by
    obtain ⟨ps, g1, g2⟩ := Lst2.mn RowAt.mn _ _ _ _ (e1.trans e2) hc
    refine ⟨r, c, _, _, rfl, rfl, e2 _ _ h1, g1, sz_of (by rw [List.length_map, List.length_map, h2.1, g2.1]; exact hz), fun p hp => k p _ (fresh_back (e1.trans e2) hp) ((e1.trans e2).trans (Ex.new hp)) ⟨qs ++ ps, by rw [upd_same, List.map_append], ?_⟩⟩
    exact al_app (h2.mono fun q l _ => RowAt.mn _ _ _ _ (e2.trans (Ex.new hp))) (g2.mono fun q l _ => RowAt.mn _ _ _ _ (Ex.new hp))
theorem cut_takeA {xs : List V} {m : Nat} : cutV xs none (some (m : Int)) = xs.take m := by
  unfold cutV
  rw [HT.sIx_none, HT.sIx_nat, List.drop_zero, Nat.sub_zero]
  by_cases h : m ≤ xs.length
  · rw [Nat.min_eq_left h]
  · rw [Nat.min_eq_right (by omega), List.take_of_length_le (Nat.le_refl _), List.take_of_length_le (by omega)]
end
theorem OkRows.bag {L : List (List V)} (h : ∀ r ∈ L, OkR2 r) (hz : L.length ≤ 1000) : OkBag L := ⟨fun r hr => ⟨Nat.le_trans (h r hr).1 (by decide), (h r hr).2⟩, hz⟩
theorem OkRows.of2 {L : List (List V)} (h : ∀ r ∈ L, OkR2 r) (hz : L.length ≤ 1000) : OkRows L := ⟨by omega, fun r hr => (h r hr).row⟩
theorem wf_mem {α κ : Type} [DecidableEq κ] {f : α → κ} {xs : List α} {m : κ → Nat} {x : α} (h : x ∈ K76.wf f xs m) : x ∈ xs := (K76.wf_sub f xs m).subset h
theorem wl_mem {α κ : Type} [DecidableEq κ] {f : α → κ} {xs : List α} {m : κ → Nat} {x : α} (h : x ∈ K76.wl f xs m) : x ∈ xs := (K76.wl_sub f xs m).subset h
section
variable {P : Program} {w : World} {K : PySem.W.Frag} {mg : Str → Option Value} {base : Heap}
theorem ok_law {f : Addr} {fd : FuncData} (D : C8.Def K mg "law" s_law f fd) (C_Change : ClsD K mg "Change" ["gone", "come"]) (c_Change____init__ : C8.Mak P w K mg base 1 "Change" (clsAt K "Change") (sp_Change____init__ K) []) (c_Change__nothing : Prp P w K mg base 1 (clsAt K "Change") "nothing" (sp_Change__nothing K)) (c_Change__small : C8.Met P w K mg base 6 (clsAt K "Change") "small" (sp_Change__small K) []) (c__law_cell : C8.Cal P w K mg base 1 "_law_cell" (sp__law_cell K) []) (c__law_digit : C8.Cal P w K mg base 1 "_law_digit" (sp__law_digit K) []) (c__law_more : C8.Cal P w K mg base 3 "_law_more" (sp__law_more K) []) (c__law_same_bag : C8.Cal P w K mg base 4 "_law_same_bag" (sp__law_same_bag K) []) (c__law_same_rows : C8.Cal P w K mg base 3 "_law_same_rows" (sp__law_same_rows K) []) (c__law_some_rows : C8.Cal P w K mg base 2 "_law_some_rows" (sp__law_some_rows K) []) (c__law_state : C8.Cal P w K mg base 1 "_law_state" (sp__law_state K) []) (c__law_without : C8.Cal P w K mg base 3 "_law_without" (sp__law_without K) []) (c_changed_rows : C8.Cal P w K mg base 5 "changed_rows" (sp_changed_rows K) []) (z_len : mg "len" = none) (z_list : mg "list" = none) (z_max : mg "max" = none) (z_min : mg "min" = none) (z_range : mg "range" = none) :
    FnOk P w K mg base C8.CX0 7 f fd ["script"] (sp_law K) := by
  refine C8.fn0 D.fn sc_law (fun vs H Q E h => ?_) (fun cdv A outer s H vs Q E hr h => ?_)
  · obtain ⟨_, _, rfl, _⟩ := h
    rfl
  refine ⟨_, (pss_cons (ps_set (i := 1) sc_law.nd rfl (.inr rfl) (C8.pe_c c__law_state hr (by decide) (by rfl) (pa_cons (C8.pe_c c__law_cell hr (by decide) (by rfl) (pa_cons (pv 0) (pa_cons pe_int pa_nil))) (pa_cons pe_int pa_nil))))
    (pss_cons (ps_set (i := 2) sc_law.nd rfl (.inl rfl) (C8.pe_c c__law_some_rows hr (by decide) (by rfl) (pa_cons (pv 1) (pa_cons (C8.pe_c c__law_digit hr (by decide) (by rfl) (pa_cons (pv 1) (pa_cons pe_int pa_nil))) pa_nil))))
    (pss_cons (ps_for PassesOwn.never rfl (pi_range1 rfl z_range (pa_cons (pe_callB (call_min2 rfl) (by rfl) z_min (by decide +kernel) (pa_cons pe_int (pa_cons (pe_callB (call_max2 rfl) (by rfl) z_max (by decide +kernel) (pa_cons pe_int (pa_cons (pe_callB call_len_seq (by rfl) z_len PySem.boot_len (pa_cons (pv 0) pa_nil)) pa_nil))) pa_nil))) pa_nil)) (pg_name (i := 3) sc_law.nd rfl (.inl rfl))
      (pss_cons (ps_set (i := 1) sc_law.nd rfl (.inr rfl) (C8.pe_c c__law_state hr (by decide) (by rfl) (pa_cons (C8.pe_c c__law_cell hr (by decide) (by rfl) (pa_cons (pv 0) (pa_cons (pv 3) pa_nil))) (pa_cons (pe_op op_add pe_int (pv 3)) pa_nil))))
    (pss_cons (ps_set (i := 4) sc_law.nd rfl (.inl rfl) (pe_lst pa_nil))
    (pss_cons (ps_for PassesOwn.never rfl (pi_range1 rfl z_range (pa_cons (pe_callB call_len_seq (by rfl) z_len PySem.boot_len (pa_cons (pv 2) pa_nil)) pa_nil)) (pg_name (i := 5) sc_law.nd rfl (.inl rfl))
      (pss_one (ps_if (pt_cmpR op_eq (C8.pe_c c__law_digit hr (by decide) (by rfl) (pa_cons (pv 1) (pa_cons pe_int pa_nil))) pe_int (nomark _))
      (pss_one (ps_expr (pe_bm PySem.F.plainAttrs_list PySem.F.slot_list_append PySem.F.type_list_append mt_append (pv 4) (pa_cons (pe_ix ix_list (pv 2) (pv 5) (fun _ _ => rfl)) pa_nil))))
      pss_nil)))
    (pss_cons (ps_set (i := 6) sc_law.nd rfl (.inl rfl) (pe_op op_cat (C8.pe_c c__law_some_rows hr (by decide) (by rfl) (pa_cons (pv 1) (pa_cons (C8.pe_c c__law_digit hr (by decide) (by rfl) (pa_cons (pv 1) (pa_cons pe_int pa_nil))) pa_nil))) (pe_lc (own := [("row", 13)]) (g := gName 13) rfl sc_law.nd (pi_list (pv 4)) (blkOk_by (N := n_law) (sc := C8.fnScope s_law) (by decide +kernel)) (fun _ _ _ _ _ => pg_name (i := 13) sc_law.nd rfl (Or.inl rfl)) (fun _ _ _ _ _ => (pts_one (pt_cmpR op_eq (C8.pe_c c__law_digit hr (by decide) (by rfl) (pa_cons (pv 1) (pa_cons pe_int pa_nil))) pe_int (nomark _)))) (fun _ _ _ _ _ => (pv 13)))))
    (pss_cons (ps_set (i := 7) sc_law.nd rfl (.inl rfl) (pe_tup (pa_cons (pe_lc (own := [("row", 13)]) (g := gName 13) (tt := tYes) rfl sc_law.nd (pi_list (pv 4)) (blkOk_by (N := n_law) (sc := C8.fnScope s_law) (by decide +kernel)) (fun _ _ _ _ _ => pg_name (i := 13) sc_law.nd rfl (Or.inl rfl)) (fun _ _ _ _ _ => pts_nil) (fun _ _ _ _ _ => (pe_callTy (call_list_ofK (K := K) rfl) (by rfl) z_list (by decide +kernel) (pa_cons (pv 13) pa_nil)))) (pa_cons (pe_lc (own := [("row", 13)]) (g := gName 13) (tt := tYes) rfl sc_law.nd (pi_list (pv 6)) (blkOk_by (N := n_law) (sc := C8.fnScope s_law) (by decide +kernel)) (fun _ _ _ _ _ => pg_name (i := 13) sc_law.nd rfl (Or.inl rfl)) (fun _ _ _ _ _ => pts_nil) (fun _ _ _ _ _ => (pe_callTy (call_list_ofK (K := K) rfl) (by rfl) z_list (by decide +kernel) (pa_cons (pv 13) pa_nil)))) pa_nil))))
    (pss_cons (ps_set (i := 8) sc_law.nd rfl (.inl rfl) (C8.pe_mk c_Change____init__ hr (by decide) (by rfl) (pa_cons (pe_ix ix_tup (pv 7) pe_int (fun _ _ => rfl)) (pa_cons (pe_ix ix_tup (pv 7) pe_int (fun _ _ => rfl)) pa_nil))))
    (pss_cons (ps_expr (pe_bm PySem.F.plainAttrs_list PySem.F.slot_list_append PySem.F.type_list_append mt_append (pe_ix ix_tup (pv 7) pe_int (fun _ _ => rfl)) (pa_cons (pe_lst (pa_cons pe_int pa_nil)) pa_nil)))
    (pss_cons (ps_set (i := 9) sc_law.nd rfl (.inl rfl) (C8.pe_mt0 c_Change__small hr (by decide) (pv 8)))
    (pss_cons (ps_if (pt_not (pt_val (C8.pe_c c__law_same_rows hr (by decide) (by rfl) (pa_cons (pe_fld (pv 9) (by rfl)) (pa_cons (C8.pe_c c__law_more hr (by decide) (by rfl) (pa_cons (pv 4) (pa_cons (pv 6) pa_nil))) pa_nil)))))
      (pss_one (ps_ret pe_bl))
      pss_nil)
    (pss_cons (ps_if (pt_not (pt_val (C8.pe_c c__law_same_rows hr (by decide) (by rfl) (pa_cons (pe_fld (pv 9) (by rfl)) (pa_cons (C8.pe_c c__law_more hr (by decide) (by rfl) (pa_cons (pv 6) (pa_cons (pv 4) pa_nil))) pa_nil)))))
      (pss_one (ps_ret pe_bl))
      pss_nil)
    (pss_cons (ps_if (PW.pt (pw_or (pt_not (pt_val (C8.pe_c c__law_same_rows hr (by decide) (by rfl) (pa_cons (pe_fld (pv 8) (by rfl)) (pa_cons (pv 4) pa_nil))))) (pw_or1 (pt_not (pt_val (C8.pe_c c__law_same_rows hr (by decide) (by rfl) (pa_cons (pe_fld (pv 8) (by rfl)) (pa_cons (pv 6) pa_nil))))))))
      (pss_one (ps_ret pe_bl))
      pss_nil)
    (pss_cons (ps_if (PW.pt (pw_and (pt_cmpR op_notTF (pe_pr c_Change__nothing hr (by decide) (pv 8) (by rfl)) pe_bl (nomark _)) (pw_and1 (pt_cmpR op_notTF (pe_pr c_Change__nothing hr (by decide) (pv 8) (by rfl)) pe_bl (nomark _)))))
      (pss_one (ps_ret pe_bl))
      pss_nil)
    (pss_cons (ps_if (PW.pt (pw_or (pt_cmpR op_ne (pe_pr c_Change__nothing hr (by decide) (pv 8) (by rfl)) (pe_cmpR op_eq (pe_op op_add (pe_callB call_len_seq (by rfl) z_len PySem.boot_len (pa_cons (pv 4) pa_nil)) (pe_callB call_len_seq (by rfl) z_len PySem.boot_len (pa_cons (pv 6) pa_nil))) pe_int (nomark _)) (nomark _)) (pw_or1 (pt_cmpR op_notTF (pe_pr c_Change__nothing hr (by decide) (C8.pe_mk c_Change____init__ hr (by decide) (by rfl) (pa_cons (pe_lst pa_nil) (pa_cons (pe_lst pa_nil) pa_nil))) (by rfl)) pe_bl (nomark _)))))
      (pss_one (ps_ret pe_bl))
      pss_nil)
    (pss_cons (ps_setLc (i := 10) (own := [("row", 13)]) (g := gName 13) (tt := tYes) rfl sc_law.nd rfl rfl (sw_true rfl rfl rfl (by decide +kernel)) (pi_list (pv 2)) (blkOk_by (N := n_law) (sc := C8.fnScope s_law) (by decide +kernel)) (fun _ _ _ _ _ => pg_name (i := 13) sc_law.nd rfl (Or.inl rfl)) (fun _ _ _ _ _ => pts_nil) (fun _ _ _ _ _ => (pe_callTy (call_list_ofK (K := K) rfl) (by rfl) z_list (by decide +kernel) (pa_cons (pv 13) pa_nil))))
    (pss_cons (ps_set (i := 11) sc_law.nd rfl (.inl rfl) (C8.pe_c c_changed_rows hr (by decide) (by rfl) (pa_cons (pv 10) (pa_cons (pv 8) pa_nil))))
    (pss_cons (ps_set (i := 12) sc_law.nd rfl (.inl rfl) (pe_op op_cat (C8.pe_c c__law_without hr (by decide) (by rfl) (pa_cons (pv 2) (pa_cons (pv 4) pa_nil))) (pv 6)))
    (pss_cons (ps_if (PW.pt (pw_or (pt_not (pt_val (C8.pe_c c__law_same_rows hr (by decide) (by rfl) (pa_cons (pv 11) (pa_cons (pv 12) pa_nil))))) (pw_or1 (pt_not (pt_val (C8.pe_c c__law_same_rows hr (by decide) (by rfl) (pa_cons (pv 10) (pa_cons (pv 2) pa_nil))))))))
      (pss_one (ps_ret pe_bl))
      pss_nil)
    (pss_cons (ps_if (pt_not (pt_val (C8.pe_c c__law_same_bag hr (by decide) (by rfl) (pa_cons (C8.pe_c c_changed_rows hr (by decide) (by rfl) (pa_cons (pv 10) (pa_cons (pv 9) pa_nil))) (pa_cons (pv 12) pa_nil)))))
      (pss_one (ps_ret pe_bl))
      pss_nil)
    (pss_one (ps_set (i := 2) sc_law.nd rfl (.inl rfl) (pe_slice sl_list (pv 12) po_none (po_some pe_int)))))))))))))))))))))))
    (pss_one (ps_ret pe_bl))))), ?_⟩
  obtain ⟨a, ns, rfl, hS, h63, q⟩ := h
  have lenS : (ns.map V.int).length = ns.length := List.length_map ..
  refine q_asgC (ec_state (ec_cell (k := 0) (ev_var rfl) ev_c hS (by decide)) ev_c) fun p0 H1 hp0 e1 d1 => ?_
  -- rows
  refine ⟨.ref p0, rfl, ez_digit (m := 21) (ev_var rfl) ev_c (by decide) (by decide) H1 (wo_le _ _) d1 _ fun v H2 ⟨n0, ev0, hn0, hn1⟩ e2 d2 => ?_⟩
  subst ev0
  obtain ⟨n, rfl⟩ := Int.eq_ofNat_of_zero_le hn0
  refine ⟨p0, n, rfl, d2, by omega, fun pr H3 L0 hpr e3 d3 hL0 hl0 ok0 => ?_⟩
  have x3 : Ex H H3 := wx_back hp0 e1 (wx_trans e2 e3)
  refine q_forR1 (n := if (if ((ns.length : Nat) : Int) > 2 then ((ns.length : Nat) : Int) else 2) < 8 then (if ((ns.length : Nat) : Int) > 2 then ((ns.length : Nat) : Int) else 2) else 8) (ea_cons (ev_min2 ev_c (Evl.ev_max2 ev_c (ev_is (ev_len (ev_var rfl) (ex_l x3 hS)) (by rw [lenS])))) ea_nil) ⟨by split <;> split <;> omega, by split <;> split <;> omega⟩
    (fun i σ' H' => ∃ (sv rv kv v4 v5 v6 v7 v8 v9 va vb vc : Option V) (r : Addr) (L : List (List V)), σ' = [some (.ref a), sv, some (.ref r), kv, v4, v5, v6, v7, v8, v9, va, vb, vc, none] ∧ Ex H H' ∧ Lst2 RowAt H' r L ∧ L.length ≤ 20 ∧ ∀ r ∈ L, OkR2 r)
    (fun H4 e4 => ⟨_, none, _, _, _, _, _, _, _, _, _, _, pr, L0, rfl, x3.trans e4, Lst2.mn RowAt.mn _ _ _ _ (nu_le.trans e4) hL0, by omega, ok0⟩) (fun i σ' Ho hi pv => ?_) fun σ' H' pv => ?_
  · obtain ⟨sv, rv, kv, v4, v5, v6, v7, v8, v9, va, vb, vc, r, L, rfl, xo, hL, hl, ok⟩ := pv
    have hi12 : i < 64 := by
      split at hi <;> split at hi <;> omega
    refine q_asgC (ec_state (c := ns.getD ((i : Int)).toNat 0) (k := 3 + (i : Int)) (ec_cell (k := (i : Int)) (ev_var rfl) (ev_var rfl) (ex_l xo hS) (by omega)) (ev_op ev_c (ev_var rfl) rv_I0)) fun ps Ha hps ea da => ?_
    refine q_asgL (el_lst ea_nil (by decide)) fun pg Hb hpg eb hb => ?_
    have db := da.ex eb
    obtain ⟨qr, hr1, hA⟩ := hL
    have hlq : (qr.map V.ref).length = L.length := by rw [List.length_map, hA.1]
    have hpgs : pg ≠ ps := fun z => by
      obtain ⟨s, hs⟩ := da.at
      rw [← z, hpg] at hs; cases hs
    have xb : Ex Ho Hb := ea.trans eb
    have hpgo : Ho pg = none := fresh_back ea hpg
    refine q_forR1 (n := (L.length : Int)) (ea_cons (ev_is (ev_len (ev_var rfl) (sq_of (xb _ _ hr1))) (by rw [hlq])) ea_nil) ⟨by omega, by omega⟩ (fun j σ' H' => ∃ (jv : Option V) (gs : List Addr) (G : List (List V)), σ' = [some (.ref a), some (.ref ps), some (.ref r), some (.int (i : Int)), some (.ref pg), jv, v6, v7, v8, v9, va, vb, vc, none] ∧ Ex Ho H' ∧ Dr ps H' ∧ H' pg = some (.lst (gs.map V.ref)) ∧ Al2 RowAt Ho gs G ∧ G.Sublist (L.take j))
      (fun H4 e4 => ⟨_, [], [], rfl, xb.trans e4, db.ex e4, e4 _ _ hb, Al2.nil, List.nil_sublist _⟩) (fun j σ' Hc hj pw => ?_) fun σ' Hc pw => ?_
    · obtain ⟨jv, gs, G, rfl, xc, dc, hg, hG, hsub⟩ := pw
      have hj2 : j < L.length := by omega
      obtain ⟨b, hqb, hbr⟩ := hA.get hj2
      have hgl := hsub.length_le
      rw [List.length_take] at hgl
      refine s1_when (edt_test (ez_eq (ez_digit (m := 3) (ev_var rfl) ev_c (by decide) (by decide)) (e1_int (PI := fun _ => True) ev_c trivial))) dc (fun Hd ed dd => ?_) fun Hd ed dd => ⟨_, gs, G, rfl, wx_back hps xc ed, dd, ed pg _ (by rw [wo_ne hpgs]; exact hg), hG, sub_up hsub⟩
      have xd : Ex Ho Hd := wx_back hps xc ed
      refine s_app (v := .ref b) (ed pg _ (by rw [wo_ne hpgs]; exact hg)) (ev_var rfl) (ev_op (ev_var rfl) (ev_var rfl) (rv_ixL (sq_of (xd _ _ hr1)) (atI_nat (by rw [List.getElem?_map, hqb]; rfl)))) (by rw [List.length_map, hG.1]; omega) fun He ee => ⟨_, gs ++ [b], G ++ [L[j]], rfl, Ex.mut (xd.trans ee) hpgo, (dd.ex ee).upd (Ne.symm hpgs), by rw [upd_same, List.map_append]; rfl, hG.snoc hbr, sub_snoc hsub (List.getElem?_eq_getElem hj2)⟩
    obtain ⟨jv, gs, G, rfl, xc, dc, hg, hG, hsub⟩ := pw
    rw [show ((L.length : Int)).toNat = L.length from Int.toNat_natCast _, List.take_length] at hsub
    have okG : ∀ r ∈ G, OkR2 r := fun r hr => ok r (hsub.subset hr)
    have lG : G.length ≤ 20 := Nat.le_trans hsub.length_le hl
    refine ⟨.ref ps, rfl, ez_digit (m := 7) (ev_var rfl) ev_c (by decide) (by decide) Hc (wo_le _ _) dc _ fun v Hd ⟨m0, ev0, hm0, hm1⟩ ed dd => ?_⟩
    subst ev0
    obtain ⟨m, rfl⟩ := Int.eq_ofNat_of_zero_le hm0
    refine ⟨ps, m, rfl, dd, by omega, fun l1 He C1 hl1 ee de hC1 hlC1 ok1 => ?_⟩
    have xce : Ex (wo ps Hc) He := wx_trans ed ee
    obtain ⟨sd, hsd⟩ := dd.at
    refine e1_lcF (p := ps) (H := He) (G := Ho) (L := G) (qs := gs) (a := pg) (fun H5 e5 => ev_var rfl) (fun H5 e5 => e5 pg _ (by rw [wo_ne hpgs]; exact xce pg _ (by rw [wo_ne hpgs]; exact hg))) hG (by omega) (fun _ => rfl) (fun _ => rfl) (fun x => edt_test (ez_eq (ez_digit (m := 2) (ev_var rfl) ev_c (by decide) (by decide)) (e1_int (PI := fun _ => True) ev_c trivial))) He (wo_le _ _) de _ fun l2 Hf cs C2 hl2 ef df hf2 hC2 hs2 => ?_
    obtain ⟨q1, hq1, hB1⟩ := hC1
    have xef : Ex (nu Hd He) Hf := (nu_wo hsd).trans ef
    have lC2 := hs2.length_le
    have lq1 : q1.length = C1.length := hB1.1
    have lcs : cs.length = C2.length := hC2.1
    have xof : Ex Ho Hf := wx_back hps xc (wx_trans xce ef)
    refine ⟨l1, l2, q1.map V.ref, cs.map V.ref, rfl, rfl, xef _ _ hq1, hf2, sz_of (by rw [List.length_map, List.length_map]; omega), fun pc hpc => ?_⟩
    have hCC : Al2 RowAt Hf (q1 ++ cs) (C1 ++ C2) := al_app (hB1.mono fun q l _ => RowAt.mn _ _ _ _ xef) (hC2.mono fun q l _ => RowAt.mn _ _ _ _ xof)
    have okC : ∀ r ∈ C1 ++ C2, OkR2 r := fun r hr => (List.mem_append.mp hr).elim (ok1 r) fun h => okG r (hs2.subset h)
    have lC : (C1 ++ C2).length ≤ 30 := by rw [List.length_append]; omega
    rw [← List.map_append]
    generalize C1 ++ C2 = C at hCC okC lC
    generalize q1 ++ cs = qc at hCC
    have e6 : Ex Hf (upd Hf pc (.lst (qc.map V.ref))) := Ex.new hpc
    have hc6 : Lst2 RowAt (upd Hf pc (.lst (qc.map V.ref))) pc C := ⟨qc, upd_same, hCC.mono fun q l _ => RowAt.mn _ _ _ _ e6⟩
    have hpgf : Hf pg = some (.lst (gs.map V.ref)) := ef pg _ (by rw [wo_ne hpgs]; exact xce pg _ (by rw [wo_ne hpgs]; exact hg))
    generalize upd Hf pc (.lst (qc.map V.ref)) = H6 at e6 hc6 ⊢
    have x6 : Ex Ho H6 := xof.trans e6
    have hg6 : Lst2 RowAt H6 pg G := ⟨gs, e6 _ _ hpgf, hG.mono fun q l _ => RowAt.mn _ _ _ _ x6⟩
    have hr6 : Lst2 RowAt H6 r L := ⟨qr, x6 _ _ hr1, hA.mono fun q l _ => RowAt.mn _ _ _ _ x6⟩
    have bL : OkBag L := OkRows.bag ok (by omega)
    have bG : OkBag G := OkRows.bag okG (by omega)
    have bC : OkBag C := OkRows.bag okC (by omega)
    have rL : OkRows L := OkRows.of2 ok (by omega)
    have rG : OkRows G := OkRows.of2 okG (by omega)
    have rC : OkRows C := OkRows.of2 okC (by omega)
    clear xef hB1 hsd xof hpgf hs2 hC2 hf2 hq1 ef df de ee ed xce hCC lq1 lcs
    refine q_pairRn (R := fun H p => Lst2 RowAt H p G) (S := fun H p => Lst2 RowAt H p C) (fun H H' q e h => Lst2.mn RowAt.mn _ _ _ _ e h) (fun H H' q e h => Lst2.mn RowAt.mn _ _ _ _ e h) (rn_copy (L := G) (ev_var rfl) hg6 (by omega) (fun _ => rfl) (fun _ => rfl)) (fun H7 e7 => rn_copy (L := C) (ev_var rfl) (Lst2.mn RowAt.mn _ _ _ _ e7 hc6) (by omega) (fun _ => rfl) (fun _ => rfl)) fun g0 c0 tg H8 hg0 hc0 e8 hG8 hC8 ht8 => ?_
    have hG8' := Lst2.mn RowAt.mn _ _ _ _ nu_le hG8
    have hC8' := Lst2.mn RowAt.mn _ _ _ _ nu_le hC8
    refine q_asgR (R := fun H p => ChAt K H p (G, C)) (rn_changeW (ew_ev (Lst2.mn RowAt.mn) (ev_op (ev_var rfl) ev_c (rv_ixT (i := 0) (st_of ht8) rfl)) hG8') (ew_ev (Lst2.mn RowAt.mn) (ev_op (ev_var rfl) ev_c (rv_ixT (i := 1) (st_of ht8) rfl)) hC8') (by omega) (by omega)) fun ch H9 hch e9 hCh => ?_
    obtain ⟨gq, hgq, hgA⟩ := hG8'
    have hgl : gq.length = G.length := hgA.1
    refine q_appL (ys := [.int 9]) (e9 _ _ hgq) (ev_op (ev_var rfl) ev_c (rv_ixT (i := 0) (st_of (e9 _ _ ht8)) rfl)) (el_lst (ea_cons ev_c ea_nil) (by show 1 ≤ 100000; decide)) (by rw [List.length_map]; omega) fun pn H10 hpn e10 h10 => ?_
    have xk : Ex H6 (upd H10 g0 (.lst (gq.map V.ref ++ [.ref pn]))) := Ex.mut (e8.trans (e9.trans e10)) hg0
    have hCk : ChAt K (upd H10 g0 (.lst (gq.map V.ref ++ [.ref pn]))) ch (G, C) := ChAt.mn K _ _ _ _ ((nu_wo hgq).trans (wx_mut (wx_of e10))) hCh
    generalize upd H10 g0 (.lst (gq.map V.ref ++ [.ref pn])) = Hk at xk hCk ⊢
    refine q_asgO (R := fun H q => ChAt K H q (smallOf (G, C))) (ro_small (ev_var rfl) hCk bG bC) fun sm Hl hsm el hSm => ?_
    have xl := xk.trans el
    have rS1 : OkRows (smallOf (G, C)).1 := OkRows.of2 (fun r hr => okG r (wl_mem hr)) (Nat.le_trans (wl_len _ _ _) (show G.length ≤ 1000 by omega))
    have rS2 : OkRows (smallOf (G, C)).2 := OkRows.of2 (fun r hr => okC r (wl_mem hr)) (Nat.le_trans (wl_len _ _ _) (show C.length ≤ 1000 by omega))
    refine q_when (b := !true) (et_not (et_B (eb_srowsW (L := (smallOf (G, C)).1) (ew_gone C_Change (ev_var rfl) hSm) (ew_ro (ro_more (ev_var rfl) (ev_var rfl) (Lst2.mn RowAt.mn _ _ _ _ xl hg6) (Lst2.mn RowAt.mn _ _ _ _ xl hc6) rG rC)) rS1))) (fun hb => by simp at hb) fun _ Hm em => ?_
    have xm := xl.trans em
    have e2s : (smallOf (G, C)).2 = K76.wl rowN C fun k => min (cR C k) (cR G k) := by
      show K76.wl rowN C (fun k => min (cR G k) (cR C k)) = _
      exact K76.wl_congr rowN C fun k => Nat.min_comm _ _
    have rom2 := ro_more (K := K) (E := C8.E0) (ta := tVar 6) (tb := tVar 4) (σ := [some (.ref a), some (.ref ps), some (.ref r), some (.int (i : Int)), some (.ref pg), jv, some (.ref pc), some (.ref tg), some (.ref ch), some (.ref sm), va, vb, vc, none]) (ev_var rfl) (ev_var rfl) (Lst2.mn RowAt.mn _ _ _ _ xm hc6) (Lst2.mn RowAt.mn _ _ _ _ xm hg6) rC rG
    rw [← e2s] at rom2
    refine q_when (b := !true) (et_not (et_B (eb_srowsW (L := (smallOf (G, C)).2) (ew_come C_Change (ev_var rfl) (ChAt.mn K _ _ _ _ em hSm)) (ew_ro rom2) rS2))) (fun hb => by simp at hb) fun _ Hn en => ?_
    have xn := xm.trans en
    have hCn : ChAt K Hn ch (G, C) := ChAt.mn K _ _ _ _ ((el.trans em).trans en) hCk
    refine q_when (b := !true || !true) (et_or (et_not (et_B (eb_srowsW (L := G) (ew_gone C_Change (ev_var rfl) hCn) (ew_ev (Lst2.mn RowAt.mn) (ev_var rfl) (Lst2.mn RowAt.mn _ _ _ _ xn hg6)) rG))) fun _ => et_not (et_B (eb_srowsW (L := C) (ew_come C_Change (ev_var rfl) hCn) (ew_ev (Lst2.mn RowAt.mn) (ev_var rfl) (Lst2.mn RowAt.mn _ _ _ _ xn hc6)) rC))) (fun hb => by simp at hb) fun _ Hp1 ep1 => ?_
    have xp1 := xn.trans ep1
    have hCp := ChAt.mn K _ _ _ _ ep1 hCn
    refine q_when (b := !decide (V.bl (G.isEmpty && C.isEmpty) = .bl true) && !decide (V.bl (G.isEmpty && C.isEmpty) = .bl false)) (et_and (et_test (ev_op (ev_nothing (ev_var rfl) hCp) ev_c rv_notT)) fun _ => et_test (ev_op (ev_nothing (ev_var rfl) hCp) ev_c rv_notT)) (fun hb => by
      cases h9 : (G.isEmpty && C.isEmpty) <;> rw [h9] at hb <;> simp at hb) fun _ Hq eq1 => ?_
    have xq := xp1.trans eq1
    have hCq := ChAt.mn K _ _ _ _ eq1 hCp
    obtain ⟨gs6, hgs6, hgA6⟩ := Lst2.mn RowAt.mn _ _ _ _ xq hg6
    obtain ⟨cs6, hcs6, hcA6⟩ := Lst2.mn RowAt.mn _ _ _ _ xq hc6
    have lg6 : (gs6.map V.ref).length = G.length := by rw [List.length_map, hgA6.1]
    have lc6 : (cs6.map V.ref).length = C.length := by rw [List.length_map, hcA6.1]
    refine q_when (b := !decide (V.bl (G.isEmpty && C.isEmpty) = .bl (decide (V.int (((G.length : Nat) : Int) + ((C.length : Nat) : Int)) = V.int 0))) || !decide (V.bl (([] : List (List V)).isEmpty && ([] : List (List V)).isEmpty) = .bl true)) (et_or (et_test (ev_op (ev_nothing (ev_var rfl) hCq) (ev_op (ev_op (ev_is (ev_len (ev_var rfl) (sq_of hgs6)) (by rw [lg6])) (ev_is (ev_len (ev_var rfl) (sq_of hcs6)) (by rw [lc6])) rv_I0) ev_c (rv_eq rfl)) (rv_ne rfl))) fun _ => et_test (ev_op (ev_nothingW (x := ([], [])) (ew_ro ((rn_changeW ew_nil ew_nil (by show 0 ≤ 1000; omega) (by show 0 ≤ 1000; omega)).o fun H H' q e h => ChAt.mn K _ _ _ _ e h))) ev_c rv_notT)) (fun hb => by
      cases G <;> cases C <;> simp at hb <;> omega) fun _ Hr er => ?_
    have xr := xq.trans er
    have hCr := ChAt.mn K _ _ _ _ er hCq
    have hSr : ChAt K Hr sm (smallOf (G, C)) := ChAt.mn K _ _ _ _ ((((em.trans en).trans ep1).trans eq1).trans er) hSm
    refine q_asgR (R := fun H q => Lst2 RowAt H q L) (rn_copy (ev_var rfl) (Lst2.mn RowAt.mn _ _ _ _ xr hr6) (by omega) (fun _ => rfl) (fun _ => rfl)) fun kp Hs hkp es hK => ?_
    have hK := Lst2.mn RowAt.mn _ _ _ _ nu_le hK
    have xs9 := xr.trans es
    refine q_asgO (R := fun H q => Lst2 RowAt H q (K76.wf rowN L (cR G) ++ C)) (ro_changed (x := (G, C)) (ev_var rfl) (ev_var rfl) hK (ChAt.mn K _ _ _ _ es hCr) bL bG (show C.length ≤ 1000 by omega)) fun td Ht htd et9 hT => ?_
    have xt := xs9.trans et9
    have lw9 := wf_len rowN L (cR G)
    refine q_catRo (A := K76.wf rowN L (cR G)) (C := C) (ro_without (ev_var rfl) (ev_var rfl) (Lst2.mn RowAt.mn _ _ _ _ xt hr6) (Lst2.mn RowAt.mn _ _ _ _ xt hg6) rL rG) (fun _ _ => ev_var rfl) (Lst2.mn RowAt.mn _ _ _ _ xt hc6) (by omega) fun du Hu hdu eu9 hD => ?_
    have xu := xt.trans eu9
    have okD : ∀ r ∈ K76.wf rowN L (cR G) ++ C, OkR2 r := fun r hr => (List.mem_append.mp hr).elim (fun h => ok r (wf_mem h)) fun h => okC r h
    have lD : (K76.wf rowN L (cR G) ++ C).length ≤ 60 := by rw [List.length_append]; omega
    have rD : OkRows (K76.wf rowN L (cR G) ++ C) := OkRows.of2 okD (by omega)
    refine q_when (b := !true || !true) (et_or (et_not (et_B (eb_srowsW (L := K76.wf rowN L (cR G) ++ C) (ew_ev (Lst2.mn RowAt.mn) (ev_var rfl) (Lst2.mn RowAt.mn _ _ _ _ eu9 hT)) (ew_ev (Lst2.mn RowAt.mn) (ev_var rfl) hD) rD))) fun _ => et_not (et_B (eb_srowsW (L := L) (ew_ev (Lst2.mn RowAt.mn) (ev_var rfl) (Lst2.mn RowAt.mn _ _ _ _ (et9.trans eu9) hK)) (ew_ev (Lst2.mn RowAt.mn) (ev_var rfl) (Lst2.mn RowAt.mn _ _ _ _ xu hr6)) rL))) (fun hb => by simp at hb) fun _ Hv ev9 => ?_
    have xv := xu.trans ev9
    have rE : OkRows (K76.wf rowN L (cR (smallOf (G, C)).1) ++ (smallOf (G, C)).2) := OkRows.of2 (fun r hr => (List.mem_append.mp hr).elim (fun h => ok r (wf_mem h)) fun h => okC r (wl_mem h)) (by
      have h1 := wf_len rowN L (cR (smallOf (G, C)).1)
      have h2 : (smallOf (G, C)).2.length ≤ C.length := wl_len _ _ _
      rw [List.length_append]; omega)
    have hperm : ((K76.wf rowN L (cR (smallOf (G, C)).1) ++ (smallOf (G, C)).2).map rowN).Perm ((K76.wf rowN L (cR G) ++ C).map rowN) := K76.small_same rowN L G C fun k => K76.cnt_sub rowN k hsub
    have bS1 : OkBag (smallOf (G, C)).1 := OkRows.bag (fun r hr => okG r (wl_mem hr)) (Nat.le_trans (wl_len _ _ _) (show G.length ≤ 1000 by omega))
    refine q_when (b := !true) (et_not (et_B (eb_sbagW (ew_ro (ro_changed (x := smallOf (G, C)) (ev_var rfl) (ev_var rfl) (Lst2.mn RowAt.mn _ _ _ _ ((et9.trans eu9).trans ev9) hK) (ChAt.mn K _ _ _ _ (((es.trans et9).trans eu9).trans ev9) hSr) bL bS1 (Nat.le_trans (wl_len _ _ _) (by show C.length ≤ 1000; omega)))) (fun H1 e1 => ew_ev (Lst2.mn RowAt.mn) (ev_var rfl) (Lst2.mn RowAt.mn _ _ _ _ (ev9.trans e1) hD)) rE rD hperm))) (fun hb => by simp at hb) fun _ Hw ew => ?_
    obtain ⟨qd, hqd, hdA⟩ := Lst2.mn RowAt.mn _ _ _ _ (ev9.trans ew) hD
    refine s_asgL (el_sl (lo := none) (hi := some ((20 : Nat) : Int)) (ev_var rfl) eo_none (eo_some ev_c) (sq_of hqd)) fun r2 Hz hr2 ez hz => ?_
    rw [cut_takeA] at hz
    have xz : Ex Ho Hz := x6.trans (xv.trans (ew.trans ez))
    refine ⟨_, none, _, _, _, _, _, _, _, _, _, _, r2, (K76.wf rowN L (cR G) ++ C).take 20, rfl, xo.trans xz, ⟨qd.take 20, by rw [hz, List.map_take], (al_take hdA 20).mono fun q l _ => RowAt.mn _ _ _ _ ez⟩, by rw [List.length_take]; omega, fun r hr => okD r (List.mem_of_mem_take hr)⟩
  · obtain ⟨sv, rv, kv, v4, v5, v6, v7, v8, v9, va, vb, vc, r, L, rfl, xo, _⟩ := pv
    exact s_ret (v := .bl true) ev_c fun H7 e7 => q H7
end

theorem all_mk {P : Program} {w : World} {K : PySem.W.Frag} {h : Heap} {mg : Str → Option Value} {fa : Addr} (X : K.In h) (G : h.Ns mainGlobals mg) (hfa : mg "law" = some (.ref fa))
    {C_Change : Addr} (qC_Change : PySem.W.nsIn K mainGlobals "Change" = some (some (.ref C_Change))) (pgC_Change : PySem.W.plainGet K C_Change Str.empty = true) (hdC_Change : PySem.W.hasDictIn K C_Change = true) (poC_Change : PySem.W.plainOver K C_Change = true) (saC_Change : PySem.W.findIn K (.ref C_Change) "__setattr__" = some (some (.builtin "object.__setattr__"))) (mkC_Change : PySem.W.makesIn K C_Change = true) (kcC_Change : PySem.W.keepIn K (.ref C_Change) = true)
    (naC_Change_0 : PySem.W.findIn K (.ref C_Change) "gone" = some none)
    (naC_Change_1 : PySem.W.findIn K (.ref C_Change) "come" = some none)
    {f0 : Addr} {od0 an0 : Option Addr} {sl0 : Array (Option Value)} {oc0 kV0 dc0 pm0 cd0 ct0 : Value} (a0 : PySem.W.nsIn K mainGlobals "kind_rank" = some (some (.ref f0))) (l0 : K.lookup f0 = some ⟨oc0, od0, .func (PySem.W.fnOf "kind_rank" "kind_rank" (C8.fnArgs s_kind_rank) (C8.fnBody s_kind_rank) (C8.fnScope s_kind_rank) .none kV0 dc0 pm0 an0 cd0 ct0), sl0⟩) (b0 : PySem.W.codeIn K cd0 "kind_rank" = true) (k0 : PySem.W.keepIn K (.ref f0) = true)
    {f1 : Addr} {od1 an1 : Option Addr} {sl1 : Array (Option Value)} {oc1 kV1 dc1 pm1 cd1 ct1 : Value} (a1 : PySem.W.nsIn K mainGlobals "rank" = some (some (.ref f1))) (l1 : K.lookup f1 = some ⟨oc1, od1, .func (PySem.W.fnOf "rank" "rank" (C8.fnArgs s_rank) (C8.fnBody s_rank) (C8.fnScope s_rank) .none kV1 dc1 pm1 an1 cd1 ct1), sl1⟩) (b1 : PySem.W.codeIn K cd1 "rank" = true) (k1 : PySem.W.keepIn K (.ref f1) = true)
    {f2 : Addr} {od2 an2 : Option Addr} {sl2 : Array (Option Value)} {oc2 kV2 dc2 pm2 cd2 ct2 : Value} (a2 : PySem.W.nsIn K mainGlobals "row_rank" = some (some (.ref f2))) (l2 : K.lookup f2 = some ⟨oc2, od2, .func (PySem.W.fnOf "row_rank" "row_rank" (C8.fnArgs s_row_rank) (C8.fnBody s_row_rank) (C8.fnScope s_row_rank) .none kV2 dc2 pm2 an2 cd2 ct2), sl2⟩) (b2 : PySem.W.codeIn K cd2 "row_rank" = true) (k2 : PySem.W.keepIn K (.ref f2) = true)
    {f3 : Addr} {od3 an3 : Option Addr} {sl3 : Array (Option Value)} {oc3 kV3 dc3 pm3 cd3 ct3 : Value} (a3 : PySem.W.nsIn K mainGlobals "_how_often" = some (some (.ref f3))) (l3 : K.lookup f3 = some ⟨oc3, od3, .func (PySem.W.fnOf "_how_often" "_how_often" (C8.fnArgs s__how_often) (C8.fnBody s__how_often) (C8.fnScope s__how_often) .none kV3 dc3 pm3 an3 cd3 ct3), sl3⟩) (b3 : PySem.W.codeIn K cd3 "_how_often" = true) (k3 : PySem.W.keepIn K (.ref f3) = true)
    {f4 : Addr} {od4 an4 : Option Addr} {sl4 : Array (Option Value)} {oc4 kV4 dc4 pm4 cd4 ct4 : Value} (a4 : PySem.W.nsIn K mainGlobals "_without_last" = some (some (.ref f4))) (l4 : K.lookup f4 = some ⟨oc4, od4, .func (PySem.W.fnOf "_without_last" "_without_last" (C8.fnArgs s__without_last) (C8.fnBody s__without_last) (C8.fnScope s__without_last) .none kV4 dc4 pm4 an4 cd4 ct4), sl4⟩) (b4 : PySem.W.codeIn K cd4 "_without_last" = true) (k4 : PySem.W.keepIn K (.ref f4) = true)
    {f5 : Addr} {od5 an5 : Option Addr} {sl5 : Array (Option Value)} {oc5 kV5 dc5 pm5 cd5 ct5 : Value} (a5 : PySem.W.nsIn K mainGlobals "_without_first" = some (some (.ref f5))) (l5 : K.lookup f5 = some ⟨oc5, od5, .func (PySem.W.fnOf "_without_first" "_without_first" (C8.fnArgs s__without_first) (C8.fnBody s__without_first) (C8.fnScope s__without_first) .none kV5 dc5 pm5 an5 cd5 ct5), sl5⟩) (b5 : PySem.W.codeIn K cd5 "_without_first" = true) (k5 : PySem.W.keepIn K (.ref f5) = true)
    {f6 : Addr} {od6 an6 : Option Addr} {sl6 : Array (Option Value)} {oc6 kV6 dc6 pm6 cd6 ct6 : Value}
    (a6 : PySem.W.findIn K (.ref C_Change) "__init__" = some (some (.ref f6))) (iF6 : PySem.W.isFn K (.ref f6) = true)
    (l6 : K.lookup f6 = some ⟨oc6, od6, .func (PySem.W.fnOf "__init__" "Change.__init__" (C8.fnArgs s_Change____init__) (C8.fnBody s_Change____init__) (C8.fnScope s_Change____init__) .none kV6 dc6 pm6 an6 cd6 ct6), sl6⟩) (b6 : PySem.W.codeIn K cd6 "Change.__init__" = true) (k6 : PySem.W.keepIn K (.ref f6) = true)
    {f7 : Addr} {od7 an7 : Option Addr} {sl7 : Array (Option Value)} {oc7 kV7 dc7 pm7 cd7 ct7 : Value}
    (a7 : PySem.W.findIn K (.ref C_Change) "small" = some (some (.ref f7))) (iF7 : PySem.W.isFn K (.ref f7) = true)
    (l7 : K.lookup f7 = some ⟨oc7, od7, .func (PySem.W.fnOf "small" "Change.small" (C8.fnArgs s_Change__small) (C8.fnBody s_Change__small) (C8.fnScope s_Change__small) .none kV7 dc7 pm7 an7 cd7 ct7), sl7⟩) (b7 : PySem.W.codeIn K cd7 "Change.small" = true) (k7 : PySem.W.keepIn K (.ref f7) = true)
    {f8 : Addr} {od8 an8 : Option Addr} {sl8 : Array (Option Value)} {oc8 kV8 dc8 pm8 cd8 ct8 : Value}
    {p8 : Addr} {r8 : List Value} (a8 : PySem.W.findIn K (.ref C_Change) "nothing" = some (some (.ref p8))) (gP8 : PySem.W.specialIn K (.ref p8) "__get__" = some (some (.builtin "property.__get__"))) (tP8 : PySem.W.takesIn K (.ref p8) = some true) (rP8 : PySem.W.recIn K p8 "property" = some (.ref f8 :: r8))
    (l8 : K.lookup f8 = some ⟨oc8, od8, .func (PySem.W.fnOf "nothing" "Change.nothing" (C8.fnArgs s_Change__nothing) (C8.fnBody s_Change__nothing) (C8.fnScope s_Change__nothing) .none kV8 dc8 pm8 an8 cd8 ct8), sl8⟩) (b8 : PySem.W.codeIn K cd8 "Change.nothing" = true) (k8 : PySem.W.keepIn K (.ref f8) = true)
    {f9 : Addr} {od9 an9 : Option Addr} {sl9 : Array (Option Value)} {oc9 kV9 dc9 pm9 cd9 ct9 : Value} (a9 : PySem.W.nsIn K mainGlobals "changed_rows" = some (some (.ref f9))) (l9 : K.lookup f9 = some ⟨oc9, od9, .func (PySem.W.fnOf "changed_rows" "changed_rows" (C8.fnArgs s_changed_rows) (C8.fnBody s_changed_rows) (C8.fnScope s_changed_rows) .none kV9 dc9 pm9 an9 cd9 ct9), sl9⟩) (b9 : PySem.W.codeIn K cd9 "changed_rows" = true) (k9 : PySem.W.keepIn K (.ref f9) = true)
    {f10 : Addr} {od10 an10 : Option Addr} {sl10 : Array (Option Value)} {oc10 kV10 dc10 pm10 cd10 ct10 : Value} (a10 : PySem.W.nsIn K mainGlobals "_law_cell" = some (some (.ref f10))) (l10 : K.lookup f10 = some ⟨oc10, od10, .func (PySem.W.fnOf "_law_cell" "_law_cell" (C8.fnArgs s__law_cell) (C8.fnBody s__law_cell) (C8.fnScope s__law_cell) .none kV10 dc10 pm10 an10 cd10 ct10), sl10⟩) (b10 : PySem.W.codeIn K cd10 "_law_cell" = true) (k10 : PySem.W.keepIn K (.ref f10) = true)
    {f11 : Addr} {od11 an11 : Option Addr} {sl11 : Array (Option Value)} {oc11 kV11 dc11 pm11 cd11 ct11 : Value} (a11 : PySem.W.nsIn K mainGlobals "_law_state" = some (some (.ref f11))) (l11 : K.lookup f11 = some ⟨oc11, od11, .func (PySem.W.fnOf "_law_state" "_law_state" (C8.fnArgs s__law_state) (C8.fnBody s__law_state) (C8.fnScope s__law_state) .none kV11 dc11 pm11 an11 cd11 ct11), sl11⟩) (b11 : PySem.W.codeIn K cd11 "_law_state" = true) (k11 : PySem.W.keepIn K (.ref f11) = true)
    {f12 : Addr} {od12 an12 : Option Addr} {sl12 : Array (Option Value)} {oc12 kV12 dc12 pm12 cd12 ct12 : Value} (a12 : PySem.W.nsIn K mainGlobals "_law_digit" = some (some (.ref f12))) (l12 : K.lookup f12 = some ⟨oc12, od12, .func (PySem.W.fnOf "_law_digit" "_law_digit" (C8.fnArgs s__law_digit) (C8.fnBody s__law_digit) (C8.fnScope s__law_digit) .none kV12 dc12 pm12 an12 cd12 ct12), sl12⟩) (b12 : PySem.W.codeIn K cd12 "_law_digit" = true) (k12 : PySem.W.keepIn K (.ref f12) = true)
    {f13 : Addr} {od13 an13 : Option Addr} {sl13 : Array (Option Value)} {oc13 kV13 dc13 pm13 cd13 ct13 : Value} (a13 : PySem.W.nsIn K mainGlobals "_law_rank" = some (some (.ref f13))) (l13 : K.lookup f13 = some ⟨oc13, od13, .func (PySem.W.fnOf "_law_rank" "_law_rank" (C8.fnArgs s__law_rank) (C8.fnBody s__law_rank) (C8.fnScope s__law_rank) .none kV13 dc13 pm13 an13 cd13 ct13), sl13⟩) (b13 : PySem.W.codeIn K cd13 "_law_rank" = true) (k13 : PySem.W.keepIn K (.ref f13) = true)
    {f14 : Addr} {od14 an14 : Option Addr} {sl14 : Array (Option Value)} {oc14 kV14 dc14 pm14 cd14 ct14 : Value} (a14 : PySem.W.nsIn K mainGlobals "_law_ranks" = some (some (.ref f14))) (l14 : K.lookup f14 = some ⟨oc14, od14, .func (PySem.W.fnOf "_law_ranks" "_law_ranks" (C8.fnArgs s__law_ranks) (C8.fnBody s__law_ranks) (C8.fnScope s__law_ranks) .none kV14 dc14 pm14 an14 cd14 ct14), sl14⟩) (b14 : PySem.W.codeIn K cd14 "_law_ranks" = true) (k14 : PySem.W.keepIn K (.ref f14) = true)
    {f15 : Addr} {od15 an15 : Option Addr} {sl15 : Array (Option Value)} {oc15 kV15 dc15 pm15 cd15 ct15 : Value} (a15 : PySem.W.nsIn K mainGlobals "_law_bag" = some (some (.ref f15))) (l15 : K.lookup f15 = some ⟨oc15, od15, .func (PySem.W.fnOf "_law_bag" "_law_bag" (C8.fnArgs s__law_bag) (C8.fnBody s__law_bag) (C8.fnScope s__law_bag) .none kV15 dc15 pm15 an15 cd15 ct15), sl15⟩) (b15 : PySem.W.codeIn K cd15 "_law_bag" = true) (k15 : PySem.W.keepIn K (.ref f15) = true)
    {f16 : Addr} {od16 an16 : Option Addr} {sl16 : Array (Option Value)} {oc16 kV16 dc16 pm16 cd16 ct16 : Value} (a16 : PySem.W.nsIn K mainGlobals "_law_same_rows" = some (some (.ref f16))) (l16 : K.lookup f16 = some ⟨oc16, od16, .func (PySem.W.fnOf "_law_same_rows" "_law_same_rows" (C8.fnArgs s__law_same_rows) (C8.fnBody s__law_same_rows) (C8.fnScope s__law_same_rows) .none kV16 dc16 pm16 an16 cd16 ct16), sl16⟩) (b16 : PySem.W.codeIn K cd16 "_law_same_rows" = true) (k16 : PySem.W.keepIn K (.ref f16) = true)
    {f17 : Addr} {od17 an17 : Option Addr} {sl17 : Array (Option Value)} {oc17 kV17 dc17 pm17 cd17 ct17 : Value} (a17 : PySem.W.nsIn K mainGlobals "_law_same_bag" = some (some (.ref f17))) (l17 : K.lookup f17 = some ⟨oc17, od17, .func (PySem.W.fnOf "_law_same_bag" "_law_same_bag" (C8.fnArgs s__law_same_bag) (C8.fnBody s__law_same_bag) (C8.fnScope s__law_same_bag) .none kV17 dc17 pm17 an17 cd17 ct17), sl17⟩) (b17 : PySem.W.codeIn K cd17 "_law_same_bag" = true) (k17 : PySem.W.keepIn K (.ref f17) = true)
    {f18 : Addr} {od18 an18 : Option Addr} {sl18 : Array (Option Value)} {oc18 kV18 dc18 pm18 cd18 ct18 : Value} (a18 : PySem.W.nsIn K mainGlobals "_law_without" = some (some (.ref f18))) (l18 : K.lookup f18 = some ⟨oc18, od18, .func (PySem.W.fnOf "_law_without" "_law_without" (C8.fnArgs s__law_without) (C8.fnBody s__law_without) (C8.fnScope s__law_without) .none kV18 dc18 pm18 an18 cd18 ct18), sl18⟩) (b18 : PySem.W.codeIn K cd18 "_law_without" = true) (k18 : PySem.W.keepIn K (.ref f18) = true)
    {f19 : Addr} {od19 an19 : Option Addr} {sl19 : Array (Option Value)} {oc19 kV19 dc19 pm19 cd19 ct19 : Value} (a19 : PySem.W.nsIn K mainGlobals "_law_more" = some (some (.ref f19))) (l19 : K.lookup f19 = some ⟨oc19, od19, .func (PySem.W.fnOf "_law_more" "_law_more" (C8.fnArgs s__law_more) (C8.fnBody s__law_more) (C8.fnScope s__law_more) .none kV19 dc19 pm19 an19 cd19 ct19), sl19⟩) (b19 : PySem.W.codeIn K cd19 "_law_more" = true) (k19 : PySem.W.keepIn K (.ref f19) = true)
    {f20 : Addr} {od20 an20 : Option Addr} {sl20 : Array (Option Value)} {oc20 kV20 dc20 pm20 cd20 ct20 : Value} (a20 : PySem.W.nsIn K mainGlobals "_law_some_rows" = some (some (.ref f20))) (l20 : K.lookup f20 = some ⟨oc20, od20, .func (PySem.W.fnOf "_law_some_rows" "_law_some_rows" (C8.fnArgs s__law_some_rows) (C8.fnBody s__law_some_rows) (C8.fnScope s__law_some_rows) .none kV20 dc20 pm20 an20 cd20 ct20), sl20⟩) (b20 : PySem.W.codeIn K cd20 "_law_some_rows" = true) (k20 : PySem.W.keepIn K (.ref f20) = true)
    {f21 : Addr} {od21 an21 : Option Addr} {sl21 : Array (Option Value)} {oc21 kV21 dc21 pm21 cd21 ct21 : Value} (a21 : PySem.W.nsIn K mainGlobals "law" = some (some (.ref f21))) (l21 : K.lookup f21 = some ⟨oc21, od21, .func (PySem.W.fnOf "law" "law" (C8.fnArgs s_law) (C8.fnBody s_law) (C8.fnScope s_law) .none kV21 dc21 pm21 an21 cd21 ct21), sl21⟩) (b21 : PySem.W.codeIn K cd21 "law" = true) (k21 : PySem.W.keepIn K (.ref f21) = true)
    (z_bool : PySem.W.nsIn K mainGlobals "bool" = some none)
    (z_int : PySem.W.nsIn K mainGlobals "int" = some none)
    (z_isinstance : PySem.W.nsIn K mainGlobals "isinstance" = some none)
    (z_len : PySem.W.nsIn K mainGlobals "len" = some none)
    (z_list : PySem.W.nsIn K mainGlobals "list" = some none)
    (z_max : PySem.W.nsIn K mainGlobals "max" = some none)
    (z_min : PySem.W.nsIn K mainGlobals "min" = some none)
    (z_range : PySem.W.nsIn K mainGlobals "range" = some none)
    (z_sorted : PySem.W.nsIn K mainGlobals "sorted" = some none)
    (z_tuple : PySem.W.nsIn K mainGlobals "tuple" = some none)
    : ∃ fd : FuncData, (∀ (s : Shared) (v : Value), BindsTo s fd ⟨[v], []⟩ [("script", v)]) ∧ ∀ base : Heap, K.In base → base.Ns mainGlobals mg → FnOk P w K mg base C8.CX0 7 fa fd ["script"] (sp_law K) := by
  have D_kind_rank : Dn K mg "kind_rank" s_kind_rank ["value"] := dn_mk l0 b0 k0 (PySem.W.mg_of X G a0) (fun _ _ _ _ _ _ us hl => match us, hl with | [_], _ => rfl)
  have D_rank : Dn K mg "rank" s_rank ["value"] := dn_mk l1 b1 k1 (PySem.W.mg_of X G a1) (fun _ _ _ _ _ _ us hl => match us, hl with | [_], _ => rfl)
  have D_row_rank : Dn K mg "row_rank" s_row_rank ["row"] := dn_mk l2 b2 k2 (PySem.W.mg_of X G a2) (fun _ _ _ _ _ _ us hl => match us, hl with | [_], _ => rfl)
  have D__how_often : Dn K mg "_how_often" s__how_often ["rows"] := dn_mk l3 b3 k3 (PySem.W.mg_of X G a3) (fun _ _ _ _ _ _ us hl => match us, hl with | [_], _ => rfl)
  have D__without_last : Dn K mg "_without_last" s__without_last ["rows", "many"] := dn_mk l4 b4 k4 (PySem.W.mg_of X G a4) (fun _ _ _ _ _ _ us hl => match us, hl with | [_, _], _ => rfl)
  have D__without_first : Dn K mg "_without_first" s__without_first ["rows", "many"] := dn_mk l5 b5 k5 (PySem.W.mg_of X G a5) (fun _ _ _ _ _ _ us hl => match us, hl with | [_, _], _ => rfl)
  have F_Change____init__ : C8.Fun K "__init__" "Change.__init__" s_Change____init__ f6 _ := ⟨_, _, _, _, _, _, _, _, _, _, rfl, l6, b6⟩
  have B_Change____init__ : Binds K _ ["self", "gone", "come"] [] := C8.Fun.binds F_Change____init__ rfl (fun _ _ _ _ _ _ us hl => match us, hl with | [_, _, _], _ => rfl)
  have D_Change____init__ : MetD K "Change" "__init__" "Change.__init__" s_Change____init__ ["self", "gone", "come"] := metD_mk qC_Change a6 iF6 k6 F_Change____init__ B_Change____init__
  have F_Change__small : C8.Fun K "small" "Change.small" s_Change__small f7 _ := ⟨_, _, _, _, _, _, _, _, _, _, rfl, l7, b7⟩
  have B_Change__small : Binds K _ ["self"] [] := C8.Fun.binds F_Change__small rfl (fun _ _ _ _ _ _ us hl => match us, hl with | [_], _ => rfl)
  have D_Change__small : MetD K "Change" "small" "Change.small" s_Change__small ["self"] := metD_mk qC_Change a7 iF7 k7 F_Change__small B_Change__small
  have F_Change__nothing : C8.Fun K "nothing" "Change.nothing" s_Change__nothing f8 _ := ⟨_, _, _, _, _, _, _, _, _, _, rfl, l8, b8⟩
  have B_Change__nothing : Binds K _ ["self"] [] := C8.Fun.binds F_Change__nothing rfl (fun _ _ _ _ _ _ us hl => match us, hl with | [_], _ => rfl)
  have D_Change__nothing : PrpD K "Change" "nothing" "Change.nothing" s_Change__nothing ["self"] := prpD_mk qC_Change a8 gP8 tP8 rP8 F_Change__nothing B_Change__nothing
  have D_changed_rows : Dn K mg "changed_rows" s_changed_rows ["rows", "change"] := dn_mk l9 b9 k9 (PySem.W.mg_of X G a9) (fun _ _ _ _ _ _ us hl => match us, hl with | [_, _], _ => rfl)
  have D__law_cell : Dn K mg "_law_cell" s__law_cell ["script", "k"] := dn_mk l10 b10 k10 (PySem.W.mg_of X G a10) (fun _ _ _ _ _ _ us hl => match us, hl with | [_, _], _ => rfl)
  have D__law_state : Dn K mg "_law_state" s__law_state ["cell", "k"] := dn_mk l11 b11 k11 (PySem.W.mg_of X G a11) (fun _ _ _ _ _ _ us hl => match us, hl with | [_, _], _ => rfl)
  have D__law_digit : Dn K mg "_law_digit" s__law_digit ["state", "many"] := dn_mk l12 b12 k12 (PySem.W.mg_of X G a12) (fun _ _ _ _ _ _ us hl => match us, hl with | [_, _], _ => rfl)
  have D__law_rank : Dn K mg "_law_rank" s__law_rank ["value"] := dn_mk l13 b13 k13 (PySem.W.mg_of X G a13) (fun _ _ _ _ _ _ us hl => match us, hl with | [_], _ => rfl)
  have D__law_ranks : Dn K mg "_law_ranks" s__law_ranks ["row"] := dn_mk l14 b14 k14 (PySem.W.mg_of X G a14) (fun _ _ _ _ _ _ us hl => match us, hl with | [_], _ => rfl)
  have D__law_bag : Dn K mg "_law_bag" s__law_bag ["rows"] := dn_mk l15 b15 k15 (PySem.W.mg_of X G a15) (fun _ _ _ _ _ _ us hl => match us, hl with | [_], _ => rfl)
  have D__law_same_rows : Dn K mg "_law_same_rows" s__law_same_rows ["told", "due"] := dn_mk l16 b16 k16 (PySem.W.mg_of X G a16) (fun _ _ _ _ _ _ us hl => match us, hl with | [_, _], _ => rfl)
  have D__law_same_bag : Dn K mg "_law_same_bag" s__law_same_bag ["told", "due"] := dn_mk l17 b17 k17 (PySem.W.mg_of X G a17) (fun _ _ _ _ _ _ us hl => match us, hl with | [_, _], _ => rfl)
  have D__law_without : Dn K mg "_law_without" s__law_without ["rows", "others"] := dn_mk l18 b18 k18 (PySem.W.mg_of X G a18) (fun _ _ _ _ _ _ us hl => match us, hl with | [_, _], _ => rfl)
  have D__law_more : Dn K mg "_law_more" s__law_more ["rows", "others"] := dn_mk l19 b19 k19 (PySem.W.mg_of X G a19) (fun _ _ _ _ _ _ us hl => match us, hl with | [_, _], _ => rfl)
  have D__law_some_rows : Dn K mg "_law_some_rows" s__law_some_rows ["state", "many"] := dn_mk l20 b20 k20 (PySem.W.mg_of X G a20) (fun _ _ _ _ _ _ us hl => match us, hl with | [_, _], _ => rfl)
  have C_Change : ClsD K mg "Change" ["gone", "come"] := clsD_mk qC_Change (PySem.W.mg_of X G qC_Change) pgC_Change hdC_Change poC_Change saC_Change mkC_Change kcC_Change ⟨naC_Change_0, ⟨naC_Change_1, trivial⟩⟩
  have y_bool : mg "bool" = none := PySem.W.mg_none_of X G z_bool
  have y_int : mg "int" = none := PySem.W.mg_none_of X G z_int
  have y_isinstance : mg "isinstance" = none := PySem.W.mg_none_of X G z_isinstance
  have y_len : mg "len" = none := PySem.W.mg_none_of X G z_len
  have y_list : mg "list" = none := PySem.W.mg_none_of X G z_list
  have y_max : mg "max" = none := PySem.W.mg_none_of X G z_max
  have y_min : mg "min" = none := PySem.W.mg_none_of X G z_min
  have y_range : mg "range" = none := PySem.W.mg_none_of X G z_range
  have y_sorted : mg "sorted" = none := PySem.W.mg_none_of X G z_sorted
  have y_tuple : mg "tuple" = none := PySem.W.mg_none_of X G z_tuple
  have e := hfa.symm.trans (PySem.W.mg_of X G a21)
  cases e
  have D_law := def_mk (x := "law") (st := s_law) l21 b21 k21 hfa
  refine ⟨PySem.W.fnOf "law" "law" (C8.fnArgs s_law) (C8.fnBody s_law) (C8.fnScope s_law) .none kV21 dc21 pm21 an21 cd21 ct21, fun s v => .of_eq rfl, fun base _ _ => ?_⟩
  have c_kind_rank := ok_kind_rank (P := P) (w := w) (base := base) D_kind_rank y_bool y_int y_isinstance 
  have c_rank := ok_rank (P := P) (w := w) (base := base) D_rank c_kind_rank y_int 
  have c_row_rank := ok_row_rank (P := P) (w := w) (base := base) D_row_rank c_rank y_tuple 
  have c__how_often := ok__how_often (P := P) (w := w) (base := base) D__how_often c_row_rank 
  have c__without_last := ok__without_last (P := P) (w := w) (base := base) D__without_last c__how_often c_row_rank 
  have c__without_first := ok__without_first (P := P) (w := w) (base := base) D__without_first c_row_rank 
  have c_Change____init__ := ok_Change____init__ (P := P) (w := w) (base := base) D_Change____init__ C_Change y_list 
  have c_Change__small := ok_Change__small (P := P) (w := w) (base := base) D_Change__small C_Change c_Change____init__ c__how_often c__without_last y_min 
  have c_Change__nothing := ok_Change__nothing (P := P) (w := w) (base := base) D_Change__nothing C_Change 
  have c_changed_rows := ok_changed_rows (P := P) (w := w) (base := base) D_changed_rows C_Change c__how_often c__without_first y_list 
  have c__law_cell := ok__law_cell (P := P) (w := w) (base := base) D__law_cell y_len 
  have c__law_state := ok__law_state (P := P) (w := w) (base := base) D__law_state y_int 
  have c__law_digit := ok__law_digit (P := P) (w := w) (base := base) D__law_digit y_int 
  have c__law_rank := ok__law_rank (P := P) (w := w) (base := base) D__law_rank y_bool y_int y_isinstance 
  have c__law_ranks := ok__law_ranks (P := P) (w := w) (base := base) D__law_ranks c__law_rank 
  have c__law_bag := ok__law_bag (P := P) (w := w) (base := base) D__law_bag c__law_ranks y_sorted 
  have c__law_same_rows := ok__law_same_rows (P := P) (w := w) (base := base) D__law_same_rows c__law_ranks y_isinstance y_len y_list y_range 
  have c__law_same_bag := ok__law_same_bag (P := P) (w := w) (base := base) D__law_same_bag c__law_bag y_isinstance y_len y_list 
  have c__law_without := ok__law_without (P := P) (w := w) (base := base) D__law_without c__law_ranks 
  have c__law_more := ok__law_more (P := P) (w := w) (base := base) D__law_more c__law_ranks y_len 
  have c__law_some_rows := ok__law_some_rows (P := P) (w := w) (base := base) D__law_some_rows c__law_digit y_range 
  exact ok_law (P := P) (w := w) (base := base) D_law C_Change c_Change____init__ c_Change__nothing c_Change__small c__law_cell c__law_digit c__law_more c__law_same_bag c__law_same_rows c__law_some_rows c__law_state c__law_without c_changed_rows y_len y_list y_max y_min y_range 
end My
open PySem PySem.W PyProof.Rows
set_option maxHeartbeats 0 in
theorem PySem.Challenge.cw_stylobate_k76_changes_of_bags_holds : PySem.Challenge.rw_stylobate_k76_changes_of_bags.Holds := by
  w_on; o_law; k_head; (case hw => w_witness2)
  k_fill
  refine L2.walk_of (l := PySem.Challenge.rw_stylobate_k76_changes_of_bags) (n := 63) (k := 7) (x := "script") (CX := fun _ => C8.CX0) (sp := fun w => My.sp_law _) rfl (by decide) rfl ⟨rfl, by decide, by decide⟩ (fun w h Y => PySem.W.kIn_of Y) ?F (fun _ _ a ns hl _ hS => My.sp_law_of hl hS) (fun _ _ _ _ _ h => h)
  case F =>
    intro w mg fa h KX G hmg
    refine' My.all_mk KX G hmg ?qC_Change ?pgC_Change ?hdC_Change ?poC_Change ?saC_Change ?mkC_Change ?kcC_Change ?naC_Change_0 ?naC_Change_1 ?a0 ?l0 ?b0 ?k0 ?a1 ?l1 ?b1 ?k1 ?a2 ?l2 ?b2 ?k2 ?a3 ?l3 ?b3 ?k3 ?a4 ?l4 ?b4 ?k4 ?a5 ?l5 ?b5 ?k5 ?a6 ?iF6 ?l6 ?b6 ?k6 ?a7 ?iF7 ?l7 ?b7 ?k7 ?a8 ?gP8 ?tP8 ?rP8 ?l8 ?b8 ?k8 ?a9 ?l9 ?b9 ?k9 ?a10 ?l10 ?b10 ?k10 ?a11 ?l11 ?b11 ?k11 ?a12 ?l12 ?b12 ?k12 ?a13 ?l13 ?b13 ?k13 ?a14 ?l14 ?b14 ?k14 ?a15 ?l15 ?b15 ?k15 ?a16 ?l16 ?b16 ?k16 ?a17 ?l17 ?b17 ?k17 ?a18 ?l18 ?b18 ?k18 ?a19 ?l19 ?b19 ?k19 ?a20 ?l20 ?b20 ?k20 ?a21 ?l21 ?b21 ?k21 ?z_bool ?z_int ?z_isinstance ?z_len ?z_list ?z_max ?z_min ?z_range ?z_sorted ?z_tuple
    (case qC_Change => k_is); (case pgC_Change => k_is); (case hdC_Change => k_is); (case poC_Change => k_is); (case saC_Change => k_is); (case mkC_Change => k_is); (case kcC_Change => k_is); (case naC_Change_0 => k_is); (case naC_Change_1 => k_is); (case a0 => k_is); (case l0 => k_is); (case b0 => k_is); (case k0 => k_is); (case a1 => k_is); (case l1 => k_is); (case b1 => k_is); (case k1 => k_is); (case a2 => k_is); (case l2 => k_is); (case b2 => k_is); (case k2 => k_is); (case a3 => k_is); (case l3 => k_is); (case b3 => k_is); (case k3 => k_is); (case a4 => k_is); (case l4 => k_is); (case b4 => k_is); (case k4 => k_is); (case a5 => k_is); (case l5 => k_is); (case b5 => k_is); (case k5 => k_is); (case a6 => k_is); (case iF6 => k_is); (case l6 => k_is); (case b6 => k_is); (case k6 => k_is); (case a7 => k_is); (case iF7 => k_is); (case l7 => k_is); (case b7 => k_is); (case k7 => k_is); (case a8 => k_is); (case gP8 => k_is); (case tP8 => k_is); (case rP8 => k_is); (case l8 => k_is); (case b8 => k_is); (case k8 => k_is); (case a9 => k_is); (case l9 => k_is); (case b9 => k_is); (case k9 => k_is); (case a10 => k_is); (case l10 => k_is); (case b10 => k_is); (case k10 => k_is); (case a11 => k_is); (case l11 => k_is); (case b11 => k_is); (case k11 => k_is); (case a12 => k_is); (case l12 => k_is); (case b12 => k_is); (case k12 => k_is); (case a13 => k_is); (case l13 => k_is); (case b13 => k_is); (case k13 => k_is); (case a14 => k_is); (case l14 => k_is); (case b14 => k_is); (case k14 => k_is); (case a15 => k_is); (case l15 => k_is); (case b15 => k_is); (case k15 => k_is); (case a16 => k_is); (case l16 => k_is); (case b16 => k_is); (case k16 => k_is); (case a17 => k_is); (case l17 => k_is); (case b17 => k_is); (case k17 => k_is); (case a18 => k_is); (case l18 => k_is); (case b18 => k_is); (case k18 => k_is); (case a19 => k_is); (case l19 => k_is); (case b19 => k_is); (case k19 => k_is); (case a20 => k_is); (case l20 => k_is); (case b20 => k_is); (case k20 => k_is); (case a21 => k_is); (case l21 => k_is); (case b21 => k_is); (case k21 => k_is); (case z_bool => k_is); (case z_int => k_is); (case z_isinstance => k_is); (case z_len => k_is); (case z_list => k_is); (case z_max => k_is); (case z_min => k_is); (case z_range => k_is); (case z_sorted => k_is); (case z_tuple => k_is)

