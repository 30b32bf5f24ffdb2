import PyProof.Rows.All
import Wide.All
import OpenK.AllK
import Wide.FinOn
import HandS.ForMost
import HandS.Codes
import HandS.Evl
import HandS.IsInst
import HandS.Wide
import HandS.Defaults
import HandS.Walk
import HandS.Flow
import HandS.TupAny
import HandS.Zip
import HandS.Property
import HandS.OwnEq
import HandS.Deep
import HandS.WideBits
import HandS.Iter
import HandS.Rev
import HandS.SortKw
import HandS.Keys
import HandS.TupLe
import HandS.Dict
import HandS.DictComp
import HandS.Text
import HandS.StrMore
import HandS.FStr
import HandS.Style
import HandS.More
import HandS.CallLocal
import HandS.Conv
import KE.KEqSeq
import KE.KeyNested
import KE.KDictKeyed
import KE.DataEq
import PyProof.StrOps2
import PyProof.StrLawsFrom
import KE.RegKIsAll
import KE.SortKeyHeap
import PySem.Challenge.RW_stylobate_k70_shares
set_option Elab.async false
set_option linter.all false
set_option maxRecDepth 100000
set_option maxHeartbeats 4000000
namespace My
open PySem PySem.Spec PyProof.Rows L2 Evl
/-! ### defs of the text, promises, the end -/
def Dn (K : PySem.W.Frag) (mg : Str → Option Value) (x : Str) (st : Stmt) (ps : List Str) : Prop := ∃ f fd, C8.Def K mg x st f fd ∧ Binds K fd ps []
section
variable {P : Program} {w : World} {K : PySem.W.Frag} {mg : Str → Option Value} {base : Heap}
theorem cal_of {x : Str} {st : Stmt} {N ps : List Str} {k : Nat} {sp : Sp} (D : Dn K mg x st ps) (S : FnScope N ps (C8.fnScope st)) (len : ∀ vs H Q E, sp vs H Q E → vs.length = ps.length)
    (hbody : ∀ (f : Addr) (cdv : Value) (A : Around) (outer : List Env) (s : Shared) (H : Hp) (vs : List V) (Q : VK) (E : XK), Room k (A.deeper (envOfC x (C8.fnScope st) s.heap.objs.size f cdv)) → sp vs H Q E →
      ∃ t, PSs (cxOf C8.CX0 P w K mg base N x (C8.fnScope st) f cdv A outer s H E).nox (C8.fnBody st) t ∧ t { nx := fun _ H' => Q .non H', rt := Q } (start N vs) H) : C8.Cal P w K mg base (k + 1) x sp [] := by
  obtain ⟨f, fd, F, b⟩ := D
  exact C8.cal0 F b .nil S len (hbody f)
theorem def_mk {x : Str} {st : Stmt} {f : Addr} {oc : Value} {od an : Option Addr} {osl : Array (Option Value)} {kV doc pm cdv ct : Value}
    (l : K.lookup f = some ⟨oc, od, .func (PySem.W.fnOf x x (C8.fnArgs st) (C8.fnBody st) (C8.fnScope st) .none kV doc pm an cdv ct), osl⟩)
    (c : PySem.W.codeIn K cdv x = true) (k : PySem.W.keepIn K (.ref f) = true) (m : mg x = some (.ref f)) : C8.Def K mg x st f (PySem.W.fnOf x x (C8.fnArgs st) (C8.fnBody st) (C8.fnScope st) .none kV doc pm an cdv ct) :=
  ⟨⟨oc, od, .none, kV, doc, pm, an, cdv, ct, osl, rfl, l, c⟩, m, k⟩
theorem dn_mk {x : Str} {st : Stmt} {f : Addr} {oc : Value} {od an : Option Addr} {osl : Array (Option Value)} {kV doc pm cdv ct : Value} {ps : List Str}
    (l : K.lookup f = some ⟨oc, od, .func (PySem.W.fnOf x x (C8.fnArgs st) (C8.fnBody st) (C8.fnScope st) .none kV doc pm an cdv ct), osl⟩)
    (c : PySem.W.codeIn K cdv x = true) (k : PySem.W.keepIn K (.ref f) = true) (m : mg x = some (.ref f))
    (h : ∀ (kV doc pm : Value) (an : Option Addr) (cdv ct : Value) (us : List Value), us.length = ps.length → bindArgs (PySem.W.fnOf x x (C8.fnArgs st) (C8.fnBody st) (C8.fnScope st) .none kV doc pm an cdv ct) ⟨us, []⟩ = pure (ps.zip us)) : Dn K mg x st ps :=
  ⟨f, _, def_mk l c k m, C8.Fun.binds (def_mk l c k m).fn rfl h⟩
end
/-! ### x is True, x is False, of any value -/
def rIsT : R2 := fun x y H Q => ∃ b : Bool, y = .bl b ∧ Q (.bl (decide (x = .bl b))) H
def rNotT : R2 := fun x y H Q => ∃ b : Bool, y = .bl b ∧ Q (.bl (!decide (x = .bl b))) H
section
variable {X : Cx}
theorem rel_bl {x : V} {v : Value} {b : Bool} (rx : RelV x v) : PySem.plainIs v (.bool b) = true ∧ (v == .bool b) = decide (x = .bl b) ∨ ∃ n, v = .builtin n := by
  cases x with
  | non => cases (show v = Value.none from rx); exact .inl ⟨rfl, rfl⟩
  | bl c => cases (show v = Value.bool c from rx); exact .inl ⟨rfl, by cases b <;> cases c <;> rfl⟩
  | int i => obtain ⟨t, e⟩ := (show ∃ t, v = Value.int i t from rx); cases e; exact .inl ⟨rfl, rfl⟩
  | str i => obtain ⟨t, e⟩ := (show ∃ t, v = Value.str i t from rx); cases e; exact .inl ⟨rfl, rfl⟩
  | byt i => obtain ⟨t, e⟩ := (show ∃ t, v = Value.bytes i t from rx); cases e; exact .inl ⟨rfl, rfl⟩
  | flt i => obtain ⟨t, e⟩ := (show ∃ t, v = Value.float i t from rx); cases e; exact .inl ⟨rfl, rfl⟩
  | ref a => cases (show v = Value.ref a from rx); exact .inl ⟨rfl, rfl⟩
  | ty n => cases (show v = Value.type n from rx); exact .inl ⟨rfl, rfl⟩
theorem rel_bl' {x : V} {v : Value} {b : Bool} (rx : RelV x v) : PySem.plainIs v (.bool b) = true ∧ (v == .bool b) = decide (x = .bl b) := by
  rcases rel_bl (b := b) rx with h | ⟨n, rfl⟩
  · exact h
  · cases x <;> first | exact nomatch (rx : Value.builtin n = _) | (obtain ⟨t, e⟩ := rx; exact nomatch e)
theorem op_isTF : OpR X (compareOp .Is) rIsT := by
  intro pins s σ H x y v u Q I rx ry h
  obtain ⟨b, rfl, q⟩ := h
  cases (show u = Value.bool b from ry)
  obtain ⟨h1, h2⟩ := rel_bl' (b := b) rx
  exact wpAny_is_plain h1 ⟨.bl _, H, I, rfl, by rw [h2]; exact q⟩
theorem op_notTF : OpR X (compareOp .IsNot) rNotT := by
  intro pins s σ H x y v u Q I rx ry h
  obtain ⟨b, rfl, q⟩ := h
  cases (show u = Value.bool b from ry)
  obtain ⟨h1, h2⟩ := rel_bl' (b := b) rx
  exact wpAny_isNot_plain h1 ⟨.bl _, H, I, rfl, by rw [h2]; exact q⟩
end
/-! ### what evaluates to what: further -/
section
variable {K : PySem.W.Frag} {σ : L2.St} {H H' : Hp} {ta tb te tx : TE} {t u : TT} {x y z v : V} {r : R2}
theorem rv_isT {b : Bool} : RV rIsT x (.bl b) H (.bl (decide (x = .bl b))) := fun H1 _ _ q => ⟨b, rfl, q H1 (Ex.refl H1)⟩
theorem rv_notT {b : Bool} : RV rNotT x (.bl b) H (.bl (!decide (x = .bl b))) := fun H1 _ _ q => ⟨b, rfl, q H1 (Ex.refl H1)⟩
theorem rv_isN : RV (fun x y H Q => y = .non ∧ Q (.bl (decide (x = .non))) H) x .non H (.bl (decide (x = .non))) := fun H1 _ _ q => ⟨rfl, q H1 (Ex.refl H1)⟩
theorem rv_notN : RV (fun x y H Q => y = .non ∧ Q (.bl (!decide (x = .non))) H) x .non H (.bl (!decide (x = .non))) := fun H1 _ _ q => ⟨rfl, q H1 (Ex.refl H1)⟩
theorem ev_int {i : Int} (h : Ev ta σ H (.int i)) : Ev (tCB (fun xs H Q => (∃ i, xs = [.int i] ∧ Q (.int i) H) ∨ ∃ k, xs = [.bl k] ∧ Q (.int (if k then 1 else 0)) H) (tCons ta tNil)) σ H (.int i) :=
  fun H1 e Q q => h H1 e _ fun H2 e2 => .inl ⟨i, rfl, q H2 e2⟩
theorem ev_intB {b : Bool} (h : Ev ta σ H (.bl b)) : Ev (tCB (fun xs H Q => (∃ i, xs = [.int i] ∧ Q (.int i) H) ∨ ∃ k, xs = [.bl k] ∧ Q (.int (if k then 1 else 0)) H) (tCons ta tNil)) σ H (.int (if b then 1 else 0)) :=
  fun H1 e Q q => h H1 e _ fun H2 e2 => .inr ⟨b, rfl, q H2 e2⟩
theorem ev_abs {i : Int} (h : Ev ta σ H (.int i)) : Ev (tCB (fun xs H Q => ∃ i, xs = [.int i] ∧ Q (.int (if i < 0 then -i else i)) H) (tCons ta tNil)) σ H (.int (if i < 0 then -i else i)) :=
  fun H1 e Q q => h H1 e _ fun H2 e2 => ⟨i, rfl, q H2 e2⟩
theorem ev_min2 {i j : Int} (ha : Ev ta σ H (.int i)) (hb : Ev tb σ H (.int j)) : Ev (tCB (fun xs H Q => ∃ i j, xs = [.int i, .int j] ∧ Q (.int (if j < i then j else i)) H) (tCons ta (tCons tb tNil))) σ H (.int (if j < i then j else i)) := fun H1 e Q q =>
  ha H1 e _ fun H2 e2 => hb H2 (e.trans e2) _ fun H3 e3 => ⟨i, j, rfl, q H3 (e2.trans e3)⟩
theorem ev_lenS {s : Str} (h : Ev ta σ H (.str s)) (hz : s.length ≤ 100000) : Ev (tCB (fun xs H Q => ∃ z, xs = [.str z] ∧ z.length ≤ sizeLine ∧ Q (.int z.length) H) (tCons ta tNil)) σ H (.int s.length) :=
  fun H1 e Q q => h H1 e _ fun H2 e2 => ⟨s, rfl, sz_of hz, q H2 e2⟩
/-- isinstance(x, T) of a plain value -/
def tyOf : V → String
  | .non => "NoneType"
  | .bl _ => "bool"
  | .int _ => "int"
  | .str _ => "str"
  | .byt _ => "bytes"
  | .flt _ => "float"
  | _ => "?"
def isTy (x : V) (T : String) : Bool := ((kitB (tyOf x) T).getD false)
theorem ev_isi {T : String} {tn : String} {b : Bool} (ha : Ev ta σ H x) (ht : ∀ H1, TyX K H1 x (.type tn)) (hk : kitB tn T = some b) : Ev (tCB (rIsi K) (tCons ta (tCons (tC (.ty T)) tNil))) σ H (.bl b) :=
  fun H1 e Q q => ha H1 e _ fun H2 e2 => ⟨x, .ty T, .type tn, .type T, b, rfl, .ty T, ht H2, kit_ty hk, q H2 e2⟩
theorem tx_int (i : Int) (H1 : Hp) : TyX K H1 (.int i) (.type "int") := .base (.int i)
theorem tx_bl (i : Bool) (H1 : Hp) : TyX K H1 (.bl i) (.type "bool") := .base (.bl i)
theorem tx_str (i : Str) (H1 : Hp) : TyX K H1 (.str i) (.type "str") := .base (.str i)
theorem tx_non (H1 : Hp) : TyX K H1 .non (.type "NoneType") := .base .non
section
variable {D : Ends} {tz : TS}
/-- if c: x = e, an int: told by the value x has behind it -/
theorem q_ifI {b : Bool} {i : Nat} {p q : Int} (h : EvT t σ H b) (h1 : b = true → Ev te σ H (.int p)) (h0 : σ[i]? = some (some (.int q))) (k : ∀ H1, Ex H H1 → tz D (σ.set i (some (.int (if b = true then p else q)))) H1) : tSeq (tIfS t (tAsg te (gName i)) tNext) tz D σ H := by
  refine q_ifAsg h (fun hb => ?_) (fun hb => ?_) k
  · rw [if_pos hb]
    exact h1 hb
  · rw [hb]
    show σ.set i (some (V.int q)) = σ
    apply List.ext_getElem?
    intro j
    rw [List.getElem?_set]
    split
    · rename_i e
      subst e
      rw [h0]
      have := (List.getElem?_eq_some_iff.mp h0).1
      rw [if_pos this]
    · rfl
end
/-- a promise of one value, all else as it was -/
theorem spv {sp : Sp} {vs : List V} (h : ∀ H1, Ex H H1 → ∀ Q : VK, (∀ H2, Ex H1 H2 → Q z H2) → ∀ E : XK, sp vs H1 Q E) : SpV sp vs H z := h
end
local macro_rules | `(tactic| walk_at "side") => `(tactic| first
  | exact .inr ⟨by decide, by decide⟩
  | exact .inl ⟨by decide, by decide⟩
  | exact .inl ⟨by omega, by omega⟩
  | exact .inr ⟨by omega, by omega⟩
  | exact ⟨by decide, by decide⟩
  | exact ⟨by omega, by omega⟩
  | decide
  | (show (_ : Int) < _; omega)
  | omega)
local macro_rules | `(tactic| walk_at "rv") => `(tactic| first
  | exact rv_I0
  | ((refine' rv_I ?k1); (case k1 => walk_at "side"))
  | exact rv_isT
  | exact rv_notT
  | exact rv_isN
  | exact rv_notN
  | exact rv_eq rfl
  | exact rv_ne rfl)
local macro_rules | `(tactic| walk_at "sq") => `(tactic| first | assumption | exact ex_l (by assumption) (by assumption) | exact sq_of (by assumption))
/-- what a part gives, read off its form -/
local macro_rules | `(tactic| walk_at "ev") => `(tactic| first
  | exact ev_var rfl
  | exact ev_c
  | ((with_reducible refine' ev_op ?k1 ?k2 ?k3); (case k1 => walk_at "ev"); (case k2 => walk_at "ev"); (case k3 => walk_at "rv"))
  | ((with_reducible refine' ev_un ?k1 ?k2); (case k1 => walk_at "ev"); (case k2 => exact ru_neg))
  | ((with_reducible refine' ev_int ?k1); (case k1 => walk_at "ev"))
  | ((with_reducible refine' ev_abs ?k1); (case k1 => walk_at "ev"))
  | ((with_reducible refine' ev_andV ?k1 ?k2); (case k1 => walk_at "ev"); (case k2 => intro _; walk_at "ev"))
  | ((with_reducible refine' ev_orV ?k1 ?k2); (case k1 => walk_at "ev"); (case k2 => intro _; walk_at "ev"))
  | ((with_reducible refine' ev_notV ?k1); (case k1 => walk_at "ev"))
  | ((refine' ev_len ?k1 ?k2); (case k1 => walk_at "ev"); (case k2 => walk_at "sq")))
local macro_rules | `(tactic| walk_at "et") => `(tactic| first
  | ((with_reducible refine' et_or ?k1 ?k2); (case k1 => walk_at "et"); (case k2 => intro _; walk_at "et"))
  | ((with_reducible refine' et_and ?k1 ?k2); (case k1 => walk_at "et"); (case k2 => intro _; walk_at "et"))
  | ((with_reducible refine' et_not ?k1); (case k1 => walk_at "et"))
  | (refine' et_test ?k1; (case k1 => walk_at "ev"))
  | (refine' et_B ?k1; (case k1 => walk_at "ev")))

/-! ### tuples made, tuples read, data compared -/
def SpU (sp : Sp) (vs : List V) (H : Hp) (xs : List V) : Prop := ∀ H1, Ex H H1 → ∀ Q : VK, (∀ p H2, H1 p = none → Ex H1 H2 → H2 p = some (.tup xs) → Q (.ref p) H2) → ∀ E : XK, sp vs H1 Q E
section
variable {K : PySem.W.Frag} {σ : L2.St} {H H' : Hp} {ta tb te : TE} {x y z v : V}
theorem eu_call {sp : Sp} {dvs vs xs : List V} {E : XK} {ta : TA} (h : EvA ta σ H vs) (hs : SpU sp (vs ++ dvs) H xs) : EvU (tCall sp dvs E ta) σ H xs := fun H1 e Q q =>
  h H1 e _ fun H2 e2 => hs H2 (e.trans e2) Q (fun p H3 hp e3 h3 => q p H3 (fresh_back e2 hp) (e2.trans e3) h3) E
theorem ev_lenT {p : Addr} {xs : List V} (ha : Ev ta σ H (.ref p)) (h : SqT K H p xs) : Ev (tCB (fun xs H Q => ∃ p ys, xs = [.ref p] ∧ (SqL K H p ys ∨ SqT K H p ys) ∧ Q (.int ys.length) H) (tCons ta tNil)) σ H (.int (xs.length : Int)) := fun H1 e Q q =>
  ha H1 e _ fun H2 e2 => ⟨p, xs, rfl, Or.inr (ex_t (e.trans e2) h), q H2 e2⟩
theorem eu_divmod {i j : Int} (ha : Ev ta σ H (.int i)) (hb : Ev tb σ H (.int j)) (hc : CDiv i j) :
    EvU (tCB (fun xs H Q => ∃ i j, xs = [.int i, .int j] ∧ CDiv i j ∧ ∀ p, H p = none → Q (.ref p) (upd H p (.tup [.int (i / j), .int (i % j)]))) (tCons ta (tCons tb tNil))) σ H [.int (i / j), .int (i % j)] := fun H1 e Q q =>
  ha H1 e _ fun H2 e2 => hb H2 (e.trans e2) _ fun H3 e3 => ⟨i, j, rfl, hc, fun p hp => q p _ (fresh_back (e2.trans e3) hp) ((e2.trans e3).trans (Ex.new hp)) upd_same⟩
theorem dp_ints : ∀ ns : List Int, DpAll K H (ns.map V.int) (ns.map PyData.int)
  | [] => .nil
  | n :: r => .cons (.int n) (dp_ints r)
theorem eqv_ints : ∀ ns ms : List Int, PyData.eqv (.tuple (ns.map PyData.int)) (.tuple (ms.map PyData.int)) = decide (ns = ms)
  | [], [] => rfl
  | [], _ :: _ => rfl
  | _ :: _, [] => rfl
  | n :: r, m :: t => by
    have ih := eqv_ints r t
    show ((n == m) && PyData.eqv (.tuple (r.map PyData.int)) (.tuple (t.map PyData.int))) = _
    rw [ih, Bool.eq_iff_iff, Bool.and_eq_true, decide_eq_true_eq, decide_eq_true_eq, beq_iff_eq, List.cons.injEq]
theorem dp_tup {p : Addr} {ns : List Int} (h : SqT K H p (ns.map V.int)) : Dp K H (.ref p) (.tuple (ns.map PyData.int)) := .tup h (dp_ints ns)
def shI (n : Nat) : Bool := SeqAt.shaped (.tuple ((List.replicate n 0).map PyData.int))
theorem rv_neT {p q : Addr} {ns ms : List Int} (hp : SqT K H p (ns.map V.int)) (hq : SqT K H q (ms.map V.int)) (s1 : SeqAt.shaped (.tuple (ns.map PyData.int)) = true) (s2 : SeqAt.shaped (.tuple (ms.map PyData.int)) = true) : RV (rNeD K) (.ref p) (.ref q) H (.bl (!decide (ns = ms))) := fun H1 e Q k =>
  ⟨_, _, dp_tup (ex_t e hp), dp_tup (ex_t e hq), s1, s2, by rw [eqv_ints]; exact k H1 (Ex.refl H1)⟩
theorem tx_tup {a : Addr} {xs : List V} (h : H a = some (.tup xs)) : ∀ H1, Ex H H1 → TyX K H1 (.ref a) (.type "tuple") := fun H1 e => .base (.tup (e _ _ h))
theorem ev_isi' {T : String} {tn : String} {b : Bool} (ha : Ev ta σ H x) (ht : ∀ H1, Ex H H1 → TyX K H1 x (.type tn)) (hk : kitB tn T = some b) : Ev (tCB (rIsi K) (tCons ta (tCons (tC (.ty T)) tNil))) σ H (.bl b) :=
  fun H1 e Q q => ha H1 e _ fun H2 e2 => ⟨x, .ty T, .type tn, .type T, b, rfl, .ty T, ht H2 (e.trans e2), kit_ty hk, q H2 e2⟩
theorem ev_chain {r r' : R2} {tc : TE} {b c : Bool} (ha : Ev ta σ H x) (hb : Ev tb σ H y) (hr : RV r x y H (.bl b)) (hc : b = true → Ev tc σ H z) (hr' : b = true → RV r' y z H (.bl c)) : Ev (tChain r r' ta tb tc) σ H (.bl (b && c)) := fun H1 e Q q =>
  ha H1 e _ fun H2 e2 => hb H2 (e.trans e2) _ fun H3 e3 => hr H3 ((e.trans e2).trans e3) _ fun H4 e4 => ⟨b, rfl, by
    cases b with
    | true =>
      show tc σ H4 fun w' H5 => r' y w' H5 Q
      exact hc rfl H4 (((e.trans e2).trans e3).trans e4) _ fun H5 e5 => hr' rfl H5 ((((e.trans e2).trans e3).trans e4).trans e5) Q fun H6 e6 => q H6 ((((e2.trans e3).trans e4).trans e5).trans e6)
    | false =>
      show Q (.bl false) H4
      exact q H4 ((e2.trans e3).trans e4)⟩
/-- a, b = (..): a new tuple unpacked into names -/
theorem gt2 {p : Addr} {i j : Nat} (h : SqT K H p [x, y]) {Q : L2.St → Hp → Prop} (k : Q ((σ.set i (some x)).set j (some y)) H) : gTup K 2 (gCons (gName i) (gCons (gName j) gNil)) (.ref p) σ H Q :=
  ⟨p, [x, y], rfl, h, rfl, x, [y], rfl, y, [], rfl, rfl, k⟩
theorem gt3 {p : Addr} {i j l : Nat} (h : SqT K H p [x, y, z]) {Q : L2.St → Hp → Prop} (k : Q (((σ.set i (some x)).set j (some y)).set l (some z)) H) : gTup K 3 (gCons (gName i) (gCons (gName j) (gCons (gName l) gNil))) (.ref p) σ H Q :=
  ⟨p, [x, y, z], rfl, h, rfl, x, [y, z], rfl, y, [z], rfl, z, [], rfl, rfl, k⟩
end
theorem hu64 {A : Around} {k : Nat} (hr : Room k A) : A.units + 64 < cLine := by
  have := hr.un
  omega
section
variable {K : PySem.W.Frag} {σ : L2.St} {H : Hp} {te : TE} {D : Ends} {tz : TS} {g : TG} {xs : List V}
theorem q_asgG (h : EvU te σ H xs) (k : ∀ p H1, H p = none → Ex H H1 → H1 p = some (.tup xs) → g (.ref p) σ H1 (tz D)) : tSeq (tAsg te g) tz D σ H := h H (Ex.refl H) _ fun p H1 hp e h1 => k p H1 hp e h1
theorem q_asgV {v : V} (h : Ev te σ H v) (k : ∀ H1, Ex H H1 → g v σ H1 (tz D)) : tSeq (tAsg te g) tz D σ H := h H (Ex.refl H) _ fun H1 e => k H1 e
end
/-! ### plain values and their types -/
inductive Pl : V → Prop where
  | non : Pl .non
  | bl (b : Bool) : Pl (.bl b)
  | int (i : Int) : Pl (.int i)
  | str (s : Str) : Pl (.str s)
def tyN : V → String
  | .bl _ => "bool"
  | .int _ => "int"
  | .str _ => "str"
  | _ => "NoneType"
def isInt : V → Bool
  | .int _ => true
  | _ => false
theorem tx_pl {K : PySem.W.Frag} {x : V} (h : Pl x) (H1 : Hp) : TyX K H1 x (.type (tyN x)) := by
  cases h with
  | non => exact .base .non
  | bl b => exact .base (.bl b)
  | int i => exact .base (.int i)
  | str s => exact .base (.str s)
theorem ev_isiP {K : PySem.W.Frag} {σ : L2.St} {H : Hp} {ta : TE} {x : V} {T : String} {b : Bool} (ha : Ev ta σ H x) (hx : Pl x) (hk : kitB (tyN x) T = some b) : Ev (tCB (rIsi K) (tCons ta (tCons (tC (.ty T)) tNil))) σ H (.bl b) :=
  ev_isi ha (tx_pl hx) hk
/-- isinstance(x, int) and not isinstance(x, bool) -/
theorem ev_isInt {K : PySem.W.Frag} {σ : L2.St} {H : Hp} {ta tb : TE} {x : V} (ha : Ev ta σ H x) (hb : Ev tb σ H x) (hx : Pl x) :
    Ev (tAndV (tCB (rIsi K) (tCons ta (tCons (tC (.ty "int")) tNil))) (tNotV (tCB (rIsi K) (tCons tb (tCons (tC (.ty "bool")) tNil))))) σ H (.bl (isInt x)) := by
  cases hx with
  | non => exact ev_is (ev_andV (ev_isiP (b := false) ha .non (by decide +kernel)) fun z => nomatch z) (show V.bl (false && true) = _ from rfl)
  | bl b => exact ev_is (ev_andV (ev_isiP (b := true) ha (.bl b) (by show kitB "bool" "int" = some true; decide +kernel)) fun _ => ev_notV (ev_isiP (b := true) hb (.bl b) (by show kitB "bool" "bool" = some true; decide +kernel))) rfl
  | int i => exact ev_is (ev_andV (ev_isiP (b := true) ha (.int i) (by show kitB "int" "int" = some true; decide +kernel)) fun _ => ev_notV (ev_isiP (b := false) hb (.int i) (by show kitB "int" "bool" = some false; decide +kernel))) rfl
  | str s => exact ev_is (ev_andV (ev_isiP (b := false) ha (.str s) (by show kitB "str" "int" = some false; decide +kernel)) fun z => nomatch z) (show V.bl (false && true) = _ from rfl)

/-! ### the order of tuples that need not be alike behind the first difference -/
section
open PySem.SeqAt PySem.MeetsSeq PySem.MeetsSeq2 PySem.MeetsSeq3
open PySem.AutoSeq1 (wpAny_loadPart')
/-- pairs walked from the left: the first that differ decide; z where none do -/
inductive Lx (A : Around) (s : Shared) (z : Bool) : List (Value × Value) → Bool → Prop
  | nil : Lx A s z [] z
  | eq {y x : Value} {ps : List (Value × Value)} {c : Bool} : EqAt A s y x true → Lx A s z ps c → Lx A s z ((y, x) :: ps) c
  | lt {y x : Value} {ps : List (Value × Value)} {c : Bool} : EqAt A s y x false → Ob.RcOp .Lt A s y x c → Lx A s z ((y, x) :: ps) c
theorem lt_meets (l b : Addr) (us vs : Array Value) (n m : Nat) (dl db : Option Addr) (sl sb : Array (Option Value)) :
    Meets (Builtin.«tuple.__lt__» ⟨[.ref l, .ref b], []⟩)
      (fun A R s => s.heap.get? l = some { cls := .type "tuple", dict := dl, data := .seq us n, slots := sl } ∧ s.heap.get? b = some { cls := .type "tuple", dict := db, data := .seq vs m, slots := sb } ∧
        ∃ c, Lx A.in1 s (decide (us.size < vs.size)) (us.toList.zip vs.toList) c ∧ R (.ok (.ret (.bool c))) s) := by
  refine .of_wp fun prog w A R s h => ?_
  obtain ⟨hp, g, d, tk, os⟩ := s
  obtain ⟨hl, hb, c, hx, h⟩ := h
  have f2 := AutoSeq1.sub_tuple_tuple
  wp_walk using wpAny_loadPart' hl, wpAny_loadPart' hb, wpAny_forIn_list _ (fun ps b s' => b.1 = none ∧ s' = ⟨hp, g, d, tk, os⟩ ∧ ∃ c, Lx A.in1 ⟨hp, g, d, tk, os⟩ (decide (us.size < vs.size)) ps c ∧ R (.ok (.ret (.bool c))) ⟨hp, g, d, tk, os⟩) _
  case turn =>
    rintro ⟨y, x⟩ ps b s' ⟨hb', rfl, c, hz, hR⟩
    cases hz with
    | eq he ht =>
      refine wpAny_bind (he prog w _ _ ?_)
      wp_walk
      exact ⟨rfl, rfl, c, ht, hR⟩
    | lt he hr =>
      refine wpAny_bind (he prog w _ _ ?_)
      have hri := hr prog w
      wp_walk using hri
      exact ⟨_, rfl, hR⟩
  case fin =>
    rintro ⟨b1, b2⟩ s' ⟨hb', rfl, c, hz, hR⟩
    simp only at hb'
    subst hb'
    cases hz
    wp_walk
    exact ⟨_, rfl, by simpa [Builtin.Tuple.tupleCompareSizes] using hR⟩
  case h => exact ⟨rfl, rfl, c, hx, h⟩
theorem lt_tuples {A : Around} {s : Shared} {l b : Addr} {us vs : Array Value} {c : Bool} (hl : s.heap.IsTuple l us) (hb : s.heap.IsTuple b vs) (hu : A.units < cLine) (hx : Lx A.in1 s (decide (us.size < vs.size)) (us.toList.zip vs.toList) c) :
    Ob.RcOp .Lt A s (.ref l) (.ref b) c := by
  intro prog w E Q h
  obtain ⟨⟨k1, dl, da, sl⟩, ho, hc, n, hd⟩ := hl
  obtain ⟨⟨k2, db, da2, sb⟩, ho2, hc2, m, hd2⟩ := hb
  simp only at hc hd hc2 hd2
  subst hc hd hc2 hd2
  exact richCompare_meets_room (op := .Lt) ⟨_, ho, rfl⟩ ⟨_, ho2, rfl⟩ F.slot_tuple_lt F.entry_tuple_lt (F.args_tuple_lt_2 _ _) (lt_meets l b us vs n m dl db sl sb) ⟨ho, ho2, c, hx, ⟨(fun z => nomatch z), h⟩⟩ hu
end
mutual
/-- less, of data -/
def ltD : PyData → PyData → Bool
  | .int a, .int b => decide (a < b)
  | .str x, .str y => decide (x.cps.toList < y.cps.toList)
  | .tuple xs, .tuple ys => ltDs xs ys
  | _, _ => false
def ltDs : List PyData → List PyData → Bool
  | [], [] => false
  | [], _ :: _ => true
  | _ :: _, [] => false
  | x :: xs, y :: ys => if PyData.eqv x y then ltDs xs ys else ltD x y
end
mutual
/-- may be compared by less -/
def ordD : PyData → PyData → Bool
  | .int _, .int _ => true
  | .str _, .str _ => true
  | .tuple xs, .tuple ys => ordDs xs ys
  | _, _ => false
def ordDs : List PyData → List PyData → Bool
  | [], _ => true
  | _ :: _, [] => true
  | x :: xs, y :: ys => if PyData.eqv x y then ordDs xs ys else ordD x y
end
theorem reads_len {h : Heap} : ∀ {ds : List PyData} {us : List Value} {as : List Addr}, ReadsAll h us ds as → us.length = ds.length
  | [], _, _, r => by cases r; rfl
  | _ :: ds, _, _, r => by
    cases r with
    | cons r1 r2 => exact congrArg (· + 1) (reads_len r2)
theorem lt_list {n : Nat} (IH : ∀ (d e : PyData) (A : Around) (s : Shared) (u v : Value) (as bs : List Addr), d.depth ≤ n → Reads s.heap u d as → Reads s.heap v e bs → d.canLay0 = true → e.canLay0 = true → ordD d e = true →
    A.units + d.depth < cLine → Ob.RcOp .Lt A s u v (ltD d e)) (A : Around) (s : Shared) : ∀ (xs ys : List PyData) (us vs : List Value) (as bs : List Addr), PyData.depthAll xs ≤ n → ReadsAll s.heap us xs as → ReadsAll s.heap vs ys bs →
    PyData.canLayAll0 xs = true → PyData.canLayAll0 ys = true → ordDs xs ys = true → A.units + PyData.depthAll xs < cLine → Lx A s (decide (xs.length < ys.length)) (us.zip vs) (ltDs xs ys) := by
  intro xs
  induction xs with
  | nil =>
    intro ys us vs as bs hn r1 r2 c1 c2 ho hu
    cases r1
    cases ys with
    | nil => exact .nil
    | cons y ys =>
      rw [show decide (([] : List PyData).length < (y :: ys).length) = true from decide_eq_true (Nat.zero_lt_succ _)]
      show Lx A s true [] true
      exact .nil
  | cons x xs ih =>
    intro ys us vs as bs hn r1 r2 c1 c2 ho hu
    cases ys with
    | nil =>
      cases r2
      rw [show decide ((x :: xs).length < ([] : List PyData).length) = false from decide_eq_false (Nat.not_lt_zero _), List.zip_nil_right]
      exact .nil
    | cons y ys =>
      have a1 : x.canLay0 = true ∧ PyData.canLayAll0 xs = true := by simpa [PyData.canLayAll0] using c1
      have a2 : y.canLay0 = true ∧ PyData.canLayAll0 ys = true := by simpa [PyData.canLayAll0] using c2
      have hd : A.units + max x.depth (PyData.depthAll xs) < cLine := hu
      have hn' : max x.depth (PyData.depthAll xs) ≤ n := hn
      rw [show decide ((x :: xs).length < (y :: ys).length) = decide (xs.length < ys.length) by simp]
      cases r1 with
      | cons p1 q1 =>
        cases r2 with
        | cons p2 q2 =>
          have he := PySem.SeqAt.eqAt_reads x y A s _ _ _ _ p1 p2 a1.1 a2.1 (by omega)
          by_cases c : PyData.eqv x y = true
          · have o : ordDs xs ys = true := by rw [ordDs, if_pos c] at ho; exact ho
            rw [show ltDs (x :: xs) (y :: ys) = ltDs xs ys by rw [ltDs, if_pos c]]
            rw [c] at he
            exact .eq he (ih ys _ _ _ _ (by omega) q1 q2 a1.2 a2.2 o (by omega))
          · have o : ordD x y = true := by rw [ordDs, if_neg c] at ho; exact ho
            rw [show ltDs (x :: xs) (y :: ys) = ltD x y by rw [ltDs, if_neg c]]
            rw [Bool.not_eq_true] at c
            rw [c] at he
            exact .lt he (IH x y A s _ _ _ _ (by omega) p1 p2 a1.1 a2.1 o (by omega))
theorem lt_reads : ∀ (n : Nat) (d e : PyData) (A : Around) (s : Shared) (u v : Value) (as bs : List Addr), d.depth ≤ n → Reads s.heap u d as → Reads s.heap v e bs → d.canLay0 = true → e.canLay0 = true → ordD d e = true →
    A.units + d.depth < cLine → Ob.RcOp .Lt A s u v (ltD d e) := by
  intro n
  induction n with
  | zero =>
    intro d e A s u v as bs hn r1 r2 c1 c2 ho hu
    cases r1 with
    | int a t =>
      cases r2 with
      | int b t' => rw [ltD]; exact Ob.RcOp.lt_int _ _ _ _
      | _ => simp [ordD] at ho
    | str a t =>
      cases r2 with
      | str b t' => rw [ltD]; exact fun prog w E Q h => lt_str h
      | _ => simp [ordD] at ho
    | tuple => simp [PyData.depth] at hn
    | _ => simp [ordD] at ho
  | succ n ih =>
    intro d e A s u v as bs hn r1 r2 c1 c2 ho hu
    cases r1 with
    | int a t =>
      cases r2 with
      | int b t' => rw [ltD]; exact Ob.RcOp.lt_int _ _ _ _
      | _ => simp [ordD] at ho
    | str a t =>
      cases r2 with
      | str b t' => rw [ltD]; exact fun prog w E Q h => lt_str h
      | _ => simp [ordD] at ho
    | tuple h1 h2 h3 h4 =>
      cases r2 with
      | tuple k1 k2 k3 k4 =>
        rename_i xs _ _ _ _ _ ys
        simp only [PyData.depth] at hn hu
        have l1 := reads_len h4
        have l2 := reads_len k4
        rw [ltD]
        refine lt_tuples ⟨_, h1, h2, _, h3⟩ ⟨_, k1, k2, _, k3⟩ (by omega) ?_
        rw [← Array.length_toList, ← Array.length_toList, l1, l2]
        exact lt_list ih A.in1 s _ _ _ _ _ _ (by omega) h4 k4 (by simpa [PyData.canLay0] using c1) (by simpa [PyData.canLay0] using c2) (by simpa [ordD] using ho) (by show A.units + 1 + _ < _; omega)
      | _ => simp [ordD] at ho
    | _ => simp [ordD] at ho
def rLtD (K : PySem.W.Frag) : R2 := fun x y H Q => ∃ d e, Dp K H x d ∧ Dp K H y e ∧ d.canLay0 = true ∧ e.canLay0 = true ∧ ordD d e = true ∧ d.depth ≤ 60 ∧ Q (.bl (ltD d e)) H
theorem op_ltD {X : Cx} (hu : X.A.units + 64 < cLine) : OpR X (compareOp .Lt) (rLtD X.K) := by
  intro pins s σ H x y v u Q I rx ry h
  obtain ⟨d, e, hd, he, c1, c2, o, dp, q⟩ := h
  obtain ⟨as, r1⟩ := Dp.reads I d x v hd rx
  obtain ⟨bs, r2⟩ := Dp.reads I e y u he ry
  exact lt_reads _ d e X.A s v u as bs (Nat.le_refl _) r1 r2 c1 c2 o (by omega) X.prog X.w _ _ ⟨.bl _, H, I, rfl, q⟩

/-! ### parts that give data -/
section
variable {K : PySem.W.Frag}
mutual
theorem ex_dp {H H' : Hp} (e : Ex H H') : ∀ {v : V} {d : PyData}, Dp K H v d → Dp K H' v d
  | _, _, .non => .non
  | _, _, .bl b => .bl b
  | _, _, .int i => .int i
  | _, _, .str x => .str x
  | _, _, .lst h a => .lst (ex_l e h) (ex_dps e a)
  | _, _, .tup h a => .tup (ex_t e h) (ex_dps e a)
theorem ex_dps {H H' : Hp} (e : Ex H H') : ∀ {vs : List V} {ds : List PyData}, DpAll K H vs ds → DpAll K H' vs ds
  | _, _, .nil => .nil
  | _, _, .cons h t => .cons (ex_dp e h) (ex_dps e t)
end
def EvD (K : PySem.W.Frag) (te : TE) (σ : L2.St) (H : Hp) (d : PyData) : Prop := ∀ H1, Ex H H1 → ∀ Q : VK, (∀ v H2, Ex H1 H2 → Dp K H2 v d → Q v H2) → te σ H1 Q
/-- a new list, a new tuple of data -/
def EvLD (K : PySem.W.Frag) (te : TE) (σ : L2.St) (H : Hp) (ds : List PyData) : Prop := ∀ H1, Ex H H1 → ∀ Q : VK, (∀ p H2 ys, H1 p = none → Ex H1 H2 → H2 p = some (.lst ys) → DpAll K H2 ys ds → Q (.ref p) H2) → te σ H1 Q
def EvUD (K : PySem.W.Frag) (te : TE) (σ : L2.St) (H : Hp) (ds : List PyData) : Prop := ∀ H1, Ex H H1 → ∀ Q : VK, (∀ p H2 ys, H1 p = none → Ex H1 H2 → H2 p = some (.tup ys) → DpAll K H2 ys ds → Q (.ref p) H2) → te σ H1 Q
def EvAD (K : PySem.W.Frag) (ta : TA) (σ : L2.St) (H : Hp) (ds : List PyData) : Prop := ∀ H1, Ex H H1 → ∀ Q : List V → Hp → Prop, (∀ vs H2, Ex H1 H2 → DpAll K H2 vs ds → Q vs H2) → ta σ H1 Q
variable {σ : L2.St} {H H' : Hp} {ta tb te : TE} {tr : TA} {x y z v : V} {d e : PyData} {ds es : List PyData}
theorem ed_val (h : Ev te σ H v) (hd : Dp K H v d) : EvD K te σ H d := fun H1 e Q q => h H1 e _ fun H2 e2 => q v H2 e2 (ex_dp (e.trans e2) hd)
theorem ed_tupU (h : EvUD K te σ H ds) : EvD K te σ H (.tuple ds) := fun H1 e Q q => h H1 e _ fun p H2 ys _ e2 h2 hd => q _ H2 e2 (.tup (st_of h2) hd)
theorem ed_lst (h : EvLD K te σ H ds) : EvD K te σ H (.list ds) := fun H1 e Q q => h H1 e _ fun p H2 ys _ e2 h2 hd => q _ H2 e2 (.lst (sq_of h2) hd)
theorem ad_nil : EvAD K tNil σ H [] := fun H1 _ _ q => q [] H1 (Ex.refl H1) .nil
theorem ad_cons (h : EvD K te σ H d) (hr : EvAD K tr σ H ds) : EvAD K (tCons te tr) σ H (d :: ds) := fun H1 e Q q =>
  h H1 e _ fun v H2 e2 hd => hr H2 (e.trans e2) _ fun vs H3 e3 hds => q (v :: vs) H3 (e2.trans e3) (.cons (ex_dp e3 hd) hds)
theorem dps_len : ∀ {vs : List V} {ds : List PyData} {H : Hp}, DpAll K H vs ds → vs.length = ds.length
  | _, _, _, .nil => rfl
  | _, _, _, .cons _ t => congrArg (· + 1) (dps_len t)
theorem ud_tup (h : EvAD K tr σ H ds) (hl : ds.length ≤ 100000) : EvUD K (tTup tr) σ H ds := fun H1 e Q q =>
  h H1 e _ fun vs H2 e2 hd => ⟨sz_of (by rw [dps_len hd]; exact hl), fun p hp => q p _ vs (fresh_back e2 hp) (e2.trans (Ex.new hp)) upd_same (ex_dps (Ex.new hp) hd)⟩
theorem ld_lst (h : EvAD K tr σ H ds) (hl : ds.length ≤ 100000) : EvLD K (tLst tr) σ H ds := fun H1 e Q q =>
  h H1 e _ fun vs H2 e2 hd => ⟨sz_of (by rw [dps_len hd]; exact hl), fun p hp => q p _ vs (fresh_back e2 hp) (e2.trans (Ex.new hp)) upd_same (ex_dps (Ex.new hp) hd)⟩
def SpD (K : PySem.W.Frag) (sp : Sp) (vs : List V) (H : Hp) (d : PyData) : Prop := ∀ H1, Ex H H1 → ∀ Q : VK, (∀ v H2, Ex H1 H2 → Dp K H2 v d → Q v H2) → ∀ E : XK, sp vs H1 Q E
def SpUD (K : PySem.W.Frag) (sp : Sp) (vs : List V) (H : Hp) (ds : List PyData) : Prop := ∀ H1, Ex H H1 → ∀ Q : VK, (∀ p H2 ys, H1 p = none → Ex H1 H2 → H2 p = some (.tup ys) → DpAll K H2 ys ds → Q (.ref p) H2) → ∀ E : XK, sp vs H1 Q E
theorem ud_call {sp : Sp} {dvs vs : List V} {E : XK} {ta : TA} (h : EvA ta σ H vs) (hs : SpUD K sp (vs ++ dvs) H ds) : EvUD K (tCall sp dvs E ta) σ H ds := fun H1 e Q q =>
  h H1 e _ fun H2 e2 => hs H2 (e.trans e2) Q (fun p H3 ys hp e3 h3 hd => q p H3 ys (fresh_back e2 hp) (e2.trans e3) h3 hd) E
/-- == , != , < of data -/
theorem ev_eqD (ha : EvD K ta σ H d) (hb : EvD K tb σ H e) (s1 : SeqAt.shaped d = true) (s2 : SeqAt.shaped e = true) : Ev (tOp (rEqD K) ta tb) σ H (.bl (PyData.eqv d e)) := fun H1 ex Q q =>
  ha H1 ex _ fun x H2 e2 h2 => hb H2 (ex.trans e2) _ fun y H3 e3 h3 => ⟨d, e, ex_dp e3 h2, h3, s1, s2, q H3 (e2.trans e3)⟩
theorem ev_neD (ha : EvD K ta σ H d) (hb : EvD K tb σ H e) (s1 : SeqAt.shaped d = true) (s2 : SeqAt.shaped e = true) : Ev (tOp (rNeD K) ta tb) σ H (.bl (!PyData.eqv d e)) := fun H1 ex Q q =>
  ha H1 ex _ fun x H2 e2 h2 => hb H2 (ex.trans e2) _ fun y H3 e3 h3 => ⟨d, e, ex_dp e3 h2, h3, s1, s2, q H3 (e2.trans e3)⟩
theorem ev_ltD (ha : EvD K ta σ H d) (hb : EvD K tb σ H e) (s1 : SeqAt.shaped d = true) (s2 : SeqAt.shaped e = true) (o : ordD d e = true) (dp : d.depth ≤ 60) : Ev (tOp (rLtD K) ta tb) σ H (.bl (ltD d e)) := fun H1 ex Q q =>
  ha H1 ex _ fun x H2 e2 h2 => hb H2 (ex.trans e2) _ fun y H3 e3 h3 => ⟨d, e, ex_dp e3 h2, h3, SeqAt.canLay_of_shaped s1, SeqAt.canLay_of_shaped s2, o, dp, q H3 (e2.trans e3)⟩
/-- tuple(a new list) -/
theorem ud_tuple {tl : TE} (h : EvLD K tl σ H ds) : EvUD K (tCB (fun xs H Q => ∃ p ys, xs = [.ref p] ∧ ((SqL K H p ys ∧ ∀ l, H l = none → Q (.ref l) (upd H l (.tup ys))) ∨ (SqT K H p ys ∧ Q (.ref p) H))) (tCons tl tNil)) σ H ds := fun H1 e Q q =>
  h H1 e _ fun p H2 ys _ e2 h2 hd => ⟨p, ys, rfl, .inl ⟨sq_of h2, fun l hl => q l _ ys (fresh_back e2 hl) (e2.trans (Ex.new hl)) upd_same (ex_dps (Ex.new hl) hd)⟩⟩
mutual
/-- no list within -/
def noL : PyData → Bool
  | .list _ => false
  | .tuple xs => noLs xs
  | .dict _ => false
  | .none | .bool _ | .int _ | .str _ => true
def noLs : List PyData → Bool
  | [] => true
  | x :: xs => noL x && noLs xs
end
mutual
theorem dp_upd {H : Hp} {D : Addr} {ys zs : List V} (hD : H D = some (.lst ys)) : ∀ {v : V} {d : PyData}, noL d = true → Dp K H v d → Dp K (upd H D (.lst zs)) v d
  | _, _, _, .non => .non
  | _, _, _, .bl b => .bl b
  | _, _, _, .int i => .int i
  | _, _, _, .str x => .str x
  | _, _, n, .lst h a => by simp [noL] at n
  | _, _, n, .tup h a => by
    refine .tup ?_ (dps_upd hD (by simpa [noL] using n) a)
    rcases h with (h | ⟨o, h⟩) | h
    · exact .inl (.inl (by rw [upd_ne (by intro z; rw [z, hD] at h; cases h)]; exact h))
    · exact .inl (.inr ⟨o, by rw [upd_ne (by intro z; rw [z, hD] at h; cases h)]; exact h⟩)
    · exact .inr h
theorem dps_upd {H : Hp} {D : Addr} {ys zs : List V} (hD : H D = some (.lst ys)) : ∀ {vs : List V} {ds : List PyData}, noLs ds = true → DpAll K H vs ds → DpAll K (upd H D (.lst zs)) vs ds
  | _, _, _, .nil => .nil
  | _, _, n, .cons h t => by
    have n' : (noL _ && noLs _) = true := n
    rw [Bool.and_eq_true] at n'
    exact .cons (dp_upd hD n'.1 h) (dps_upd hD n'.2 t)
end
theorem noLs_map {f : Nat → PyData} (h : ∀ i, noL (f i) = true) : ∀ l : List Nat, noLs (l.map f) = true
  | [] => rfl
  | i :: l => by
    show (noL (f i) && noLs (l.map f)) = true
    rw [h i, noLs_map h l]
    rfl
/-- [f(x) for x in xs] -/
theorem dps_snoc : ∀ {vs : List V} {ds : List PyData} {H : Hp} {v : V} {d : PyData}, DpAll K H vs ds → Dp K H v d → DpAll K H (vs ++ [v]) (ds ++ [d])
  | _, _, _, _, _, .nil, h => .cons h .nil
  | _, _, _, _, _, .cons a t, h => .cons a (dps_snoc t h)
theorem ld_lcL {a : Addr} {xs : List V} {tl : TE} {j : Nat} {vs : List Nat} (f : Nat → PyData) (h : Ev tl σ H (.ref a)) (hx : SqL K H a xs) (hz : xs.length ≤ 40000) (hn : ∀ i, noL (f i) = true) (hw : ∀ x, wipe ((wipe σ vs).set j (some x)) vs = wipe σ vs)
    (he : ∀ (i : Nat) (x : V) H1, Ex H H1 → xs[i]? = some x → EvD K te ((wipe σ vs).set j (some x)) H1 (f i)) :
    EvLD K (tLc (iList K tl) (gName j) tYes te vs) σ H ((List.range xs.length).map f) := fun H0 e0 Q q => h H0 e0 _ fun H1 e1 => ⟨a, rfl, ⟨xs, ex_l (e0.trans e1) hx⟩, fun D hD =>
  lc_list (xs := xs) (fun i H' => H1 D = none ∧ Ex H1 H' ∧ ∃ ys, H' D = some (.lst ys) ∧ DpAll K H' ys ((List.range i).map f)) ⟨hD, Ex.new hD, [], upd_same, .nil⟩ (fun i H' _ p => ex_l ((e0.trans e1).trans p.2.1) hx)
    (fun i x H' hi p => by
      obtain ⟨p1, p2, ys, p3, p4⟩ := p
      refine ⟨hw x, ?_⟩
      show te ((wipe σ vs).set j (some x)) H' fun y H4 => ∃ acc, H4 D = some (.lst acc) ∧ acc.length < sizeLine ∧ _
      refine he i x H' ((e0.trans e1).trans p2) hi H' (Ex.refl H') _ fun y H4 e4 hy => ⟨ys, e4 _ _ p3, sz_lt ?_, p1, Ex.mut (p2.trans e4) p1, ys ++ [y], upd_same, ?_⟩
      · have := dps_len p4
        rw [List.length_map, List.length_range] at this
        have := (List.getElem?_eq_some_iff.mp hi).1
        omega
      · rw [List.range_succ, List.map_append]
        exact dps_snoc (dps_upd (e4 _ _ p3) (noLs_map hn _) (ex_dps e4 p4)) (dp_upd (e4 _ _ p3) (hn i) hy))
    (fun H' p => by
      obtain ⟨p1, p2, ys, p3, p4⟩ := p
      exact q D H' ys (fresh_back e1 p1) (e1.trans p2) p3 p4)⟩
end

/-! ### a call of a local that holds a def -/
def tCallH (P : Program) (w : World) (K : PySem.W.Frag) (mg : Str → Option Value) (base : Heap) (i k : Nat) (t : TA) : TE := fun σ H Q => ∃ f sp, σ[i]? = some (some (.ref f)) ∧ L2.Held P w K mg base k f sp ∧ t σ H fun vs H1 => sp vs H1 Q (fun _ _ _ => False)
theorem pe_callH {X : Cx} {x : Str} {p pos : Pos} {e : Expr} {es : List Expr} {t : TA} {i k : Nat} (hr : Room k X.A) (hN : X.N[i]? = some x) (hv : Vis X.env.scope x) (ha : PA X (e :: es) t)
    (hdb : (x == ("__debug__" : Str)) = false := by decide) (hcd : (x == ("__classdict__" : Str)) = false := by decide)
    (he : starEach (e :: es) X.env = (false, eval e X.env) :: starEach es X.env := by rfl) (hpl : (backTo pos (starEach es X.env)).any (·.1) = false := by rfl) : PE X (.Call (.Name x p) (e :: es) [] pos) (tCallH X.prog X.w X.K X.mg X.base i k t) := by
  refine ⟨fun pins s σ H Q I h => ?_⟩
  obtain ⟨f, sp, hs, hH, ht⟩ := h
  refine (L2.pe_callA (S := fun g => if g = f then some sp else none) (fun g sq z => ?_) hr hN hv ha hdb hcd he hpl).run pins s σ H Q I ⟨f, sp, hs, if_pos rfl, ht⟩
  by_cases e : g = f
  · rw [if_pos e] at z
    cases z
    rw [e]
    exact hH
  · rw [if_neg e] at z
    cases z
theorem held_of {P : Program} {w : World} {K : PySem.W.Frag} {mg : Str → Option Value} {base : Heap} {j k : Nat} {x : Str} {sp : Sp} {f : Addr} (c : C8.Cal P w K mg base j x sp []) (m : mg x = some (.ref f)) (h : j ≤ k) : L2.Held P w K mg base k f sp := by
  obtain ⟨f', fd, ps, ds, F, hm, kp, b, v⟩ := c.ex
  rw [m] at hm
  cases hm
  cases v
  exact ⟨fd, ps, F.mono h, kp, b⟩
/-- a def of two values that gives a value -/
def spBin (pre : V → V → Prop) (op : V → V → V) : Sp := fun vs H Q _ => ∃ x y : V, vs = [x, y] ∧ pre x y ∧ ∀ H', Ex H H' → Q (op x y) H'
theorem ec_held {P : Program} {w : World} {K : PySem.W.Frag} {mg : Str → Option Value} {base : Heap} {i k : Nat} {σ : L2.St} {H : Hp} {ta tb : TE} {f : Addr} {pre : V → V → Prop} {op : V → V → V} {x y : V} (hσ : σ[i]? = some (some (.ref f))) (h : L2.Held P w K mg base k f (spBin pre op)) (hp : pre x y) (ha : Ev ta σ H x) (hb : Ev tb σ H y) :
    Ev (tCallH P w K mg base i k (tCons ta (tCons tb tNil))) σ H (op x y) := fun H1 e Q q => ⟨f, _, hσ, h, ha H1 e _ fun H2 e2 => hb H2 (e.trans e2) _ fun H3 e3 => ⟨x, y, rfl, hp, fun H' e' => q H' ((e2.trans e3).trans e')⟩⟩

/-! ### classes of the program -/
def clsAt (K : PySem.W.Frag) (x : Str) : Addr := match PySem.W.nsIn K mainGlobals x with
  | some (some (.ref a)) => a
  | _ => 0
def NoAts (K : PySem.W.Frag) (C : Addr) : List Str → Prop
  | [] => True
  | f :: r => NoAttr K C f ∧ NoAts K C r
/-- a class by its name: plain, and none of these names stands in it -/
structure ClsD (K : PySem.W.Frag) (mg : Str → Option Value) (x : Str) (fs : List Str) : Prop where
  cl : Cls K (clsAt K x)
  at_ : mg x = some (.ref (clsAt K x))
  mks : PySem.W.makesIn K (clsAt K x) = true
  kc : PySem.W.keepIn K (.ref (clsAt K x)) = true
  na : NoAts K (clsAt K x) fs
/-- a method's def -/
def MetD (K : PySem.W.Frag) (x m qual : Str) (st : Stmt) (ps : List Str) : Prop := ∃ f fd, Meth K (clsAt K x) m f ∧ C8.Fun K m qual st f fd ∧ Binds K fd ps []
/-- a property's getter -/
def PrpD (K : PySem.W.Frag) (x m qual : Str) (st : Stmt) (ps : List Str) : Prop := ∃ p f fd, PropOf K (clsAt K x) m p f ∧ C8.Fun K m qual st f fd ∧ Binds K fd ps []
def Prp (P : Program) (w : World) (K : PySem.W.Frag) (mg : Str → Option Value) (base : Heap) (k : Nat) (C : Addr) (m : Str) (sp : Sp) : Prop := ∃ p f fd ps, Cls K C ∧ PropOf K C m p f ∧ FnOk P w K mg base C8.CX0 k f fd ps sp ∧ Binds K fd ps []
section
variable {P : Program} {w : World} {K : PySem.W.Frag} {mg : Str → Option Value} {base : Heap} {x m qual : Str} {st : Stmt} {ps N fs : List Str} {k : Nat} {sp : Sp}
theorem clsD_mk {C : Addr} (h : PySem.W.nsIn K mainGlobals x = some (some (.ref C))) (hm : mg x = some (.ref C)) (pg : PySem.W.plainGet K C Str.empty = true) (hd : PySem.W.hasDictIn K C = true) (po : PySem.W.plainOver K C = true) (sa : PySem.W.findIn K (.ref C) "__setattr__" = some (some (.builtin "object.__setattr__"))) (mk : PySem.W.makesIn K C = true) (kc : PySem.W.keepIn K (.ref C) = true) (na : NoAts K C fs) : ClsD K mg x fs := by
  have e : clsAt K x = C := by unfold clsAt; rw [h]
  exact ⟨by rw [e]; exact ⟨pg, hd, po, sa⟩, by rw [e]; exact hm, by rw [e]; exact mk, by rw [e]; exact kc, by rw [e]; exact na⟩
theorem metD_mk {C f : Addr} {fd : FuncData} (h : PySem.W.nsIn K mainGlobals x = some (some (.ref C))) (a : PySem.W.findIn K (.ref C) m = some (some (.ref f))) (i : PySem.W.isFn K (.ref f) = true) (kp : PySem.W.keepIn K (.ref f) = true) (F : C8.Fun K m qual st f fd) (b : Binds K fd ps []) : MetD K x m qual st ps := by
  have e : clsAt K x = C := by unfold clsAt; rw [h]
  exact ⟨f, fd, by rw [e]; exact ⟨a, i, kp⟩, F, b⟩
theorem prpD_mk {C p f : Addr} {fd : FuncData} {r : List Value} (h : PySem.W.nsIn K mainGlobals x = some (some (.ref C))) (a : PySem.W.findIn K (.ref C) m = some (some (.ref p))) (g : PySem.W.specialIn K (.ref p) "__get__" = some (some (.builtin "property.__get__"))) (tk : PySem.W.takesIn K (.ref p) = some true) (rc : PySem.W.recIn K p "property" = some (.ref f :: r)) (F : C8.Fun K m qual st f fd) (b : Binds K fd ps []) : PrpD K x m qual st ps := by
  have e : clsAt K x = C := by unfold clsAt; rw [h]
  exact ⟨p, f, fd, by rw [e]; exact ⟨a, g, tk, r, rc⟩, F, b⟩
theorem met_of (C : ClsD K mg x fs) (D : MetD K x m qual st ps) (S : FnScope N ps (C8.fnScope st)) (len : ∀ vs H Q E, sp vs H Q E → vs.length = ps.length)
    (hbody : ∀ (f : Addr) (cdv : Value) (A : Around) (outer : List Env) (s : Shared) (H : Hp) (vs : List V) (Q : VK) (E : XK), Room k (A.deeper (envOfC qual (C8.fnScope st) s.heap.objs.size f cdv)) → sp vs H Q E →
      ∃ t, PSs (cxOf C8.CX0 P w K mg base N qual (C8.fnScope st) f cdv A outer s H E).nox (C8.fnBody st) t ∧ t { nx := fun _ H' => Q .non H', rt := Q } (start N vs) H) : C8.Met P w K mg base (k + 1) (clsAt K x) m sp [] := by
  obtain ⟨f, fd, M, F, b⟩ := D
  exact C8.met0 C.cl M F b S len (hbody f)
theorem prp_of (C : ClsD K mg x fs) (D : PrpD K x m qual st ps) (S : FnScope N ps (C8.fnScope st)) (len : ∀ vs H Q E, sp vs H Q E → vs.length = ps.length)
    (hbody : ∀ (f : Addr) (cdv : Value) (A : Around) (outer : List Env) (s : Shared) (H : Hp) (vs : List V) (Q : VK) (E : XK), Room k (A.deeper (envOfC qual (C8.fnScope st) s.heap.objs.size f cdv)) → sp vs H Q E →
      ∃ t, PSs (cxOf C8.CX0 P w K mg base N qual (C8.fnScope st) f cdv A outer s H E).nox (C8.fnBody st) t ∧ t { nx := fun _ H' => Q .non H', rt := Q } (start N vs) H) : Prp P w K mg base (k + 1) (clsAt K x) m sp := by
  obtain ⟨p, f, fd, M, F, b⟩ := D
  exact ⟨p, f, fd, ps, C.cl, M, C8.fn0 F S len (hbody f), b⟩
theorem mak_of (C : ClsD K mg x fs) (D : MetD K x "__init__" qual st ps) (S : FnScope N ps (C8.fnScope st)) (len : ∀ vs H Q E, sp vs H Q E → vs.length = ps.length)
    (hbody : ∀ (f : Addr) (cdv : Value) (A : Around) (outer : List Env) (s : Shared) (H : Hp) (vs : List V) (Q : VK) (E : XK), Room k (A.deeper (envOfC qual (C8.fnScope st) s.heap.objs.size f cdv)) → sp vs H Q E →
      ∃ t, PSs (cxOf C8.CX0 P w K mg base N qual (C8.fnScope st) f cdv A outer s H E).nox (C8.fnBody st) t ∧ t { nx := fun _ H' => Q .non H', rt := Q } (start N vs) H) : C8.Mak P w K mg base (k + 1) x (clsAt K x) sp [] := by
  obtain ⟨f, fd, M, F, b⟩ := D
  exact C8.mak0 ⟨C.mks, M.at_, M.fn, C.kc⟩ C.at_ F b .nil S len (hbody f)
end
section
variable {X : Cx} {k j : Nat} {C : Addr} {m : Str} {sp : Sp} {e : Expr} {pos : Pos} {ta : TE}
theorem pe_pr (c : Prp X.prog X.w X.K X.mg X.base k C m sp) (hr : Room j X.A) (hk : k + 1 ≤ j) (he : PE X e ta) (hab : attributeBase e m X.env (eval e X.env) = eval e X.env) : PE X (.Attribute e m pos) (tProp C sp [] C8.E0 ta) := by
  obtain ⟨p, f, fd, ps, hc, hp, F, b⟩ := c
  exact pe_prop he hc hp F (hr.mono hk) b .nil C8.pass0 hab
end

/-! ### further loops: reversed(a list), range(n - 1, -1, -1), a new tuple -/
section
variable {K : PySem.W.Frag} {σ : L2.St} {H H' : Hp} {D : Ends} {tz tu : TS} {te tl : TE} {g : TG}
theorem s_break (h : D.bk σ H) : tBreak D σ H := h
theorem q_forRev {a : Addr} {xs : List V} {tr : TA} {j : Nat} (h : EvA tr σ H [.ref a]) (hS : SqL K H a xs) (Pv : Nat → L2.St → Hp → Prop) (h0 : ∀ H1, Ex H H1 → Pv 0 σ H1) (hl : ∀ i σ' H', Pv i σ' H' → SqL K H' a xs)
    (hs : ∀ (i : Nat) x σ' H', i < xs.length → xs[xs.length - 1 - i]? = some x → Pv i σ' H' → tu { D with nx := Pv (i + 1), ct := Pv (i + 1), bk := tz D } (σ'.set j (some x)) H') (hd : ∀ σ' H', Pv xs.length σ' H' → tz D σ' H') : tSeq (tFor (iRev K tr) (gName j) tu) tz D σ H :=
  h H (Ex.refl H) _ fun H1 e => ⟨a, xs, rfl, ex_l e hS, RT.for_Itv (D := { D with nx := tz D }) Pv (h0 H1 e) hl hs hd⟩
theorem s_forDown {tr : TA} {j n : Nat} (h : EvA tr σ H [.int ((n : Int) - 1), .int (-1), .int (-1)]) (hn : n ≤ 100000) (Pv : Nat → L2.St → Hp → Prop) (h0 : ∀ H1, Ex H H1 → Pv 0 σ H1)
    (hs : ∀ (i : Nat) σ' H', i < n → Pv i σ' H' → tu { D with nx := Pv (i + 1), ct := Pv (i + 1), bk := D.nx } (σ'.set j (some (.int (((n - 1 - i : Nat) : Int))))) H') (hd : ∀ σ' H', Pv n σ' H' → D.nx σ' H') : tFor (iRng3 tr) (gName j) tu D σ H := by
  refine h H (Ex.refl H) _ fun H1 e => ⟨(n : Int) - 1, -1, -1, ((n : Int) - 1 - (-1)).toNat, rfl, RgC.neg (by omega) (by omega) (by omega) (by omega), for_rangeC Pv (h0 H1 e) (fun i σ' H' hi p => ?_) fun σ' H' p => hd σ' H' ?_⟩
  · have e0 : (n : Int) - 1 + (i : Nat) * (-1) = ((n - 1 - i : Nat) : Int) := by omega
    show tu { D with nx := Pv (i + 1), ct := Pv (i + 1), bk := D.nx } (σ'.set j (some (.int ((n : Int) - 1 + (i : Nat) * (-1))))) H'
    rw [e0]
    exact hs i σ' H' (by omega) p
  · rw [show ((n : Int) - 1 - (-1)).toNat = n by omega] at p
    exact p
theorem q_forDown {tr : TA} {j n : Nat} (h : EvA tr σ H [.int ((n : Int) - 1), .int (-1), .int (-1)]) (hn : n ≤ 100000) (Pv : Nat → L2.St → Hp → Prop) (h0 : ∀ H1, Ex H H1 → Pv 0 σ H1)
    (hs : ∀ (i : Nat) σ' H', i < n → Pv i σ' H' → tu { D with nx := Pv (i + 1), ct := Pv (i + 1), bk := tz D } (σ'.set j (some (.int (((n - 1 - i : Nat) : Int))))) H') (hd : ∀ σ' H', Pv n σ' H' → tz D σ' H') : tSeq (tFor (iRng3 tr) (gName j) tu) tz D σ H :=
  s_forDown (D := { D with nx := tz D }) h hn Pv h0 hs hd
/-- over a new tuple: the turns' word speaks of what grows out of H1 -/
theorem q_forU {xs : List V} {j : Nat} (h : EvU tl σ H xs) (Pv : Nat → L2.St → Hp → Prop) (h0 : Pv 0 σ H) (hm : ∀ i σ' H1 H2, Pv i σ' H1 → Ex H1 H2 → Pv i σ' H2)
    (hs : ∀ i x σ' H1, xs[i]? = some x → Pv i σ' H1 → ∀ N : L2.St → Hp → Prop, (∀ σ2 H2, Pv (i + 1) σ2 H2 → Ex H1 H2 → N σ2 H2) → tu { D with nx := N, ct := N, bk := tz D } (σ'.set j (some x)) H1) (hd : ∀ σ' H', Pv xs.length σ' H' → tz D σ' H') : tSeq (tFor (iTup K tl) (gName j) tu) tz D σ H :=
  h H (Ex.refl H) _ fun p H1 hp e h1 => ⟨p, rfl, ⟨xs, st_of h1⟩, for_tup (D := { D with nx := tz D }) (fun i σ' H' => Pv i σ' H' ∧ H' p = some (.tup xs)) ⟨hm _ _ _ _ h0 e, h1⟩ (fun i σ' H' _ q => st_of q.2)
    (fun i x σ' H' hx q => hs i x σ' H' hx q.1 _ fun σ2 H2 q2 e2 => ⟨q2, e2 _ _ q.2⟩) fun σ' H' q => hd σ' H' q.1⟩
end

def limV (n : Int) : V := if -1000000000000000 ≤ n ∧ n ≤ 1000000000000000 then .int n else .non
/-! ### the mathematics: digits -/
abbrev dval : List Nat → Nat := NumText.digitsVal
def isD (c : Nat) : Bool := decide (48 ≤ c) && decide (c ≤ 57)
def digs (l : List Nat) : Bool := !l.isEmpty && l.all isD
theorem uni_dig : ∀ c : Fin 128, Unicode.isDigit c.1 = isD c.1 := by decide +kernel
theorem all_dig : ∀ l : List Nat, (l.all Unicode.isDigit && l.all fun c => decide (c < 128)) = l.all isD
  | [] => rfl
  | c :: r => by
    have ih := all_dig r
    rw [List.all_cons, List.all_cons, List.all_cons, ← ih]
    by_cases h : c < 128
    · rw [decide_eq_true h, show Unicode.isDigit c = isD c from uni_dig ⟨c, h⟩]
      cases isD c <;> cases r.all Unicode.isDigit <;> simp
    · have : isD c = false := by
        unfold isD
        rw [decide_eq_false (show ¬ c ≤ 57 by omega), Bool.and_false]
      rw [this, decide_eq_false h]
      simp
theorem digs_txt (l : List Nat) : (Txt.isdigit (SX.S l) && Txt.isascii (SX.S l)) = digs l := by
  unfold Txt.isdigit Txt.isascii digs
  rw [SX.S_len, show (SX.S l).cps.all Unicode.isDigit = l.all Unicode.isDigit from List.all_toArray, show ((SX.S l).cps.all fun c => decide (c < 128)) = l.all fun c => decide (c < 128) from List.all_toArray, Bool.and_assoc, all_dig]
  cases l <;> rfl
theorem mem_dig {l : List Nat} (h : l.all isD = true) : NumText.AllDigits l := fun c hc => by
  have := List.all_eq_true.mp h c hc
  unfold isD at this
  rw [Bool.and_eq_true, decide_eq_true_eq, decide_eq_true_eq] at this
  exact this
theorem fold_app (l : List Nat) : ∀ a : Nat, l.foldl (fun acc c => acc * 10 + (c - 48)) a = a * 10 ^ l.length + dval l := by
  induction l with
  | nil => intro a; simp [dval, NumText.digitsVal]
  | cons c r ih =>
    intro a
    show r.foldl _ (a * 10 + (c - 48)) = _ + r.foldl _ (0 * 10 + (c - 48))
    rw [ih, ih, List.length_cons, Nat.pow_succ, Nat.add_mul, Nat.zero_mul, Nat.zero_add, Nat.mul_assoc, Nat.mul_comm 10, Nat.add_assoc]
theorem dval_app (l r : List Nat) : dval (l ++ r) = dval l * 10 ^ r.length + dval r := by
  show (l ++ r).foldl _ 0 = _
  rw [List.foldl_append, fold_app]
  rfl
theorem dval_cons (c : Nat) (r : List Nat) : dval (c :: r) = (c - 48) * 10 ^ r.length + dval r := by
  have := dval_app [c] r
  rw [show dval [c] = c - 48 from by show 0 * 10 + (c - 48) = _; omega] at this
  exact this
theorem dval_lt : ∀ l : List Nat, l.all isD = true → dval l < 10 ^ l.length
  | [], _ => by decide
  | c :: r, h => by
    rw [List.all_cons, Bool.and_eq_true] at h
    have ih := dval_lt r h.2
    have hc := mem_dig (l := [c]) (by rw [List.all_cons, h.1]; rfl) c (List.mem_singleton.mpr rfl)
    rw [dval_cons, List.length_cons, Nat.pow_succ]
    have : (c - 48) * 10 ^ r.length ≤ 9 * 10 ^ r.length := Nat.mul_le_mul_right _ (by omega)
    omega
def noZ (l : List Nat) : List Nat := l.dropWhile (fun c => c == 48)
theorem dval_noZ : ∀ l : List Nat, dval (noZ l) = dval l
  | [] => rfl
  | c :: r => by
    unfold noZ
    rw [List.dropWhile_cons]
    split
    · rename_i h
      rw [show List.dropWhile (fun c => c == 48) r = noZ r from rfl, dval_noZ r, dval_cons, beq_iff_eq.mp h, Nat.sub_self, Nat.zero_mul, Nat.zero_add]
    · rfl
theorem all_noZ : ∀ {l : List Nat}, l.all isD = true → (noZ l).all isD = true
  | [], _ => rfl
  | c :: r, h => by
    unfold noZ
    rw [List.dropWhile_cons]
    split
    · exact all_noZ (by rw [List.all_cons, Bool.and_eq_true] at h; exact h.2)
    · exact h
theorem noZ_len (l : List Nat) : (noZ l).length ≤ l.length := (List.dropWhile_suffix _).length_le
/-- more than sixteen digits behind the zeros: beyond every limit -/
theorem noZ_big {l : List Nat} (h : l.all isD = true) (hl : 16 < (noZ l).length) : 10 ^ 16 ≤ dval l := by
  have ha := all_noZ h
  rw [← dval_noZ]
  have hd : ∀ c r, noZ l = c :: r → ¬ c = 48 := fun c r e hc => by
    have := List.head?_dropWhile_not (fun c => c == 48) l
    rw [show List.dropWhile (fun c => c == 48) l = c :: r from e] at this
    simp [hc] at this
  generalize noZ l = z at *
  cases z with
  | nil => simp at hl
  | cons c r =>
    have hc := mem_dig (l := [c]) (by rw [List.all_cons, Bool.and_eq_true] at ha; rw [List.all_cons, ha.1]; rfl) c (List.mem_singleton.mpr rfl)
    have hn := hd c r rfl
    rw [dval_cons]
    have h1 : 10 ^ 16 ≤ 10 ^ r.length := Nat.pow_le_pow_right (by decide) (by simp at hl; omega)
    have h2 : 1 * 10 ^ r.length ≤ (c - 48) * 10 ^ r.length := Nat.mul_le_mul_right _ (by omega)
    omega
theorem con48 : (SX.S [48]).cps.contains = fun c => c == 48 := by
  funext c
  show (#[48] : Array Nat).contains c = _
  rw [Bool.eq_iff_iff]
  simp
theorem tl_S (l : List Nat) : TL.tl (SX.S l) = l := TL.tl_mk l
theorem lstrip_S (l : List Nat) : Txt.lstripChars (SX.S l) (SX.S [48]) = SX.S (noZ l) := by
  unfold Txt.lstripChars
  rw [PySem.W.stripBy_eq, con48]
  apply TL.ext_tl
  unfold PySem.W.stripped
  simp only [if_true, Bool.false_eq_true, if_false]
  rw [TL.tl_strSub, TL.len_tl, tl_S, tl_S]
  show List.take _ (List.drop (List.takeWhile (fun c => c == 48) l).length l) = _
  have e : List.drop (List.takeWhile (fun c => c == 48) l).length l = noZ l := by
    have h := List.takeWhile_append_dropWhile (p := fun c => c == 48) (l := l)
    conv => lhs; arg 2; rw [← h]
    rw [List.drop_left]
    rfl
  rw [e]
  apply List.take_of_length_le
  have h := congrArg List.length (List.takeWhile_append_dropWhile (p := fun c => c == 48) (l := l))
  rw [List.length_append] at h
  have : (noZ l).length = (List.dropWhile (fun c => c == 48) l).length := rfl
  omega
/-- without zeros at the end -/
def noE (l : List Nat) : List Nat := (noZ l.reverse).reverse
theorem rstrip_S (l : List Nat) : Txt.rstripChars (SX.S l) (SX.S [48]) = SX.S (noE l) := by
  unfold Txt.rstripChars
  rw [PySem.W.stripBy_eq, con48]
  apply TL.ext_tl
  unfold PySem.W.stripped
  simp only [if_true, Bool.false_eq_true, if_false]
  rw [TL.tl_strSub, SX.S_len, tl_S, tl_S]
  show List.take (l.length - (List.takeWhile (fun c => c == 48) (List.drop 0 l).reverse).length - 0) (List.drop 0 l) = _
  rw [List.drop_zero, Nat.sub_zero]
  have h := List.takeWhile_append_dropWhile (p := fun c => c == 48) (l := l.reverse)
  have h2 : l = noE l ++ (List.takeWhile (fun c => c == 48) l.reverse).reverse := by
    have := congrArg List.reverse h
    rw [List.reverse_append, List.reverse_reverse] at this
    exact this.symm
  have h3 := congrArg List.length h2
  rw [List.length_append, List.length_reverse] at h3
  conv => lhs; arg 2; rw [h2]
  rw [show l.length - (List.takeWhile (fun c => c == 48) l.reverse).length = (noE l).length by omega, List.take_left]
theorem starts_S (l : List Nat) : Txt.startswith (SX.S l) (SX.S [45]) = decide (l.head? = some 45) := by
  cases l with
  | nil => rfl
  | cons c r =>
    unfold Txt.startswith
    rw [SX.S_len, SX.S_len, decide_eq_true (by simp), Bool.true_and]
    rw [Bool.eq_iff_iff, decide_eq_true_eq]
    show Builtin.Str.subAt (SX.S (c :: r)) (SX.S [45]) 0 = true ↔ some c = some 45
    unfold Builtin.Str.subAt
    simp
    show List.take 1 (c :: r) = [45] ↔ c = 45
    simp
/-- the text without a minus sign in front -/
def noM (l : List Nat) : List Nat := if l.head? = some 45 then l.drop 1 else l
def sgI (l : List Nat) (n : Nat) : Int := if l.head? = some 45 then -(n : Int) else (n : Int)
def rdI (l : List Nat) : V := if digs (noM l) = true then limV (sgI l (dval (noM l))) else .non
theorem numL_pad {r : Nat} (h : r < 10000) : List.replicate (4 - (TL.numL r).length) 48 ++ TL.numL r = [48 + r / 1000, 48 + r / 100 % 10, 48 + r / 10 % 10, 48 + r % 10] := by
  by_cases h1 : r < 10
  · rw [TL.numL_lt h1, show r / 1000 = 0 by omega, show r / 100 = 0 by omega, show r / 10 = 0 by omega, show r % 10 = r by omega]
    rfl
  by_cases h2 : r < 100
  · rw [TL.numL_step (by omega), TL.numL_lt (by omega), show r / 1000 = 0 by omega, show r / 100 = 0 by omega, show r / 10 % 10 = r / 10 by omega]
    rfl
  by_cases h3 : r < 1000
  · rw [TL.numL_step (by omega), TL.numL_step (by omega), TL.numL_lt (by omega), show r / 1000 = 0 by omega, show r / 10 / 10 = r / 100 by omega, show r / 100 % 10 = r / 100 by omega]
    rfl
  · rw [TL.numL_step (by omega), TL.numL_step (by omega), TL.numL_step (by omega), TL.numL_lt (by omega), show r / 10 / 10 / 10 = r / 1000 by omega, show r / 10 / 10 = r / 100 by omega]
    rfl
def four (r : Nat) : List Nat := [48 + r / 1000, 48 + r / 100 % 10, 48 + r / 10 % 10, 48 + r % 10]
theorem zfill_S {r : Nat} (h : r < 10000) : Txt.zfill (SX.S (TL.numL r)) 4 = SX.S (four r) := by
  unfold Txt.zfill four
  rw [← numL_pad h, SX.S_len]
  split
  · rename_i hl
    rw [show 4 - (TL.numL r).length = 0 by omega]
    rfl
  · unfold zfilled
    have hd := TL.numL_digits r
    cases e : TL.numL r with
    | nil => exact absurd e (TL.numL_ne r)
    | cons c t =>
      have hc := hd c (by rw [e]; exact List.mem_cons_self)
      have eg : (SX.S (c :: t)).cps[0]? = some c := rfl
      have e43 : ¬ c = 43 := by omega
      have e45 : ¬ c = 45 := by omega
      rw [eg]
      split
      · rename_i h; exact absurd (Option.some.inj h) e43
      · rename_i h; exact absurd (Option.some.inj h) e45
      · rw [Builtin.Str.padded.eq_1]
        apply TL.ext_tl
        rw [tl_S]
        show ((Array.replicate _ 48 ++ (SX.S (c :: t)).cps ++ Array.replicate 0 0) : Array Nat).toList = _
        simp [SX.S]
def dtx (n : Int) : List Nat := (if n < 0 then [45] else []) ++ (TL.numL (n.natAbs / 10000) ++ (if n.natAbs % 10000 = 0 then [] else 46 :: noE (four (n.natAbs % 10000))))

/-! ### texts as lists of codes: further words -/
theorem c48 : PySem.Str.ofString "0" = SX.S [48] := by decide +kernel
theorem c45 : PySem.Str.ofString "-" = SX.S [45] := by decide +kernel
theorem c46 : PySem.Str.ofString "." = SX.S [46] := by decide +kernel
theorem c00 : PySem.Str.ofString "" = SX.S [] := by decide +kernel
theorem mt_ljustF {X : Cx} : MtR X "str.ljust" fun x xs H Q => ∃ (a f : Str) (i : Int), x = .str a ∧ xs = [.int i, .str f] ∧ PadOk i = true ∧ f.length = 1 ∧ Q (.str (Txt.ljustF a i (f.cps.getD 0 0))) H := by
  intro pins s σ H x xs v us Q I rx rv h
  obtain ⟨a, f, i, rfl, rfl, hp, hf, q⟩ := h
  obtain ⟨t, rfl⟩ := (show ∃ t, v = Value.str a t from rx)
  cases rv with
  | cons r1 rv =>
    cases rv with
    | cons r2 rv =>
      cases rv
      obtain ⟨u, rfl⟩ := r1
      obtain ⟨u2, rfl⟩ := r2
      exact ljust_fill hp hf fun t' k => ⟨.str _, H, I.tok k, ⟨t', rfl⟩, q⟩
section
variable {K : PySem.W.Frag} {σ : L2.St} {H : Hp} {D : Ends} {te ta tl th tb : TE}
theorem ev_m0 {r : V → List V → Hp → VK → Prop} {a : Str} {z : V} (h : Ev ta σ H (.str a)) (hr : ∀ H1 Q, (∀ H2, Ex H1 H2 → Q z H2) → r (.str a) [] H1 Q) : Ev (tM0 r ta) σ H z := fun H1 e Q q => h H1 e _ fun H2 e2 => ⟨⟨_, rfl⟩, hr H2 Q fun H3 e3 => q H3 (e2.trans e3)⟩
theorem ev_m1 {r : V → List V → Hp → VK → Prop} {a : Str} {y z : V} (h : Ev ta σ H (.str a)) (hb : Ev tb σ H y) (hr : ∀ H1 Q, (∀ H2, Ex H1 H2 → Q z H2) → r (.str a) [y] H1 Q) : Ev (tM1 r ta tb) σ H z := fun H1 e Q q =>
  h H1 e _ fun H2 e2 => ⟨⟨_, rfl⟩, hb H2 (e.trans e2) _ fun H3 e3 => hr H3 Q fun H4 e4 => q H4 ((e2.trans e3).trans e4)⟩
theorem ev_bmS {r : V → List V → Hp → VK → Prop} {a : Str} {z : V} {tr : TA} {ys : List V} (h : Ev ta σ H (.str a)) (hb : EvA tr σ H ys) (hr : ∀ H1 Q, (∀ H2, Ex H1 H2 → Q z H2) → r (.str a) ys H1 Q) : Ev (tBM K "str" r ta tr) σ H z := fun H1 e Q q =>
  h H1 e _ fun H2 e2 => ⟨rfl, hb H2 (e.trans e2) _ fun H3 e3 => hr H3 Q fun H4 e4 => q H4 ((e2.trans e3).trans e4)⟩
theorem ev_intS {a : Str} {n : Int} (h : Ev ta σ H (.str a)) (hn : intText? a = some n) (hl : a.length ≤ 640) : Ev (tCB (fun xs H Q => ∃ a n, xs = [.str a] ∧ intText? a = some n ∧ a.length ≤ 640 ∧ Q (.int n) H) (tCons ta tNil)) σ H (.int n) := fun H1 e Q q =>
  h H1 e _ fun H2 e2 => ⟨a, n, rfl, hn, hl, q H2 e2⟩
theorem ev_slF {to : TO} {l : List Nat} {i : Nat} (ha : Ev ta σ H (.str (SX.S l))) (hl : Ev tl σ H (.int (i : Int))) (hn : ∀ σ H Q, Q none H → to σ H Q) (hz : l.length ≤ 100000) : Ev (tSl C8.rSlX ta (tPart tl) to) σ H (.str (SX.S (l.drop i))) := fun H1 e Q q =>
  ha H1 e _ fun H2 e2 => hl H2 (e.trans e2) _ fun H3 e3 => ⟨_, rfl, hn _ _ _ ⟨SX.S l, rfl, by rw [SX.S_len]; exact sz_of hz, by rw [SX.slice_from (by omega), Int.toNat_natCast]; exact q H3 (e2.trans e3)⟩⟩
theorem eu_part {a b : Str} (ha : Ev ta σ H (.str a)) (hb : Ev tb σ H (.str b)) (h1 : (b.length == 0) = false) (hz : a.length ≤ 100000) : EvU (tM1 (fun x xs H Q => ∃ a b, x = .str a ∧ xs = [.str b] ∧ (b.length == 0) = false ∧ a.length ≤ sizeLine ∧ ∀ p, H p = none → Q (.ref p) (upd H p (.tup [.str (Txt.partition a b).1, .str (Txt.partition a b).2.1, .str (Txt.partition a b).2.2]))) ta tb) σ H [.str (Txt.partition a b).1, .str (Txt.partition a b).2.1, .str (Txt.partition a b).2.2] := fun H1 e Q q =>
  ha H1 e _ fun H2 e2 => ⟨⟨_, rfl⟩, hb H2 (e.trans e2) _ fun H3 e3 => ⟨a, b, rfl, rfl, h1, sz_of hz, fun p hp => q p _ (fresh_back (e2.trans e3) hp) ((e2.trans e3).trans (Ex.new hp)) upd_same⟩⟩
end
theorem js_str {t : TE} {ts : List TE} {acc y : Str} {σ : L2.St} {H : Hp} {Q : Str → Hp → Prop} (h : Ev t σ H (.str y)) (hz : (acc ++ y).length ≤ 100000) (k : ∀ H1, Ex H H1 → tJs ts (acc ++ y) σ H1 Q) : tJs (t :: ts) acc σ H Q := h H (Ex.refl H) _ fun H1 e1 => ⟨y, rfl, sz_of hz, k H1 e1⟩
theorem pre1 {c : Nat} {l : List Nat} {i : Nat} : TL.pre [c] (l.drop i) = true ↔ l[i]? = some c := by
  by_cases h : i < l.length
  · rw [List.drop_eq_getElem_cons h, List.getElem?_eq_getElem h]
    constructor
    · intro e
      by_cases e2 : l[i] = c
      · rw [e2]
      · rw [TL.pre_of_head [] _ e2] at e
        exact nomatch e
    · intro e
      rw [Option.some.inj e]
      exact TL.pre_self [c] _
  · rw [List.drop_eq_nil_of_le (by omega), List.getElem?_eq_none (by omega), TL.pre_nil (List.cons_ne_nil _ _)]
    simp
theorem find1 (l : List Nat) (c : Nat) : (Txt.find (SX.S l) (SX.S [c]) = -1 ∧ ∀ i : Nat, ¬ l[i]? = some c) ∨ ∃ i : Nat, Txt.find (SX.S l) (SX.S [c]) = (i : Int) ∧ l[i]? = some c ∧ ∀ k : Nat, k < i → ¬ l[k]? = some c := by
  have ha : ∀ i, StrLaws.At (SX.S l) (SX.S [c]) (SX.S l).length i ↔ l[i]? = some c := fun i => by
    rw [TL.at_iff (by rw [tl_S]; exact List.cons_ne_nil _ _), tl_S, tl_S, pre1]
  rcases StrLaws.occ_head (SX.S l) (SX.S [c]) 1 (Nat.le_refl 1) with ⟨h1, h2⟩ | ⟨i, r, h1, h2, h3⟩
  · refine .inl ⟨?_, fun i h => h2 i ((ha i).mpr h)⟩
    unfold Txt.find
    rw [h1]
  · refine .inr ⟨i, ?_, (ha i).mp h2, fun k hk h => h3 k hk ((ha k).mpr h)⟩
    unfold Txt.find
    rw [h1]
def tenL : List Nat := [48, 49, 50, 51, 52, 53, 54, 55, 56, 57]
theorem cTen : PySem.Str.ofString "0123456789" = SX.S tenL := by decide +kernel
theorem ten_at {i : Nat} (h : i < 10) : tenL[i]? = some (48 + i) := by
  have : ∀ i : Fin 10, tenL[i.1]? = some (48 + i.1) := by decide
  exact this ⟨i, h⟩
theorem ten_in {i c : Nat} (h : tenL[i]? = some c) : c = 48 + i ∧ i < 10 := by
  have hi : i < 10 := (List.getElem?_eq_some_iff.mp h).1
  rw [ten_at hi] at h
  exact ⟨(Option.some.inj h).symm, hi⟩
theorem find_ten (c : Nat) : (isD c = false ∧ Txt.find (SX.S tenL) (SX.S [c]) = -1) ∨ (isD c = true ∧ Txt.find (SX.S tenL) (SX.S [c]) = ((c - 48 : Nat) : Int)) := by
  rcases find1 tenL c with ⟨h1, h2⟩ | ⟨i, h1, h2, _⟩
  · refine .inl ⟨?_, h1⟩
    cases h : isD c with
    | false => rfl
    | true =>
      unfold isD at h
      rw [Bool.and_eq_true, decide_eq_true_eq, decide_eq_true_eq] at h
      exact absurd (by rw [ten_at (by omega), show 48 + (c - 48) = c by omega]) (h2 (c - 48))
  · obtain ⟨e, hi⟩ := ten_in h2
    refine .inr ⟨?_, by rw [h1, show c - 48 = i by omega]⟩
    unfold isD
    rw [decide_eq_true (by omega), decide_eq_true (by omega)]
    rfl
section
variable {σ : L2.St} {H : Hp} {ta tb tl : TE} {K : PySem.W.Frag}
theorem ev_ixN {xs : List V} {i : Int} {v : V} (ha : EvL ta σ H xs) (hb : Ev tb σ H (.int i)) (hi : atI xs i = some v) : Ev (tOp (rIxL K) ta tb) σ H v := fun H1 e Q q =>
  ha H1 e _ fun p H2 hp e2 h2 => hb H2 (e.trans e2) _ fun H3 e3 => rv_ixL (sq_of (e3 _ _ h2)) hi H3 (Ex.refl H3) Q fun H4 e4 => q H4 ((e2.trans e3).trans e4)
theorem ev_ten {i : Nat} (h : i < 10) (hb : Ev tb σ H (.int (i : Int))) : Ev (tOp rIxS (tC (.str (PySem.Str.ofString "0123456789"))) tb) σ H (.str (SX.S [48 + i])) :=
  ev_op (x := .str (SX.S tenL)) (ev_is ev_c (by rw [cTen])) hb (rv_ixS (by decide) (atI_nat (ten_at h)))
theorem ev_slT {to : TO} {l : List Nat} {i : Nat} (ha : Ev ta σ H (.str (SX.S l))) (hn : ∀ σ H Q, Q none H → to σ H Q) (hl : Ev tl σ H (.int (i : Int))) (hz : l.length ≤ 100000) : Ev (tSl C8.rSlX ta to (tPart tl)) σ H (.str (SX.S (l.take i))) := fun H1 e Q q =>
  ha H1 e _ fun H2 e2 => hn _ _ _ (hl H2 (e.trans e2) _ fun H3 e3 => ⟨_, rfl, SX.S l, rfl, by rw [SX.S_len]; exact sz_of hz, by rw [SX.slice_to (by omega), Int.toNat_natCast]; exact q H3 (e2.trans e3)⟩)
end
theorem ev_lenX {σ : L2.St} {H : Hp} {ta : TE} {w : List Nat} (ha : Ev ta σ H (.str (SX.S w))) (hz : w.length ≤ 100000) : Ev (tCB (fun xs H Q => ∃ z, xs = [.str z] ∧ z.length ≤ sizeLine ∧ Q (.int z.length) H) (tCons ta tNil)) σ H (.int (w.length : Int)) :=
  ev_is (ev_lenS ha (by rw [SX.S_len]; exact hz)) (by rw [SX.S_len])
section
variable {K : PySem.W.Frag} {σ : L2.St} {H : Hp} {ta tb : TE}
theorem ev_cat {a b : Str} (ha : Ev ta σ H (.str a)) (hb : Ev tb σ H (.str b)) (h : a.length + b.length ≤ 100000) : Ev (tOp (fun x y H Q => ∃ i j, x = .str i ∧ y = .str j ∧ i.length + j.length ≤ sizeLine ∧ Q (.str (i ++ j)) H) ta tb) σ H (.str (a ++ b)) := fun H1 e Q q =>
  ha H1 e _ fun H2 e2 => hb H2 (e.trans e2) _ fun H3 e3 => ⟨a, b, rfl, rfl, sz_of h, q H3 (e2.trans e3)⟩
end
section
variable {σ : L2.St} {H : Hp} {D : Ends} {tz : TS} {te : TE}
theorem q_forX {tu : TS} {j : Nat} {w : List Nat} (h : Ev te σ H (.str (SX.S w))) (Pv : Nat → L2.St → Hp → Prop) (h0 : ∀ H1, Ex H H1 → Pv 0 σ H1)
    (hs : ∀ (i : Nat) (c : Nat) σ' H', w[i]? = some c → Pv i σ' H' → tu { nx := Pv (i + 1), rt := D.rt, bk := tz D, ct := Pv (i + 1) } (σ'.set j (some (.str ⟨#[c]⟩))) H')
    (hd : ∀ σ' H', Pv w.length σ' H' → tz D σ' H') : tSeq (tFor (iStr te) (gName j) tu) tz D σ H := by
  have ec : ∀ i, (SX.S w).cps[i]? = w[i]? := fun i => List.getElem?_toArray
  have es : (SX.S w).cps.size = w.length := List.size_toArray
  refine h H (Ex.refl H) _ fun H1 e1 => ⟨SX.S w, rfl, fun i m σ' H' => Pv i σ' H' ∧ i ≤ w.length ∧ w.length - i ≤ m, ⟨_, h0 H1 e1, Nat.zero_le _, Nat.le_refl _⟩, fun i m σ' H' p => ?_⟩
  obtain ⟨p, hi, hm⟩ := p
  by_cases hlt : i < w.length
  · refine .inr ⟨by show i < (SX.S w).cps.size; omega, fun σ2 H2 => Pv (i + 1) σ2 H2, fun σ2 H2 q => ⟨m - 1, by omega, q, hlt, by omega⟩, ?_⟩
    rintro x H2 ⟨rfl, c, hc, rfl⟩
    rw [ec] at hc
    exact hs i c σ' _ hc p
  · refine .inl ⟨by show (SX.S w).cps.size ≤ i; omega, ?_⟩
    rw [show i = w.length by omega] at p
    exact hd _ _ p
theorem q_callG {sp : Sp} {dvs vs : List V} {E : XK} {tr : TA} {g : TG} (h : EvA tr σ H vs) (k : ∀ H1, Ex H H1 → sp (vs ++ dvs) H1 (fun x H2 => g x σ H2 (tz D)) E) : tSeq (tAsg (tCall sp dvs E tr) g) tz D σ H := h H (Ex.refl H) _ fun H1 e1 => k H1 e1
end
theorem slice_mid {a : List Nat} {i j : Nat} (h : i ≤ j) (hj : j ≤ a.length) : Txt.slice (SX.S a) (some (i : Int)) (some (j : Int)) = SX.S ((a.drop i).take (j - i)) := by
  rw [← C8.cutS_slice]
  unfold cutS
  rw [SX.S_len, HT.sIx_nat, HT.sIx_nat, Nat.min_eq_left hj, Nat.min_eq_left (show i ≤ a.length by omega)]
theorem ev_slM {σ : L2.St} {H : Hp} {ta tl th : TE} {l : List Nat} {i j : Nat} (ha : Ev ta σ H (.str (SX.S l))) (hl : Ev tl σ H (.int (i : Int))) (hh : Ev th σ H (.int (j : Int))) (h : i ≤ j) (hj : j ≤ l.length) (hz : l.length ≤ 100000) : Ev (tSl C8.rSlX ta (tPart tl) (tPart th)) σ H (.str (SX.S ((l.drop i).take (j - i)))) := fun H1 e Q q =>
  ha H1 e _ fun H2 e2 => hl H2 (e.trans e2) _ fun H3 e3 => ⟨_, rfl, hh H3 ((e.trans e2).trans e3) _ fun H4 e4 => ⟨_, rfl, SX.S l, rfl, by rw [SX.S_len]; exact sz_of hz, by rw [slice_mid h hj]; exact q H4 ((e2.trans e3).trans e4)⟩⟩
theorem q_par2 {σ : L2.St} {H : Hp} {ta : TA} {D : Ends} {tz : TS} {i j : Nat} {x y : V} (h : EvA ta σ H [x, y]) (k : ∀ H1, Ex H H1 → tz D ((σ.set i (some x)).set j (some y)) H1) : tSeq (tPar i j ta) tz D σ H := h H (Ex.refl H) _ fun H1 e => ⟨x, y, rfl, k H1 e⟩
theorem q_par3 {σ : L2.St} {H : Hp} {ta : TA} {D : Ends} {tz : TS} {i j l : Nat} {x y z : V} (h : EvA ta σ H [x, y, z]) (k : ∀ H1, Ex H H1 → tz D (((σ.set i (some x)).set j (some y)).set l (some z)) H1) : tSeq (tPar3 i j l ta) tz D σ H := h H (Ex.refl H) _ fun H1 e => ⟨x, y, z, rfl, k H1 e⟩

def topS (i : Nat) : Stmt := PySem.Challenge.pw_stylobate_k70_shares.main.body.getD i (.Pass ⟨0, 0, 0, 0⟩)
abbrev s_kind_rank : Stmt := topS 1
abbrev n_kind_rank : List Str := ["value"]
theorem sc_kind_rank : FnScope n_kind_rank ["value"] (C8.fnScope s_kind_rank) := C8.fnScope_by (by decide +kernel)
abbrev s_rank : Stmt := topS 2
abbrev n_rank : List Str := ["value", "kind"]
theorem sc_rank : FnScope n_rank ["value"] (C8.fnScope s_rank) := C8.fnScope_by (by decide +kernel)
abbrev s_same : Stmt := topS 3
abbrev n_same : List Str := ["first", "second"]
theorem sc_same : FnScope n_same ["first", "second"] (C8.fnScope s_same) := C8.fnScope_by (by decide +kernel)
abbrev s_before : Stmt := topS 4
abbrev n_before : List Str := ["first", "second"]
theorem sc_before : FnScope n_before ["first", "second"] (C8.fnScope s_before) := C8.fnScope_by (by decide +kernel)
abbrev s_Known____init__ : Stmt := (C8.clsBody (topS 7)).getD 0 (.Pass ⟨0, 0, 0, 0⟩)
abbrev n_Known____init__ : List Str := ["self", "nulls", "different", "first", "last", "marks"]
theorem sc_Known____init__ : FnScope n_Known____init__ ["self", "nulls", "different", "first", "last", "marks"] (C8.fnScope s_Known____init__) := C8.fnScope_by (by decide +kernel)
abbrev s_known_of : Stmt := topS 8
abbrev n_known_of : List Str := ["column", "present", "nulls", "different", "places", "number", "value", "place"]
theorem sc_known_of : FnScope n_known_of ["column"] (C8.fnScope s_known_of) := C8.fnScope_by (by decide +kernel)
abbrev s_rounded_up : Stmt := topS 13
abbrev n_rounded_up : List Str := ["number", "divisor"]
theorem sc_rounded_up : FnScope n_rounded_up ["number", "divisor"] (C8.fnScope s_rounded_up) := C8.fnScope_by (by decide +kernel)
abbrev s_unknown_column : Stmt := topS 14
abbrev n_unknown_column : List Str := ["different"]
theorem sc_unknown_column : FnScope n_unknown_column ["different"] (C8.fnScope s_unknown_column) := C8.fnScope_by (by decide +kernel)
abbrev s_column_at : Stmt := topS 15
abbrev n_column_at : List Str := ["number", "columns"]
theorem sc_column_at : FnScope n_column_at ["number", "columns"] (C8.fnScope s_column_at) := C8.fnScope_by (by decide +kernel)
abbrev s__of_all_rows : Stmt := topS 16
abbrev n__of_all_rows : List Str := ["share", "known", "many"]
theorem sc__of_all_rows : FnScope n__of_all_rows ["share", "known", "many"] (C8.fnScope s__of_all_rows) := C8.fnScope_by (by decide +kernel)
abbrev s__between_marks : Stmt := topS 17
abbrev n__between_marks : List Str := ["marks_before"]
theorem sc__between_marks : FnScope n__between_marks ["marks_before"] (C8.fnScope s__between_marks) := C8.fnScope_by (by decide +kernel)
abbrev s__share_of_equal : Stmt := topS 18
abbrev n__share_of_equal : List Str := ["known", "value", "marks", "mark"]
theorem sc__share_of_equal : FnScope n__share_of_equal ["known", "value"] (C8.fnScope s__share_of_equal) := C8.fnScope_by (by decide +kernel)
abbrev s__share_of_less : Stmt := topS 19
abbrev n__share_of_less : List Str := ["known", "value", "mark"]
theorem sc__share_of_less : FnScope n__share_of_less ["known", "value"] (C8.fnScope s__share_of_less) := C8.fnScope_by (by decide +kernel)
abbrev s__share_of_at_most : Stmt := topS 20
abbrev n__share_of_at_most : List Str := ["known", "value", "mark"]
theorem sc__share_of_at_most : FnScope n__share_of_at_most ["known", "value"] (C8.fnScope s__share_of_at_most) := C8.fnScope_by (by decide +kernel)
abbrev s__beside_value : Stmt := topS 21
abbrev n__beside_value : List Str := ["name", "known", "value", "many", "share"]
theorem sc__beside_value : FnScope n__beside_value ["name", "known", "value", "many"] (C8.fnScope s__beside_value) := C8.fnScope_by (by decide +kernel)
abbrev s__behind_value : Stmt := topS 22
abbrev n__behind_value : List Str := ["name", "known", "value", "many", "others"]
theorem sc__behind_value : FnScope n__behind_value ["name", "known", "value", "many"] (C8.fnScope s__behind_value) := C8.fnScope_by (by decide +kernel)
abbrev s__share_of_columns : Stmt := topS 23
abbrev n__share_of_columns : List Str := ["first", "second", "different"]
theorem sc__share_of_columns : FnScope n__share_of_columns ["first", "second"] (C8.fnScope s__share_of_columns) := C8.fnScope_by (by decide +kernel)
abbrev s__share_of_comparison : Stmt := topS 24
abbrev n__share_of_comparison : List Str := ["condition", "many", "columns", "_", "name", "first", "second", "forms"]
theorem sc__share_of_comparison : FnScope n__share_of_comparison ["condition", "many", "columns"] (C8.fnScope s__share_of_comparison) := C8.fnScope_by (by decide +kernel)
abbrev s__share_of_nulls : Stmt := topS 25
abbrev n__share_of_nulls : List Str := ["known", "many"]
theorem sc__share_of_nulls : FnScope n__share_of_nulls ["known", "many"] (C8.fnScope s__share_of_nulls) := C8.fnScope_by (by decide +kernel)
abbrev s_share_in : Stmt := topS 26
abbrev n_share_in : List Str := ["condition", "many", "columns", "form", "_", "name", "first", "second"]
theorem sc_share_in : FnScope n_share_in ["condition", "many", "columns"] (C8.fnScope s_share_in) := C8.fnScope_by (by decide +kernel)
abbrev s_share_of : Stmt := topS 28
abbrev n_share_of : List Str := ["condition", "many", "columns"]
theorem sc_share_of : FnScope n_share_of ["condition", "many", "columns"] (C8.fnScope s_share_of) := C8.fnScope_by (by decide +kernel)
abbrev s__law_cell : Stmt := topS 30
abbrev n__law_cell : List Str := ["script", "k"]
theorem sc__law_cell : FnScope n__law_cell ["script", "k"] (C8.fnScope s__law_cell) := C8.fnScope_by (by decide +kernel)
abbrev s__law_state : Stmt := topS 31
abbrev n__law_state : List Str := ["cell", "k", "prime", "first", "second", "third", "fourth"]
theorem sc__law_state : FnScope n__law_state ["cell", "k"] (C8.fnScope s__law_state) := C8.fnScope_by (by decide +kernel)
abbrev s__law_digit : Stmt := topS 32
abbrev n__law_digit : List Str := ["state", "many", "digit"]
theorem sc__law_digit : FnScope n__law_digit ["state", "many"] (C8.fnScope s__law_digit) := C8.fnScope_by (by decide +kernel)
abbrev s__law_is_integer : Stmt := topS 33
abbrev n__law_is_integer : List Str := ["told"]
theorem sc__law_is_integer : FnScope n__law_is_integer ["told"] (C8.fnScope s__law_is_integer) := C8.fnScope_by (by decide +kernel)
abbrev s__law_rank : Stmt := topS 34
abbrev n__law_rank : List Str := ["value"]
theorem sc__law_rank : FnScope n__law_rank ["value"] (C8.fnScope s__law_rank) := C8.fnScope_by (by decide +kernel)
abbrev s__law_ranks : Stmt := topS 35
abbrev n__law_ranks : List Str := ["row", "value"]
theorem sc__law_ranks : FnScope n__law_ranks ["row"] (C8.fnScope s__law_ranks) := C8.fnScope_by (by decide +kernel)
abbrev s__law_text : Stmt := topS 36
abbrev n__law_text : List Str := ["state", "signs", "k"]
theorem sc__law_text : FnScope n__law_text ["state"] (C8.fnScope s__law_text) := C8.fnScope_by (by decide +kernel)
abbrev s__law_value : Stmt := topS 37
abbrev n__law_value : List Str := ["state", "kind"]
theorem sc__law_value : FnScope n__law_value ["state"] (C8.fnScope s__law_value) := C8.fnScope_by (by decide +kernel)
abbrev s__law_condition : Stmt := topS 38
abbrev n__law_condition : List Str := ["state", "width", "depth", "kind", "name", "column", "value"]
theorem sc__law_condition : FnScope n__law_condition ["state", "width", "depth"] (C8.fnScope s__law_condition) := C8.fnScope_by (by decide +kernel)
abbrev s__law_up : Stmt := topS 39
abbrev n__law_up : List Str := ["number", "divisor"]
theorem sc__law_up : FnScope n__law_up ["number", "divisor"] (C8.fnScope s__law_up) := C8.fnScope_by (by decide +kernel)
abbrev s__law_all : Stmt := topS 40
abbrev n__law_all : List Str := ["many", "known", "share"]
theorem sc__law_all : FnScope n__law_all ["many", "known", "share"] (C8.fnScope s__law_all) := C8.fnScope_by (by decide +kernel)
abbrev s__law_beside : Stmt := topS 41
abbrev n__law_beside : List Str := ["name", "many", "known", "value", "rank_v", "first", "last", "marks", "same_v", "below", "none", "whole", "mark"]
theorem sc__law_beside : FnScope n__law_beside ["name", "many", "known", "value"] (C8.fnScope s__law_beside) := C8.fnScope_by (by decide +kernel)
abbrev s__law_turned : Stmt := topS 42
abbrev n__law_turned : List Str := ["name", "many", "known", "value", "other"]
theorem sc__law_turned : FnScope n__law_turned ["name", "many", "known", "value"] (C8.fnScope s__law_turned) := C8.fnScope_by (by decide +kernel)
abbrev s__law_known : Stmt := topS 43
abbrev n__law_known : List Str := ["columns", "number"]
theorem sc__law_known : FnScope n__law_known ["columns", "number"] (C8.fnScope s__law_known) := C8.fnScope_by (by decide +kernel)
abbrev s__law_compared : Stmt := topS 44
abbrev n__law_compared : List Str := ["name", "first", "second", "many", "columns", "most", "known"]
theorem sc__law_compared : FnScope n__law_compared ["name", "first", "second", "many", "columns"] (C8.fnScope s__law_compared) := C8.fnScope_by (by decide +kernel)
abbrev s__law_share : Stmt := topS 45
abbrev n__law_share : List Str := ["condition", "many", "columns", "first", "second"]
theorem sc__law_share : FnScope n__law_share ["condition", "many", "columns"] (C8.fnScope s__law_share) := C8.fnScope_by (by decide +kernel)
abbrev s__law_odd : Stmt := topS 46
abbrev n__law_odd : List Str := ["state", "column", "odd"]
theorem sc__law_odd : FnScope n__law_odd ["state"] (C8.fnScope s__law_odd) := C8.fnScope_by (by decide +kernel)
abbrev s_law : Stmt := topS 47
abbrev n_law : List Str := ["script", "rows", "k", "state", "row", "columns", "condition", "many", "told"]
theorem sc_law : FnScope n_law ["script"] (C8.fnScope s_law) := C8.fnScope_by (by decide +kernel)
--@SPLIT
/-! ### a list that is drawn from: its one object may change -/
def wo (p : Addr) (H : Hp) : Hp := fun a => if a = p then none else H a
theorem wo_self (p : Addr) (H : Hp) : wo p H p = none := if_pos rfl
theorem wo_ne {p a : Addr} {H : Hp} (h : a ≠ p) : wo p H a = H a := if_neg h
theorem wo_le (p : Addr) (H : Hp) : Ex (wo p H) H := fun a o h => by
  unfold wo at h
  split at h
  · cases h
  · exact h
theorem wx_of {p : Addr} {H H' : Hp} (e : Ex H H') : Ex (wo p H) H' := (wo_le p H).trans e
theorem wx_trans {p : Addr} {H1 H2 H3 : Hp} (a : Ex (wo p H1) H2) (b : Ex (wo p H2) H3) : Ex (wo p H1) H3 := fun x o h => b x o (by
  have hx : x ≠ p := fun z => by
    rw [z, wo_self] at h
    cases h
  rw [wo_ne hx]
  exact a x o h)
theorem wx_back {p : Addr} {H0 H1 H2 : Hp} (h : H0 p = none) (e : Ex H0 H1) (x : Ex (wo p H1) H2) : Ex H0 H2 := fun a o ha => x a o (by
  have hx : a ≠ p := fun z => by
    rw [z, h] at ha
    cases ha
  rw [wo_ne hx]
  exact e a o ha)
theorem wx_to {p : Addr} {H0 H1 : Hp} (h : H0 p = none) (e : Ex H0 H1) : Ex H0 (wo p H1) := wx_back h e (fun _ _ z => z)
theorem wx_mut {p : Addr} {H1 H2 : Hp} {o : HO} (e : Ex (wo p H1) H2) : Ex (wo p H1) (upd H2 p o) := Ex.mut e (wo_self p H1)
def Dr (p : Addr) (H : Hp) : Prop := ∃ s : Int, 0 ≤ s ∧ H p = some (.lst [.int s])
theorem Dr.ex {p : Addr} {H H' : Hp} (d : Dr p H) (e : Ex H H') : Dr p H' := by
  obtain ⟨s, h0, h⟩ := d
  exact ⟨s, h0, e _ _ h⟩
/-- a value that is drawn: one of those with the word P -/
def EvD1 (te : TE) (σ : L2.St) (p : Addr) (H : Hp) (P : V → Prop) : Prop := ∀ H1, Ex (wo p H) H1 → Dr p H1 → ∀ Q : VK, (∀ v H2, P v → Ex (wo p H1) H2 → Dr p H2 → Q v H2) → te σ H1 Q
def EvDT (tt : TT) (σ : L2.St) (p : Addr) (H : Hp) (P : Bool → Prop) : Prop := ∀ H1, Ex (wo p H) H1 → Dr p H1 → ∀ Q : Bool → Hp → Prop, (∀ b H2, P b → Ex (wo p H1) H2 → Dr p H2 → Q b H2) → tt σ H1 Q
def ZP (P : Int → Prop) : V → Prop := fun v => ∃ i, v = .int i ∧ P i
/-- a value of which a word alone is known, all else as it was -/
def EvN (te : TE) (σ : L2.St) (H : Hp) (P : V → Prop) : Prop := ∀ H1, Ex H H1 → ∀ Q : VK, (∀ v H2, P v → Ex H1 H2 → Q v H2) → te σ H1 Q
/-- a new list to draw from -/
def EvC (te : TE) (σ : L2.St) (H : Hp) : Prop := ∀ H1, Ex H H1 → ∀ Q : VK, (∀ p H2, H1 p = none → Ex H1 H2 → Dr p H2 → Q (.ref p) H2) → te σ H1 Q
def sp__law_cell (K : PySem.W.Frag) : Sp := fun vs H Q _ => ∃ (a : Addr) (ns : List Int) (k : Int), vs = [.ref a, .int k] ∧ SqL K H a (ns.map V.int) ∧ 0 ≤ k ∧ ∀ H', Ex H H' → Q (.int (ns.getD k.toNat 0)) H'
def sp__law_state (K : PySem.W.Frag) : Sp := fun vs H Q _ => ∃ c k : Int, vs = [.int c, .int k] ∧ ∀ p H', H p = none → Ex H H' → Dr p H' → Q (.ref p) H'
def sp__law_digit (K : PySem.W.Frag) : Sp := fun vs H Q _ => ∃ (p : Addr) (m : Int), vs = [.ref p, .int m] ∧ Dr p H ∧ 0 < m ∧ m < 2 ^ 400 ∧ ∀ d H', 0 ≤ d → d < m → Ex (wo p H) H' → Dr p H' → Q (.int d) H'
section
variable {K : PySem.W.Frag} {σ : L2.St} {H H' : Hp} {p : Addr} {ta tb te tx : TE} {t u : TT} {x y z v : V} {r : R2} {P R S : V → Prop} {PI RI SI : Int → Prop} {D : Ends} {tz tu tw : TS} {E : XK}
theorem e1_pure (h : Ev te σ (wo p H) v) (hv : P v) : EvD1 te σ p H P := fun H1 e d Q q => h H1 e Q fun H2 e2 => q v H2 hv (wx_of e2) (d.ex e2)
theorem e1_int {i : Int} (h : Ev te σ (wo p H) (.int i)) (hv : PI i) : EvD1 te σ p H (ZP PI) := e1_pure h ⟨i, rfl, hv⟩
theorem e1_mono (h : EvD1 te σ p H P) (k : ∀ v, P v → R v) : EvD1 te σ p H R := fun H1 e d Q q => h H1 e d Q fun v H2 hv e2 d2 => q v H2 (k v hv) e2 d2
theorem ez_mono (h : EvD1 te σ p H (ZP PI)) (k : ∀ i, PI i → RI i) : EvD1 te σ p H (ZP RI) := e1_mono h fun v ⟨i, e, hi⟩ => ⟨i, e, k i hi⟩
theorem ez_op {C : Int → Int → Prop} {g : Int → Int → Int} (ha : EvD1 ta σ p H (ZP PI)) (hb : EvD1 tb σ p H (ZP RI)) (hc : ∀ i j, PI i → RI j → C i j ∧ SI (g i j)) : EvD1 (tOp (rI C fun i j => .int (g i j)) ta tb) σ p H (ZP SI) := fun H1 e d Q q =>
  ha H1 e d _ fun v H2 ⟨i, ev, hi⟩ e2 d2 => hb H2 (wx_trans e e2) d2 _ fun w H3 ⟨j, ew, hj⟩ e3 d3 => ⟨i, j, ev, ew, (hc i j hi hj).1, q _ H3 ⟨_, rfl, (hc i j hi hj).2⟩ (wx_trans e2 e3) d3⟩
theorem ez_op0 {g : Int → Int → Int} (ha : EvD1 ta σ p H (ZP PI)) (hb : EvD1 tb σ p H (ZP RI)) (hc : ∀ i j, PI i → RI j → SI (g i j)) : EvD1 (tOp (rI0 fun i j => .int (g i j)) ta tb) σ p H (ZP SI) := fun H1 e d Q q =>
  ha H1 e d _ fun v H2 ⟨i, ev, hi⟩ e2 d2 => hb H2 (wx_trans e e2) d2 _ fun w H3 ⟨j, ew, hj⟩ e3 d3 => ⟨i, j, ev, ew, q _ H3 ⟨_, rfl, hc i j hi hj⟩ (wx_trans e2 e3) d3⟩
theorem ez_cmp {g : Int → Int → Bool} (ha : EvD1 ta σ p H (ZP PI)) (hb : EvD1 tb σ p H (ZP RI)) : EvD1 (tOp (rI0 fun i j => .bl (g i j)) ta tb) σ p H (fun v => ∃ b, v = .bl b) := fun H1 e d Q q =>
  ha H1 e d _ fun v H2 ⟨i, ev, hi⟩ e2 d2 => hb H2 (wx_trans e e2) d2 _ fun w H3 ⟨j, ew, hj⟩ e3 d3 => ⟨i, j, ev, ew, q _ H3 ⟨_, rfl⟩ (wx_trans e2 e3) d3⟩
theorem ez_eq (ha : EvD1 ta σ p H (ZP PI)) (hb : EvD1 tb σ p H (ZP RI)) : EvD1 (tOp rEq ta tb) σ p H (fun v => ∃ b, v = .bl b) := fun H1 e d Q q =>
  ha H1 e d _ fun v H2 ⟨i, ev, hi⟩ e2 d2 => hb H2 (wx_trans e e2) d2 _ fun w H3 ⟨j, ew, hj⟩ e3 d3 => by
    subst ev ew
    exact ⟨rfl, q _ H3 ⟨_, rfl⟩ (wx_trans e2 e3) d3⟩
theorem ez_int (h : EvD1 ta σ p H (ZP PI)) : EvD1 (tCB (fun xs H Q => (∃ i, xs = [.int i] ∧ Q (.int i) H) ∨ ∃ k, xs = [.bl k] ∧ Q (.int (if k then 1 else 0)) H) (tCons ta tNil)) σ p H (ZP PI) :=
  fun H1 e d Q q => h H1 e d _ fun v H2 ⟨i, ev, hi⟩ e2 d2 => .inl ⟨i, by rw [ev], q _ H2 ⟨i, rfl, hi⟩ e2 d2⟩
/-- _law_digit(state, m) -/
theorem ez_digit {m : Int} (ha : Ev ta σ (wo p H) (.ref p)) (hb : Ev tb σ (wo p H) (.int m)) (h0 : 0 < m) (h1 : m < 2 ^ 400) : EvD1 (tCall (sp__law_digit K) [] E (tCons ta (tCons tb tNil))) σ p H (ZP fun d => 0 ≤ d ∧ d < m) := fun H1 e d Q q =>
  ha H1 e _ fun H2 e2 => hb H2 (e.trans e2) _ fun H3 e3 => ⟨p, m, rfl, d.ex (e2.trans e3), h0, h1, fun d H4 a b e4 d4 => q _ H4 ⟨d, rfl, a, b⟩ (wx_trans (wx_of (e2.trans e3)) e4) d4⟩
theorem edt_test (h : EvD1 te σ p H (fun v => ∃ b, v = .bl b)) : EvDT (tTest te) σ p H (fun _ => True) := fun H1 e d Q q => h H1 e d _ fun v H2 ⟨b, ev⟩ e2 d2 => ⟨b, ev, q b H2 trivial e2 d2⟩
theorem q1_asg {i : Nat} (h : EvD1 te σ p H P) (d : Dr p H) (k : ∀ v H1, P v → Ex (wo p H) H1 → Dr p H1 → tz D (σ.set i (some v)) H1) : tSeq (tAsg te (gName i)) tz D σ H := h H (wo_le p H) d _ fun v H1 hv e1 d1 => k v H1 hv e1 d1
theorem qz_asg {i : Nat} (h : EvD1 te σ p H (ZP PI)) (d : Dr p H) (k : ∀ (n : Int) H1, PI n → Ex (wo p H) H1 → Dr p H1 → tz D (σ.set i (some (.int n))) H1) : tSeq (tAsg te (gName i)) tz D σ H := q1_asg h d fun v H1 ⟨n, ev, hn⟩ e1 d1 => by
  subst ev
  exact k n H1 hn e1 d1
theorem s1_ret (h : EvD1 te σ p H P) (d : Dr p H) (k : ∀ v H1, P v → Ex (wo p H) H1 → Dr p H1 → D.rt v H1) : tRet te D σ H := h H (wo_le p H) d _ fun v H1 hv e1 d1 => k v H1 hv e1 d1
theorem q1_when (h : EvDT t σ p H (fun _ => True)) (d : Dr p H) (h1 : ∀ H1, Ex (wo p H) H1 → Dr p H1 → tu { D with nx := tz D } σ H1) (h2 : ∀ H1, Ex (wo p H) H1 → Dr p H1 → tz D σ H1) : tSeq (tIfS t tu tNext) tz D σ H := h H (wo_le p H) d _ fun b H1 _ e1 d1 => by
  cases b with
  | true =>
    show tu { D with nx := tz D } σ H1
    exact h1 H1 e1 d1
  | false =>
    show tz D σ H1
    exact h2 H1 e1 d1
/-- _law_cell(script, i), _law_state(cell, k) -/
theorem ec_cell {a : Addr} {ns : List Int} {k : Int} (ha : Ev ta σ H (.ref a)) (hb : Ev tb σ H (.int k)) (hS : SqL K H a (ns.map V.int)) (h0 : 0 ≤ k) : Ev (tCall (sp__law_cell K) [] E (tCons ta (tCons tb tNil))) σ H (.int (ns.getD k.toNat 0)) :=
  ev_call (ea_cons ha (ea_cons hb ea_nil)) fun H1 e Q q E => ⟨a, ns, k, rfl, ex_l e hS, h0, q⟩
theorem ec_state {c k : Int} (ha : Ev ta σ H (.int c)) (hb : Ev tb σ H (.int k)) : EvC (tCall (sp__law_state K) [] E (tCons ta (tCons tb tNil))) σ H := fun H1 e Q q =>
  ha H1 e _ fun H2 e2 => hb H2 (e.trans e2) _ fun H3 e3 => ⟨c, k, rfl, fun p H4 hp e4 d => q p H4 (fresh_back (e2.trans e3) hp) ((e2.trans e3).trans e4) d⟩
theorem q_asgC {i : Nat} (h : EvC te σ H) (k : ∀ p H1, H p = none → Ex H H1 → Dr p H1 → tz D (σ.set i (some (.ref p))) H1) : tSeq (tAsg te (gName i)) tz D σ H := h H (Ex.refl H) _ fun p H1 hp e d => k p H1 hp e d
theorem EvN.mono (e : Ex H H') (h : EvN te σ H P) : EvN te σ H' P := fun H1 a Q q => h H1 (e.trans a) Q q
theorem q_asgN {i : Nat} (h : EvN te σ H P) (k : ∀ v H1, P v → Ex H H1 → tz D (σ.set i (some v)) H1) : tSeq (tAsg te (gName i)) tz D σ H := h H (Ex.refl H) _ fun v H1 hv e => k v H1 hv e
theorem s_appN {l : Addr} {xs : List V} (hl : H l = some (.lst xs)) (ha : Ev ta σ H (.ref l)) (h : EvN te σ H P) (hz : xs.length < 100000) (k : ∀ v H1, P v → Ex H H1 → D.nx σ (upd H1 l (.lst (xs ++ [v])))) :
    tDrop (tBM K "list" rAppend ta (tCons te tNil)) D σ H := ha H (Ex.refl H) _ fun H1 e1 =>
  ⟨Or.inl ⟨rfl, xs, sq_of (e1 l _ hl)⟩, h H1 e1 _ fun v H2 hv e2 => ⟨l, xs, v, rfl, rfl, e2 l _ (e1 l _ hl), sz_lt hz, k v H2 hv (e1.trans e2)⟩⟩
end
section
variable {P : Program} {w : World} {K : PySem.W.Frag} {mg : Str → Option Value} {base : Heap}
theorem ok__law_cell (D : Dn K mg "_law_cell" s__law_cell ["script", "k"]) (z_len : mg "len" = none) :
    C8.Cal P w K mg base 1 "_law_cell" (sp__law_cell K) [] := by
  refine cal_of D sc__law_cell (fun vs H Q E h => ?_) (fun f cdv A outer s H vs Q E hr h => ?_)
  · obtain ⟨_, _, _, rfl, _⟩ := h
    rfl
  refine ⟨_, (pss_cons (ps_if (pt_cmpR op_lt (pv 1) (pe_callB call_len_seq (by rfl) z_len PySem.boot_len (pa_cons (pv 0) pa_nil)) (nomark _))
      (pss_one (ps_ret (pe_ix ix_list (pv 0) (pv 1) (fun _ _ => rfl))))
      pss_nil)
    (pss_one (ps_ret pe_int))), ?_⟩
  obtain ⟨a, ns, k, rfl, hS, h0, q⟩ := h
  refine q_when (b := decide (k < (((ns.map V.int).length : Nat) : Int))) (et_test (ev_op (ev_var rfl) (ev_len (ev_var rfl) hS) rv_I0)) (fun hb H1 e1 => ?_) fun hb H1 e1 => ?_
  · have hk : k.toNat < ns.length := by
      have := of_decide_eq_true hb
      rw [List.length_map] at this
      omega
    refine s_ret (v := .int (ns.getD k.toNat 0)) (ev_op (ev_var rfl) (ev_var rfl) (rv_ixL (ex_l e1 hS) ?_)) fun H2 e2 => q _ (e1.trans e2)
    obtain ⟨j, rfl⟩ := Int.eq_ofNat_of_zero_le h0
    rw [Int.toNat_natCast] at hk ⊢
    exact atI_nat (by rw [List.getElem?_map, List.getElem?_eq_getElem hk, List.getD_eq_getElem?_getD, List.getElem?_eq_getElem hk]; rfl)
  · have hk : ns.length ≤ k.toNat := by
      have := of_decide_eq_false hb
      rw [List.length_map] at this
      omega
    refine s_ret (v := .int (ns.getD k.toNat 0)) (ev_is ev_c ?_) fun H2 e2 => q _ (e1.trans e2)
    rw [List.getD_eq_getElem?_getD, List.getElem?_eq_none hk]
    rfl
theorem ok__law_state (D : Dn K mg "_law_state" s__law_state ["cell", "k"]) (z_int : mg "int" = none) :
    C8.Cal P w K mg base 1 "_law_state" (sp__law_state K) [] := by
  refine cal_of D sc__law_state (fun vs H Q E h => ?_) (fun f cdv A outer s H vs Q E hr h => ?_)
  · obtain ⟨_, _, rfl, _⟩ := h
    rfl
  refine ⟨_, (pss_cons (ps_if (pt_cmpR op_ge (pv 0) pe_int (nomark _))
      (pss_one (ps_ret (pe_lst (pa_cons (pv 0) pa_nil))))
      pss_nil)
    (pss_cons (ps_set (i := 2) sc__law_state.nd rfl (.inl rfl) pe_int)
    (pss_cons (ps_set (i := 3) sc__law_state.nd rfl (.inl rfl) (pe_op op_mod (pe_callTy call_int1 (by rfl) z_int (by decide +kernel) (pa_cons (pe_op op_add (pe_op op_add (pe_op op_mul (pv 0) pe_int) (pe_op op_mul (pe_op op_add (pv 1) pe_int) pe_int)) pe_int) pa_nil)) (pv 2)))
    (pss_cons (ps_set (i := 4) sc__law_state.nd rfl (.inl rfl) (pe_op op_mod (pe_callTy call_int1 (by rfl) z_int (by decide +kernel) (pa_cons (pe_op op_add (pe_op op_add (pe_op op_mulX (pv 3) (pv 3)) (pe_op op_mul pe_int (pv 3))) (pv 1)) pa_nil)) (pv 2)))
    (pss_cons (ps_set (i := 5) sc__law_state.nd rfl (.inl rfl) (pe_op op_mod (pe_callTy call_int1 (by rfl) z_int (by decide +kernel) (pa_cons (pe_op op_add (pe_op op_add (pe_op op_mul (pv 4) pe_int) (pe_op op_mul (pv 3) pe_int)) pe_int) pa_nil)) (pv 2)))
    (pss_cons (ps_set (i := 6) sc__law_state.nd rfl (.inl rfl) (pe_op op_mod (pe_callTy call_int1 (by rfl) z_int (by decide +kernel) (pa_cons (pe_op op_add (pe_op op_mulX (pv 5) (pv 5)) (pv 4)) pa_nil)) (pv 2)))
    (pss_one (ps_ret (pe_lst (pa_cons (pe_op op_add (pe_op op_mul (pe_op op_add (pe_op op_mul (pe_op op_add (pe_op op_mul (pv 6) (pv 2)) (pv 5)) (pv 2)) (pv 4)) (pv 2)) (pv 3)) pa_nil)))))))))), ?_⟩
  obtain ⟨c, k, rfl, q⟩ := h
  refine q_when (b := decide (c ≥ 1000000000000000000)) (et_test (ev_op (ev_var rfl) ev_c rv_I0)) (fun hb H1 e1 => ?_) fun hb H1 e1 => ?_
  · exact s_retL (el_lst (ea_cons (ev_var rfl) ea_nil) (by show 1 ≤ 100000; decide)) fun p H2 hp e2 h2 => q p H2 (fresh_back e1 hp) (e1.trans e2) ⟨c, by have := of_decide_eq_true hb; omega, h2⟩
  refine q_asg (v := .int 2305843009213693951) ev_c fun H2 e2 => ?_
  have mp : ∀ n : Int, 0 ≤ n % 2305843009213693951 ∧ n % 2305843009213693951 < 2305843009213693951 := fun n => by omega
  have mb : ∀ i j : Int, 0 ≤ i ∧ i < 2305843009213693951 → 0 ≤ j ∧ j < 2305843009213693951 → CMulX i j := fun i j hi hj => mulx_ok (a := 61) (b := 61) (by omega) (by omega) (by decide)
  refine q_asg (v := .int ((c * 6364136223 + (k + 1) * 104729 + 77) % 2305843009213693951)) ?_ fun H3 e3 => ?_
  · exact ev_op (ev_int (ev_op (ev_op (ev_op (ev_var rfl) ev_c (rv_I (.inr ⟨by decide, by decide⟩))) (ev_op (ev_op (ev_var rfl) ev_c rv_I0) ev_c (rv_I (.inr ⟨by decide, by decide⟩))) rv_I0) ev_c rv_I0)) (ev_var rfl) (rv_I (by decide))
  have h1 := mp (c * 6364136223 + (k + 1) * 104729 + 77)
  generalize (c * 6364136223 + (k + 1) * 104729 + 77) % 2305843009213693951 = f1 at *
  refine q_asg (v := .int ((f1 * f1 + 1013 * f1 + k) % 2305843009213693951)) ?_ fun H4 e4 => ?_
  · exact ev_op (ev_int (ev_op (ev_op (ev_op (ev_var rfl) (ev_var rfl) (rv_I (mb _ _ h1 h1))) (ev_op ev_c (ev_var rfl) (rv_I (.inl ⟨by decide, by decide⟩))) rv_I0) (ev_var rfl) rv_I0)) (ev_var rfl) (rv_I (by decide))
  have h2 := mp (f1 * f1 + 1013 * f1 + k)
  generalize (f1 * f1 + 1013 * f1 + k) % 2305843009213693951 = f2 at *
  refine q_asg (v := .int ((f2 * 48271 + f1 * 31 + 9) % 2305843009213693951)) ?_ fun H5 e5 => ?_
  · exact ev_op (ev_int (ev_op (ev_op (ev_op (ev_var rfl) ev_c (rv_I (.inr ⟨by decide, by decide⟩))) (ev_op (ev_var rfl) ev_c (rv_I (.inr ⟨by decide, by decide⟩))) rv_I0) ev_c rv_I0)) (ev_var rfl) (rv_I (by decide))
  have h3 := mp (f2 * 48271 + f1 * 31 + 9)
  generalize (f2 * 48271 + f1 * 31 + 9) % 2305843009213693951 = f3 at *
  refine q_asg (v := .int ((f3 * f3 + f2) % 2305843009213693951)) ?_ fun H6 e6 => ?_
  · exact ev_op (ev_int (ev_op (ev_op (ev_var rfl) (ev_var rfl) (rv_I (mb _ _ h3 h3))) (ev_var rfl) rv_I0)) (ev_var rfl) (rv_I (by decide))
  have h4 := mp (f3 * f3 + f2)
  generalize (f3 * f3 + f2) % 2305843009213693951 = f4 at *
  refine s_retL (xs := [.int (((f4 * 2305843009213693951 + f3) * 2305843009213693951 + f2) * 2305843009213693951 + f1)]) (el_lst (ea_cons ?_ ea_nil) (by show 1 ≤ 100000; decide)) fun p H7 hp e7 h7 => ?_
  · exact ev_op (ev_op (ev_op (ev_op (ev_op (ev_op (ev_var rfl) (ev_var rfl) (rv_I (.inr ⟨by decide, by decide⟩))) (ev_var rfl) rv_I0) (ev_var rfl) (rv_I (.inr ⟨by decide, by decide⟩))) (ev_var rfl) rv_I0) (ev_var rfl) (rv_I (.inr ⟨by decide, by decide⟩))) (ev_var rfl) rv_I0
  have x6 := ((((e1.trans e2).trans e3).trans e4).trans e5).trans e6
  exact q p H7 (fresh_back x6 hp) (x6.trans e7) ⟨_, by omega, h7⟩
theorem ok__law_digit (D : Dn K mg "_law_digit" s__law_digit ["state", "many"]) (z_int : mg "int" = none) :
    C8.Cal P w K mg base 1 "_law_digit" (sp__law_digit K) [] := by
  refine cal_of D sc__law_digit (fun vs H Q E h => ?_) (fun f cdv A outer s H vs Q E hr h => ?_)
  · obtain ⟨_, _, rfl, _⟩ := h
    rfl
  refine ⟨_, (pss_cons (ps_set (i := 2) sc__law_digit.nd rfl (.inl rfl) (pe_op op_mod (pe_callTy call_int1 (by rfl) z_int (by decide +kernel) (pa_cons (pe_ix ix_list (pv 0) pe_int (fun _ _ => rfl)) pa_nil)) (pv 1)))
    (pss_cons (ps_asg (pe_op op_fdivW (pe_ix ix_list (pv 0) pe_int (fun _ _ => rfl)) (pv 1)) (pg_sub (pv 0) pe_int set_list))
    (pss_one (ps_ret (pv 2))))), ?_⟩
  obtain ⟨p, m, rfl, ⟨s, s0, hp⟩, m0, m1, q⟩ := h
  refine q_asg (v := .int (s % m)) (ev_op (ev_int (ev_op (ev_var rfl) ev_c (rv_ixL (sq_of hp) rfl))) (ev_var rfl) (rv_I m0)) fun H1 e1 => ?_
  refine q_setL (v := .int (s / m)) (j := 0) (e1 _ _ hp) (ev_op (ev_op (ev_var rfl) ev_c (rv_ixL (sq_of (e1 _ _ hp)) rfl)) (ev_var rfl) (rv_I (wide_div (b := 400) m0 (by omega) (by decide) (by decide)))) (ev_var rfl) ev_c (by show 0 < 1; decide) fun H2 e2 => ?_
  exact s_ret (ev_var rfl) fun H3 e3 => q (s % m) H3 (Int.emod_nonneg _ (by omega)) (Int.emod_lt_of_pos _ m0) ((Ex.mut ((wo_le p H).trans (e1.trans e2)) (wo_self p H)).trans e3) ⟨s / m, Int.ediv_nonneg s0 (by omega), e3 _ _ upd_same⟩
end
section
variable {K : PySem.W.Frag} {σ : L2.St} {H : Hp} {p : Addr} {ta tb te : TE} {P : V → Prop} {D : Ends} {tz : TS}
/-- xs[i] = what is drawn -/
theorem q1_setL {l : Addr} {xs : List V} {j : Nat} (hl : wo p H l = some (.lst xs)) (h : EvD1 te σ p H P) (d : Dr p H) (ho : Ev ta σ (wo p H) (.ref l)) (hi : Ev tb σ (wo p H) (.int (j : Int))) (hj : j < xs.length) (k : ∀ v H1, P v → Ex (wo p H) H1 → Dr p H1 → tz D σ (upd H1 l (.lst (xs.set j v)))) :
    tSeq (tAsg te (gSub ta tb rSetL)) tz D σ H := h H (wo_le p H) d _ fun v H1 hv e1 d1 => ho H1 e1 _ fun H2 e2 => hi H2 (e1.trans e2) _ fun H3 e3 =>
  ⟨l, xs, (j : Int), j, rfl, rfl, ((e1.trans e2).trans e3) l _ hl, ixN_nat hj, k v H3 hv ((e1.trans e2).trans e3) (d1.ex (e2.trans e3))⟩
/-- a digit of a list that is new -/
theorem en_digit {m : Int} {E : XK} (ha : EvC ta σ H) (hb : Ev tb σ H (.int m)) (h0 : 0 < m) (h1 : m < 2 ^ 400) : EvN (tCall (sp__law_digit K) [] E (tCons ta (tCons tb tNil))) σ H (ZP fun d => 0 ≤ d ∧ d < m) := fun H1 e Q q =>
  ha H1 e _ fun p H2 hp e2 d2 => hb H2 (e.trans e2) _ fun H3 e3 => ⟨p, m, rfl, d2.ex e3, h0, h1, fun d H4 a b e4 _ => q _ H4 ⟨d, rfl, a, b⟩ (wx_back hp (e2.trans e3) e4)⟩
end
section
variable {K : PySem.W.Frag} {σ : L2.St} {H : Hp} {p : Addr} {te : TE} {t : TT} {P : V → Prop} {D : Ends} {tu : TS}
theorem s1_asg {i : Nat} (h : EvD1 te σ p H P) (d : Dr p H) (k : ∀ v H1, P v → Ex (wo p H) H1 → Dr p H1 → D.nx (σ.set i (some v)) H1) : tAsg te (gName i) D σ H := h H (wo_le p H) d _ fun v H1 hv e1 d1 => k v H1 hv e1 d1
theorem s1_when (h : EvDT t σ p H (fun _ => True)) (d : Dr p H) (h1 : ∀ H1, Ex (wo p H) H1 → Dr p H1 → tu D σ H1) (h2 : ∀ H1, Ex (wo p H) H1 → Dr p H1 → D.nx σ H1) : tIfS t tu tNext D σ H := h H (wo_le p H) d _ fun b H1 _ e1 d1 => by
  cases b with
  | true =>
    show tu D σ H1
    exact h1 H1 e1 d1
  | false =>
    show D.nx σ H1
    exact h2 H1 e1 d1
end

/-! ### lists compared, cut; list as a type -/
theorem cut_take {xs : List V} {m : Nat} (h : m ≤ xs.length) : cutV xs none (some (m : Int)) = xs.take m := by
  unfold cutV
  rw [HT.sIx_none, HT.sIx_nat, List.drop_zero, Nat.sub_zero, Nat.min_eq_left h]
theorem eqv_intsL : ∀ ns ms : List Int, PyData.eqv (.list (ns.map PyData.int)) (.list (ms.map PyData.int)) = decide (ns = ms)
  | [], [] => rfl
  | [], _ :: _ => rfl
  | _ :: _, [] => rfl
  | n :: r, m :: t => by
    have ih := eqv_intsL r t
    show ((n == m) && PyData.eqv (.list (r.map PyData.int)) (.list (t.map PyData.int))) = _
    rw [ih, Bool.eq_iff_iff, Bool.and_eq_true, decide_eq_true_eq, decide_eq_true_eq, beq_iff_eq, List.cons.injEq]
theorem rv_neL {K : PySem.W.Frag} {H : Hp} {p q : Addr} {ns ms : List Int} (hp : SqL K H p (ns.map V.int)) (hq : SqL K H q (ms.map V.int)) : RV (rNeD K) (.ref p) (.ref q) H (.bl (!decide (ns = ms))) := fun H1 e Q k =>
  ⟨_, _, .lst (ex_l e hp) (dp_ints ns), .lst (ex_l e hq) (dp_ints ms), PySem.W.ke_shaped_ints _, PySem.W.ke_shaped_ints _, by rw [eqv_intsL]; exact k H1 (Ex.refl H1)⟩
theorem tx_lst {K : PySem.W.Frag} {H : Hp} {a : Addr} {xs : List V} (h : H a = some (.lst xs)) : ∀ H1, Ex H H1 → TyX K H1 (.ref a) (.type "list") := fun H1 e => .base (.lst (e _ _ h))
theorem given_all (n : Nat) (v : Nat → V) : given n (fun _ => true) v = (List.range n).map v := by
  unfold given
  rw [List.filter_eq_self.mpr (fun _ _ => rfl)]
theorem foldl_take {α β : Type} {f : β → α → β} {l : List α} {i : Nat} {x : α} {b : β} (h : l[i]? = some x) : (l.take (i + 1)).foldl f b = f ((l.take i).foldl f b) x := by
  rw [List.take_add_one, h, List.foldl_append]
  rfl
theorem ix_listK {X : Cx} {K : PySem.W.Frag} (h : X.K = K) : IxR X (rIxL K) := h ▸ ix_list
theorem call_len_seqK {X : Cx} {K : PySem.W.Frag} (h : X.K = K) : CallR X (.builtin "len") (fun xs H Q => ∃ p ys, xs = [V.ref p] ∧ (SqL K H p ys ∨ SqT K H p ys) ∧ Q (V.int ys.length) H) := h ▸ call_len_seq
theorem ix_tupK {X : Cx} {K : PySem.W.Frag} (h : X.K = K) : IxR X (rIxT K) := h ▸ ix_tup

/-! ### lists of objects, each with a word of its own -/
def Al2 {α : Type} (R : Hp → Addr → α → Prop) (H : Hp) (qs : List Addr) (L : List α) : Prop := qs.length = L.length ∧ ∀ (i : Nat) q l, qs[i]? = some q → L[i]? = some l → R H q l
def Lst2 {α : Type} (R : Hp → Addr → α → Prop) (H : Hp) (p : Addr) (L : List α) : Prop := ∃ qs, H p = some (.lst (qs.map V.ref)) ∧ Al2 R H qs L
section
variable {α : Type} {R S : Hp → Addr → α → Prop} {H H' : Hp} {qs : List Addr} {L : List α}
theorem Al2.nil : Al2 R H [] [] := ⟨rfl, fun i q l h => by simp at h⟩
theorem Al2.mono (h : Al2 R H qs L) (k : ∀ q l, l ∈ L → R H q l → S H' q l) : Al2 S H' qs L := ⟨h.1, fun i q l a b => k q l (List.mem_of_getElem? b) (h.2 i q l a b)⟩
theorem Al2.snoc {q : Addr} {l : α} (h : Al2 R H qs L) (hr : R H q l) : Al2 R H (qs ++ [q]) (L ++ [l]) := by
  refine ⟨by rw [List.length_append, List.length_append, h.1, List.length_cons, List.length_cons]; rfl, fun i q' l' a b => ?_⟩
  by_cases hi : i < qs.length
  · rw [List.getElem?_append_left hi] at a
    rw [List.getElem?_append_left (by rw [← h.1]; exact hi)] at b
    exact h.2 i q' l' a b
  · rw [List.getElem?_append_right (by omega)] at a
    rw [List.getElem?_append_right (by rw [← h.1]; omega)] at b
    have e : i - qs.length = 0 := by
      by_cases z : i - qs.length = 0
      · exact z
      · rw [List.getElem?_eq_none (by show 1 ≤ _; omega)] at a; cases a
    rw [e] at a
    rw [← h.1, e] at b
    cases a
    cases b
    exact hr
theorem Al2.get (h : Al2 R H qs L) {i : Nat} (hi : i < L.length) : ∃ q, qs[i]? = some q ∧ R H q L[i] := by
  have hq : i < qs.length := by rw [h.1]; exact hi
  exact ⟨qs[i], List.getElem?_eq_getElem hq, h.2 i _ _ (List.getElem?_eq_getElem hq) (List.getElem?_eq_getElem hi)⟩
end
/-- an object that is new -/
def EvR (R : Hp → Addr → Prop) (te : TE) (σ : L2.St) (H : Hp) : Prop := ∀ H1, Ex H H1 → ∀ Q : VK, (∀ p H2, H1 p = none → Ex H1 H2 → R H2 p → Q (.ref p) H2) → te σ H1 Q
theorem slice_any {a : List Nat} {i j : Nat} : Txt.slice (SX.S a) (some (i : Int)) (some (j : Int)) = SX.S ((a.take j).drop i) := by
  rw [← C8.cutS_slice]
  unfold cutS
  rw [SX.S_len, HT.sIx_nat, HT.sIx_nat]
  refine congrArg SX.S ?_
  show (a.drop (min i a.length)).take (min j a.length - min i a.length) = (a.take j).drop i
  rw [List.drop_take]
  by_cases hi : i ≤ a.length
  · rw [Nat.min_eq_left hi]
    by_cases hj : j ≤ a.length
    · rw [Nat.min_eq_left hj]
    · rw [Nat.min_eq_right (show a.length ≤ j by omega), List.take_of_length_le (by rw [List.length_drop]; omega), List.take_of_length_le (by rw [List.length_drop]; omega)]
  · rw [Nat.min_eq_right (show a.length ≤ i by omega), List.drop_eq_nil_of_le (Nat.le_refl _), List.drop_eq_nil_of_le (by omega)]
    simp
theorem ev_slA {σ : L2.St} {H : Hp} {ta tl th : TE} {l : List Nat} {i j : Nat} (ha : Ev ta σ H (.str (SX.S l))) (hl : Ev tl σ H (.int (i : Int))) (hh : Ev th σ H (.int (j : Int))) (hz : l.length ≤ 100000) : Ev (tSl C8.rSlX ta (tPart tl) (tPart th)) σ H (.str (SX.S ((l.take j).drop i))) := fun H1 e Q q =>
  ha H1 e _ fun H2 e2 => hl H2 (e.trans e2) _ fun H3 e3 => ⟨_, rfl, hh H3 ((e.trans e2).trans e3) _ fun H4 e4 => ⟨_, rfl, SX.S l, rfl, by rw [SX.S_len]; exact sz_of hz, by rw [slice_any]; exact q H4 ((e2.trans e3).trans e4)⟩⟩
theorem getD_S (t : List Nat) (v : Nat) : (SX.S t).cps.getD v 0 = t.getD v 0 := by
  show t.toArray.getD v 0 = t.getD v 0
  rw [Array.getD_eq_getD_getElem?, List.getD_eq_getElem?_getD, List.getElem?_toArray]
/-- the first c at or behind i -/
theorem find3_at {t a m : List Nat} {c i : Nat} (h : t.drop i = a ++ c :: m) (ha : c ∉ a) : Txt.find3 (SX.S t) (SX.S [c]) (i : Int) = ((i + a.length : Nat) : Int) := by
  have hlen : i + (a.length + (m.length + 1)) = t.length := by
    have := congrArg List.length h
    rw [List.length_drop, List.length_append, List.length_cons] at this
    omega
  have hf : fromIndex (SX.S t).length (i : Int) = i := by
    unfold fromIndex
    rw [if_neg (by omega)]
    omega
  have at_ : ∀ v, i ≤ v → t.getD v 0 = (a ++ c :: m).getD (v - i) 0 := fun v hv => by
    rw [← h, List.getD_eq_getElem?_getD, List.getD_eq_getElem?_getD, List.getElem?_drop, show i + (v - i) = v by omega]
  have hc : t.getD (i + a.length) 0 = c := by
    rw [at_ _ (by omega), show i + a.length - i = a.length by omega, List.getD_eq_getElem?_getD, List.getElem?_append_right (Nat.le_refl _), Nat.sub_self]
    rfl
  rcases StrLaws.find3_spec (SX.S t) c (i : Int) with ⟨_, h2⟩ | ⟨k, h1, h2, h3, h4, h5⟩
  · have := h2 (i + a.length) (by rw [hf]; omega) (by rw [SX.S_len]; omega)
    rw [getD_S, hc] at this
    exact absurd rfl this
  · rw [hf] at h2 h5
    rw [getD_S] at h4
    have e1 : ¬ i + a.length < k := fun z => by
      have := h5 (i + a.length) (by omega) z
      rw [getD_S, hc] at this
      exact this rfl
    have e2 : ¬ k < i + a.length := fun z => by
      rw [at_ k h2, List.getD_eq_getElem?_getD, List.getElem?_append_left (by omega), List.getElem?_eq_getElem (by omega)] at h4
      exact ha (by rw [← h4]; exact List.getElem_mem _)
    rw [show k = i + a.length by omega] at h1
    exact h1
theorem at_drop {t r : List Nat} {i : Nat} {c : Nat} (h : t.drop i = c :: r) : t[i]? = some c ∧ i < t.length ∧ t.drop (i + 1) = r := by
  have hi : i < t.length := by
    have := congrArg List.length h
    rw [List.length_drop, List.length_cons] at this
    omega
  rw [List.drop_eq_getElem_cons hi] at h
  have h2 := List.cons.inj h
  exact ⟨by rw [List.getElem?_eq_getElem hi, h2.1], hi, h2.2⟩
theorem drop_nil {t : List Nat} {i : Nat} (h : t.drop i = []) : t.length ≤ i := by
  have := congrArg List.length h
  rw [List.length_drop] at this
  simp at this
  omega
theorem drop_app {t a b : List Nat} {i : Nat} (h : t.drop i = a ++ b) : t.drop (i + a.length) = b := by
  rw [← List.drop_drop, h, List.drop_left]
theorem take1 {t : List Nat} {i : Nat} : (t.take (i + 1)).drop i = (t.drop i).take 1 := by rw [List.drop_take, show i + 1 - i = 1 by omega]
theorem joinL_len (w : List Nat) : ∀ ps : List (List Nat), (ps.map (·.length)).sum ≤ (TL.joinL w ps).length
  | [] => Nat.le_refl _
  | [p] => by
    show p.length + 0 ≤ p.length
    omega
  | p :: q :: r => by
    have := joinL_len w (q :: r)
    show p.length + ((q :: r).map (·.length)).sum ≤ (p ++ (w ++ TL.joinL w (q :: r))).length
    rw [List.length_append, List.length_append]
    omega
theorem ev_joinL {K : PySem.W.Frag} {σ : L2.St} {H : Hp} {ta tb : TE} {w : List Nat} {pcs : List (List Nat)} {p : Addr} (ha : Ev ta σ H (.str (SX.S w))) (hb : Ev tb σ H (.ref p)) (hp : SqL K H p ((pcs.map SX.S).map V.str)) (h1 : (TL.joinL w pcs).length ≤ 100000) (h2 : pcs.length ≤ 100000) (h3 : w.length ≤ 10) :
    Ev (tM1 (fun x xs H Q => ∃ a p, ∃ ys : List Str, x = .str a ∧ xs = [.ref p] ∧ (SqL K H p (ys.map V.str) ∨ SqT K H p (ys.map V.str)) ∧
      (ys.map (·.length)).sum + ys.length * a.length ≤ 16777216 ∧ Q (.str (Txt.join a ys)) H) ta tb) σ H (.str (SX.S (TL.joinL w pcs))) := fun H1 e Q q =>
  ha H1 e _ fun H2 e2 => ⟨⟨_, rfl⟩, hb H2 (e.trans e2) _ fun H3 e3 => ⟨SX.S w, p, pcs.map SX.S, rfl, rfl, .inl (ex_l ((e.trans e2).trans e3) hp), by
    rw [SX.lens, SX.S_len, List.length_map]
    have := joinL_len w pcs
    have : pcs.length * w.length ≤ 100000 * 10 := Nat.mul_le_mul h2 h3
    omega, by rw [SX.join_S]; exact q H3 (e2.trans e3)⟩⟩
/-- return (a new object, ..) -/
theorem s_retUR {R : Hp → Addr → Prop} {te : TE} {tr : TA} {σ : L2.St} {H : Hp} {D : Ends} {vs : List V} (hm : ∀ H H' p, Ex H H' → R H p → R H' p) (h : EvR R te σ H) (hr : ∀ H1, Ex H H1 → EvA tr σ H1 vs) (hl : vs.length ≤ 1000)
    (k : ∀ q p H1, H q = none → Ex H H1 → R H1 p → H1 q = some (.tup (.ref p :: vs)) → D.rt (.ref q) H1) : tRet (tTup (tCons te tr)) D σ H :=
  h H (Ex.refl H) _ fun p H1 hp e1 hR => hr H1 e1 H1 (Ex.refl H1) _ fun H2 e2 => ⟨by rw [List.length_cons]; exact sz_of (by omega), fun q hq => k q p _ (fresh_back (e1.trans e2) hq) ((e1.trans e2).trans (Ex.new hq)) (hm _ _ _ (e2.trans (Ex.new hq)) hR) upd_same⟩
theorem wo_upd (p : Addr) (H : Hp) (o : HO) : wo p (upd H p o) = wo p H := by
  funext a
  unfold wo
  split
  · rfl
  · rename_i h
    exact upd_ne h
theorem wo_mono {p : Addr} {H H' : Hp} (e : Ex H H') : Ex (wo p H) (wo p H') := fun a o h => by
  have hx : a ≠ p := fun z => by rw [z, wo_self] at h; cases h
  rw [wo_ne hx] at h ⊢
  exact e a o h
theorem Lst2.mono {α : Type} {R : Hp → Addr → α → Prop} {H H' : Hp} {p : Addr} {L : List α} (h : Lst2 R H p L) (e : Ex H H') (k : ∀ q l, R H q l → R H' q l) : Lst2 R H' p L := by
  obtain ⟨qs, h1, h2⟩ := h
  exact ⟨qs, e _ _ h1, h2.mono fun q l _ => k q l⟩
/-- [a new object] -/
theorem er_one {R : Hp → Addr → Prop} {te : TE} {σ : L2.St} {H : Hp} (hm : ∀ H H' p, Ex H H' → R H p → R H' p) (h : EvR R te σ H) : EvR (fun H p => ∃ t, H p = some (.lst [.ref t]) ∧ R H t) (tLst (tCons te tNil)) σ H := fun H1 e Q q =>
  h H1 e _ fun t H2 ht e2 hR => ⟨sz_of (by show 1 ≤ 100000; decide), fun p hp => q p _ (fresh_back e2 hp) (e2.trans (Ex.new hp)) ⟨t, upd_same, hm _ _ _ (Ex.new hp) hR⟩⟩

/-! ### signs -/
def signsL : List Nat := (PySem.Str.ofString " !\"#$&'()*+,-./0123456789:;<=>?@ABCDEFGHIJKLMNOPQRSTUVWXYZ[\\]^_`abcdefghijklmnopqrstuvwxyz{|}~").cps.toList
def fewL : List Nat := (PySem.Str.ofString "ab*?\\ -'\"A").cps.toList
theorem signs_len : signsL.length = 94 := by decide +kernel
theorem few_len : fewL.length = 10 := by decide +kernel
theorem signs_ok : ∀ c ∈ signsL, 32 ≤ c ∧ c ≤ 126 := by decide +kernel
theorem few_ok : ∀ c ∈ fewL, 32 ≤ c ∧ c ≤ 126 := by decide +kernel
def okC (c : Nat) : Prop := 32 ≤ c ∧ c ≤ 126
theorem join_ones : ∀ l : List Nat, Txt.join (SX.S []) (l.map fun c => (⟨#[c]⟩ : Str)) = SX.S l := by
  intro l
  have e : (l.map fun c => (⟨#[c]⟩ : Str)) = (l.map fun c => [c]).map SX.S := by
    rw [List.map_map]
    rfl
  rw [e, SX.join_S]
  congr 1
  induction l with
  | nil => rfl
  | cons c r ih =>
    cases r with
    | nil => rfl
    | cons d r => 
      have e2 : TL.joinL [] (List.map (fun c => [c]) (c :: d :: r)) = c :: TL.joinL [] (List.map (fun c => [c]) (d :: r)) := rfl
      rw [e2, ih (by rw [List.map_map]; rfl)]

/-! ### texts and values that are drawn -/
def fewS : List Nat := (PySem.Str.ofString "abAB 19-'~").cps.toList
theorem fewS_len : fewS.length = 10 := by decide +kernel
theorem fewS_S : PySem.Str.ofString "abAB 19-'~" = SX.S fewS := by decide +kernel
theorem fewS_in : ∀ c ∈ fewS, c ∈ signsL := by decide +kernel
def EvLD1 (te : TE) (σ : L2.St) (p : Addr) (H : Hp) (P : List V → Prop) : Prop := ∀ H1, Ex (wo p H) H1 → Dr p H1 → ∀ Q : VK, (∀ l H2 xs, P xs → H1 l = none → Ex (wo p H1) H2 → Dr p H2 → H2 l = some (.lst xs) → Q (.ref l) H2) → te σ H1 Q
theorem dr_ne {p l : Addr} {H : Hp} (d : Dr p H) (h : H l = none) : p ≠ l := fun z => by
  obtain ⟨s, _, e⟩ := d
  rw [z, h] at e
  cases e
theorem Dr.upd {p l : Addr} {H : Hp} {o : HO} (d : Dr p H) (h : p ≠ l) : Dr p (upd H l o) := by
  obtain ⟨s, s0, e⟩ := d
  exact ⟨s, s0, by rw [upd_ne h]; exact e⟩
section
variable {K : PySem.W.Frag} {σ : L2.St} {H : Hp} {p : Addr} {ta tb te tn : TE} {R : V → Prop} {PI : Int → Prop} {D : Ends} {tz : TS}
/-- [what is drawn for k in range(a number that is drawn)] -/
theorem e1_lc {j : Nat} {vs : List Nat} {m : Int} (hn : EvD1 tn σ p H (ZP fun n => 0 ≤ n ∧ n ≤ m)) (hm : m ≤ 10000) (hw : ∀ x, wipe ((wipe σ vs).set j (some x)) vs = wipe σ vs)
    (he : ∀ i : Nat, EvD1 te ((wipe σ vs).set j (some (.int (i : Int)))) p H R) : EvLD1 (tLc (iRng1 (tCons tn tNil)) (gName j) tYes te vs) σ p H (fun xs => (xs.length : Int) ≤ m ∧ ∀ x ∈ xs, R x) := fun H0 e d Q q =>
  hn H0 e d _ fun v H1 ⟨n, ev, hn0, hn1⟩ e1 d1 => by
    subst ev
    refine ⟨n, rfl, by omega, by omega, fun Dl hD => ?_⟩
    have hpd : p ≠ Dl := dr_ne d1 hD
    refine lc_range (lo := 0) (n := n.toNat) (fun i H' => Ex (wo p H1) H' ∧ Dr p H' ∧ ∃ acc, H' Dl = some (.lst acc) ∧ acc.length = i ∧ ∀ x ∈ acc, R x) ⟨Ex.mut (wo_le p H1) (by rw [wo_ne (Ne.symm hpd)]; exact hD), d1.upd hpd, [], upd_same, rfl, fun x hx => by cases hx⟩ (fun i H' hi pv => ?_) (fun H' pv => ?_)
    · obtain ⟨p1, p2, acc, p3, p4, p5⟩ := pv
      have e0 : (0 : Int) + (i : Int) = (i : Int) := Int.zero_add _
      show wipe ((wipe σ vs).set j (some (.int ((0 : Int) + (i : Int))))) vs = wipe σ vs ∧ te ((wipe σ vs).set j (some (.int ((0 : Int) + (i : Int))))) H' fun y H4 => ∃ acc, H4 Dl = some (.lst acc) ∧ acc.length < sizeLine ∧ _
      rw [e0]
      refine ⟨hw _, he i H' (wx_trans e (wx_trans e1 p1)) p2 _ fun y H4 hy e4 d4 => ?_⟩
      refine ⟨acc, e4 Dl _ (by rw [wo_ne (Ne.symm hpd)]; exact p3), sz_lt (by omega), Ex.mut (wx_trans p1 e4) (by rw [wo_ne (Ne.symm hpd)]; exact hD), d4.upd hpd, acc ++ [y], upd_same, by rw [List.length_append, p4]; rfl, fun x hx => ?_⟩
      rcases List.mem_append.mp hx with h | h
      · exact p5 x h
      · rw [List.mem_singleton.mp h]
        exact hy
    · obtain ⟨p1, p2, acc, p3, p4, p5⟩ := pv
      have hD0 : H0 Dl = none := by
        cases z : H0 Dl with
        | none => rfl
        | some o =>
          have := e1 Dl o (by rw [wo_ne (Ne.symm hpd)]; exact z)
          rw [hD] at this
          cases this
      exact q Dl H' acc ⟨by omega, p5⟩ hD0 (wx_trans e1 p1) p2 p3
def oneS (L : List Nat) (v : V) : Prop := ∃ c, v = .str ⟨#[c]⟩ ∧ c ∈ L
theorem ones_of {L : List Nat} : ∀ {xs : List V}, (∀ x ∈ xs, oneS L x) → ∃ l : List Nat, xs = l.map (fun c => V.str ⟨#[c]⟩) ∧ ∀ c ∈ l, c ∈ L
  | [], _ => ⟨[], rfl, fun c hc => by cases hc⟩
  | x :: r, h => by
    obtain ⟨l, e, hl⟩ := ones_of (xs := r) fun y hy => h y (List.mem_cons_of_mem _ hy)
    obtain ⟨c, ec, hc⟩ := h x List.mem_cons_self
    refine ⟨c :: l, by rw [ec, e]; rfl, fun y hy => ?_⟩
    rcases List.mem_cons.mp hy with z | z
    · rw [z]; exact hc
    · exact hl y z
def txtP (L : List Nat) (m : Nat) (v : V) : Prop := ∃ l : List Nat, v = .str (SX.S l) ∧ l.length ≤ m ∧ ∀ c ∈ l, c ∈ L
/-- ''.join(a list of single signs) -/
theorem e1_join {L : List Nat} {m : Nat} (hm : m ≤ 10000) (h : EvLD1 te σ p H (fun xs => (xs.length : Int) ≤ (m : Int) ∧ ∀ x ∈ xs, oneS L x)) : EvD1 (tM1 (fun x xs H Q => ∃ a p, ∃ ys : List Str, x = .str a ∧ xs = [.ref p] ∧ (SqL K H p (ys.map V.str) ∨ SqT K H p (ys.map V.str)) ∧
      (ys.map (·.length)).sum + ys.length * a.length ≤ 16777216 ∧ Q (.str (Txt.join a ys)) H) (tC (.str (PySem.Str.ofString ""))) te) σ p H (txtP L m) := fun H1 e d Q q => by
  refine ⟨⟨_, rfl⟩, h H1 e d _ fun l H2 xs hP hl e2 d2 h2 => ?_⟩
  obtain ⟨hlen, hxs⟩ := hP
  obtain ⟨w, rfl, hw⟩ := ones_of hxs
  rw [List.length_map] at hlen
  have hw2 : w.length ≤ m := by omega
  refine ⟨SX.S [], l, w.map fun c => (⟨#[c]⟩ : Str), by rw [c00], rfl, .inl (sq_of ?_), ?_, ?_⟩
  · rw [h2, List.map_map]
    rfl
  · have e9 : (w.map fun c => (⟨#[c]⟩ : Str)).map (·.length) = List.replicate w.length 1 := by
      rw [List.map_map, List.eq_replicate_iff]
      refine ⟨by rw [List.length_map], fun b hb => ?_⟩
      obtain ⟨c, _, rfl⟩ := List.mem_map.mp hb
      rfl
    rw [e9, List.sum_replicate_nat, List.length_map]
    show w.length * 1 + w.length * 0 ≤ _
    omega
  · rw [join_ones]
    exact q _ H2 ⟨w, rfl, hw2, hw⟩ e2 d2
/-- signs[_law_digit(state, m)] -/
theorem e1_sign {L : List Nat} {m : Int} {E : XK} {i : Nat} (hs : σ[i]? = some (some (.str (SX.S L)))) (hL : (L.length : Int) = m) (h0 : 0 < m) (hm : m ≤ 1000) (ha : Ev ta σ (wo p H) (.ref p)) (hb : Ev tb σ (wo p H) (.int m)) : EvD1 (tOp rIxS (tVar i) (tCall (sp__law_digit K) [] E (tCons ta (tCons tb tNil)))) σ p H (oneS L) := fun H1 e d Q q =>
  ⟨.str (SX.S L), hs, ez_digit ha hb h0 (by omega) H1 e d _ fun v H2 ⟨n, ev, n0, n1⟩ e2 d2 => by
    subst ev
    obtain ⟨k, rfl⟩ := Int.eq_ofNat_of_zero_le n0
    have hk : k < L.length := by omega
    exact ⟨SX.S L, (k : Int), L[k], rfl, rfl, by rw [SX.S_len]; exact sz_of (by omega), atI_nat (List.getElem?_eq_getElem hk), q _ H2 ⟨L[k], rfl, List.getElem_mem hk⟩ e2 d2⟩⟩
end
/-- a value that is drawn -/
inductive DV : V → Prop where
  | non : DV .non
  | bl (b : Bool) : DV (.bl b)
  | int (i : Int) (h : -1000000000000000 ≤ i ∧ i ≤ 1000000000000000) : DV (.int i)
  | str (l : List Nat) (h : l.length ≤ 4) (hc : ∀ c ∈ l, c ∈ signsL) : DV (.str (SX.S l))
theorem DV.pl {x : V} (h : DV x) : Pl x := by cases h <;> constructor
def sp__law_text (K : PySem.W.Frag) : Sp := fun vs H Q _ => ∃ p : Addr, vs = [.ref p] ∧ Dr p H ∧ ∀ v H', txtP signsL 4 v → Ex (wo p H) H' → Dr p H' → Q v H'
def sp__law_value (K : PySem.W.Frag) : Sp := fun vs H Q _ => ∃ p : Addr, vs = [.ref p] ∧ Dr p H ∧ ∀ v H', DV v → Ex (wo p H) H' → Dr p H' → Q v H'
section
variable {P : Program} {w : World} {K : PySem.W.Frag} {mg : Str → Option Value} {base : Heap}
theorem ok__law_text (D : Dn K mg "_law_text" s__law_text ["state"]) (c__law_digit : C8.Cal P w K mg base 1 "_law_digit" (sp__law_digit K) []) (z_range : mg "range" = none) :
    C8.Cal P w K mg base 2 "_law_text" (sp__law_text K) [] := by
  refine cal_of D sc__law_text (fun vs H Q E h => ?_) (fun f cdv A outer s H vs Q E hr h => ?_)
  · obtain ⟨_, rfl, _⟩ := h
    rfl
  refine ⟨_, (pss_cons (ps_set (i := 1) sc__law_text.nd rfl (.inr rfl) pe_str)
    (pss_one (ps_ret (pe_join pe_str (pe_lc (own := [("k", 2)]) (g := gName 2) (tt := tYes) rfl sc__law_text.nd (pi_range1 rfl z_range (pa_cons (C8.pe_c c__law_digit hr (by decide) (by rfl) (pa_cons (pv 0) (pa_cons pe_int pa_nil))) pa_nil)) (blkOk_by (N := n__law_text) (sc := C8.fnScope s__law_text) (by decide +kernel)) (fun _ _ _ _ _ => pg_name (i := 2) sc__law_text.nd rfl (Or.inl rfl)) (fun _ _ _ _ _ => pts_nil) (fun _ _ _ _ _ => (pe_ix ix_str (pv 1) (C8.pe_c c__law_digit hr (by decide) (by rfl) (pa_cons (pv 0) (pa_cons pe_int pa_nil))) (fun _ _ => rfl)))))))), ?_⟩
  obtain ⟨p, rfl, d, q⟩ := h
  refine q_asg (v := .str (SX.S fewS)) (ev_is ev_c (by rw [fewS_S])) fun H1 e1 => ?_
  refine s1_ret (P := txtP fewS 4) (e1_join (by decide) (e1_lc (m := 4) (ez_mono (ez_digit (ev_var rfl) ev_c (by decide) (by decide)) fun i hi => by omega) (by decide) (fun _ => rfl) fun i => e1_sign rfl (by rw [fewS_len]; rfl) (by decide) (by decide) (ev_var rfl) ev_c)) (d.ex e1) fun v H2 hv e2 d2 => ?_
  obtain ⟨l, rfl, hl, hc⟩ := hv
  exact q _ H2 ⟨l, rfl, hl, fun c h => fewS_in c (hc c h)⟩ (wx_trans (wx_of e1) e2) d2
section
variable {σ : L2.St} {H : Hp} {ta : TE} {E : XK} {p : Addr}
theorem e1_text (ha : Ev ta σ (wo p H) (.ref p)) : EvD1 (tCall (sp__law_text K) [] E (tCons ta tNil)) σ p H (txtP signsL 4) := fun H1 e d Q q =>
  ha H1 e _ fun H2 e2 => ⟨p, rfl, d.ex e2, fun v H3 hv e3 d3 => q v H3 hv (wx_trans (wx_of e2) e3) d3⟩
theorem e1_value (ha : Ev ta σ (wo p H) (.ref p)) : EvD1 (tCall (sp__law_value K) [] E (tCons ta tNil)) σ p H DV := fun H1 e d Q q =>
  ha H1 e _ fun H2 e2 => ⟨p, rfl, d.ex e2, fun v H3 hv e3 d3 => q v H3 hv (wx_trans (wx_of e2) e3) d3⟩
end
theorem ok__law_value (D : Dn K mg "_law_value" s__law_value ["state"]) (c__law_digit : C8.Cal P w K mg base 1 "_law_digit" (sp__law_digit K) []) (c__law_text : C8.Cal P w K mg base 2 "_law_text" (sp__law_text K) []) :
    C8.Cal P w K mg base 3 "_law_value" (sp__law_value K) [] := by
  refine cal_of D sc__law_value (fun vs H Q E h => ?_) (fun f cdv A outer s H vs Q E hr h => ?_)
  · obtain ⟨_, rfl, _⟩ := h
    rfl
  refine ⟨_, (pss_cons (ps_set (i := 1) sc__law_value.nd rfl (.inl rfl) (C8.pe_c c__law_digit hr (by decide) (by rfl) (pa_cons (pv 0) (pa_cons pe_int pa_nil))))
    (pss_cons (ps_if (pt_cmpR op_lt (pv 1) pe_int (nomark _))
      (pss_one (ps_ret pe_non))
      pss_nil)
    (pss_cons (ps_if (pt_cmpR op_eq (pv 1) pe_int (nomark _))
      (pss_one (ps_ret (pe_cmpR op_eq (C8.pe_c c__law_digit hr (by decide) (by rfl) (pa_cons (pv 0) (pa_cons pe_int pa_nil))) pe_int (nomark _))))
      pss_nil)
    (pss_cons (ps_if (pt_cmpR op_lt (pv 1) pe_int (nomark _))
      (pss_one (ps_ret (pe_op op_sub (C8.pe_c c__law_digit hr (by decide) (by rfl) (pa_cons (pv 0) (pa_cons pe_int pa_nil))) pe_int)))
      pss_nil)
    (pss_cons (ps_if (pt_cmpR op_eq (pv 1) pe_int (nomark _))
      (pss_one (ps_ret (pe_op op_mul (pe_op op_sub (pe_op op_mul (C8.pe_c c__law_digit hr (by decide) (by rfl) (pa_cons (pv 0) (pa_cons pe_int pa_nil))) pe_int) pe_int) (pe_op op_sub pe_int (C8.pe_c c__law_digit hr (by decide) (by rfl) (pa_cons (pv 0) (pa_cons pe_int pa_nil)))))))
      pss_nil)
    (pss_one (ps_ret (C8.pe_c c__law_text hr (by decide) (by rfl) (pa_cons (pv 0) pa_nil))))))))), ?_⟩
  obtain ⟨p, rfl, d, q⟩ := h
  refine qz_asg (ez_digit (ev_var rfl) ev_c (by decide) (by decide)) d fun kd H1 hk e1 d1 => ?_
  have w2 : ∀ {H2 : Hp}, Ex H1 H2 → Ex (wo p H) H2 := fun e => wx_trans e1 (wx_of e)
  refine q_when (b := decide (kd < 2)) (by walk_at "et") (fun _ H2 e2 => s_ret ev_c fun H3 e3 => q _ H3 .non (w2 (e2.trans e3)) (d1.ex (e2.trans e3))) fun _ H2 e2 => ?_
  have dg : ∀ {m : Int} {σ : L2.St} {H0 : Hp}, σ[0]? = some (some (V.ref p)) → 0 < m → m < 2 ^ 400 → EvD1 (tCall (sp__law_digit K) [] C8.E0 (tCons (tVar 0) (tCons (tC (.int m)) tNil))) σ p H0 (ZP fun d => 0 ≤ d ∧ d < m) := fun h0 a b => ez_digit (ev_var h0) ev_c a b
  have cc : ∀ {c : Int} {σ : L2.St} {H0 : Hp}, EvD1 (tC (.int c)) σ p H0 (ZP fun d => d = c) := e1_int ev_c rfl
  refine q_when (b := decide (V.int kd = V.int 2)) (by walk_at "et") (fun _ H3 e3 => ?_) fun _ H3 e3 => ?_
  · refine s1_ret (P := fun v => ∃ b, v = .bl b) (ez_eq (dg rfl (by decide) (by decide)) cc) (d1.ex (e2.trans e3)) fun v H4 hv e4 d4 => ?_
    obtain ⟨b, rfl⟩ := hv
    exact q _ H4 (.bl b) (wx_trans (w2 (e2.trans e3)) e4) d4
  have x3 := e2.trans e3
  refine q_when (b := decide (kd < 5)) (by walk_at "et") (fun _ H4 e4 => ?_) fun _ H4 e4 => ?_
  · refine s1_ret (P := ZP fun i => -3 ≤ i ∧ i < 4) (ez_op0 (dg rfl (by decide) (by decide)) cc fun i j hi hj => ⟨by omega, by omega⟩) (d1.ex (x3.trans e4)) fun v H5 hv e5 d5 => ?_
    obtain ⟨i, rfl, hi⟩ := hv
    exact q _ H5 (.int i (by omega)) (wx_trans (w2 (x3.trans e4)) e5) d5
  refine q_when (b := decide (V.int kd = V.int 5)) (by walk_at "et") (fun _ H5 e5 => ?_) fun _ H5 e5 => ?_
  · refine s1_ret (P := ZP fun i => -1000000000000000 ≤ i ∧ i ≤ 1000000000000000) ?_ (d1.ex ((x3.trans e4).trans e5)) fun v H6 hv e6 d6 => ?_
    · refine ez_op (PI := fun i => i = -1 ∨ i = 1) (RI := fun j => 0 ≤ j ∧ j ≤ 1000000000000000) (ez_op0 (PI := fun i => i = 0 ∨ i = 2) (ez_op (dg rfl (by decide) (by decide)) cc fun i j hi hj => ⟨.inl ⟨by omega, by omega⟩, by subst hj; omega⟩) cc fun i j hi hj => by omega) (ez_op0 cc (dg rfl (by decide) (by decide)) fun i j hi hj => ⟨by omega, by omega⟩) fun i j hi hj => ⟨.inl ⟨by omega, by omega⟩, ?_⟩
      rcases hi with h | h <;> subst h <;> omega
    · obtain ⟨i, rfl, hi⟩ := hv
      exact q _ H6 (.int i hi) (wx_trans (w2 ((x3.trans e4).trans e5)) e6) d6
  · refine s1_ret (e1_text (ev_var rfl)) (d1.ex ((x3.trans e4).trans e5)) fun v H6 hv e6 d6 => ?_
    obtain ⟨l, rfl, hl, hc⟩ := hv
    exact q _ H6 (.str l hl hc) (wx_trans (w2 ((x3.trans e4).trans e5)) e6) d6
end

/-! ### a text by a number; s.index of what is there; a comprehension over a text -/
theorem fold_rep (l : List Nat) : ∀ (m : Nat) (acc : List Nat), (List.replicate m l.toArray).foldl (· ++ ·) acc.toArray = (acc ++ (List.replicate m l).flatten).toArray
  | 0, acc => by simp
  | m + 1, acc => by
    rw [List.replicate_succ, List.foldl_cons, List.append_toArray, fold_rep l m (acc ++ l), List.replicate_succ, List.flatten_cons, List.append_assoc]
theorem op_mulS {X : Cx} : OpR X (binaryOp .Mult) (fun x y H Q => ∃ (l : List Nat) (n : Nat), x = .str (SX.S l) ∧ y = .int (n : Int) ∧ 1 ≤ n ∧ n ≤ 100 ∧ l.length ≤ 1000 ∧ Q (.str (SX.S (List.replicate n l).flatten)) H) := by
  intro pins s σ H x y v u Q I rx ry h
  obtain ⟨l, n, rfl, rfl, n1, n2, hl, q⟩ := h
  obtain ⟨t, rfl⟩ := (show ∃ t, v = Value.str (SX.S l) t from rx)
  obtain ⟨t', rfl⟩ := (show ∃ t, u = Value.int (n : Int) t from ry)
  have hm : l.length * n ≤ 1000 * 100 := Nat.mul_le_mul hl n2
  refine PySem.P.mul_str (by rw [decide_eq_false (by omega), decide_eq_false (by omega)]; rfl) (fun _ _ => ?_) (fun _ _ => ?_) ?_
  · rw [SX.S_len]
    have : (l.length : Int) ≤ (2 ^ 63 - 1) / (n : Int) := Int.le_ediv_of_mul_le (by omega) (by
      have e : (l.length : Int) * (n : Int) = ((l.length * n : Nat) : Int) := by rw [Int.natCast_mul]
      rw [e]
      omega)
    omega
  · rw [SX.S_len, Int.toNat_natCast]
    exact decide_eq_false (Nat.not_lt.mpr (Nat.le_trans hm (by decide)))
  · rw [if_neg (by omega)]
    split
    · rename_i h
      rw [Bool.or_eq_true, beq_iff_eq, beq_iff_eq, SX.S_len] at h
      have e : (List.replicate n l).flatten = l := by
        rcases h with h | h
        · have : n = 1 := by omega
          rw [this]
          simp
        · have : l = [] := List.length_eq_zero_iff.mp h
          rw [this]
          simp
      rw [e] at q
      exact ⟨.str _, H, I, ⟨t, rfl⟩, q⟩
    · have e : (⟨(List.replicate ((n : Int)).toNat (SX.S l).cps).foldl (· ++ ·) #[]⟩ : Str) = SX.S (List.replicate n l).flatten := by
        have := fold_rep l n []
        rw [List.nil_append] at this
        rw [Int.toNat_natCast]
        exact congrArg Str.mk this
      rw [e]
      refine ⟨?_, .str _, H, I.tok _, ⟨_, rfl⟩, q⟩
      rw [SX.S_len]
      have : (List.replicate n l).flatten.length = n * l.length := by simp
      rw [this, Nat.mul_comm]
      exact Nat.le_trans hm (by decide)
/-- s.index(t), found -/
theorem mt_indexOk {X : Cx} : MtR X "str.index" (fun x xs H Q => ∃ (a b : Str) (k : Nat), x = .str a ∧ xs = [.str b] ∧ Txt.index0 a b = some k ∧ Q (.int (k : Int)) H) := by
  intro pins s σ H x xs v us Q I rx rs h
  obtain ⟨a, b, k, rfl, rfl, hk, w⟩ := h
  obtain ⟨t, rfl⟩ := (show ∃ t, v = Value.str a t from rx)
  cases rs with
  | cons r1 rs =>
    cases rs
    obtain ⟨u, rfl⟩ := r1
    cases q : Builtin.Str.occurrences a b 0 a.length 1 with
    | nil =>
      unfold Txt.index0 at hk
      rw [q] at hk
      cases hk
    | cons j rest =>
      have e : j = k := by
        unfold Txt.index0 at hk
        rw [q] at hk
        exact Option.some.inj hk
      subst e
      exact PySem.SC.index q ⟨.int (j : Nat), H, I.tok _, ⟨_, rfl⟩, w⟩
section
variable {K : PySem.W.Frag} {σ : L2.St} {H : Hp} {tl te ta tb : TE}
/-- [e for c in a text] -/
theorem el_lcX {w : List Nat} {j : Nat} {vs : List Nat} (f : Nat → V) (h : Ev tl σ H (.str (SX.S w))) (hz : w.length ≤ 40000) (hw : ∀ x, wipe ((wipe σ vs).set j (some x)) vs = wipe σ vs)
    (he : ∀ (i c : Nat) H1, Ex H H1 → w[i]? = some c → Ev te ((wipe σ vs).set j (some (.str ⟨#[c]⟩))) H1 (f c)) : EvL (tLc (iStr tl) (gName j) tYes te vs) σ H (w.map f) := fun H0 e Q q => h H0 e _ fun H1 e1 => ⟨SX.S w, rfl, fun Dl hD => by
  have ec : ∀ i, (SX.S w).cps[i]? = w[i]? := fun i => List.getElem?_toArray
  have es : (SX.S w).cps.size = w.length := List.size_toArray
  refine ⟨fun i m H' => (Ex H1 H' ∧ H' Dl = some (.lst ((w.take i).map f))) ∧ i ≤ w.length ∧ w.length - i ≤ m, ⟨_, ⟨Ex.new hD, upd_same⟩, Nat.zero_le _, Nat.le_refl _⟩, fun i m H' pv => ?_⟩
  obtain ⟨⟨p2, p3⟩, hi, hm⟩ := pv
  by_cases hlt : i < w.length
  · refine .inr ⟨by show i < (SX.S w).cps.size; omega, fun H2 => Ex H1 H2 ∧ H2 Dl = some (.lst ((w.take (i + 1)).map f)), fun H2 q2 => ⟨m - 1, by omega, q2, hlt, by omega⟩, ?_⟩
    rintro x H2 ⟨rfl, c, hc, rfl⟩
    rw [ec] at hc
    show wipe ((wipe σ vs).set j (some (.str ⟨#[c]⟩))) vs = wipe σ vs ∧ te ((wipe σ vs).set j (some (.str ⟨#[c]⟩))) _ fun y H4 => ∃ acc, H4 Dl = some (.lst acc) ∧ acc.length < sizeLine ∧ _
    refine ⟨hw _, he i c H1 (e.trans e1) hc _ p2 _ fun H4 e4 => ⟨_, e4 _ _ p3, sz_lt (by rw [List.length_map, List.length_take]; omega), Ex.mut (p2.trans e4) hD, ?_⟩⟩
    rw [upd_same, List.take_add_one, hc, List.map_append]
    rfl
  · refine .inl ⟨by show (SX.S w).cps.size ≤ i; omega, ?_⟩
    rw [show i = w.length by omega, List.take_length] at p3
    exact q Dl H' (fresh_back e1 hD) (e1.trans p2) p3⟩
/-- a new list + a new list -/
theorem el_catNN {xs ys : List V} (ha : EvL ta σ H xs) (hb : EvL tb σ H ys) (hz : xs.length + ys.length ≤ 100000) : EvL (tOp rCat ta tb) σ H (xs ++ ys) := fun H1 e Q q =>
  ha H1 e _ fun a H2 ha2 e2 h2 => hb H2 (e.trans e2) _ fun b H3 _ e3 hb3 => ⟨a, b, xs, ys, rfl, rfl, e3 _ _ h2, hb3, sz_of hz, fun p hp => q p _ (fresh_back (e2.trans e3) hp) ((e2.trans e3).trans (Ex.new hp)) upd_same⟩
end
theorem el_given {te : TE} {σ : L2.St} {H : Hp} {n : Nat} {f : Nat → Bool} {v : Nat → V} (h : EvL te σ H (given ((n : Int)).toNat f v)) : EvL te σ H (given n f v) := by
  rw [Int.toNat_natCast] at h
  exact h

/-! ### ranks -/
def kr : V → Int
  | .non => 0
  | .bl _ => 1
  | .int _ => 2
  | _ => 3
def payV : V → V
  | .non => .int 0
  | .bl b => .int (if b then 1 else 0)
  | x => x
def rkL (x : V) : List V := [.int (kr x), payV x]
def payD : V → PyData
  | .non => .int 0
  | .bl b => .int (if b then 1 else 0)
  | .int i => .int i
  | .str s => .str s
  | _ => .none
def rkDs (x : V) : List PyData := [.int (kr x), payD x]
def rkD (x : V) : PyData := .tuple (rkDs x)
/-- plain, and its signs are signs -/
inductive Ok : V → Prop where
  | non : Ok .non
  | bl (b : Bool) : Ok (.bl b)
  | int (i : Int) : Ok (.int i)
  | str (s : Str) (h : PyData.strOk s = true) : Ok (.str s)
theorem Ok.pl {x : V} (h : Ok x) : Pl x := by cases h <;> constructor
theorem strOk_S {l : List Nat} (h : ∀ c ∈ l, 32 ≤ c ∧ c ≤ 126) : PyData.strOk (SX.S l) = true := by
  unfold PyData.strOk
  rw [Array.all_eq_true']
  intro c hc
  have := h c (by simpa using hc)
  exact decide_eq_true (by omega)
theorem dp_pay {K : PySem.W.Frag} {H : Hp} {x : V} (h : Ok x) : Dp K H (payV x) (payD x) := by
  cases h with
  | non => exact .int 0
  | bl b => exact .int _
  | int i => exact .int i
  | str s _ => exact .str s
theorem dp_rks {K : PySem.W.Frag} {H : Hp} {x : V} (h : Ok x) : DpAll K H (rkL x) (rkDs x) := .cons (.int _) (.cons (dp_pay h) .nil)
theorem dp_rk {K : PySem.W.Frag} {H : Hp} {x : V} {p : Addr} (h : Ok x) (hp : H p = some (.tup (rkL x))) : Dp K H (.ref p) (rkD x) := .tup (st_of hp) (dp_rks h)
theorem lay_rk {x : V} (h : Ok x) : (rkD x).canLay0 = true := by
  cases h with
  | non => rfl
  | bl b => rfl
  | int i => rfl
  | str s hs =>
    show (true && (PyData.strOk s && true)) = true
    rw [hs]
    rfl
theorem dep_rk {x : V} (h : Ok x) : (rkD x).depth = 1 := by cases h <;> rfl
theorem shaped_rk {x : V} (h : Ok x) : SeqAt.shaped (rkD x) = true := by
  unfold SeqAt.shaped
  rw [lay_rk h, dep_rk h]
  rfl
theorem noL_rk {x : V} (h : Ok x) : noL (rkD x) = true := by cases h <;> rfl
theorem ord_rk {x y : V} (hx : Ok x) (hy : Ok y) : ordD (rkD x) (rkD y) = true := by
  have step : ∀ (a b : Int) (p q : PyData), (a = b → ordD p q = true) → ordD (.tuple [.int a, p]) (.tuple [.int b, q]) = true := by
    intro a b p q h
    rw [ordD, ordDs]
    split
    · rename_i e
      rw [ordDs]
      split
      · rfl
      · exact h (beq_iff_eq.mp (show (a == b) = true from e))
    · rfl
  refine step _ _ _ _ fun e => ?_
  cases hx <;> cases hy <;> first | rfl | (simp [kr] at e)
theorem lays_rk : ∀ {xs : List V}, (∀ x ∈ xs, Ok x) → PyData.canLayAll0 (xs.map rkD) = true
  | [], _ => rfl
  | x :: xs, h => by
    show ((rkD x).canLay0 && PyData.canLayAll0 (xs.map rkD)) = true
    rw [lay_rk (h x (List.mem_cons_self ..)), lays_rk fun y hy => h y (List.mem_cons_of_mem _ hy)]
    rfl
theorem deps_rk : ∀ {xs : List V}, (∀ x ∈ xs, Ok x) → PyData.depthAll (xs.map rkD) ≤ 1
  | [], _ => by show 0 ≤ 1; decide
  | x :: xs, h => by
    show max (rkD x).depth (PyData.depthAll (xs.map rkD)) ≤ 1
    rw [dep_rk (h x (List.mem_cons_self ..))]
    have := deps_rk fun y hy => h y (List.mem_cons_of_mem _ hy)
    omega
theorem shaped_row {xs : List V} (h : ∀ x ∈ xs, Ok x) : SeqAt.shaped (.tuple (xs.map rkD)) = true := by
  have hd := deps_rk h
  show (PyData.canLayAll0 (xs.map rkD) && decide (PyData.depthAll (xs.map rkD) + 1 ≤ 64)) = true
  rw [lays_rk h, decide_eq_true (by omega)]
  rfl
theorem ords_rk : ∀ {xs ys : List V}, (∀ x ∈ xs, Ok x) → (∀ y ∈ ys, Ok y) → ordDs (xs.map rkD) (ys.map rkD) = true
  | [], _, _, _ => by rw [List.map_nil, ordDs]
  | _ :: _, [], _, _ => rfl
  | x :: xs, y :: ys, h1, h2 => by
    rw [List.map_cons, List.map_cons, ordDs]
    split
    · exact ords_rk (fun z hz => h1 z (List.mem_cons_of_mem _ hz)) (fun z hz => h2 z (List.mem_cons_of_mem _ hz))
    · exact ord_rk (h1 x (List.mem_cons_self ..)) (h2 y (List.mem_cons_self ..))
def sp_kind_rank (K : PySem.W.Frag) : Sp := fun vs H Q _ => ∃ x : V, vs = [x] ∧ Ok x ∧ ∀ H', Ex H H' → Q (.int (kr x)) H'
def sp_is_integer (K : PySem.W.Frag) : Sp := fun vs H Q _ => ∃ x : V, vs = [x] ∧ Pl x ∧ ∀ H', Ex H H' → Q (.bl (isInt x)) H'
def sp__law_is_integer (K : PySem.W.Frag) : Sp := fun vs H Q _ => ∃ x : V, vs = [x] ∧ Pl x ∧ ∀ H', Ex H H' → Q (.bl (isInt x)) H'
def sp_rank (K : PySem.W.Frag) : Sp := fun vs H Q _ => ∃ x : V, vs = [x] ∧ Ok x ∧ ∀ p H', H p = none → Ex H H' → H' p = some (.tup (rkL x)) → Q (.ref p) H'
def sp__law_rank (K : PySem.W.Frag) : Sp := fun vs H Q _ => ∃ x : V, vs = [x] ∧ Ok x ∧ ∀ p H', H p = none → Ex H H' → H' p = some (.tup (rkL x)) → Q (.ref p) H'
def sp_same (K : PySem.W.Frag) : Sp := fun vs H Q _ => ∃ x y : V, vs = [x, y] ∧ Ok x ∧ Ok y ∧ ∀ H', Ex H H' → Q (.bl (PyData.eqv (rkD x) (rkD y))) H'
def sp_before (K : PySem.W.Frag) : Sp := fun vs H Q _ => ∃ x y : V, vs = [x, y] ∧ Ok x ∧ Ok y ∧ ∀ H', Ex H H' → Q (.bl (ltD (rkD x) (rkD y))) H'
section
variable {P : Program} {w : World} {K : PySem.W.Frag} {mg : Str → Option Value} {base : Heap}
section
variable {σ : L2.St} {H : Hp} {ta tb tc : TE} {E : XK} {x y : V}
theorem ec_isint0 (ha : Ev ta σ H x) (h : Pl x) : Ev (tCall (sp_is_integer K) [] E (tCons ta tNil)) σ H (.bl (isInt x)) := ev_call (ea_cons ha ea_nil) fun H1 e Q q E => ⟨x, rfl, h, q⟩
theorem ec_isint (ha : Ev ta σ H x) (h : Pl x) : Ev (tCall (sp__law_is_integer K) [] E (tCons ta tNil)) σ H (.bl (isInt x)) := ev_call (ea_cons ha ea_nil) fun H1 e Q q E => ⟨x, rfl, h, q⟩
theorem ec_kr (ha : Ev ta σ H x) (h : Ok x) : Ev (tCall (sp_kind_rank K) [] E (tCons ta tNil)) σ H (.int (kr x)) := ev_call (ea_cons ha ea_nil) fun H1 e Q q E => ⟨x, rfl, h, q⟩
theorem ec_rank (ha : Ev ta σ H x) (h : Ok x) : EvU (tCall (sp_rank K) [] E (tCons ta tNil)) σ H (rkL x) := eu_call (ea_cons ha ea_nil) fun H1 e Q q E => ⟨x, rfl, h, q⟩
theorem ec_lrank (ha : Ev ta σ H x) (h : Ok x) : EvU (tCall (sp__law_rank K) [] E (tCons ta tNil)) σ H (rkL x) := eu_call (ea_cons ha ea_nil) fun H1 e Q q E => ⟨x, rfl, h, q⟩
theorem ud_rk (h : EvU ta σ H (rkL x)) (hx : Ok x) : EvUD K ta σ H (rkDs x) := fun H1 e Q q => h H1 e _ fun p H2 hp e2 h2 => q p H2 _ hp e2 h2 (dp_rks hx)
theorem ed_rk (h : EvU ta σ H (rkL x)) (hx : Ok x) : EvD K ta σ H (rkD x) := ed_tupU (ud_rk h hx)
theorem ec_same (ha : Ev ta σ H x) (hb : Ev tb σ H y) (h1 : Ok x) (h2 : Ok y) : Ev (tCall (sp_same K) [] E (tCons ta (tCons tb tNil))) σ H (.bl (PyData.eqv (rkD x) (rkD y))) := ev_call (ea_cons ha (ea_cons hb ea_nil)) fun H1 e Q q E => ⟨x, y, rfl, h1, h2, q⟩
theorem ec_before (ha : Ev ta σ H x) (hb : Ev tb σ H y) (h1 : Ok x) (h2 : Ok y) : Ev (tCall (sp_before K) [] E (tCons ta (tCons tb tNil))) σ H (.bl (ltD (rkD x) (rkD y))) := ev_call (ea_cons ha (ea_cons hb ea_nil)) fun H1 e Q q E => ⟨x, y, rfl, h1, h2, q⟩
end
theorem ok_kind_rank (D : Dn K mg "kind_rank" s_kind_rank ["value"]) (z_bool : mg "bool" = none) (z_int : mg "int" = none) (z_isinstance : mg "isinstance" = none) :
    C8.Cal P w K mg base 1 "kind_rank" (sp_kind_rank K) [] := by
  refine cal_of D sc_kind_rank (fun vs H Q E h => ?_) (fun f cdv A outer s H vs Q E hr h => ?_)
  · obtain ⟨_, rfl, _⟩ := h
    rfl
  refine ⟨_, (pss_cons (ps_if (pt_cmpR op_isN (pv 0) pe_non (nomark _))
      (pss_one (ps_ret pe_int))
      pss_nil)
    (pss_cons (ps_if (pt_val (pe_callB call_isi (by rfl) z_isinstance (by decide +kernel) (pa_cons (pv 0) (pa_cons (pe_bltn (v := .ty "bool") (u := .type "bool") rfl z_bool (by decide +kernel) rfl) pa_nil))))
      (pss_one (ps_ret pe_int))
      pss_nil)
    (pss_cons (ps_if (pt_val (pe_callB call_isi (by rfl) z_isinstance (by decide +kernel) (pa_cons (pv 0) (pa_cons (pe_bltn (v := .ty "int") (u := .type "int") rfl z_int (by decide +kernel) rfl) pa_nil))))
      (pss_one (ps_ret pe_int))
      pss_nil)
    (pss_one (ps_ret pe_int))))), ?_⟩
  obtain ⟨x, rfl, hx, q⟩ := h
  refine q_when (b := decide (x = .non)) (by walk_at "et") (fun hb H1 e1 => s_ret (v := .int (kr x)) ?_ fun H2 e2 => q _ (e1.trans e2)) fun hb H1 e1 => ?_
  · rw [of_decide_eq_true hb]
    exact ev_c
  cases hx with
  | non => exact absurd hb (by decide)
  | bl b => exact q_when (b := true) (et_B (ev_isiP (ev_var rfl) (.bl b) (by show kitB "bool" "bool" = some true; decide +kernel))) (fun _ H2 e2 => s_ret ev_c fun H3 e3 => q _ ((e1.trans e2).trans e3)) fun hb => nomatch hb
  | int i => exact q_when (b := false) (et_B (ev_isiP (ev_var rfl) (.int i) (by show kitB "int" "bool" = some false; decide +kernel))) (fun hb => nomatch hb) fun _ H2 e2 => q_when (b := true) (et_B (ev_isiP (ev_var rfl) (.int i) (by show kitB "int" "int" = some true; decide +kernel))) (fun _ H3 e3 => s_ret ev_c fun H4 e4 => q _ (((e1.trans e2).trans e3).trans e4)) fun hb => nomatch hb
  | str s hs => exact q_when (b := false) (et_B (ev_isiP (ev_var rfl) (.str s) (by show kitB "str" "bool" = some false; decide +kernel))) (fun hb => nomatch hb) fun _ H2 e2 => q_when (b := false) (et_B (ev_isiP (ev_var rfl) (.str s) (by show kitB "str" "int" = some false; decide +kernel))) (fun hb => nomatch hb) fun _ H3 e3 => s_ret ev_c fun H4 e4 => q _ (((e1.trans e2).trans e3).trans e4)
theorem ok_rank (D : Dn K mg "rank" s_rank ["value"]) (c_kind_rank : C8.Cal P w K mg base 1 "kind_rank" (sp_kind_rank K) []) (z_int : mg "int" = none) :
    C8.Cal P w K mg base 2 "rank" (sp_rank K) [] := by
  refine cal_of D sc_rank (fun vs H Q E h => ?_) (fun f cdv A outer s H vs Q E hr h => ?_)
  · obtain ⟨_, rfl, _⟩ := h
    rfl
  refine ⟨_, (pss_cons (ps_set (i := 1) sc_rank.nd rfl (.inl rfl) (C8.pe_c c_kind_rank hr (by decide) (by rfl) (pa_cons (pv 0) pa_nil)))
    (pss_cons (ps_if (pt_cmpR op_eq (pv 1) pe_int (nomark _))
      (pss_one (ps_ret (pe_tup (pa_cons pe_int (pa_cons pe_int pa_nil)))))
      pss_nil)
    (pss_cons (ps_if (pt_cmpR op_eq (pv 1) pe_int (nomark _))
      (pss_one (ps_ret (pe_tup (pa_cons pe_int (pa_cons (pe_callTy call_int1 (by rfl) z_int (by decide +kernel) (pa_cons (pv 0) pa_nil)) pa_nil)))))
      pss_nil)
    (pss_one (ps_ret (pe_tup (pa_cons (pv 1) (pa_cons (pv 0) pa_nil)))))))), ?_⟩
  obtain ⟨x, rfl, hx, q⟩ := h
  refine q_asg (ec_kr (ev_var rfl) hx) fun H1 e1 => ?_
  refine q_when (b := decide (V.int (kr x) = V.int 0)) (by walk_at "et") (fun hb H2 e2 => s_retU (xs := rkL x) ?_ fun p H3 hp e3 h3 => q p H3 (fresh_back (e1.trans e2) hp) ((e1.trans e2).trans e3) h3) fun hb H2 e2 => ?_
  · cases hx with
    | non => exact eu_tup (ea_cons ev_c (ea_cons ev_c ea_nil)) (by show 2 ≤ 100000; decide)
    | _ => simp [kr] at hb
  refine q_when (b := decide (V.int (kr x) = V.int 1)) (by walk_at "et") (fun hb H3 e3 => s_retU (xs := rkL x) ?_ fun p H4 hp e4 h4 => q p H4 (fresh_back ((e1.trans e2).trans e3) hp) (((e1.trans e2).trans e3).trans e4) h4) fun hb H3 e3 => s_retU (xs := rkL x) ?_ fun p H4 hp e4 h4 => q p H4 (fresh_back ((e1.trans e2).trans e3) hp) (((e1.trans e2).trans e3).trans e4) h4
  · cases hx with
    | bl b => exact eu_tup (ea_cons ev_c (ea_cons (ev_intB (ev_var rfl)) ea_nil)) (by show 2 ≤ 100000; decide)
    | _ => simp [kr] at hb
  · cases hx with
    | non => exact absurd ‹decide (V.int (kr .non) = V.int 0) = false› (by decide)
    | bl b => exact absurd ‹decide (V.int (kr (.bl b)) = V.int 1) = false› (by show ¬ decide (V.int 1 = V.int 1) = false; decide)
    | int i => exact eu_tup (ea_cons (ev_var rfl) (ea_cons (ev_var rfl) ea_nil)) (by show 2 ≤ 100000; decide)
    | str s hs => exact eu_tup (ea_cons (ev_var rfl) (ea_cons (ev_var rfl) ea_nil)) (by show 2 ≤ 100000; decide)
theorem ok__law_rank (D : Dn K mg "_law_rank" s__law_rank ["value"]) (z_bool : mg "bool" = none) (z_int : mg "int" = none) (z_isinstance : mg "isinstance" = none) :
    C8.Cal P w K mg base 1 "_law_rank" (sp__law_rank K) [] := by
  refine cal_of D sc__law_rank (fun vs H Q E h => ?_) (fun f cdv A outer s H vs Q E hr h => ?_)
  · obtain ⟨_, rfl, _⟩ := h
    rfl
  refine ⟨_, (pss_cons (ps_if (pt_cmpR op_isN (pv 0) pe_non (nomark _))
      (pss_one (ps_ret (pe_tup (pa_cons pe_int (pa_cons pe_int pa_nil)))))
      pss_nil)
    (pss_cons (ps_if (pt_val (pe_callB call_isi (by rfl) z_isinstance (by decide +kernel) (pa_cons (pv 0) (pa_cons (pe_bltn (v := .ty "bool") (u := .type "bool") rfl z_bool (by decide +kernel) rfl) pa_nil))))
      (pss_one (ps_ret (pe_tup (pa_cons pe_int (pa_cons (pe_callTy call_int1 (by rfl) z_int (by decide +kernel) (pa_cons (pv 0) pa_nil)) pa_nil)))))
      pss_nil)
    (pss_cons (ps_if (pt_val (pe_callB call_isi (by rfl) z_isinstance (by decide +kernel) (pa_cons (pv 0) (pa_cons (pe_bltn (v := .ty "int") (u := .type "int") rfl z_int (by decide +kernel) rfl) pa_nil))))
      (pss_one (ps_ret (pe_tup (pa_cons pe_int (pa_cons (pv 0) pa_nil)))))
      pss_nil)
    (pss_one (ps_ret (pe_tup (pa_cons pe_int (pa_cons (pv 0) pa_nil)))))))), ?_⟩
  obtain ⟨x, rfl, hx, q⟩ := h
  have two : (2 : Nat) ≤ 100000 := by decide
  refine q_when (b := decide (x = .non)) (by walk_at "et") (fun hb H1 e1 => s_retU (xs := rkL x) ?_ fun p H2 hp e2 h2 => q p H2 (fresh_back e1 hp) (e1.trans e2) h2) fun hb H1 e1 => ?_
  · rw [of_decide_eq_true hb]
    exact eu_tup (ea_cons ev_c (ea_cons ev_c ea_nil)) (by show 2 ≤ 100000; decide)
  cases hx with
  | non => exact absurd hb (by decide)
  | bl b => exact q_when (b := true) (et_B (ev_isiP (ev_var rfl) (.bl b) (by show kitB "bool" "bool" = some true; decide +kernel))) (fun _ H2 e2 => s_retU (xs := rkL (.bl b)) (eu_tup (ea_cons ev_c (ea_cons (ev_intB (ev_var rfl)) ea_nil)) two) fun p H3 hp e3 h3 => q p H3 (fresh_back (e1.trans e2) hp) ((e1.trans e2).trans e3) h3) fun hb => nomatch hb
  | int i => exact q_when (b := false) (et_B (ev_isiP (ev_var rfl) (.int i) (by show kitB "int" "bool" = some false; decide +kernel))) (fun hb => nomatch hb) fun _ H2 e2 => q_when (b := true) (et_B (ev_isiP (ev_var rfl) (.int i) (by show kitB "int" "int" = some true; decide +kernel))) (fun _ H3 e3 => s_retU (xs := rkL (.int i)) (eu_tup (ea_cons ev_c (ea_cons (ev_var rfl) ea_nil)) two) fun p H4 hp e4 h4 => q p H4 (fresh_back ((e1.trans e2).trans e3) hp) (((e1.trans e2).trans e3).trans e4) h4) fun hb => nomatch hb
  | str s hs => exact q_when (b := false) (et_B (ev_isiP (ev_var rfl) (.str s) (by show kitB "str" "bool" = some false; decide +kernel))) (fun hb => nomatch hb) fun _ H2 e2 => q_when (b := false) (et_B (ev_isiP (ev_var rfl) (.str s) (by show kitB "str" "int" = some false; decide +kernel))) (fun hb => nomatch hb) fun _ H3 e3 => s_retU (xs := rkL (.str s)) (eu_tup (ea_cons ev_c (ea_cons (ev_var rfl) ea_nil)) two) fun p H4 hp e4 h4 => q p H4 (fresh_back ((e1.trans e2).trans e3) hp) (((e1.trans e2).trans e3).trans e4) h4
theorem ok_same (D : Dn K mg "same" s_same ["first", "second"]) (c_rank : C8.Cal P w K mg base 2 "rank" (sp_rank K) []) :
    C8.Cal P w K mg base 3 "same" (sp_same K) [] := by
  refine cal_of D sc_same (fun vs H Q E h => ?_) (fun f cdv A outer s H vs Q E hr h => ?_)
  · obtain ⟨_, _, rfl, _⟩ := h
    rfl
  refine ⟨_, (pss_one (ps_ret (pe_cmpR (op_eqD (hu64 hr)) (C8.pe_c c_rank hr (by decide) (by rfl) (pa_cons (pv 0) pa_nil)) (C8.pe_c c_rank hr (by decide) (by rfl) (pa_cons (pv 1) pa_nil)) (nomark _)))), ?_⟩
  obtain ⟨x, y, rfl, hx, hy, q⟩ := h
  exact s_ret (ev_eqD (ed_rk (ec_rank (ev_var rfl) hx) hx) (ed_rk (ec_rank (ev_var rfl) hy) hy) (shaped_rk hx) (shaped_rk hy)) fun H2 e2 => q _ e2
theorem ok_before (D : Dn K mg "before" s_before ["first", "second"]) (c_rank : C8.Cal P w K mg base 2 "rank" (sp_rank K) []) :
    C8.Cal P w K mg base 3 "before" (sp_before K) [] := by
  refine cal_of D sc_before (fun vs H Q E h => ?_) (fun f cdv A outer s H vs Q E hr h => ?_)
  · obtain ⟨_, _, rfl, _⟩ := h
    rfl
  refine ⟨_, (pss_one (ps_ret (pe_cmpR (op_ltD (hu64 hr)) (C8.pe_c c_rank hr (by decide) (by rfl) (pa_cons (pv 0) pa_nil)) (C8.pe_c c_rank hr (by decide) (by rfl) (pa_cons (pv 1) pa_nil)) (nomark _)))), ?_⟩
  obtain ⟨x, y, rfl, hx, hy, q⟩ := h
  exact s_ret (ev_ltD (ed_rk (ec_rank (ev_var rfl) hx) hx) (ed_rk (ec_rank (ev_var rfl) hy) hy) (shaped_rk hx) (shaped_rk hy) (ord_rk hx hy) (by rw [dep_rk hx]; decide)) fun H2 e2 => q _ e2
end

section
variable {P : Program} {w : World} {K : PySem.W.Frag} {mg : Str → Option Value} {base : Heap}
theorem ok__law_is_integer (D : Dn K mg "_law_is_integer" s__law_is_integer ["told"]) (z_bool : mg "bool" = none) (z_int : mg "int" = none) (z_isinstance : mg "isinstance" = none) :
    C8.Cal P w K mg base 1 "_law_is_integer" (sp__law_is_integer K) [] := by
  refine cal_of D sc__law_is_integer (fun vs H Q E h => ?_) (fun f cdv A outer s H vs Q E hr h => ?_)
  · obtain ⟨_, rfl, _⟩ := h
    rfl
  refine ⟨_, (pss_one (ps_ret (pe_and (pe_callB call_isi (by rfl) z_isinstance (by decide +kernel) (pa_cons (pv 0) (pa_cons (pe_bltn (v := .ty "int") (u := .type "int") rfl z_int (by decide +kernel) rfl) pa_nil))) (pe_one (pe_not (pe_callB call_isi (by rfl) z_isinstance (by decide +kernel) (pa_cons (pv 0) (pa_cons (pe_bltn (v := .ty "bool") (u := .type "bool") rfl z_bool (by decide +kernel) rfl) pa_nil)))))))), ?_⟩
  obtain ⟨x, rfl, hx, q⟩ := h
  exact s_ret (ev_isInt (ev_var rfl) (ev_var rfl) hx) fun H2 e2 => q _ e2
end

/-! ### <= of two pairs (an int and an int or a text) -/
section
open PySem.SeqAt PySem.MeetsSeq PySem.MeetsSeq2 PySem.MeetsSeq3
open PySem.AutoSeq1 (wpAny_loadPart')
/-- the same of <=: z where none differ -/
inductive Lxe (A : Around) (s : Shared) (z : Bool) : List (Value × Value) → Bool → Prop
  | nil : Lxe A s z [] z
  | eq {y x : Value} {ps : List (Value × Value)} {c : Bool} : EqAt A s y x true → Lxe A s z ps c → Lxe A s z ((y, x) :: ps) c
  | le {y x : Value} {ps : List (Value × Value)} {c : Bool} : EqAt A s y x false → Ob.RcOp .LtE A s y x c → Lxe A s z ((y, x) :: ps) c
theorem le_meets (l b : Addr) (us vs : Array Value) (n m : Nat) (dl db : Option Addr) (sl sb : Array (Option Value)) :
    Meets (Builtin.«tuple.__le__» ⟨[.ref l, .ref b], []⟩)
      (fun A R s => s.heap.get? l = some { cls := .type "tuple", dict := dl, data := .seq us n, slots := sl } ∧ s.heap.get? b = some { cls := .type "tuple", dict := db, data := .seq vs m, slots := sb } ∧
        ∃ c, Lxe A.in1 s (decide (us.size ≤ vs.size)) (us.toList.zip vs.toList) c ∧ R (.ok (.ret (.bool c))) s) := by
  refine .of_wp fun prog w A R s h => ?_
  obtain ⟨hp, g, d, tk, os⟩ := s
  obtain ⟨hl, hb, c, hx, h⟩ := h
  have f2 := AutoSeq1.sub_tuple_tuple
  wp_walk using wpAny_loadPart' hl, wpAny_loadPart' hb, wpAny_forIn_list _ (fun ps b s' => b.1 = none ∧ s' = ⟨hp, g, d, tk, os⟩ ∧ ∃ c, Lxe A.in1 ⟨hp, g, d, tk, os⟩ (decide (us.size ≤ vs.size)) ps c ∧ R (.ok (.ret (.bool c))) ⟨hp, g, d, tk, os⟩) _
  case turn =>
    rintro ⟨y, x⟩ ps b s' ⟨hb', rfl, c, hz, hR⟩
    cases hz with
    | eq he ht =>
      refine wpAny_bind (he prog w _ _ ?_)
      wp_walk
      exact ⟨rfl, rfl, c, ht, hR⟩
    | le he hr =>
      refine wpAny_bind (he prog w _ _ ?_)
      have hri := hr prog w
      wp_walk using hri
      exact ⟨_, rfl, hR⟩
  case fin =>
    rintro ⟨b1, b2⟩ s' ⟨hb', rfl, c, hz, hR⟩
    simp only at hb'
    subst hb'
    cases hz
    wp_walk
    exact ⟨_, rfl, by simpa [Builtin.Tuple.tupleCompareSizes] using hR⟩
  case h => exact ⟨rfl, rfl, c, hx, h⟩
theorem le_tuples {A : Around} {s : Shared} {l b : Addr} {us vs : Array Value} {c : Bool} (hl : s.heap.IsTuple l us) (hb : s.heap.IsTuple b vs) (hu : A.units < cLine) (hx : Lxe A.in1 s (decide (us.size ≤ vs.size)) (us.toList.zip vs.toList) c) :
    Ob.RcOp .LtE A s (.ref l) (.ref b) c := by
  intro prog w E Q h
  obtain ⟨⟨k1, dl, da, sl⟩, ho, hc, n, hd⟩ := hl
  obtain ⟨⟨k2, db, da2, sb⟩, ho2, hc2, m, hd2⟩ := hb
  simp only at hc hd hc2 hd2
  subst hc hd hc2 hd2
  exact richCompare_meets_room (op := .LtE) ⟨_, ho, rfl⟩ ⟨_, ho2, rfl⟩ F.slot_tuple_le F.entry_tuple_le (F.args_tuple_le_2 _ _) (le_meets l b us vs n m dl db sl sb) ⟨ho, ho2, c, hx, ⟨(fun z => nomatch z), h⟩⟩ hu
end
/-- of two plain items of one kind -/
def leI : V → V → Bool
  | .int a, .int b => decide (a ≤ b)
  | .str x, .str y => !decide (y.cps.toList < x.cps.toList)
  | _, _ => false
def okI : V → V → Bool
  | .int _, .int _ => true
  | .str _, .str _ => true
  | _, _ => false
def rLe2 (K : PySem.W.Frag) : R2 := fun x y H Q => ∃ (a b : Addr) (i j : Int) (p q : V), x = .ref a ∧ y = .ref b ∧ SqT K H a [.int i, p] ∧ SqT K H b [.int j, q] ∧ flatV p = true ∧ flatV q = true ∧ (i = j → eqV p q = false → okI p q = true) ∧
  Q (.bl (if i = j then (if eqV p q = true then true else leI p q) else decide (i ≤ j))) H
theorem op_le2 {X : Cx} (hu : X.A.units + 64 < cLine) : OpR X (compareOp .LtE) (rLe2 X.K) := by
  intro pins s σ H x y v u Q I rx ry h
  obtain ⟨a, b, i, j, p, q, rfl, rfl, ha, hb, fp, fq, ho, k⟩ := h
  cases rx
  cases ry
  obtain ⟨us, r1, t1, _⟩ := I.tuple ha
  obtain ⟨vs, r2, t2, _⟩ := I.tuple hb
  cases r1 with
  | cons q1 w1 =>
    cases w1 with
    | cons q2 w2 =>
      cases w2
      cases r2 with
      | cons z1 y1 =>
        cases y1 with
        | cons z2 y2 =>
          cases y2
          obtain ⟨t, rfl⟩ := q1
          obtain ⟨t', rfl⟩ := z1
          refine le_tuples t1 t2 (by omega) (c := if i = j then (if eqV p q = true then true else leI p q) else decide (i ≤ j)) ?_ X.prog X.w _ _ ⟨.bl _, H, I, rfl, k⟩
          show Lxe X.A.in1 s true [_, _] _
          have e1 := SeqAt.EqAt.int_int (A := X.A.in1) (s := s) i t j t'
          by_cases e : i = j
          · rw [if_pos e]
            rw [show (i == j) = true from beq_iff_eq.mpr e] at e1
            refine .eq e1 ?_
            have e2 := eqAt_V (A := X.A.in1) (s := s) q2 z2 fp fq
            cases c : eqV p q with
            | true =>
              rw [c] at e2
              rw [if_pos rfl]
              exact .eq e2 .nil
            | false =>
              rw [c] at e2
              rw [if_neg (by decide)]
              refine .le e2 ?_
              have o := ho e c
              cases p <;> cases q <;> first | (simp [okI] at o; done) | skip
              · obtain ⟨_, rfl⟩ := q2
                obtain ⟨_, rfl⟩ := z2
                exact Ob.RcOp.le_int _ _ _ _
              · obtain ⟨_, rfl⟩ := q2
                obtain ⟨_, rfl⟩ := z2
                exact fun prog w E Q h => PySem.P.le_str h
          · rw [if_neg e]
            rw [show (i == j) = false from beq_eq_false_iff_ne.mpr e] at e1
            exact .le e1 (Ob.RcOp.le_int _ _ _ _)

/-! ### > and >= of two pairs -/
section
open PySem.SeqAt PySem.MeetsSeq PySem.MeetsSeq2 PySem.MeetsSeq3
open PySem.AutoSeq1 (wpAny_loadPart')
inductive Lxg (A : Around) (s : Shared) (z : Bool) : List (Value × Value) → Bool → Prop
  | nil : Lxg A s z [] z
  | eq {y x : Value} {ps : List (Value × Value)} {c : Bool} : EqAt A s y x true → Lxg A s z ps c → Lxg A s z ((y, x) :: ps) c
  | gt {y x : Value} {ps : List (Value × Value)} {c : Bool} : EqAt A s y x false → Ob.RcOp .Gt A s y x c → Lxg A s z ((y, x) :: ps) c
theorem gt_meets (l b : Addr) (us vs : Array Value) (n m : Nat) (dl db : Option Addr) (sl sb : Array (Option Value)) :
    Meets (Builtin.«tuple.__gt__» ⟨[.ref l, .ref b], []⟩)
      (fun A R s => s.heap.get? l = some { cls := .type "tuple", dict := dl, data := .seq us n, slots := sl } ∧ s.heap.get? b = some { cls := .type "tuple", dict := db, data := .seq vs m, slots := sb } ∧
        ∃ c, Lxg A.in1 s (decide (us.size > vs.size)) (us.toList.zip vs.toList) c ∧ R (.ok (.ret (.bool c))) s) := by
  refine .of_wp fun prog w A R s h => ?_
  obtain ⟨hp, g, d, tk, os⟩ := s
  obtain ⟨hl, hb, c, hx, h⟩ := h
  have f2 := AutoSeq1.sub_tuple_tuple
  wp_walk using wpAny_loadPart' hl, wpAny_loadPart' hb, wpAny_forIn_list _ (fun ps b s' => b.1 = none ∧ s' = ⟨hp, g, d, tk, os⟩ ∧ ∃ c, Lxg A.in1 ⟨hp, g, d, tk, os⟩ (decide (us.size > vs.size)) ps c ∧ R (.ok (.ret (.bool c))) ⟨hp, g, d, tk, os⟩) _
  case turn =>
    rintro ⟨y, x⟩ ps b s' ⟨hb', rfl, c, hz, hR⟩
    cases hz with
    | eq he ht =>
      refine wpAny_bind (he prog w _ _ ?_)
      wp_walk
      exact ⟨rfl, rfl, c, ht, hR⟩
    | gt he hr =>
      refine wpAny_bind (he prog w _ _ ?_)
      have hri := hr prog w
      wp_walk using hri
      exact ⟨_, rfl, hR⟩
  case fin =>
    rintro ⟨b1, b2⟩ s' ⟨hb', rfl, c, hz, hR⟩
    simp only at hb'
    subst hb'
    cases hz
    wp_walk
    exact ⟨_, rfl, by simpa [Builtin.Tuple.tupleCompareSizes] using hR⟩
  case h => exact ⟨rfl, rfl, c, hx, h⟩
theorem gt_tuples {A : Around} {s : Shared} {l b : Addr} {us vs : Array Value} {c : Bool} (hl : s.heap.IsTuple l us) (hb : s.heap.IsTuple b vs) (hu : A.units < cLine) (hx : Lxg A.in1 s (decide (us.size > vs.size)) (us.toList.zip vs.toList) c) :
    Ob.RcOp .Gt A s (.ref l) (.ref b) c := by
  intro prog w E Q h
  obtain ⟨⟨k1, dl, da, sl⟩, ho, hc, n, hd⟩ := hl
  obtain ⟨⟨k2, db, da2, sb⟩, ho2, hc2, m, hd2⟩ := hb
  simp only at hc hd hc2 hd2
  subst hc hd hc2 hd2
  exact richCompare_meets_room (op := .Gt) ⟨_, ho, rfl⟩ ⟨_, ho2, rfl⟩ F.slot_tuple_gt F.entry_tuple_gt (F.args_tuple_gt_2 _ _) (gt_meets l b us vs n m dl db sl sb) ⟨ho, ho2, c, hx, ⟨(fun z => nomatch z), h⟩⟩ hu
end
def gtI : V → V → Bool
  | .int a, .int b => decide (b < a)
  | .str x, .str y => decide (y.cps.toList < x.cps.toList)
  | _, _ => false
def rGt2 (K : PySem.W.Frag) : R2 := fun x y H Q => ∃ (a b : Addr) (i j : Int) (p q : V), x = .ref a ∧ y = .ref b ∧ SqT K H a [.int i, p] ∧ SqT K H b [.int j, q] ∧ flatV p = true ∧ flatV q = true ∧ (i = j → eqV p q = false → okI p q = true) ∧
  Q (.bl (if i = j then (if eqV p q = true then false else gtI p q) else decide (j < i))) H
theorem op_gt2 {X : Cx} (hu : X.A.units + 64 < cLine) : OpR X (compareOp .Gt) (rGt2 X.K) := by
  intro pins s σ H x y v u Q I rx ry h
  obtain ⟨a, b, i, j, p, q, rfl, rfl, ha, hb, fp, fq, ho, k⟩ := h
  cases rx
  cases ry
  obtain ⟨us, r1, t1, _⟩ := I.tuple ha
  obtain ⟨vs, r2, t2, _⟩ := I.tuple hb
  cases r1 with
  | cons q1 w1 =>
    cases w1 with
    | cons q2 w2 =>
      cases w2
      cases r2 with
      | cons z1 y1 =>
        cases y1 with
        | cons z2 y2 =>
          cases y2
          obtain ⟨t, rfl⟩ := q1
          obtain ⟨t', rfl⟩ := z1
          refine gt_tuples t1 t2 (by omega) (c := if i = j then (if eqV p q = true then false else gtI p q) else decide (j < i)) ?_ X.prog X.w _ _ ⟨.bl _, H, I, rfl, k⟩
          show Lxg X.A.in1 s false [_, _] _
          have e1 := SeqAt.EqAt.int_int (A := X.A.in1) (s := s) i t j t'
          by_cases e : i = j
          · rw [if_pos e]
            rw [show (i == j) = true from beq_iff_eq.mpr e] at e1
            refine .eq e1 ?_
            have e2 := eqAt_V (A := X.A.in1) (s := s) q2 z2 fp fq
            cases c : eqV p q with
            | true =>
              rw [c] at e2
              rw [if_pos rfl]
              exact .eq e2 .nil
            | false =>
              rw [c] at e2
              rw [if_neg (by decide)]
              refine .gt e2 ?_
              have o := ho e c
              cases p <;> cases q <;> first | (simp [okI] at o; done) | skip
              · obtain ⟨_, rfl⟩ := q2
                obtain ⟨_, rfl⟩ := z2
                exact Ob.RcOp.gt_int _ _ _ _
              · obtain ⟨_, rfl⟩ := q2
                obtain ⟨_, rfl⟩ := z2
                exact fun prog w E Q h => PySem.P.gt_str h
          · rw [if_neg e]
            rw [show (i == j) = false from beq_eq_false_iff_ne.mpr e] at e1
            exact .gt e1 (Ob.RcOp.gt_int _ _ _ _)
section
open PySem.SeqAt PySem.MeetsSeq PySem.MeetsSeq2 PySem.MeetsSeq3
open PySem.AutoSeq1 (wpAny_loadPart')
inductive Lxh (A : Around) (s : Shared) (z : Bool) : List (Value × Value) → Bool → Prop
  | nil : Lxh A s z [] z
  | eq {y x : Value} {ps : List (Value × Value)} {c : Bool} : EqAt A s y x true → Lxh A s z ps c → Lxh A s z ((y, x) :: ps) c
  | ge {y x : Value} {ps : List (Value × Value)} {c : Bool} : EqAt A s y x false → Ob.RcOp .GtE A s y x c → Lxh A s z ((y, x) :: ps) c
theorem ge_meets (l b : Addr) (us vs : Array Value) (n m : Nat) (dl db : Option Addr) (sl sb : Array (Option Value)) :
    Meets (Builtin.«tuple.__ge__» ⟨[.ref l, .ref b], []⟩)
      (fun A R s => s.heap.get? l = some { cls := .type "tuple", dict := dl, data := .seq us n, slots := sl } ∧ s.heap.get? b = some { cls := .type "tuple", dict := db, data := .seq vs m, slots := sb } ∧
        ∃ c, Lxh A.in1 s (decide (us.size ≥ vs.size)) (us.toList.zip vs.toList) c ∧ R (.ok (.ret (.bool c))) s) := by
  refine .of_wp fun prog w A R s h => ?_
  obtain ⟨hp, g, d, tk, os⟩ := s
  obtain ⟨hl, hb, c, hx, h⟩ := h
  have f2 := AutoSeq1.sub_tuple_tuple
  wp_walk using wpAny_loadPart' hl, wpAny_loadPart' hb, wpAny_forIn_list _ (fun ps b s' => b.1 = none ∧ s' = ⟨hp, g, d, tk, os⟩ ∧ ∃ c, Lxh A.in1 ⟨hp, g, d, tk, os⟩ (decide (us.size ≥ vs.size)) ps c ∧ R (.ok (.ret (.bool c))) ⟨hp, g, d, tk, os⟩) _
  case turn =>
    rintro ⟨y, x⟩ ps b s' ⟨hb', rfl, c, hz, hR⟩
    cases hz with
    | eq he ht =>
      refine wpAny_bind (he prog w _ _ ?_)
      wp_walk
      exact ⟨rfl, rfl, c, ht, hR⟩
    | ge he hr =>
      refine wpAny_bind (he prog w _ _ ?_)
      have hri := hr prog w
      wp_walk using hri
      exact ⟨_, rfl, hR⟩
  case fin =>
    rintro ⟨b1, b2⟩ s' ⟨hb', rfl, c, hz, hR⟩
    simp only at hb'
    subst hb'
    cases hz
    wp_walk
    exact ⟨_, rfl, by simpa [Builtin.Tuple.tupleCompareSizes] using hR⟩
  case h => exact ⟨rfl, rfl, c, hx, h⟩
theorem ge_tuples {A : Around} {s : Shared} {l b : Addr} {us vs : Array Value} {c : Bool} (hl : s.heap.IsTuple l us) (hb : s.heap.IsTuple b vs) (hu : A.units < cLine) (hx : Lxh A.in1 s (decide (us.size ≥ vs.size)) (us.toList.zip vs.toList) c) :
    Ob.RcOp .GtE A s (.ref l) (.ref b) c := by
  intro prog w E Q h
  obtain ⟨⟨k1, dl, da, sl⟩, ho, hc, n, hd⟩ := hl
  obtain ⟨⟨k2, db, da2, sb⟩, ho2, hc2, m, hd2⟩ := hb
  simp only at hc hd hc2 hd2
  subst hc hd hc2 hd2
  exact richCompare_meets_room (op := .GtE) ⟨_, ho, rfl⟩ ⟨_, ho2, rfl⟩ F.slot_tuple_ge F.entry_tuple_ge (F.args_tuple_ge_2 _ _) (ge_meets l b us vs n m dl db sl sb) ⟨ho, ho2, c, hx, ⟨(fun z => nomatch z), h⟩⟩ hu
end
def geI : V → V → Bool
  | .int a, .int b => decide (b ≤ a)
  | .str x, .str y => !decide (x.cps.toList < y.cps.toList)
  | _, _ => false
def rGe2 (K : PySem.W.Frag) : R2 := fun x y H Q => ∃ (a b : Addr) (i j : Int) (p q : V), x = .ref a ∧ y = .ref b ∧ SqT K H a [.int i, p] ∧ SqT K H b [.int j, q] ∧ flatV p = true ∧ flatV q = true ∧ (i = j → eqV p q = false → okI p q = true) ∧
  Q (.bl (if i = j then (if eqV p q = true then true else geI p q) else decide (j ≤ i))) H
theorem op_ge2 {X : Cx} (hu : X.A.units + 64 < cLine) : OpR X (compareOp .GtE) (rGe2 X.K) := by
  intro pins s σ H x y v u Q I rx ry h
  obtain ⟨a, b, i, j, p, q, rfl, rfl, ha, hb, fp, fq, ho, k⟩ := h
  cases rx
  cases ry
  obtain ⟨us, r1, t1, _⟩ := I.tuple ha
  obtain ⟨vs, r2, t2, _⟩ := I.tuple hb
  cases r1 with
  | cons q1 w1 =>
    cases w1 with
    | cons q2 w2 =>
      cases w2
      cases r2 with
      | cons z1 y1 =>
        cases y1 with
        | cons z2 y2 =>
          cases y2
          obtain ⟨t, rfl⟩ := q1
          obtain ⟨t', rfl⟩ := z1
          refine ge_tuples t1 t2 (by omega) (c := if i = j then (if eqV p q = true then true else geI p q) else decide (j ≤ i)) ?_ X.prog X.w _ _ ⟨.bl _, H, I, rfl, k⟩
          show Lxh X.A.in1 s true [_, _] _
          have e1 := SeqAt.EqAt.int_int (A := X.A.in1) (s := s) i t j t'
          by_cases e : i = j
          · rw [if_pos e]
            rw [show (i == j) = true from beq_iff_eq.mpr e] at e1
            refine .eq e1 ?_
            have e2 := eqAt_V (A := X.A.in1) (s := s) q2 z2 fp fq
            cases c : eqV p q with
            | true =>
              rw [c] at e2
              rw [if_pos rfl]
              exact .eq e2 .nil
            | false =>
              rw [c] at e2
              rw [if_neg (by decide)]
              refine .ge e2 ?_
              have o := ho e c
              cases p <;> cases q <;> first | (simp [okI] at o; done) | skip
              · obtain ⟨_, rfl⟩ := q2
                obtain ⟨_, rfl⟩ := z2
                exact Ob.RcOp.ge_int _ _ _ _
              · obtain ⟨_, rfl⟩ := q2
                obtain ⟨_, rfl⟩ := z2
                exact fun prog w E Q h => PySem.P.ge_str h
          · rw [if_neg e]
            rw [show (i == j) = false from beq_eq_false_iff_ne.mpr e] at e1
            exact .ge e1 (Ob.RcOp.ge_int _ _ _ _)


--@SPLIT
/-! ### sorting by keys that compare two by two: ranks, rows of ranks -/
mutual
theorem rd_det {h : Heap} : ∀ {d e : PyData} {v : Value} {as bs : List Addr}, noL d = true → Reads h v d as → Reads h v e bs → d = e
  | .none, _, _, _, _, _, .none, r => by cases r; rfl
  | .bool _, _, _, _, _, _, .bool _, r => by cases r; rfl
  | .int _, _, _, _, _, _, .int _ _, r => by cases r; rfl
  | .str _, _, _, _, _, _, .str _ _, r => by cases r; rfl
  | .tuple xs, _, _, _, _, n, .tuple h1 h2 h3 h4, r => by
    cases r with
    | list k1 k2 _ _ => rw [h1] at k1; cases k1; rw [h2] at k2; exact absurd (Value.type.inj k2) (by decide)
    | dict k1 k2 _ _ _ => rw [h1] at k1; cases k1; rw [h2] at k2; exact absurd (Value.type.inj k2) (by decide)
    | tuple k1 k2 k3 k4 =>
      rw [h1] at k1
      cases k1
      rw [h3] at k3
      cases k3
      rw [rd_dets (by simpa [noL] using n) h4 k4]
  | .list _, _, _, _, _, n, _, _ => by simp [noL] at n
  | .dict _, _, _, _, _, n, _, _ => by simp [noL] at n
theorem rd_dets {h : Heap} : ∀ {ds es : List PyData} {vs : List Value} {as bs : List Addr}, noLs ds = true → ReadsAll h vs ds as → ReadsAll h vs es bs → ds = es
  | [], _, _, _, _, _, .nil, r => by cases r; rfl
  | d :: ds, _, _, _, _, n, .cons h1 h2, r => by
    cases r with
    | cons k1 k2 =>
      have n' : (noL d && noLs ds) = true := n
      rw [Bool.and_eq_true] at n'
      rw [rd_det n'.1 h1 k1, rd_dets n'.2 h2 k2]
end
abbrev Tks := List (Int ⊕ List Nat)
abbrev tkLt (a b : Tks) : Bool := PyProof.Rows.lexLt PyProof.Rows.itemOrd a b
structure KFam {β : Type} (k : β → List PyData) (t : β → Tks) (fst : Bool) (P : β → Prop) : Prop where
  lt : ∀ x y, P x → P y → ltDs (k x) (k y) = tkLt (t x) (t y)
  ord : ∀ x y, P x → P y → ordDs (k x) (k y) = true
  lay : ∀ x, P x → PyData.canLayAll0 (k x) = true
  dep : ∀ x, P x → PyData.depthAll (k x) ≤ 50
  nol : ∀ x, P x → noLs (k x) = true
  head : ∀ x, P x → ∃ d r, k x = d :: r ∧ if fst = true then ∃ n, d = .int n else ∃ ys, d = .tuple ys
section
variable {β : Type} {k : β → List PyData} {t : β → Tks} {fst : Bool} {Pr : β → Prop}
theorem KFam.uniq (F : KFam k t fst Pr) {h : Heap} {v : Value} {x y : β} {as bs : List Addr} (hx : Pr x) (hy : Pr y) (r : Reads h v (.tuple (k x)) as) (r2 : Reads h v (.tuple (k y)) bs) : t x = t y := by
  have e : k x = k y := PyData.tuple.inj (rd_det (d := .tuple (k x)) (by simpa [noL] using F.nol x hx) r r2)
  have h1 : tkLt (t x) (t y) = false := by rw [← F.lt x y hx hy, ← e, F.lt x x hx hx]; exact PyProof.Rows.lex_irrefl _
  have h2 : tkLt (t y) (t x) = false := by rw [← F.lt y x hy hx, ← e, F.lt x x hx hx]; exact PyProof.Rows.lex_irrefl _
  exact (PyProof.Rows.listOrd PyProof.Rows.itemOrd).total _ _ h1 h2
noncomputable def ownKind (h : Heap) (k : β → List PyData) (t : β → Tks) (Pr : β → Prop) : PyProof.Rows.KeyKind where
  toKeyOrd := PyProof.Rows.listOrd PyProof.Rows.itemOrd
  keyOf v := open Classical in if q : ∃ x, Pr x ∧ ∃ as, Reads h v (.tuple (k x)) as then some (t q.choose) else none
  dflt := ([] : Tks)
theorem own_some (F : KFam k t fst Pr) {h : Heap} {v : Value} {x : β} {as : List Addr} (hx : Pr x) (r : Reads h v (.tuple (k x)) as) : (ownKind h k t Pr).keyOf v = some (t x) := by
  have q : ∃ x, Pr x ∧ ∃ as, Reads h v (.tuple (k x)) as := ⟨x, hx, as, r⟩
  have e : (ownKind h k t Pr).keyOf v = some (t q.choose) := by
    show (open Classical in if q : ∃ x, Pr x ∧ ∃ as, Reads h v (.tuple (k x)) as then some (t q.choose) else none) = _
    exact dif_pos q
  obtain ⟨h1, bs, h2⟩ := q.choose_spec
  rw [e, F.uniq h1 hx h2 r]
theorem own_inv {h : Heap} {v : Value} {c : Tks} (e : (ownKind h k t Pr).keyOf v = some c) : ∃ x as, Pr x ∧ Reads h v (.tuple (k x)) as ∧ c = t x := by
  by_cases q : ∃ x, Pr x ∧ ∃ as, Reads h v (.tuple (k x)) as
  · have e2 : (ownKind h k t Pr).keyOf v = some (t q.choose) := by
      show (open Classical in if q : ∃ x, Pr x ∧ ∃ as, Reads h v (.tuple (k x)) as then some (t q.choose) else none) = _
      exact dif_pos q
    obtain ⟨h1, bs, h2⟩ := q.choose_spec
    rw [e2] at e
    exact ⟨_, bs, h1, h2, (Option.some.inj e).symm⟩
  · have e2 : (ownKind h k t Pr).keyOf v = none := by
      show (open Classical in if q : ∃ x, Pr x ∧ ∃ as, Reads h v (.tuple (k x)) as then some (t q.choose) else none) = _
      exact dif_neg q
    rw [e2] at e
    cases e
end
section
open PySem.W PySem.Calls PySem.SeqAt
variable {prog : Program} {w : World} {A : Around} {s : Shared}
theorem kat_ord {b : Bool} {Q : Bool → Shared → Prop} : ∀ (xs ys : List PyData) (i : Nat) (us vs : List Value) (as bs : List Addr), ReadsAll s.heap us xs as → ReadsAll s.heap vs ys bs → PyData.canLayAll0 xs = true → PyData.canLayAll0 ys = true → ordDs xs ys = true →
    (b = true → i = 0 → ∀ x r y r', xs = x :: r → ys = y :: r' → ∃ m n, x = .int m ∧ y = .int n) → A.units + PyData.depthAll xs < cLine → Q (ltDs xs ys) s → KatLex prog w A b (decide (xs.length < ys.length)) Q (us.zip vs) i s
  | [], [], i, _, _, _, _, r1, r2, _, _, _, _, _, hq => by
    cases r1
    exact kat_nil hq
  | [], y :: ys, i, _, _, _, _, r1, r2, _, _, _, _, _, hq => by
    cases r1
    exact kat_nil (by rw [show decide (([] : List PyData).length < (y :: ys).length) = true from decide_eq_true (Nat.zero_lt_succ _)]; exact hq)
  | x :: xs, [], i, _, _, _, _, r1, r2, _, _, _, _, _, hq => by
    cases r2
    rw [List.zip_nil_right]
    exact kat_nil (by rw [show decide ((x :: xs).length < ([] : List PyData).length) = false from decide_eq_false (Nat.not_lt_zero _)]; exact hq)
  | x :: xs, y :: ys, i, _, _, _, _, r1, r2, c1, c2, o, hb, hu, hq => by
    have a1 : x.canLay0 = true ∧ PyData.canLayAll0 xs = true := by simpa [PyData.canLayAll0] using c1
    have a2 : y.canLay0 = true ∧ PyData.canLayAll0 ys = true := by simpa [PyData.canLayAll0] using c2
    have hd : A.units + max x.depth (PyData.depthAll xs) < cLine := hu
    cases r1 with
    | cons p1 q1 =>
      cases r2 with
      | cons p2 q2 =>
        rw [show decide ((x :: xs).length < (y :: ys).length) = decide (xs.length < ys.length) by simp, List.zip_cons_cons]
        have he := PySem.SeqAt.eqAt_reads x y A s _ _ _ _ p1 p2 a1.1 a2.1 (by omega)
        refine kat_cons (he prog w _ _ ?_)
        by_cases c : PyData.eqv x y = true
        · rw [c]
          refine kat_yes (kat_ord xs ys (i + 1) _ _ _ _ q1 q2 a1.2 a2.2 (by rw [ordDs, if_pos c] at o; exact o) (fun _ z => absurd z (Nat.succ_ne_zero i)) (by omega) ?_)
          rw [ltDs, if_pos c] at hq
          exact hq
        · rw [Bool.not_eq_true] at c
          rw [c]
          refine kat_no ?_
          rw [ordDs, if_neg (by rw [c]; decide)] at o
          rw [ltDs, if_neg (by rw [c]; decide)] at hq
          cases hf : (b && i == 0) with
          | false =>
            rw [oneLt'_eq]
            simp only [Bool.false_eq_true, if_false]
            exact wpAny_bind (lt_reads _ x y A s _ _ _ _ (Nat.le_refl _) p1 p2 a1.1 a2.1 o (by omega) prog w _ _ (wpAny_truthy_bool hq))
          | true =>
            have hf2 : b = true ∧ i = 0 := by simpa using hf
            obtain ⟨m, n, rfl, rfl⟩ := hb hf2.1 hf2.2 x xs y ys rfl rfl
            cases p1
            cases p2
            exact oneLt_int hq
theorem own_tups {β : Type} {k : β → List PyData} {t : β → Tks} {fst : Bool} {Pr : β → Prop} (F : KFam k t fst Pr) : ∀ {vs : List Value} {xs : List β}, EachIs (fun v x => ∃ as, Reads s.heap v (.tuple (k x)) as) vs xs → (∀ x ∈ xs, Pr x) → ∃ fs, KatTups s.heap vs fs ∧ fs.length = vs.length ∧ ∀ f ∈ fs, ∃ d as, (if fst = true then ∃ n, d = PyData.int n else ∃ ys, d = PyData.tuple ys) ∧ Reads s.heap f d as
  | _, _, .nil, _ => ⟨[], KatTups.nil, rfl, fun f hf => nomatch hf⟩
  | _, _, .cons (b := x) ⟨as, r⟩ rest, hp => by
    obtain ⟨fs, h1, h2, h3⟩ := own_tups F rest fun y hy => hp y (List.mem_cons_of_mem _ hy)
    obtain ⟨d, l, hk, hd⟩ := F.head x (hp x (List.mem_cons_self ..))
    rw [hk] at r
    cases r with
    | @tuple a o us n _ _ g1 g2 g3 g4 =>
      cases hu : us.toList with
      | nil => rw [hu] at g4; cases g4
      | cons f fr =>
        rw [hu] at g4
        cases g4 with
        | cons p1 p2 =>
          have at0 : us[0]? = some f := by rw [← Array.getElem?_toList, hu]; rfl
          refine ⟨f :: fs, KatTups.cons g1 g2 g3 at0 h1, by rw [List.length_cons, List.length_cons, h2], fun g hg => ?_⟩
          rcases List.mem_cons.mp hg with z | z
          · rw [z]; exact ⟨d, _, hd, p1⟩
          · exact h3 g z
/-- such values can be sorted -/
theorem own_sorts {β : Type} {k : β → List PyData} {t : β → Tks} {fst : Bool} {Pr : β → Prop} (F : KFam k t fst Pr) {vs : List Value} {xs : List β} (e : EachIs (fun v x => ∃ as, Reads s.heap v (.tuple (k x)) as) vs xs) (hp : ∀ x ∈ xs, Pr x) (hu : A.units + 60 < cLine) : SortsAt prog w A s (ownKind s.heap k t Pr) vs := by
  refine ⟨fun v hv => ?_, tuples' fst, ?_, fun h2 E Q hq => ?_⟩
  · obtain ⟨x, hx, as, r⟩ := e.left v hv
    exact ⟨_, own_some F (hp x hx) r⟩
  · intro E u v a b Q ha hb hq
    obtain ⟨x, as, hx, ra, rfl⟩ := own_inv ha
    obtain ⟨y, bs, hy, rb, rfl⟩ := own_inv hb
    have hq2 : Q (ltDs (k x) (k y)) s := by rw [F.lt x y hx hy]; exact hq
    have hdx := F.dep x hx
    cases ra with
    | @tuple l o us n _ _ h1 h2 h3 h4 =>
      cases rb with
      | @tuple l' o' us' n' _ _ k1 k2 k3 k4 =>
        have l1 : us.size = (k x).length := by simpa using reads_len h4
        have l2 : us'.size = (k y).length := by simpa using reads_len k4
        refine kat_lt h1 h3 k1 k3 ?_
        rw [l1, l2]
        refine kat_ord (k x) (k y) 0 _ _ _ _ h4 k4 (F.lay x hx) (F.lay y hy) (F.ord x y hx hy) (fun hb _ x' r y' r' ex ey => ?_) (by omega) hq2
        obtain ⟨d, l, e1, g1⟩ := F.head x hx
        obtain ⟨d', l', e2, g2⟩ := F.head y hy
        rw [if_pos hb] at g1 g2
        rw [e1] at ex
        rw [e2] at ey
        cases ex
        cases ey
        obtain ⟨m, rfl⟩ := g1
        obtain ⟨n, rfl⟩ := g2
        exact ⟨m, n, rfl, rfl⟩
  · obtain ⟨fs, t1, t2, t3⟩ := own_tups F e hp
    have hT : ∀ T : Value, (∀ d, (if fst = true then ∃ n, d = PyData.int n else ∃ ys, d = PyData.tuple ys) → dataType d = T) → (T == T) = true → (T != Value.type "tuple") = fst → wpAny (model prog w) A (keyKind' vs.toArray) Q E s := fun T hd hT2 hf => by
      refine kat_kind (T := T) t1 (by omega) (fun f hf2 => ?_) hT2 (by rw [hf]; exact hq)
      obtain ⟨d, as, g1, g2⟩ := t3 f hf2
      rw [← hd d g1]
      exact looks_reads g2
    cases fst with
    | true => exact hT (.type "int") (fun d ⟨n, hn⟩ => by rw [hn]; rfl) (by decide) (by decide)
    | false => exact hT (.type "tuple") (fun d ⟨n, hn⟩ => by rw [hn]; rfl) (by decide) (by decide)
end

--@SPLIT
/-! ### sorted(xs, key=f) -/
theorem freed_at (h : Heap) (a : Addr) : (h.update a fun o => { o with data := .freed }).get? a = none := by
  obtain ⟨objs, l⟩ := h
  unfold Heap.update Heap.get?
  simp only [Array.getElem?_modify, if_true]
  cases objs[a]? <;> rfl
def sortT {β : Type} (t : β → Tks) (rev : Bool) (xs : List β) : List β := xs.mergeSort (PySem.W.sortLe (PyProof.Rows.listOrd PyProof.Rows.itemOrd) rev t)
theorem sortT_perm {β : Type} (t : β → Tks) (rev : Bool) (xs : List β) : (sortT t rev xs).Perm xs := List.mergeSort_perm _ _
def SpDat (K : PySem.W.Frag) (sp : Sp) (vs : List V) (H : Hp) (d : PyData) : Prop := ∀ H1, Ex H H1 → ∀ Q : VK, (∀ v H2, Ex H1 H2 → Dp K H2 v d → Q v H2) → ∀ E : XK, sp vs H1 Q E
def rSortedF (P : Program) (w : World) (K : PySem.W.Frag) (mg : Str → Option Value) (base : Heap) (lv : Nat) (rev : Bool) (zs0 : Addr → List V) : List V → List V → Hp → VK → Prop := fun vs zs H Q => ∃ (a f : Addr) (sp : Sp) (β : Type) (bs : List β) (it : β → V) (k : β → List PyData) (t : β → Tks) (fst : Bool) (Pr : β → Prop),
  vs = [.ref a] ∧ zs = zs0 f ∧ SqL K H a (bs.map it) ∧ L2.Held P w K mg base lv f sp ∧ KFam k t fst Pr ∧ (∀ x ∈ bs, Pr x) ∧ (∀ x ∈ bs, SpDat K sp [it x] H (.tuple (k x))) ∧ ∀ p H', H p = none → Ex H H' → H' p = some (.lst ((sortT t rev bs).map it)) → Q (.ref p) H'
theorem vals_each {β : Type} {it : β → V} : ∀ {bs : List β} {us : List Value}, Vals (bs.map it) us → PySem.W.EachIs (fun u b => RelV (it b) u) us bs
  | [], _, .nil => .nil
  | _ :: _, _, .cons r t => .cons r (vals_each t)
theorem each_vals {β : Type} {it : β → V} : ∀ {bs : List β} {us : List Value}, PySem.W.EachIs (fun u b => RelV (it b) u) us bs → Vals (bs.map it) us
  | _, _, .nil => .nil
  | _, _, .cons r t => .cons r (each_vals t)
section
open PySem.W PySem.Calls
variable {X : Cx}
theorem vals_len {xs : List V} {us : List Value} (r : Vals xs us) : us.length = xs.length := r.length.symm
theorem each_reads {β : Type} {k : β → List PyData} {pins : List (Addr × Obj)} {σ : L2.St} {H : Hp} {s : Shared} (I : Inv X pins σ H s) : ∀ {bs : List β} {ys : List V} {us : List Value}, Vals ys us → DpAll X.K H ys (bs.map fun x => .tuple (k x)) → EachIs (fun v x => ∃ as, Reads s.heap v (.tuple (k x)) as) us bs
  | [], _, _, r, d => by
    cases d
    cases r
    exact .nil
  | x :: bs, _, _, r, d => by
    cases d with
    | cons d1 d2 =>
      cases r with
      | cons r1 r2 =>
        obtain ⟨as, g⟩ := Dp.reads I _ _ _ d1 r1
        exact .cons ⟨as, g⟩ (each_reads I r2 d2)
theorem sorted_runF {lv : Nat} {rev : Bool} {kw : List (Str × Value)} (hr : Room (lv + 2) X.A) {pins : List (Addr × Obj)} {s : Shared} {σ : L2.St} {H : Hp} {Q : VK} {a f : Addr} {sp : Sp} {β : Type} {bs : List β} {it : β → V} {k : β → List PyData} {t : β → Tks} {fst : Bool} {Pr : β → Prop} (I : Inv X pins σ H s)
    (hkw : ∀ x : Addr, Builtin.«list.sort» ⟨[.ref x], kw⟩ = ksk_tree x (.ref f) rev) (ha1 : argsOk "sorted" ⟨[.ref a], kw⟩) (ha2 : ∀ x : Addr, argsOk "list.sort" ⟨[.ref x], kw⟩)
    (hs : SqL X.K H a (bs.map it)) (hH : L2.Held X.prog X.w X.K X.mg X.base lv f sp) (F : KFam k t fst Pr) (hp : ∀ x ∈ bs, Pr x) (hsp : ∀ x ∈ bs, SpDat X.K sp [it x] H (.tuple (k x)))
    (q : ∀ p H', H p = none → Ex H H' → H' p = some (.lst ((sortT t rev bs).map it)) → Q (.ref p) H') : wpAny (model X.prog X.w) X.A (call (.builtin "sorted") [.ref a] kw) (EP X pins σ Q) X.xe s := by
  obtain ⟨its, rv, hl, hz⟩ := I.list hs
  have hilen : its.length = bs.length := by rw [vals_len rv, List.length_map]
  have hZ : its.length ≤ sizeLine := by rw [vals_len rv]; exact hz
  refine sorted_of_sort hl.isList hZ ha1 ha2 fun E' => ?_
  rw [hkw]
  have hc0 : s.heap.get? (s.heap.objs.size + 1) = none := Heap.get?_none_of_le (Nat.le_succ _)
  have ho := copyHeap_at s.heap its
  have hcopy : ∀ b o, s.heap.get? b = some o → (copyHeap s.heap its).get? b = some o := fun b o => copyHeap_old
  generalize hcdef : s.heap.objs.size + 1 = c at ho hc0 ⊢
  have hcge : s.heap.objs.size ≤ c := by rw [← hcdef]; exact Nat.le_succ _
  generalize copyHeap s.heap its = h1 at ho hcopy ⊢
  have hclt : c < h1.objs.size := Heap.lt_size ho
  obtain ⟨e1, ho1⟩ : ∃ e1, (h1.update c (Obj.mapSeq fun _ => (#[] : Array Value))).get? c = some (seqObj "list" #[] e1) := ⟨_, get?_update_seq ho fun _ => #[]⟩
  unfold ksk_tree
  refine wpAny_bind (listItems_at ho rfl (wpAny_bind (listUpdate_at ho rfl ?_ (by rw [List.size_toArray]; exact hZ) (Nat.zero_le _))))
  refine wpAny_bind (seqEpoch_at ho1 rfl (wpAny_bind (wpAny_newTuple ?_ (by show its.length ≤ _; exact hZ))))
  refine wpAny_bind (wpAny_newList (wpAny_holding ?_) (Nat.zero_le _))
  have hmid : ∀ b o, b ≠ c → h1.get? b = some o → (((h1.update c (Obj.mapSeq fun _ => (#[] : Array Value))).push (seqObj "tuple" its.toArray 0)).push (seqObj "list" #[] 0)).get? b = some o := fun b o hb e => sortingHeap_old hb e
  have hms : ((h1.update c (Obj.mapSeq fun _ => (#[] : Array Value))).push (seqObj "tuple" its.toArray 0)).objs.size = h1.objs.size + 1 := by rw [size_push', Heap.size_update]
  have hmS : (((h1.update c (Obj.mapSeq fun _ => (#[] : Array Value))).push (seqObj "tuple" its.toArray 0)).push (seqObj "list" #[] 0)).get? ((h1.update c (Obj.mapSeq fun _ => (#[] : Array Value))).push (seqObj "tuple" its.toArray 0)).objs.size = some (seqObj "list" #[] 0) := Heap.get?_push_size _ rfl
  have hmc : (((h1.update c (Obj.mapSeq fun _ => (#[] : Array Value))).push (seqObj "tuple" its.toArray 0)).push (seqObj "list" #[] 0)).get? c = some (seqObj "list" #[] e1) := Heap.get?_push_of_some _ (Heap.get?_push_of_some _ ho1)
  have hSc : ((h1.update c (Obj.mapSeq fun _ => (#[] : Array Value))).push (seqObj "tuple" its.toArray 0)).objs.size ≠ c := by
    rw [hms]
    exact Nat.ne_of_gt (Nat.lt_succ_of_lt hclt)
  have hSge : s.heap.objs.size ≤ ((h1.update c (Obj.mapSeq fun _ => (#[] : Array Value))).push (seqObj "tuple" its.toArray 0)).objs.size := by
    rw [hms]
    exact Nat.le_trans hcge (Nat.le_of_lt (Nat.lt_succ_of_lt hclt))
  generalize ((h1.update c (Obj.mapSeq fun _ => (#[] : Array Value))).push (seqObj "tuple" its.toArray 0)).objs.size = kS at hmS hSc hSge ⊢
  generalize (((h1.update c (Obj.mapSeq fun _ => (#[] : Array Value))).push (seqObj "tuple" its.toArray 0)).push (seqObj "list" #[] 0)) = h2 at hmid hmS hmc ⊢
  have hold : ∀ b o, s.heap.get? b = some o → h2.get? b = some o := fun b o e => hmid b o (fun z => by rw [z, hc0] at e; cases e) (hcopy b o e)
  have I2 : Inv X pins σ H { s with heap := h2 } := I.kept (t' := s.toks) hold
  have fpS := I.fpOk hSge (I.hok.fresh hSge)
  have fpC := I.fpOk hcge (I.hok.fresh hcge)
  have roomI : Room lv X.A.in1.in1 := (hr.in1).in1
  unfold ksk_rest
  refine wpAny_bind (wpAny_rule ?_)
  rw [List.forIn_toArray]
  refine wpAny_bind (ksk_fold (fun i s' => ∃ (H' : Hp) (kA : Array Value) (e : Nat) (ys : List V), Inv X pins σ H' s' ∧ Ex H H' ∧ s'.heap.get? kS = some (seqObj "list" kA e) ∧ s'.heap.get? c = some (seqObj "list" #[] e1) ∧ H' kS = none ∧ H' c = none ∧ Vals ys kA.toList ∧ DpAll X.K H' ys ((bs.take i).map fun x => .tuple (k x))) its 0 _
    ⟨H, #[], 0, [], I2, Ex.refl H, hmS, hmc, fpS.1, fpC.1, .nil, .nil⟩ (fun j u s' hu hw => ?_) fun s' hw => ?_)
  · obtain ⟨H', kA, e, ys, I', x', nS, nC, hS, hC, hv, hd⟩ := hw
    rw [Nat.zero_add] at hd ⊢
    have hj : j < bs.length := by rw [← hilen]; exact (List.getElem?_eq_some_iff.mp hu).1
    have hb := List.getElem?_eq_getElem hj
    have hmem := List.getElem_mem hj
    generalize bs[j] = x at hb hmem
    obtain ⟨u2, hu2, ru⟩ := rv.get (i := j) (x := it x) (by rw [List.getElem?_map, hb]; rfl)
    rw [hu] at hu2
    cases hu2
    obtain ⟨fd, ps, Fn, hk, hbd⟩ := hH.ex
    have rS : FpOk X pins H' kS := ⟨hS, fpS.2⟩
    have rC : FpOk X pins H' c := ⟨hC, fpC.2⟩
    have Ip := I'.pinned (fp := [kS, c]) (fun b hb => by
      rcases (show b = kS ∨ b = c by simpa using hb) with z | z <;> rw [z] <;> assumption) (fun b hb => by
      rcases (show b = kS ∨ b = c by simpa using hb) with z | z <;> rw [z]
      · exact ⟨_, nS, fun v z => nomatch z⟩
      · exact ⟨_, nC, fun v z => nomatch z⟩)
    have hlen1 : [u].length = ps.length := by
      have := Fn.len [it x] H' (fun _ _ => True) (fun _ _ _ => True) (hsp x hmem H' x' _ (fun _ _ _ _ => trivial) _)
      exact this
    have env1 : Env0 X.prog X.w X.K X.mg X.base X.A.in1.in1 X.stack s' H' := (Ip.env0.in1).in1
    refine wpAny_bind (wpAny_attempt (wpAny_call (codeAny_mono (Fn.run X.A.in1.in1 X.stack s' H' ⟨[u], []⟩ [u] [it x] (fun v H2 => Ex H' H2 ∧ Dp X.K H2 v (.tuple (k x))) (fun _ _ _ => False) roomI env1 ?_ (.cons ru .nil) (hsp x hmem H' x' _ (fun v H2 e2 hv2 => ⟨e2, hv2⟩) _)) fun r s2 hq => ?_)))
    · have := hbd s' [u] I'.kIn (by simpa using hlen1)
      simpa using this
    cases r with
    | error er => exact hq.elim
    | ok fl =>
      cases fl with
      | next => exact hq.elim
      | brk => exact hq.elim
      | cont => exact hq.elim
      | ret u3 =>
        obtain ⟨v, H2, J2, rvv, ex2, hdv⟩ := Ip.after hq
        have pn : ∀ b ∈ [kS, c], ∀ o, s'.heap.get? b = some o → s2.heap.get? b = some o ∧ H2 b = none := fun b hb o ho => by
          have := J2.pin (b, o) (List.mem_append_right _ (List.mem_append_right _ (mem_pinsAt hb ho)))
          exact ⟨this.1, this.2.1⟩
        have nS2 := pn kS (by simp) _ nS
        have nC2 := pn c (by simp) _ nC
        have J := J2.unpinned
        have hkA : kA.size ≤ its.length := by
          have h5 := dps_len hd
          have h6 := vals_len hv
          rw [List.length_map, List.length_take] at h5
          rw [Array.length_toList] at h6
          omega
        show wpAny _ _ (do Builtin.List.listUpdate (Value.ref kS) fun x => x.push u3; pure (ForInStep.yield PUnit.unit)) _ _ s2
        have szp : (kA.push u3).size ≤ sizeLine + 1 := by
          rw [Array.size_push]
          omega
        refine wpAny_bind (listUpdate_at nS2.1 rfl ?_ (Nat.le_trans hkA hZ) szp)
        obtain ⟨c2, hc2⟩ : ∃ c2, (s2.heap.update kS (Obj.mapSeq (·.push u3))).get? kS = some (seqObj "list" (kA.push u3) c2) := ⟨_, get?_update_seq nS2.1 (·.push u3)⟩
        have ne_ : ∀ b, b ≠ kS → (s2.heap.update kS (Obj.mapSeq (·.push u3))).get? b = s2.heap.get? b := fun b hb => Heap.get?_update_ne _ _ _ _ hb
        have J3 : Inv X pins σ H2 { s2 with heap := s2.heap.update kS (Obj.mapSeq (·.push u3)) } := J.turnedL (t' := s2.toks) (ch := [kS]) (fun b o hb e => (ne_ b (fun z => hb (by simp [z]))).trans e) (fun b hb => by
          rw [show b = kS by simpa using hb]
          exact ⟨nS2.2, fpS.2⟩)
        refine wpAny_pure ⟨rfl, H2, kA.push u3, c2, ys ++ [v], J3, x'.trans ex2, hc2, (ne_ c (Ne.symm hSc)).trans nC2.1, nS2.2, nC2.2, ?_, ?_⟩
        · rw [Array.toList_push]
          exact hv.append (.cons rvv .nil)
        · have ht : bs.take (j + 1) = bs.take j ++ [x] := by rw [List.take_add_one, hb]; rfl
          rw [ht, List.map_append]
          exact dps_snoc (ex_dps ex2 hd) hdv
  · obtain ⟨H', kA, e, ys, I', x', nS, nC, hS, hC, hv, hd⟩ := hw
    rw [Nat.zero_add, hilen, List.take_length] at hd
    have hkl : kA.toList.length = bs.length := by
      have h5 := dps_len hd
      rw [List.length_map] at h5
      rw [vals_len hv, h5]
    have hks : kA.size = its.length := by rw [← Array.length_toList, hkl, hilen]
    have rS : FpOk X pins H' kS := ⟨hS, fpS.2⟩
    have rC : FpOk X pins H' c := ⟨hC, fpC.2⟩
    have hE := each_reads (k := k) I' hv hd
    refine wpAny_bind (listItems_at nS rfl ?_)
    have hu60 : X.A.in1.in1.units + 60 < cLine := by
      have := roomI.un
      omega
    refine keyH_end (κ := ownKind s'.heap k t Pr) (h₁ := s'.heap.update kS fun o => { o with data := .freed }) (fun b o hb e => ?_) (freed_at _ _) nS nC hSc (own_sorts F hE hp hu60) hks hZ fun h' tk c3 kp hD => ⟨rfl, ?_⟩
    · have hbk : b ≠ kS := fun z => by rw [z, freed_at] at e; cases e
      rw [Heap.get?_update_ne _ _ _ _ hbk] at e
      exact e
    · have kept : ∀ b o, b ∉ [kS, c] → s'.heap.get? b = some o → h'.get? b = some o := fun b o hb e => by
        refine kp b o (fun z => hb (by simp [z])) ?_
        rw [Heap.get?_update_ne _ _ _ _ (fun z => hb (by simp [z]))]
        exact e
      have I3 : Inv X pins σ H' { s' with heap := h', toks := tk } := I'.turnedL (t' := tk) (ch := [kS, c]) kept fun b hb => by
        rcases (show b = kS ∨ b = c by simpa using hb) with z | z <;> rw [z] <;> assumption
      have hout : Vals ((sortT t rev bs).map it) (sortVals (ownKind s'.heap k t Pr) rev kA.toList its) := each_vals (sortVals_each (κ := ownKind s'.heap k t Pr) t (vals_each rv) ((each_mem hE).mono fun v b ⟨⟨as, g⟩, hb⟩ => own_some F (hp b hb) g))
      have hlen3 : ((sortT t rev bs).map it).length ≤ sizeLine := by
        rw [List.length_map, (sortT_perm t rev bs).length_eq, ← hilen]
        exact hZ
      exact ⟨.ref c, upd H' c (.lst ((sortT t rev bs).map it)), Inv.take (s := { s' with heap := h', toks := tk }) (h' := h') (t' := tk) I3 (fun b ob _ e => e) rC ⟨hlen3, _, c3, hout, hD⟩, rfl, q c _ fpC.1 (Ex.mut x' fpC.1) upd_same⟩
/-- sorted(xs, key=f) -/
theorem cr_sortedF {lv : Nat} (hr : Room (lv + 2) X.A) : CallRK X (.builtin "sorted") [Str.ofString "key"] (rSortedF X.prog X.w X.K X.mg X.base lv false fun f => [.ref f]) := by
  intro pins s σ H vs zs us ws Q I r rz h
  obtain ⟨a, f, sp, β, bs, it, k, t, fst, Pr, rfl, rfl, hs, hH, F, hp, hsp, q⟩ := h
  obtain rfl := Vals.ref1 r
  obtain ⟨w1, rfl, e1⟩ := vals1 rz
  obtain rfl : w1 = Value.ref f := e1
  exact sorted_runF hr I (fun x => ksk_t1 f x) (PyProof.Rows.ksk_s1 _ _) (fun x => PyProof.Rows.ksk_l1 _ _) hs hH F hp hsp q
end

--@SPLIT
/-! ### dicts whose keys are nested tuples -/
abbrev NK := PySem.NestedKey
mutual
inductive NKey (H : Hp) : NK → V → Prop where
  | non : NKey H .none .non
  | num (i : Int) : NKey H (.num i) (.int i)
  | text (x : Str) : NKey H (.text x) (.str x)
  | tup {a : Addr} {xs : List V} {ks : List NK} (h : H a = some (.tup xs)) (hs : NKeys H ks xs) : NKey H (.tup ks) (.ref a)
inductive NKeys (H : Hp) : List NK → List V → Prop where
  | nil : NKeys H [] []
  | cons {k : NK} {v : V} {ks : List NK} {vs : List V} (h : NKey H k v) (hs : NKeys H ks vs) : NKeys H (k :: ks) (v :: vs)
end
mutual
theorem NKey.mono {H H' : Hp} (t : ∀ b xs, H b = some (.tup xs) → H' b = some (.tup xs)) : ∀ {k : NK} {v : V}, NKey H k v → NKey H' k v
  | _, _, .non => .non
  | _, _, .num i => .num i
  | _, _, .text x => .text x
  | _, _, .tup h hs => .tup (t _ _ h) (NKeys.mono t hs)
theorem NKeys.mono {H H' : Hp} (t : ∀ b xs, H b = some (.tup xs) → H' b = some (.tup xs)) : ∀ {ks : List NK} {vs : List V}, NKeys H ks vs → NKeys H' ks vs
  | _, _, .nil => .nil
  | _, _, .cons h hs => .cons (NKey.mono t h) (NKeys.mono t hs)
end
theorem NKey.ex {H H' : Hp} {k : NK} {v : V} (h : NKey H k v) (e : Ex H H') : NKey H' k v := h.mono fun b xs q => e b _ q
mutual
theorem NKey.is {P : Program} {w : World} {H : Hp} {h : Heap} (ok : HOk P w H h) : ∀ {k : NK} {v : V} {u : Value}, NKey H k v → RelV v u → PySem.NestedIs h k u
  | _, _, u, .non, r => by cases (show u = Value.none from r); exact .none
  | _, _, u, .num i, r => by obtain ⟨t, rfl⟩ := (show ∃ t, u = Value.int i t from r); exact .int i t
  | _, _, u, .text x, r => by obtain ⟨t, rfl⟩ := (show ∃ t, u = Value.str x t from r); exact .text x t
  | _, _, u, .tup (a := a) e hs, r => by
    cases (show u = Value.ref a from r)
    obtain ⟨_, its, rr, o, h1, h2, n, h3⟩ := (show ObjOk P w H h a (.tup _) from ok a _ e)
    exact .tup h1 h2 h3 (by simpa using NKeys.is ok hs rr)
theorem NKeys.is {P : Program} {w : World} {H : Hp} {h : Heap} (ok : HOk P w H h) : ∀ {ks : List NK} {vs : List V} {us : List Value}, NKeys H ks vs → Vals vs us → PySem.NestedAll h ks us
  | _, _, _, .nil, r => by cases r; exact .nil
  | _, _, _, .cons k ks, r => by
    cases r with
    | cons r1 r2 => exact .cons (NKey.is ok k r1) (NKeys.is ok ks r2)
end
def nkd (P : Program) (w : World) : PySem.HeapKind P w NK := PySem.nestedKind P w
def NObj (P : Program) (w : World) (d : Addr) (xs : List (NK × Addr × Value)) : HO := .ext fun h => (d == sysModules) = false ∧ ∃ o es ep, h.get? d = some o ∧ o.ExactDict ∧ o.data = .dict es ep ∧ es.toList = xs.map (entryOfKey (nkd P w)) ∧ (xs.map (·.1)).Nodup
/-- at d stands a dict with the keys and values kvs, in the order of insertion -/
def NDict (P : Program) (w : World) (H : Hp) (d : Addr) (kvs : List (NK × V)) : Prop :=
  ∃ xs : List (NK × Addr × Value), H d = some (NObj P w d xs) ∧ (∀ x ∈ xs, NKey H x.1 (.ref x.2.1) ∧ x.1.depth ≤ 8) ∧ KV kvs (PySem.pairsH xs) ∧ kvs.length ≤ sizeLine
theorem NDict.ex {P : Program} {w : World} {H H' : Hp} {d : Addr} {kvs : List (NK × V)} (h : NDict P w H d kvs) (e : Ex H H') : NDict P w H' d kvs := by
  obtain ⟨xs, h1, h2, h3⟩ := h
  exact ⟨xs, e _ _ h1, fun x hx => ⟨(h2 x hx).1.ex e, (h2 x hx).2⟩, h3⟩
theorem NDict.upd {P : Program} {w : World} {H : Hp} {d p : Addr} {o u : HO} {kvs : List (NK × V)} (h : NDict P w H d kvs) (hp : H p = some u) (hu : ∀ xs, u ≠ .tup xs) (hd : d ≠ p) : NDict P w (upd H p o) d kvs := by
  obtain ⟨xs, h1, h2, h3⟩ := h
  refine ⟨xs, by rw [upd_ne hd]; exact h1, fun x hx => ⟨(h2 x hx).1.mono fun b ys q => ?_, (h2 x hx).2⟩, h3⟩
  rw [upd_ne fun z => ?_]
  · exact q
  · rw [z, hp] at q
    exact hu _ (Option.some.inj q)
theorem NDict.ne {P : Program} {w : World} {H : Hp} {d p : Addr} {o : HO} {kvs : List (NK × V)} (h : NDict P w H d kvs) (hp : H p = some o) (ho : ∀ φ, o ≠ .ext φ) : d ≠ p := fun z => by
  obtain ⟨xs, h1, _⟩ := h
  rw [z, hp] at h1
  exact ho _ (Option.some.inj h1)
theorem NDict.some {P : Program} {w : World} {H : Hp} {d : Addr} {kvs : List (NK × V)} (h : NDict P w H d kvs) : ∃ o, H d = some o := by
  obtain ⟨xs, h1, _⟩ := h
  exact ⟨_, h1⟩
section
variable {P : Program} {w : World} {H : Hp} {h : Heap} {d : Addr} {kvs : List (NK × V)}
theorem NDict.of (ok : HOk P w H h) (e : NDict P w H d kvs) : (d == sysModules) = false ∧ ∃ xs, H d = Option.some (NObj P w d xs) ∧ (∀ x ∈ xs, NKey H x.1 (.ref x.2.1) ∧ x.1.depth ≤ 8) ∧ KV kvs (PySem.pairsH xs) ∧ kvs.length ≤ sizeLine ∧ h.DictOfH (nkd P w) d xs := by
  obtain ⟨xs, h1, h2, h3, h4⟩ := e
  obtain ⟨⟨q1, o, es, ep, q2, q3, q4, q5, q6⟩, _⟩ := (show ObjOk P w H h d (NObj P w d xs) from ok d _ h1)
  exact ⟨q1, xs, h1, h2, h3, h4, o, es, ep, q2, q3, q4, q5, fun x hx => ⟨NKey.is ok (h2 x hx).1 (show RelV (.ref x.2.1) (.ref x.2.1) from rfl), (h2 x hx).2⟩, q6⟩
theorem nobj_ok {xs : List (NK × Addr × Value)} (hd : (d == sysModules) = false) (x : h.DictOfH (nkd P w) d xs) : ObjOk P w H h d (NObj P w d xs) := by
  obtain ⟨o, es, ep, q2, q3, q4, q5, _, q6⟩ := x
  refine ⟨⟨hd, o, es, ep, q2, q3, q4, q5, q6⟩, ⟨o, q2⟩, ?_⟩
  rintro h1 h2 ⟨w1, o, es, ep, w2, w3⟩ k
  exact ⟨w1, o, es, ep, k _ w2, w3⟩
end
/-! the operations -/
def rNIn (P : Program) (w : World) (neg : Bool) : R2 := fun y x H Q => ∃ d kvs k, x = .ref d ∧ NDict P w H d kvs ∧ NKey H k y ∧ (∃ b, y = .ref b) ∧ k.depth ≤ 8 ∧ Q (.bl (if neg then !(valV kvs k).isSome else (valV kvs k).isSome)) H
def tNGet (P : Program) (w : World) (td ty : TE) : TE := fun σ H Q => td σ H fun x H1 => ty σ H1 fun y H2 => ∃ d kvs k b v, x = .ref d ∧ y = .ref b ∧ NDict P w H2 d kvs ∧ NKey H2 k y ∧ k.depth ≤ 8 ∧ valV kvs k = some v ∧ Q v H2
def sNPut (P : Program) (w : World) (td ty tv : TE) : TS := fun D σ H => tv σ H fun v H1 => td σ H1 fun x H2 => ty σ H2 fun y H3 => ∃ d kvs k b, x = .ref d ∧ y = .ref b ∧ NDict P w H3 d kvs ∧ NKey H3 k y ∧ k.depth ≤ 8 ∧ kvs.length < sizeLine ∧
  ∀ xs, NDict P w (upd H3 d (NObj P w d xs)) d (putK kvs k v) → D.nx σ (upd H3 d (NObj P w d xs))
def rNGetOr (P : Program) (w : World) : V → List V → Hp → VK → Prop := fun x xs H Q => ∃ d kvs k b z, x = .ref d ∧ xs = [.ref b, z] ∧ NDict P w H d kvs ∧ NKey H k (.ref b) ∧ k.depth ≤ 8 ∧ Q ((valV kvs k).getD z) H
def tDNewN (P : Program) (w : World) : TE := fun _ H Q => ∀ d, H d = none → NDict P w (upd H d (NObj P w d [])) d [] → Q (.ref d) (upd H d (NObj P w d []))
theorem mem_storedH {xs : List (NK × Addr × Value)} {k : NK} {a : Addr} {v : Value} : ∀ x ∈ storedH xs k a v, (∃ y ∈ xs, x.1 = y.1 ∧ x.2.1 = y.2.1) ∨ (x.1 = k ∧ x.2.1 = a) := by
  intro x hx
  unfold storedH at hx
  split at hx
  · obtain ⟨y, hy, rfl⟩ := List.mem_map.mp hx
    refine .inl ⟨y, hy, ?_⟩
    unfold putAt
    split <;> exact ⟨rfl, rfl⟩
  · rcases List.mem_append.mp hx with q | q
    · exact .inl ⟨x, q, rfl, rfl⟩
    · rw [List.mem_singleton.mp q]
      exact .inr ⟨rfl, rfl⟩
section
variable {X : Cx} {o i e f value : Expr} {pos pos' tpos apos cpos : Pos} {td ty tv tx : TE}
theorem nroom {A : Around} (hu : A.units + 64 < cLine) (P : Program) (w : World) : (nkd P w).room A.in1 := by
  show A.in1.units + 8 < cLine
  rw [Around.in1_units]
  omega
theorem op_nin (hu : X.A.units + 64 < cLine) : OpR X (compareOp .In) (rNIn X.prog X.w false) := by
  intro pins s σ H x y v u Q I rx ry h
  obtain ⟨d, kvs, k, rfl, nd, nk, ⟨b, rfl⟩, kd, q⟩ := h
  obtain rfl : u = Value.ref d := ry
  obtain ⟨hd, xs, _, _, kv, _, dd⟩ := NDict.of I.hok nd
  have hk := NKey.is I.hok nk rx
  cases (show v = Value.ref b from rx)
  refine wpAny_in_heap (knd := nkd X.prog X.w) (nroom hu _ _) ⟨hk, kd⟩ hd dd ?_
  have e := (kv.val k).isSome_eq
  rw [PySem.valueAt_pairsH, Option.isSome_map] at e
  refine ⟨_, H, I.tok _, ?_, q⟩
  show Value.bool _ = Value.bool _
  rw [← e]
  rfl
theorem op_nnotin (hu : X.A.units + 64 < cLine) : OpR X (compareOp .NotIn) (rNIn X.prog X.w true) := by
  intro pins s σ H x y v u Q I rx ry h
  obtain ⟨d, kvs, k, rfl, nd, nk, ⟨b, rfl⟩, kd, q⟩ := h
  obtain rfl : u = Value.ref d := ry
  obtain ⟨hd, xs, _, _, kv, _, dd⟩ := NDict.of I.hok nd
  have hk := NKey.is I.hok nk rx
  cases (show v = Value.ref b from rx)
  refine PySem.notIn_keyed (knd := nkd X.prog X.w) (nroom hu _ _) ⟨hk, kd⟩ hd ⟨xs, dd, rfl⟩ ?_
  have e := (kv.val k).isSome_eq
  refine ⟨_, H, I.tok _, ?_, q⟩
  show Value.bool _ = Value.bool _
  rw [← e]
  rfl
theorem pe_nget (hu : X.A.units + 64 < cLine) (ho : PE X o td) (hi : PE X i ty) (hs : NoSl i) : PE X (.Subscript o i pos) (tNGet X.prog X.w td ty) := by
  refine ⟨fun pins s σ H Q I h => ?_⟩
  refine subD_of PySem.F.slot_dict_getitem.lookup hs (thn (ho.run pins s σ H _ I h) fun u s1 ⟨x, H1, I1, rx, q1⟩ => thn (hi.run pins s1 σ H1 _ I1 q1) fun iv s2 ⟨y, H2, I2, ry, d, kvs, k, b, v, ex, ey, nd, nk, kd, hv, q2⟩ => ?_)
  subst ex ey
  obtain rfl : u = Value.ref d := rx
  obtain ⟨hd, xs, _, _, kv, _, dd⟩ := NDict.of I2.hok nd
  have hk := NKey.is I2.hok nk ry
  obtain rfl : iv = Value.ref b := ry
  obtain ⟨w', hw, rw'⟩ := RelO.some_of (v := v) (o := valueAt (PySem.pairsH xs) k) (by rw [← hv]; exact kv.val k)
  refine ⟨dd.typeIs, PySem.getItem_keyed (knd := nkd X.prog X.w) (nroom hu _ _) ⟨hk, kd⟩ ⟨xs, dd, rfl⟩ hw ⟨v, H2, I2.tok _, rw', q2⟩⟩
theorem ps_nput (hu : X.A.units + 64 < cLine) (ho : PE X o td) (hi : PE X i ty) (hv : PE X value tv) (hs : swapsWith value (some (.Subscript o i pos')) pos.line X.env = pure false) :
    PS X (.Assign [.Subscript o i pos'] value pos) (sNPut X.prog X.w td ty tv) := by
  refine ⟨fun pins s σ H D I h => ?_⟩
  refine wpAny_Assign_Subscript (thn (hv.run pins s σ H _ I h) fun r s1 ⟨v, H1, I1, rv, q1⟩ => thn (ho.run pins s1 σ H1 _ I1 q1) fun u s2 ⟨x, H2, I2, rx, q2⟩ => thn (hi.run pins s2 σ H2 _ I2 q2) fun iv s3 ⟨y, H3, I3, ry, d, kvs, k, b, ex, ey, nd, nk, kd, hl, q3⟩ => ?_) hs
  subst ex ey
  obtain rfl : u = Value.ref d := rx
  obtain ⟨hd, xs, hH, hks, kv, hz, dd⟩ := NDict.of I3.hok nd
  have hk := NKey.is I3.hok nk ry
  obtain rfl : iv = Value.ref b := ry
  have hx : xs.length ≤ sizeLine := by
    have := kv.length
    rw [PySem.pairsH_length] at this
    omega
  refine wpAny_setItem_heap (knd := nkd X.prog X.w) (hsz := hx) (nroom hu _ _) ⟨hk, kd⟩ dd fun h' dd' hs' => ?_
  have he : ∃ q, h'.get? d = some q := let ⟨q, _, _, hq, _⟩ := dd'; ⟨q, hq⟩
  refine ⟨σ, _, d_write (ob := NObj X.prog X.w d (storedH xs k b r)) I3 (by rw [hH]; exact True.intro) hs' he (nobj_ok hd dd'), q3 _ ⟨_, upd_same, fun x hx' => ?_, ?_, ?_⟩⟩
  · have keep : ∀ b ys, H3 b = some (.tup ys) → upd H3 d (NObj X.prog X.w d (storedH xs k b r)) b = some (.tup ys) := fun b ys q => by
      rw [upd_ne fun z => ?_]
      · exact q
      · rw [z, hH] at q
        cases q
    have keep2 : ∀ c ys, H3 c = some (.tup ys) → upd H3 d (NObj X.prog X.w d (storedH xs k b r)) c = some (.tup ys) := fun c ys q => by
      rw [upd_ne fun z => ?_]
      · exact q
      · rw [z, hH] at q
        cases q
    rcases mem_storedH x hx' with ⟨z, hz1, e1, e2⟩ | ⟨e1, e2⟩
    · rw [e1, e2]
      exact ⟨(hks z hz1).1.mono keep2, (hks z hz1).2⟩
    · rw [e1, e2]
      exact ⟨nk.mono keep2, kd⟩
  · rw [PySem.pairsH_storedH]
    exact kv.put k rv
  · have := length_putK kvs k v
    omega
theorem mt_ngetOr (hu : X.A.units + 64 < cLine) : MtR X "dict.get" (rNGetOr X.prog X.w) := by
  intro pins s σ H x xs v us Q I rx rs h
  obtain ⟨d, kvs, k, b, z, rfl, rfl, nd, nk, kd, q⟩ := h
  obtain rfl : v = Value.ref d := rx
  cases rs with
  | cons r1 rs =>
    cases rs with
    | cons r2 rs =>
      cases rs
      obtain ⟨hd, xs, _, _, kv, _, dd⟩ := NDict.of I.hok nd
      have hk := NKey.is I.hok nk r1
      cases r1
      refine PySem.getOr_keyed (knd := nkd X.prog X.w) (nroom hu _ _) ⟨hk, kd⟩ hd ⟨xs, dd, rfl⟩ ⟨_, H, I.tok _, (kv.val k).getD r2, q⟩
theorem dn_empty {P : Program} {w : World} {H : Hp} (h : Heap) (hb : sysModules < h.objs.size) : ObjOk P w H (h.push { cls := .type "dict", data := .dict #[] }) h.objs.size (NObj P w h.objs.size []) :=
  nobj_ok (beq_eq_false_iff_ne.mpr (Ne.symm (Nat.ne_of_lt hb))) (Heap.DictOfH.new h)
theorem pe_dnewN : PE X (.Dict [] [] pos) (tDNewN X.prog X.w) := ⟨fun pins s σ H Q I h =>
  wpAny_Dict_empty ⟨.ref s.heap.objs.size, _, I.laid (a := s.heap.objs.size) (o := NObj X.prog X.w s.heap.objs.size []) (t' := s.toks) (fun _ _ q => Heap.get?_push_of_some _ q) (Nat.le_refl _) (dn_empty s.heap I.big), rfl, h _ (I.hok.fresh (Nat.le_refl _)) ⟨[], upd_same, fun x hx => (by cases hx), Paired.nil, Nat.zero_le _⟩⟩⟩
end
section
variable {P : Program} {w : World} {K : PySem.W.Frag} {σ : L2.St} {H : Hp} {ta tb te tl : TE} {D : Ends} {tz : TS} {d : Addr} {kvs : List (NK × V)} {k : NK} {v x : V}
theorem ev_nin {neg : Bool} {b : Addr} (ha : Ev ta σ H (.ref b)) (hb : Ev tb σ H (.ref d)) (nd : NDict P w H d kvs) (nk : NKey H k (.ref b)) (hd : k.depth ≤ 8) : Ev (tOp (rNIn P w neg) ta tb) σ H (.bl (if neg then !(valV kvs k).isSome else (valV kvs k).isSome)) := fun H1 e Q q =>
  ha H1 e _ fun H2 e2 => hb H2 (e.trans e2) _ fun H3 e3 => ⟨d, kvs, k, rfl, nd.ex ((e.trans e2).trans e3), nk.ex ((e.trans e2).trans e3), ⟨b, rfl⟩, hd, q H3 (e2.trans e3)⟩
theorem ev_nget {b : Addr} (hb : Ev tb σ H (.ref d)) (ha : Ev ta σ H (.ref b)) (nd : NDict P w H d kvs) (nk : NKey H k (.ref b)) (hd : k.depth ≤ 8) (hv : valV kvs k = some v) : Ev (tNGet P w tb ta) σ H v := fun H1 e Q q =>
  hb H1 e _ fun H2 e2 => ha H2 (e.trans e2) _ fun H3 e3 => ⟨d, kvs, k, b, v, rfl, rfl, nd.ex ((e.trans e2).trans e3), nk.ex ((e.trans e2).trans e3), hd, hv, q H3 (e2.trans e3)⟩
theorem s_nput {b : Addr} (hv : Ev te σ H v) (hb : Ev tb σ H (.ref d)) (ha : Ev ta σ H (.ref b)) (nd : NDict P w H d kvs) (nk : NKey H k (.ref b)) (hd : k.depth ≤ 8) (hz : kvs.length < 100000)
    (q : ∀ H1 xs, Ex H H1 → NDict P w (upd H1 d (NObj P w d xs)) d (putK kvs k v) → D.nx σ (upd H1 d (NObj P w d xs))) : sNPut P w tb ta te D σ H :=
  hv H (Ex.refl H) _ fun H1 e1 => hb H1 e1 _ fun H2 e2 => ha H2 (e1.trans e2) _ fun H3 e3 => ⟨d, kvs, k, b, rfl, rfl, nd.ex ((e1.trans e2).trans e3), nk.ex ((e1.trans e2).trans e3), hd, sz_lt hz, fun xs n => q H3 xs ((e1.trans e2).trans e3) n⟩
theorem q_nput {b : Addr} (hv : Ev te σ H v) (hb : Ev tb σ H (.ref d)) (ha : Ev ta σ H (.ref b)) (nd : NDict P w H d kvs) (nk : NKey H k (.ref b)) (hd : k.depth ≤ 8) (hz : kvs.length < 100000)
    (q : ∀ H1 xs, Ex H H1 → NDict P w (upd H1 d (NObj P w d xs)) d (putK kvs k v) → tz D σ (upd H1 d (NObj P w d xs))) : tSeq (sNPut P w tb ta te) tz D σ H := s_nput (D := { D with nx := tz D }) hv hb ha nd nk hd hz q
theorem q_dnewN {i : Nat} (q : ∀ d H1, H d = none → Ex H H1 → NDict P w H1 d [] → tz D (σ.set i (some (.ref d))) H1) : tSeq (tAsg (tDNewN P w) (gName i)) tz D σ H := fun d hd n => q d _ hd (Ex.new hd) n
end

--@SPLIT
/-! ### dict comprehensions whose keys are nested tuples -/
section
variable {X : Cx}
theorem d_setN {pins : List (Addr × Obj)} {σ : L2.St} {H : Hp} {s : Shared} {E : Value → Shared → Prop} {d b : Addr} {kvs : List (NK × V)} {k : NK} {v : V} {u r : Value} {Q : Unit → Shared → Prop} (I : Inv X pins σ H s) (hu : X.A.units + 64 < cLine) (nd : NDict X.prog X.w H d kvs) (nk : NKey H k (.ref b)) (kd : k.depth ≤ 8) (hl : kvs.length < sizeLine)
    (ry : RelV (.ref b) u) (rv : RelV v r) (h : ∀ xs s', Inv X pins σ (upd H d (NObj X.prog X.w d xs)) s' → NDict X.prog X.w (upd H d (NObj X.prog X.w d xs)) d (putK kvs k v) → Q () s') : wpAny (model X.prog X.w) X.A (dictSet d u r) Q E s := by
  obtain ⟨hd, xs, hH, hks, kv, hz, dd⟩ := NDict.of I.hok nd
  have hk := NKey.is I.hok nk ry
  obtain rfl : u = Value.ref b := ry
  have hx : xs.length ≤ sizeLine := by
    have := kv.length
    rw [PySem.pairsH_length] at this
    omega
  have hroom : (nkd X.prog X.w).room X.A := by
    show X.A.units + 8 < cLine
    omega
  refine wpAny_dictSet_heap (knd := nkd X.prog X.w) (hsz := hx) hroom ⟨hk, kd⟩ dd fun h' dd' hs' => ?_
  have he : ∃ q, h'.get? d = some q := let ⟨q, _, _, hq, _⟩ := dd'; ⟨q, hq⟩
  have keep : ∀ b ys, H b = some (.tup ys) → upd H d (NObj X.prog X.w d (storedH xs k b r)) b = some (.tup ys) := fun b ys q => by
    rw [upd_ne fun z => ?_]
    · exact q
    · rw [z, hH] at q
      cases q
  refine h _ _ (d_write (ob := NObj X.prog X.w d (storedH xs k b r)) I (by rw [hH]; exact True.intro) hs' he (nobj_ok hd dd')) ⟨_, upd_same, fun x hx' => ?_, ?_, ?_⟩
  · have keep2 : ∀ c ys, H c = some (.tup ys) → upd H d (NObj X.prog X.w d (storedH xs k b r)) c = some (.tup ys) := fun c ys q => by
      rw [upd_ne fun z => ?_]
      · exact q
      · rw [z, hH] at q
        cases q
    rcases mem_storedH x hx' with ⟨z, hz1, e1, e2⟩ | ⟨e1, e2⟩
    · rw [e1, e2]
      exact ⟨(hks z hz1).1.mono keep2, (hks z hz1).2⟩
    · rw [e1, e2]
      exact ⟨nk.mono keep2, kd⟩
  · rw [PySem.pairsH_storedH]
    exact kv.put k rv
  · have := length_putK kvs k v
    omega
/-- what a turn of the comprehension asks: the key a nested tuple, the dict at D -/
def DcTurn (P : Program) (w : World) (D : Addr) (tk tv : TE) (Nx : Hp → Prop) : L2.St → Hp → Prop := fun σ H => tk σ H fun y H4 => tv σ H4 fun z H5 => ∃ kvs k b, y = .ref b ∧ NDict P w H5 D kvs ∧ NKey H5 k (.ref b) ∧ k.depth ≤ 8 ∧ kvs.length < sizeLine ∧ ∀ xs, NDict P w (upd H5 D (NObj P w D xs)) D (putK kvs k z) → Nx (upd H5 D (NObj P w D xs))
def tDcN (P : Program) (w : World) (wi : TI) (g : TG) (tt : TT) (tk tv : TE) (vs : List Nat) : TE := fun σ H Q => wi σ H fun J H1 => ∀ D, H1 D = none → ∃ W : Nat → Nat → Hp → Prop, (∃ m, ∀ x, (x = NObj P w D [] → W 0 m (upd H1 D x))) ∧ ∀ i m H, W i m H →
  (J.stop i H ∧ Q (.ref D) H) ∨ (J.go i H ∧ ∃ Nx : Hp → Prop, (∀ H', Nx H' → ∃ m', m' < m ∧ W (i + 1) m' H') ∧ ∀ x H', J.yld i H x H' → g x (wipe σ vs) H' fun σ2 H2 => wipe σ2 vs = wipe σ vs ∧ tt σ2 H2 fun b H3 =>
    if b = true then DcTurn P w D tk tv Nx σ2 H3 else Nx H3)
theorem pe_dcN {kx vx tg iter : Expr} {ifs : List Expr} {scope : Scope} {own : List (Str × Nat)} {pos : Pos} {wi : TI} {g : TG} {tt : TT} {tk tv : TE} (hu : X.A.units + 64 < cLine) (hc : X.calm = true) (hN : X.N.Nodup) (hi : PI X tg iter wi) (ok : BlkOk X.N X.env.scope scope own)
    (hg : ∀ (s : Shared) (H : Hp) (C : Addr) (cl : List (Str × Addr)) (fp : List Addr), PG (X.blk s H scope (compEnvC scope cl C X.env) fp) tg g) (ht : ∀ (s : Shared) (H : Hp) (C : Addr) (cl : List (Str × Addr)) (fp : List Addr), PTs (X.blk s H scope (compEnvC scope cl C X.env) fp) ifs tt)
    (hk : ∀ (s : Shared) (H : Hp) (C : Addr) (cl : List (Str × Addr)) (fp : List Addr), PE (X.blk s H scope (compEnvC scope cl C X.env) fp) kx tk)
    (hv : ∀ (s : Shared) (H : Hp) (C : Addr) (cl : List (Str × Addr)) (fp : List Addr), PE (X.blk s H scope (compEnvC scope cl C X.env) fp) vx tv) (hs : ∀ x, foldedSetIterable iter X.env x = pure x := by intro _; rfl) :
    PE X (.DictComp kx vx [⟨tg, iter, ifs, 0⟩] scope pos) (tDcN X.prog X.w wi g tt tk tv (own.map (·.2))) := by
  refine ⟨fun pins s σ H Q I h => ?_⟩
  rw [arm_eval_DictComp]
  have cells : ∀ y ∈ scope.names, y.2 = .free → ∃ c, X.env.cells.lookup y.1 = some c := fun y hy e => (ok.free y hy e).elim (fun k => I.ok.has _ (.inl k)) fun k => I.ok.has _ (.inr k)
  refine wpAny_comprehension_free rfl hs (closure_ok cells) ok.kind (fun y hy e => by rw [ok.uniq y hy, e]) (thn (hi.run pins s σ H _ I h) fun xv s1 hx => thn hx fun itv s2 h2 => ?_)
  obtain ⟨it, fp, tn, J, H2, rfl, I2, T, at2, free2, todo⟩ := h2
  refine wpAny_newObj_type (newEnv_comp ?_)
  generalize hD : s2.heap.objs.size = D
  obtain ⟨W, ⟨m0, w0⟩, turn⟩ := todo D (I2.hok.fresh (Nat.le_of_eq hD))
  have w1 := w0 _ rfl
  have I3 : Inv X pins σ (upd H2 D (NObj X.prog X.w D [])) { s2 with heap := s2.heap.push { cls := .type "dict", data := .dict #[] } } := by
    refine I2.laid (t' := s2.toks) (fun b o e => Heap.get?_push_of_some _ e) (Nat.le_of_eq hD) ?_
    rw [← hD]
    exact dn_empty s2.heap I2.big
  generalize hH3 : upd H2 D (NObj X.prog X.w D []) = H3 at I3 w1
  have fpn : ∀ b ∈ fp, FpOk X pins H3 b ∧ b < (s2.heap.push { cls := .type "dict", data := .dict #[] }).objs.size := fun b hb => by
    obtain ⟨o, e, _⟩ := T.obj _ _ at2 b hb
    have hlt := Heap.lt_size e
    refine ⟨⟨?_, (free2 b hb).2⟩, by rw [Heap.size_push]; exact Nat.lt_succ_of_lt hlt⟩
    rw [← hH3, upd_ne (by rw [← hD]; exact Nat.ne_of_lt hlt)]
    exact (free2 b hb).1
  have at3 : tn 0 (s2.heap.push { cls := .type "dict", data := .dict #[] }) := T.keep _ _ _ at2 fun b _ o e => Heap.get?_push_of_some _ e
  have I4 := block_start I3 ok hN fpn
  generalize hs3 : ({ s2 with heap := s2.heap.push { cls := .type "dict", data := .dict #[] } } : Shared) = s3 at I3 I4
  have h3 : s3.heap = s2.heap.push { cls := .type "dict", data := .dict #[] } := by rw [← hs3]
  rw [← h3] at fpn at3
  have pg := hg s3 H3 s3.heap.objs.size (cellsFrom (s3.heap.objs.size + 1) scope.names (cloFrom X.env.cells scope.names [])) fp
  have pt := ht s3 H3 s3.heap.objs.size (cellsFrom (s3.heap.objs.size + 1) scope.names (cloFrom X.env.cells scope.names [])) fp
  have pk := hk s3 H3 s3.heap.objs.size (cellsFrom (s3.heap.objs.size + 1) scope.names (cloFrom X.env.cells scope.names [])) fp
  have pv := hv s3 H3 s3.heap.objs.size (cellsFrom (s3.heap.objs.size + 1) scope.names (cloFrom X.env.cells scope.names [])) fp
  show codeAny _ _ (.compStart (.DictComp kx vx [⟨tg, iter, ifs, 0⟩] scope pos) 0 (.ref it) (.ref D) (compEnvC scope (cellsFrom (s3.heap.objs.size + 1) scope.names (cloFrom X.env.cells scope.names [])) s3.heap.objs.size X.env)) (compPost (model X.prog X.w) X.A X.xe none (EP X pins σ Q) (.ref D) s3.heap.objs.size) { s3 with heap := pushCells (s3.heap.push { cls := .type "dict", data := .dict #[] }) scope.names }
  generalize hce : compEnvC scope (cellsFrom (s3.heap.objs.size + 1) scope.names (cloFrom X.env.cells scope.names [])) s3.heap.objs.size X.env = ce at I4 pg pt pk pv ⊢
  have hcl : ce.locals = s3.heap.objs.size := by subst hce; rfl
  generalize hs4 : ({ s3 with heap := pushCells (s3.heap.push { cls := .type "dict", data := .dict #[] }) scope.names } : Shared) = s4 at I4 ⊢
  have at4 : tn 0 s4.heap := T.keep _ _ _ at3 fun b _ o e => by rw [← hs4]; exact pushCells_keeps _ _ _ _ (Heap.get?_push_of_some _ e)
  -- what the walked thing holds stays beside the block
  have held : ∀ {σ' : L2.St} {H' : Hp} {s' : Shared}, Inv (X.blk s3 H3 scope ce fp) [] σ' H' s' → (∀ b ∈ fp, H' b = none) → ∀ b ∈ fp, FpOk (X.blk s3 H3 scope ce fp) [] H' b := fun I' hn b hb => by
    refine ⟨hn b hb, (I'.ok.exf b hb).1, I'.ok.exfs b hb, .inl hb, fun x c e => (I'.ok.exf b hb).2 x c e, fun p hp => ?_⟩
    exact absurd (show p ∈ ([] : List (Addr × Obj)) ++ [] from hp) (by simp)
  have loop : codeAny (model X.prog X.w) X.A (.compLoop (.DictComp kx vx [⟨tg, iter, ifs, 0⟩] scope pos) 0 (.ref it) (.ref D) ce) (compPost (model X.prog X.w) X.A X.xe none (EP X pins σ Q) (.ref D) s3.heap.objs.size) s4 := by
    refine compLoop_anyD (fun n s' => ∃ i H', Inv (X.blk s3 H3 scope ce fp) [] (wipe σ (own.map (·.2))) H' s' ∧ tn i s'.heap ∧ (∀ b ∈ fp, H' b = none) ∧ W i n H') (fun n s5 hW => ?_) m0 ⟨0, H3, I4, at4, fun b hb => (fpn b hb).1.1, w1⟩
    obtain ⟨i, H5, I5, at5, n5, w5⟩ := hW
    rcases turn i n H5 w5 with ⟨stop, fin⟩ | ⟨go, Nx, hNx, step⟩
    · refine thnF (T.done (X.blk s3 H3 scope ce fp) rfl rfl rfl hc i [] s5 _ H5 (fun _ _ => False) I5 (held I5 n5) at5 stop) fun r s6 ⟨hr, I6⟩ => ?_
      subst hr
      have I7 : Inv X pins σ H5 s6 := I3.call' (ch := fp) I6.os I6.base I6.hok I6.bare fun b hb => by
        obtain ⟨_, z2, _, z4, z5, z6⟩ := (fpn b hb).1
        exact ⟨z4, z2, z5, z6⟩
      have nC : H5 s3.heap.objs.size = none := by
        have z : H5 ce.locals = none := I6.free
        rwa [hcl] at z
      obtain ⟨m, hn, _⟩ := I6.loc
      have hn : s6.heap.Ns ce.locals m := hn
      rw [hcl] at hn
      obtain ⟨f0, f1, f2, f3, f4, f5⟩ := I3.fpOk (Nat.le_refl _) nC
      exact ⟨m, hn, fun h'' sb => ⟨.ref D, H5, I7.turned (t' := s6.toks) (fun b o hb e => (sb.2 b hb).trans e) f0 f1 f3 f4 f5, rfl, fin⟩⟩
    · refine thnF (T.item (X.blk s3 H3 scope ce fp) rfl rfl rfl hc i [] s5 _ H5 (fun _ _ => False) I5 (held I5 n5) at5 go) fun r s6 ⟨u, hr, h6⟩ => ?_
      subst hr
      refine thnF h6 fun _ s7 ⟨x, H7, I7, r7, y7, at7, n7⟩ => ?_
      have Ip := I7.pinned (held I7 n7) (T.obj _ _ at7)
      refine thnF (pg.run _ s7 _ H7 x u _ Ip r7 (step x H7 y7)) fun _ s8 ⟨σ8, H8, I8, hw8, q8⟩ => ?_
      refine thnF (pt.run _ s8 σ8 H8 _ I8 q8) fun b s9 ⟨H9, I9, q9⟩ => ?_
      have next : ∀ {s' : Shared} {H' : Hp}, Inv (X.blk s3 H3 scope ce fp) ([] ++ pinsAt fp s7.heap) σ8 H' s' → Nx H' → ∃ m, m < n ∧ ∃ i H', Inv (X.blk s3 H3 scope ce fp) [] (wipe σ (own.map (·.2))) H' s' ∧ tn i s'.heap ∧ (∀ b ∈ fp, H' b = none) ∧ W i m H' := fun {s' H'} I' nx => by
        obtain ⟨m', hm, w'⟩ := hNx H' nx
        have pin' : ∀ b ∈ fp, ∀ o, s7.heap.get? b = some o → s'.heap.get? b = some o ∧ H' b = none := fun b hb o e =>
          let z := I'.pin (b, o) (List.mem_append_right _ (List.mem_append_right _ (mem_pinsAt hb e)))
          ⟨z.1, z.2.1⟩
        refine ⟨m', hm, i + 1, H', (I'.unpinned (pins := [])).weak (by rw [← hw8, wipe_length]) (fun j v e => (wipe_some (by rw [hw8]; exact e)).1), T.keep _ _ _ at7 fun b hb o e => (pin' b hb o e).1, fun b hb => ?_, w'⟩
        obtain ⟨o, e, _⟩ := T.obj _ _ at7 b hb
        exact (pin' b hb o e).2
      cases b with
      | false => exact next I9 (by simpa using q9)
      | true =>
        have q9' : DcTurn X.prog X.w D tk tv Nx σ8 H9 := by simpa using q9
        refine thnF (pk.run _ s9 σ8 H9 _ I9 q9') fun z s10 ⟨yk, H10, I10, r10, q10⟩ => ?_
        refine thnF (pv.run _ s10 σ8 H10 _ I10 q10) fun z2 s11 ⟨yv, H11, I11, r11, kvs, k, b, ek, nd, nk, kd, hl, nx⟩ => ?_
        subst ek
        exact d_setN (X := X.blk s3 H3 scope ce fp) I11 hu nd nk kd hl r10 r11 fun xs s12 I12 nd' => next I12 (nx xs nd')
  exact codeAny_compStart_dict loop (T.self X.A 0 _ _ _ at4 loop)
end

--@SPLIT
def unNames : List Str := ["not", "is null", "abs"]
def binNames : List Str := ["and", "or", "equal", "less", "at most", "same", "like"]

theorem cal_no {P : Program} {w : World} {K : PySem.W.Frag} {mg : Str → Option Value} {base : Heap} {x : Str} {st : Stmt} {N ps : List Str} {k : Nat} {sp : Sp} (D : Dn K mg x st ps) (S : FnScope N ps (C8.fnScope st)) (no : ∀ vs H Q E, sp vs H Q E → False) : C8.Cal P w K mg base (k + 1) x sp [] :=
  cal_of D S (fun vs H Q E h => (no vs H Q E h).elim) fun f cdv A outer s H vs Q E hr h => (no vs H Q E h).elim
/-! ### conditions: what they are as data -/
inductive Cnd where
  | col (n : Nat)
  | cst (v : V)
  | un (nm : Str) (a : Cnd)
  | bin (nm : Str) (a b : Cnd)
def vDc : V → PyData
  | .bl b => .bool b
  | .int i => .int i
  | .str s => .str s
  | _ => .none
theorem dp_vDc {K : PySem.W.Frag} {H : Hp} {x : V} (h : Pl x) : Dp K H x (vDc x) := by
  cases h with
  | non => exact .non
  | bl b => exact .bl b
  | int i => exact .int i
  | str s => exact .str s
theorem vDc_is {K : PySem.W.Frag} {H : Hp} {v x : V} (h : Pl x) (hd : Dp K H v (vDc x)) : v = x := by cases h <;> cases hd <;> rfl
def Cnd.d : Cnd → PyData
  | .col n => .tuple [.str "column", .int (n : Int)]
  | .cst v => .tuple [.str "constant", vDc v]
  | .un nm a => .tuple [.str "unary", .str nm, a.d]
  | .bin nm a b => .tuple [.str "binary", .str nm, a.d, b.d]
def Cnd.dep : Cnd → Nat
  | .col _ => 1
  | .cst _ => 1
  | .un _ a => a.dep + 1
  | .bin _ a b => max a.dep b.dep + 1
/-- over w columns, of these names -/
inductive Cnd.ok (w : Nat) : Cnd → Prop where
  | col (n : Nat) (h : n < w) : Cnd.ok w (.col n)
  | cst (v : V) (h : DV v) : Cnd.ok w (.cst v)
  | un (nm : Str) (a : Cnd) (h : nm ∈ unNames) (ha : a.ok w) : Cnd.ok w (.un nm a)
  | bin (nm : Str) (a b : Cnd) (h : nm ∈ binNames) (ha : a.ok w) (hb : b.ok w) : Cnd.ok w (.bin nm a b)
theorem noL_vDc (v : V) : noL (vDc v) = true := by cases v <;> rfl
theorem noL_cx : ∀ e : Cnd, noL e.d = true
  | .col _ => rfl
  | .cst v => by
    show (true && (noL (vDc v) && true)) = true
    rw [noL_vDc]
    rfl
  | .un _ a => by
    show (true && (true && (noL a.d && true))) = true
    rw [noL_cx a]
    rfl
  | .bin _ a b => by
    show (true && (true && (noL a.d && (noL b.d && true)))) = true
    rw [noL_cx a, noL_cx b]
    rfl
/-! ### data that is drawn -/
mutual
theorem dp_wo {K : PySem.W.Frag} {H : Hp} {p : Addr} {ys : List V} (hp : H p = some (.lst ys)) : ∀ {v : V} {d : PyData}, noL d = true → Dp K H v d → Dp K (wo p H) v d
  | _, _, _, .non => .non
  | _, _, _, .bl b => .bl b
  | _, _, _, .int i => .int i
  | _, _, _, .str x => .str x
  | _, _, n, .lst h a => by simp [noL] at n
  | _, _, n, .tup h a => by
    refine .tup ?_ (dps_wo hp (by simpa [noL] using n) a)
    rcases h with (h | ⟨o, h⟩) | h
    · exact .inl (.inl (by rw [wo_ne (by intro z; rw [z, hp] at h; cases h)]; exact h))
    · exact .inl (.inr ⟨o, by rw [wo_ne (by intro z; rw [z, hp] at h; cases h)]; exact h⟩)
    · exact .inr h
theorem dps_wo {K : PySem.W.Frag} {H : Hp} {p : Addr} {ys : List V} (hp : H p = some (.lst ys)) : ∀ {vs : List V} {ds : List PyData}, noLs ds = true → DpAll K H vs ds → DpAll K (wo p H) vs ds
  | _, _, _, .nil => .nil
  | _, _, n, .cons h t => by
    have n' : (noL _ && noLs _) = true := n
    rw [Bool.and_eq_true] at n'
    exact .cons (dp_wo hp n'.1 h) (dps_wo hp n'.2 t)
end
theorem Dr.at {p : Addr} {H : Hp} (d : Dr p H) : ∃ xs, H p = some (.lst xs) := by
  obtain ⟨s, _, h⟩ := d
  exact ⟨_, h⟩
theorem dp_wx {K : PySem.W.Frag} {H H' : Hp} {p : Addr} {v : V} {d : PyData} (hd : Dp K H v d) (n : noL d = true) (dr : Dr p H) (e : Ex (wo p H) H') : Dp K H' v d := by
  obtain ⟨xs, hx⟩ := dr.at
  exact ex_dp e (dp_wo hx n hd)
theorem dps_wx {K : PySem.W.Frag} {H H' : Hp} {p : Addr} {vs : List V} {ds : List PyData} (hd : DpAll K H vs ds) (n : noLs ds = true) (dr : Dr p H) (e : Ex (wo p H) H') : DpAll K H' vs ds := by
  obtain ⟨xs, hx⟩ := dr.at
  exact ex_dps e (dps_wo hx n hd)
/-- an expression that is drawn -/
def EvX (K : PySem.W.Frag) (te : TE) (σ : L2.St) (p : Addr) (H : Hp) (P : PyData → Prop) : Prop := ∀ H1, Ex (wo p H) H1 → Dr p H1 → ∀ Q : VK, (∀ v H2 d, P d → noL d = true → Dp K H2 v d → Ex (wo p H1) H2 → Dr p H2 → Q v H2) → te σ H1 Q
def EvXA (K : PySem.W.Frag) (ta : TA) (σ : L2.St) (p : Addr) (H : Hp) (P : List PyData → Prop) : Prop := ∀ H1, Ex (wo p H) H1 → Dr p H1 → ∀ Q : List V → Hp → Prop, (∀ vs H2 ds, P ds → noLs ds = true → DpAll K H2 vs ds → Ex (wo p H1) H2 → Dr p H2 → Q vs H2) → ta σ H1 Q
section
variable {K : PySem.W.Frag} {σ : L2.St} {H : Hp} {p : Addr} {ta tb te : TE} {tr : TA} {P R : PyData → Prop} {PL : List PyData → Prop} {D : Ends} {tz : TS} {E : XK} {v : V} {t : TT}
theorem x_pure {d : PyData} (h : Ev te σ (wo p H) v) (hd : ∀ H, Dp K H v d) (n : noL d = true) : EvX K te σ p H (· = d) := fun H1 e dr Q q => h H1 e Q fun H2 e2 => q v H2 d rfl n (hd H2) (wx_of e2) (dr.ex e2)
theorem x_var {i : Nat} {d : PyData} (h : σ[i]? = some (some v)) (hd : Dp K H v d) (n : noL d = true) (d0 : Dr p H) : EvX K (tVar i) σ p H (· = d) := fun H1 e dr Q q => ⟨v, h, q v H1 d rfl n (dp_wx hd n d0 e) (wo_le p H1) dr⟩
theorem x_dv (h : EvD1 te σ p H DV) : EvX K te σ p H (fun d => ∃ x, DV x ∧ d = vDc x) := fun H1 e dr Q q => h H1 e dr Q fun v H2 hv e2 d2 => q v H2 (vDc v) ⟨v, hv, rfl⟩ (noL_vDc v) (dp_vDc hv.pl) e2 d2
theorem x_int {PI : Int → Prop} (h : EvD1 te σ p H (ZP PI)) : EvX K te σ p H (fun d => ∃ i, PI i ∧ d = .int i) := fun H1 e dr Q q => h H1 e dr Q fun v H2 ⟨i, ev, hi⟩ e2 d2 => by
  subst ev
  exact q _ H2 (.int i) ⟨i, hi, rfl⟩ rfl (.int i) e2 d2
theorem x_mono (h : EvX K te σ p H P) (k : ∀ d, P d → R d) : EvX K te σ p H R := fun H1 e dr Q q => h H1 e dr Q fun v H2 d hd => q v H2 d (k d hd)
theorem xa_nil : EvXA K tNil σ p H (· = []) := fun H1 _ dr _ q => q [] H1 [] rfl rfl .nil (wo_le p H1) dr
theorem xa_cons (h : EvX K te σ p H P) (hr : EvXA K tr σ p H PL) : EvXA K (tCons te tr) σ p H (fun ds => ∃ d r, ds = d :: r ∧ P d ∧ PL r) := fun H1 e dr Q q =>
  h H1 e dr _ fun v H2 d hd n hv e2 d2 => hr H2 (wx_trans e e2) d2 _ fun vs H3 r hr' n' hvs e3 d3 => q (v :: vs) H3 (d :: r) ⟨d, r, rfl, hd, hr'⟩ (by show (noL d && noLs r) = true; rw [n, n']; rfl) (.cons (dp_wx hv n d2 e3) hvs) (wx_trans e2 e3) d3
theorem x_tup (h : EvXA K tr σ p H PL) (hl : ∀ ds, PL ds → ds.length ≤ 100000) : EvX K (tTup tr) σ p H (fun d => ∃ ds, d = .tuple ds ∧ PL ds) := fun H1 e dr Q q =>
  h H1 e dr _ fun vs H2 ds hds n hvs e2 d2 => ⟨sz_of (by rw [dps_len hvs]; exact hl ds hds), fun a ha => q (.ref a) _ (.tuple ds) ⟨ds, rfl, hds⟩ n (.tup (st_of upd_same) (ex_dps (Ex.new ha) hvs)) (e2.trans (Ex.new ha)) (d2.ex (Ex.new ha))⟩
theorem qx_asg {i : Nat} (h : EvX K te σ p H P) (d : Dr p H) (k : ∀ v H1 d', P d' → noL d' = true → Dp K H1 v d' → Ex (wo p H) H1 → Dr p H1 → tz D (σ.set i (some v)) H1) : tSeq (tAsg te (gName i)) tz D σ H := h H (wo_le p H) d _ k
theorem sx_ret (h : EvX K te σ p H P) (d : Dr p H) (k : ∀ v H1 d', P d' → noL d' = true → Dp K H1 v d' → Ex (wo p H) H1 → Dr p H1 → D.rt v H1) : tRet te D σ H := h H (wo_le p H) d _ k
/-- (a, b, c)[i] -/
theorem ev_ixD {xs : List V} {i : Nat} {x : V} (ha : EvU ta σ H xs) (hb : Ev tb σ H (.int (i : Int))) (hi : xs[i]? = some x) : Ev (tOp (rIxT K) ta tb) σ H x := fun H1 e Q q =>
  ha H1 e _ fun a H2 ha2 e2 h2 => hb H2 (e.trans e2) _ fun H3 e3 => rv_ixT (st_of (e3 _ _ h2)) (atI_nat hi) H3 (Ex.refl H3) Q fun H4 e4 => q H4 ((e2.trans e3).trans e4)
end
def CondD (w n : Nat) (d : PyData) : Prop := ∃ e : Cnd, d = e.d ∧ e.ok w ∧ e.dep ≤ n
def spR__law_condition : Nat → PySem.W.Frag → Sp
  | 0, _ => fun _ _ _ _ => False
  | n + 1, K => fun vs H Q _ => ∃ (p : Addr) (w dp : Nat), vs = [.ref p, .int (w : Int), .int (dp : Int)] ∧ Dr p H ∧ 0 < w ∧ w ≤ 1000 ∧ dp ≤ n ∧ ∀ v H' d, CondD w (dp + 2) d → noL d = true → Dp K H' v d → Ex (wo p H) H' → Dr p H' → Q v H'
def sp__law_condition (K : PySem.W.Frag) : Sp := spR__law_condition 4 K

section
variable {P : Program} {w : World} {K : PySem.W.Frag} {mg : Str → Option Value} {base : Heap}
theorem x_cond {σ : L2.St} {H : Hp} {p : Addr} {ta tb tc : TE} {E : XK} {n wd dp : Nat} (ha : Ev ta σ (wo p H) (.ref p)) (hb : Ev tb σ (wo p H) (.int (wd : Int))) (hc : Ev tc σ (wo p H) (.int (dp : Int))) (h0 : 0 < wd) (h1 : wd ≤ 1000) (h2 : dp ≤ n) :
    EvX K (tCall (spR__law_condition (n + 1) K) [] E (tCons ta (tCons tb (tCons tc tNil)))) σ p H (CondD wd (dp + 2)) := fun H1 e d Q q =>
  ha H1 e _ fun H2 e2 => hb H2 (e.trans e2) _ fun H3 e3 => hc H3 ((e.trans e2).trans e3) _ fun H4 e4 => ⟨p, wd, dp, rfl, d.ex ((e2.trans e3).trans e4), h0, h1, h2, fun v H5 dd hd n hv e5 d5 => q v H5 dd hd n hv (wx_trans (wx_of ((e2.trans e3).trans e4)) e5) d5⟩
theorem ok__law_condition {rn : Nat} (D : Dn K mg "_law_condition" s__law_condition ["state", "width", "depth"]) (c__law_digit : C8.Cal P w K mg base 1 "_law_digit" (sp__law_digit K) []) (c__law_value : C8.Cal P w K mg base 3 "_law_value" (sp__law_value K) []) (c__law_condition : C8.Cal P w K mg base (4 + rn) "_law_condition" (spR__law_condition rn K) []) :
    C8.Cal P w K mg base (4 + rn + 1) "_law_condition" (spR__law_condition (rn + 1) K) [] := by
  refine cal_of D sc__law_condition (fun vs H Q E h => ?_) (fun f cdv A outer s H vs Q E hr h => ?_)
  · obtain ⟨_, _, _, rfl, _⟩ := h
    rfl
  refine ⟨_, (pss_cons (ps_set (i := 3) sc__law_condition.nd rfl (.inl rfl) (C8.pe_c c__law_digit hr (by omega) (by rfl) (pa_cons (pv 0) (pa_cons pe_int pa_nil))))
    (pss_cons (ps_if (PW.pt (pw_and (pt_cmpR op_gt (pv 2) pe_int (nomark _)) (pw_and1 (pt_cmpR op_lt (pv 3) pe_int (nomark _)))))
      (pss_cons (ps_set (i := 4) sc__law_condition.nd rfl (.inl rfl) (pe_ix ix_tup (pe_tup (pa_cons pe_str (pa_cons pe_str (pa_cons pe_str pa_nil)))) (pv 3) (fun _ _ => rfl)))
    (pss_one (ps_ret (pe_tup (pa_cons pe_str (pa_cons (pv 4) (pa_cons (C8.pe_c c__law_condition hr (Nat.le_refl _) (by rfl) (pa_cons (pv 0) (pa_cons (pv 1) (pa_cons (pe_op op_sub (pv 2) pe_int) pa_nil)))) (pa_cons (C8.pe_c c__law_condition hr (Nat.le_refl _) (by rfl) (pa_cons (pv 0) (pa_cons (pv 1) (pa_cons (pe_op op_sub (pv 2) pe_int) pa_nil)))) pa_nil))))))))
      pss_nil)
    (pss_cons (ps_if (PW.pt (pw_and (pt_cmpR op_gt (pv 2) pe_int (nomark _)) (pw_and1 (pt_cmpR op_eq (pv 3) pe_int (nomark _)))))
      (pss_one (ps_ret (pe_tup (pa_cons pe_str (pa_cons pe_str (pa_cons (C8.pe_c c__law_condition hr (Nat.le_refl _) (by rfl) (pa_cons (pv 0) (pa_cons (pv 1) (pa_cons (pe_op op_sub (pv 2) pe_int) pa_nil)))) pa_nil))))))
      pss_nil)
    (pss_cons (ps_set (i := 5) sc__law_condition.nd rfl (.inl rfl) (pe_tup (pa_cons pe_str (pa_cons (C8.pe_c c__law_digit hr (by omega) (by rfl) (pa_cons (pv 0) (pa_cons (pv 1) pa_nil))) pa_nil))))
    (pss_cons (ps_if (pt_cmpR op_eq (pv 3) pe_int (nomark _))
      (pss_one (ps_ret (pe_tup (pa_cons pe_str (pa_cons pe_str (pa_cons (pv 5) pa_nil))))))
      pss_nil)
    (pss_cons (ps_if (pt_cmpR op_eq (pv 3) pe_int (nomark _))
      (pss_one (ps_ret (pe_tup (pa_cons pe_str (pa_cons pe_str (pa_cons (pv 5) (pa_cons (pe_tup (pa_cons pe_str (pa_cons (C8.pe_c c__law_digit hr (by omega) (by rfl) (pa_cons (pv 0) (pa_cons (pv 1) pa_nil))) pa_nil))) pa_nil)))))))
      pss_nil)
    (pss_cons (ps_set (i := 4) sc__law_condition.nd rfl (.inl rfl) (pe_ifExp (pt_cmpR op_gt (pv 3) pe_int (nomark _)) (pe_ix ix_tup (pe_tup (pa_cons pe_str (pa_cons pe_str (pa_cons pe_str (pa_cons pe_str pa_nil))))) (pe_op op_sub (pv 3) pe_int) (fun _ _ => rfl)) pe_str))
    (pss_cons (ps_set (i := 6) sc__law_condition.nd rfl (.inl rfl) (pe_tup (pa_cons pe_str (pa_cons (C8.pe_c c__law_value hr (by omega) (by rfl) (pa_cons (pv 0) pa_nil)) pa_nil))))
    (pss_cons (ps_if (pt_cmpR op_eq (C8.pe_c c__law_digit hr (by omega) (by rfl) (pa_cons (pv 0) (pa_cons pe_int pa_nil))) pe_int (nomark _))
      (pss_one (ps_ret (pe_tup (pa_cons pe_str (pa_cons (pv 4) (pa_cons (pv 6) (pa_cons (pv 5) pa_nil)))))))
      pss_nil)
    (pss_one (ps_ret (pe_tup (pa_cons pe_str (pa_cons (pv 4) (pa_cons (pv 5) (pa_cons (pv 6) pa_nil)))))))))))))))), ?_⟩
  obtain ⟨p, wd, dp, rfl, dr, w0, w1, hdp, q⟩ := h
  refine qz_asg (ez_digit (ev_var rfl) ev_c (by decide) (by decide)) dr fun kd H1 hk e1 d1 => ?_
  obtain ⟨kn, rfl⟩ := Int.eq_ofNat_of_zero_le hk.1
  have hk10 : kn < 10 := by omega
  refine q_when (b := decide ((dp : Int) > 0) && decide ((kn : Int) < 3)) (et_and (et_test (ev_op (ev_var rfl) ev_c rv_I0)) fun _ => et_test (ev_op (ev_var rfl) ev_c rv_I0)) (fun hb H2 e2 => ?_) fun hb H2 e2 => ?_
  · rw [Bool.and_eq_true, decide_eq_true_eq, decide_eq_true_eq] at hb
    have hk3 : kn < 3 := by omega
    have hdp0 : 0 < dp := by omega
    generalize hnm : (["and", "or", "and"] : List Str).getD kn "" = nm
    have hnm2 : nm ∈ binNames ∧ ([V.str "and", .str "or", .str "and"] : List V)[kn]? = some (.str nm) := by
      rcases (show kn = 0 ∨ kn = 1 ∨ kn = 2 by omega) with z | z | z <;> subst z <;> (rw [← hnm]; exact ⟨by decide +kernel, rfl⟩)
    refine q_asg (v := .str nm) (ev_ixD (i := kn) (eu_tup (ea_cons ev_c (ea_cons ev_c (ea_cons ev_c ea_nil))) (by show 3 ≤ 100000; decide)) (ev_var rfl) hnm2.2) fun H3 e3 => ?_
    have d3 := d1.ex (e2.trans e3)
    cases rn with
    | zero => omega
    | succ m =>
    have hdv : ∀ {H0 : Hp}, Ev (tOp (rI0 fun i j => .int (i - j)) (tVar 2) (tC (.int 1))) [some (.ref p), some (.int (wd : Int)), some (.int (dp : Int)), some (.int (kn : Int)), some (.str nm), none, none] H0 (.int ((dp - 1 : Nat) : Int)) := ev_is (ev_op (ev_var rfl) ev_c rv_I0) (by rw [show (dp : Int) - 1 = ((dp - 1 : Nat) : Int) by omega])
    refine sx_ret (K := K) (x_tup (xa_cons (x_pure ev_c (fun _ => .str _) rfl) (xa_cons (x_pure (ev_var rfl) (fun _ => .str _) rfl) (xa_cons (x_cond (n := m) (ev_var rfl) (ev_var rfl) hdv w0 w1 (by omega)) (xa_cons (x_cond (n := m) (ev_var rfl) (ev_var rfl) hdv w0 w1 (by omega)) xa_nil)))) (fun ds h => ?_)) d3 fun v H4 d' hd n hv e4 d4 => ?_
    · obtain ⟨d1, r1, rfl, _, d2, r2, rfl, _, d3, r3, rfl, _, d4, r4, rfl, _, rfl⟩ := h
      show 4 ≤ 100000
      decide
    · refine q v H4 d' ?_ n hv (wx_trans e1 (wx_trans (wx_of (e2.trans e3)) e4)) d4
      obtain ⟨ds, rfl, d1, r1, rfl, rfl, d2, r2, rfl, rfl, d3, r3, rfl, ⟨a, rfl, oa, da⟩, d4, r4, rfl, ⟨b, rfl, ob, db⟩, rfl⟩ := hd
      exact ⟨.bin nm a b, rfl, .bin nm a b hnm2.1 oa ob, by show max a.dep b.dep + 1 ≤ _; omega⟩
  refine q_when (b := decide ((dp : Int) > 0) && decide (V.int (kn : Int) = V.int 3)) (et_and (et_test (ev_op (ev_var rfl) ev_c rv_I0)) fun _ => et_test (ev_op (ev_var rfl) ev_c (rv_eq rfl))) (fun hb H3 e3 => ?_) fun hb H3 e3 => ?_
  · rw [Bool.and_eq_true, decide_eq_true_eq, decide_eq_true_eq] at hb
    have d3 := d1.ex (e2.trans e3)
    cases rn with
    | zero => omega
    | succ m =>
    refine sx_ret (K := K) (x_tup (xa_cons (x_pure ev_c (fun _ => .str _) rfl) (xa_cons (x_pure ev_c (fun _ => .str _) rfl) (xa_cons (x_cond (n := m) (dp := dp - 1) (ev_var rfl) (ev_var rfl) (ev_is (ev_op (ev_var rfl) ev_c rv_I0) (by rw [show (dp : Int) - 1 = ((dp - 1 : Nat) : Int) by omega])) w0 w1 (by omega)) xa_nil))) (fun ds h => ?_)) d3 fun v H4 d' hd n hv e4 d4 => ?_
    · obtain ⟨d1, r1, rfl, _, d2, r2, rfl, _, d3, r3, rfl, _, rfl⟩ := h
      show 3 ≤ 100000
      decide
    · refine q v H4 d' ?_ n hv (wx_trans e1 (wx_trans (wx_of (e2.trans e3)) e4)) d4
      obtain ⟨ds, rfl, d1, r1, rfl, rfl, d2, r2, rfl, rfl, d3, r3, rfl, ⟨a, rfl, oa, da⟩, rfl⟩ := hd
      exact ⟨.un "not" a, rfl, .un "not" a (by decide +kernel) oa, by show a.dep + 1 ≤ _; omega⟩
  have x3 := e2.trans e3
  have d3 := d1.ex x3
  have w3 : ∀ {H' : Hp}, Ex (wo p H3) H' → Ex (wo p H) H' := fun e => wx_trans e1 (wx_trans (wx_of x3) e)
  have two : ∀ {a b : PyData → Prop} (ds : List PyData), (∃ d r, ds = d :: r ∧ a d ∧ ∃ d' r', r = d' :: r' ∧ b d' ∧ r' = []) → ds.length ≤ 100000 := fun ds h => by
    obtain ⟨d1, r1, rfl, _, d2, r2, rfl, _, rfl⟩ := h
    show 2 ≤ 100000
    decide
  have three : ∀ {a b c : PyData → Prop} (ds : List PyData), (∃ d r, ds = d :: r ∧ a d ∧ ∃ d' r', r = d' :: r' ∧ b d' ∧ ∃ d2 r2, r' = d2 :: r2 ∧ c d2 ∧ r2 = []) → ds.length ≤ 100000 := fun ds h => by
    obtain ⟨d1, r1, rfl, _, d2, r2, rfl, _, d3, r3, rfl, _, rfl⟩ := h
    show 3 ≤ 100000
    decide
  have four : ∀ {a b c e : PyData → Prop} (ds : List PyData), (∃ d r, ds = d :: r ∧ a d ∧ ∃ d' r', r = d' :: r' ∧ b d' ∧ ∃ d2 r2, r' = d2 :: r2 ∧ c d2 ∧ ∃ d3 r3, r2 = d3 :: r3 ∧ e d3 ∧ r3 = []) → ds.length ≤ 100000 := fun ds h => by
    obtain ⟨d1, r1, rfl, _, d2, r2, rfl, _, d3, r3, rfl, _, d4, r4, rfl, _, rfl⟩ := h
    show 4 ≤ 100000
    decide
  refine qx_asg (K := K) (x_tup (xa_cons (x_pure ev_c (fun _ => .str _) rfl) (xa_cons (x_int (ez_digit (ev_var rfl) (ev_var rfl) (by omega) (by omega))) xa_nil)) two) d3 fun vc H4 dc hdc nc hvc e4 d4 => ?_
  obtain ⟨ds, rfl, _, _, rfl, rfl, _, _, rfl, ⟨ci, hci, rfl⟩, rfl⟩ := hdc
  obtain ⟨cn, rfl⟩ := Int.eq_ofNat_of_zero_le hci.1
  have hcn : cn < wd := by omega
  refine q_when (b := decide (V.int (kn : Int) = V.int 4)) (by walk_at "et") (fun _ H5 e5 => ?_) fun _ H5 e5 => ?_
  · refine sx_ret (K := K) (x_tup (xa_cons (x_pure ev_c (fun _ => .str _) rfl) (xa_cons (x_pure ev_c (fun _ => .str _) rfl) (xa_cons (x_var rfl (ex_dp e5 hvc) nc (d4.ex e5)) xa_nil))) three) (d4.ex e5) fun v H6 d' hd n hv e6 d6 => ?_
    refine q v H6 d' ?_ n hv (w3 (wx_trans e4 (wx_trans (wx_of e5) e6))) d6
    obtain ⟨ds, rfl, _, _, rfl, rfl, _, _, rfl, rfl, _, _, rfl, rfl, rfl⟩ := hd
    exact ⟨.un "is null" (.col cn), rfl, .un "is null" _ (by decide +kernel) (.col cn hcn), by show 1 + 1 ≤ _; omega⟩
  refine q_when (b := decide (V.int (kn : Int) = V.int 5)) (by walk_at "et") (fun _ H6 e6 => ?_) fun _ H6 e6 => ?_
  · have d6 := d4.ex (e5.trans e6)
    refine sx_ret (K := K) (x_tup (xa_cons (x_pure ev_c (fun _ => .str _) rfl) (xa_cons (x_pure ev_c (fun _ => .str _) rfl) (xa_cons (x_var rfl (ex_dp (e5.trans e6) hvc) nc d6) (xa_cons (x_tup (xa_cons (x_pure ev_c (fun _ => .str _) rfl) (xa_cons (x_int (ez_digit (ev_var rfl) (ev_var rfl) (by omega) (by omega))) xa_nil)) two) xa_nil)))) four) d6 fun v H7 d' hd n hv e7 d7 => ?_
    refine q v H7 d' ?_ n hv (w3 (wx_trans e4 (wx_trans (wx_of (e5.trans e6)) e7))) d7
    obtain ⟨ds, rfl, _, _, rfl, rfl, _, _, rfl, rfl, _, _, rfl, rfl, _, _, rfl, ⟨ds2, rfl, _, _, rfl, rfl, _, _, rfl, ⟨cj, hcj, rfl⟩, rfl⟩, rfl⟩ := hd
    obtain ⟨cm, rfl⟩ := Int.eq_ofNat_of_zero_le hcj.1
    exact ⟨.bin "equal" (.col cn) (.col cm), rfl, .bin "equal" _ _ (by decide +kernel) (.col cn hcn) (.col cm (by omega)), by show max 1 1 + 1 ≤ _; omega⟩
  have x6 := e5.trans e6
  have d6 := d4.ex x6
  have hnm : ∃ nm : Str, nm ∈ binNames ∧ ((kn ≤ 5 ∧ nm = "equal") ∨ (5 < kn ∧ ([V.str "equal", .str "less", .str "at most", .str "less"] : List V)[kn - 6]? = some (.str nm))) := by
    by_cases h : kn ≤ 5
    · exact ⟨"equal", by decide +kernel, .inl ⟨h, rfl⟩⟩
    · rcases (show kn = 6 ∨ kn = 7 ∨ kn = 8 ∨ kn = 9 by omega) with z | z | z | z <;> subst z
      · exact ⟨"equal", by decide +kernel, .inr ⟨by omega, rfl⟩⟩
      · exact ⟨"less", by decide +kernel, .inr ⟨by omega, rfl⟩⟩
      · exact ⟨"at most", by decide +kernel, .inr ⟨by omega, rfl⟩⟩
      · exact ⟨"less", by decide +kernel, .inr ⟨by omega, rfl⟩⟩
  obtain ⟨nm, hnb, hcase⟩ := hnm
  refine q_asg (v := .str nm) (ev_if (b := decide ((kn : Int) > 5)) (et_test (ev_op (ev_var rfl) ev_c rv_I0)) (fun hb => ?_) fun hb => ?_) fun H7 e7 => ?_
  · have hb2 := of_decide_eq_true hb
    rcases hcase with ⟨h, _⟩ | ⟨h, hix⟩
    · omega
    · exact ev_ixD (i := kn - 6) (eu_tup (ea_cons ev_c (ea_cons ev_c (ea_cons ev_c (ea_cons ev_c ea_nil)))) (by show 4 ≤ 100000; decide)) (ev_is (ev_op (ev_var rfl) ev_c rv_I0) (by rw [show (kn : Int) - 6 = ((kn - 6 : Nat) : Int) by omega])) hix
  · have hb2 := of_decide_eq_false hb
    rcases hcase with ⟨_, rfl⟩ | ⟨h, _⟩
    · exact ev_c
    · omega
  refine qx_asg (K := K) (x_tup (xa_cons (x_pure ev_c (fun _ => .str _) rfl) (xa_cons (x_dv (e1_value (ev_var rfl))) xa_nil)) two) (d6.ex e7) fun vv H8 dv hdv nv hvv e8 d8 => ?_
  obtain ⟨ds, rfl, _, _, rfl, rfl, _, _, rfl, ⟨x, hx, rfl⟩, rfl⟩ := hdv
  have hvc8 := dp_wx (ex_dp (x6.trans e7) hvc) nc (d6.ex e7) e8
  have w8 : ∀ {H' : Hp}, Ex (wo p H8) H' → Ex (wo p H) H' := fun e => w3 (wx_trans e4 (wx_trans (wx_of (x6.trans e7)) (wx_trans e8 e)))
  refine q1_when (edt_test (ez_eq (ez_digit (ev_var rfl) ev_c (by decide) (by decide)) (e1_int (PI := fun j => j = 0) ev_c rfl))) d8 (fun H9 e9 d9 => ?_) fun H9 e9 d9 => ?_
  all_goals
    have hc9 := dp_wx hvc8 nc d8 e9
    have hv9 := dp_wx hvv nv d8 e9
  · refine sx_ret (K := K) (x_tup (xa_cons (x_pure ev_c (fun _ => .str _) rfl) (xa_cons (x_pure (ev_var rfl) (fun _ => .str _) rfl) (xa_cons (x_var rfl hv9 nv d9) (xa_cons (x_var rfl hc9 nc d9) xa_nil)))) four) d9 fun v Ha d' hd n hv ea da => ?_
    refine q v Ha d' ?_ n hv (w8 (wx_trans e9 ea)) da
    obtain ⟨ds, rfl, _, _, rfl, rfl, _, _, rfl, rfl, _, _, rfl, rfl, _, _, rfl, rfl, rfl⟩ := hd
    exact ⟨.bin nm (.cst x) (.col cn), rfl, .bin nm _ _ hnb (.cst x hx) (.col cn hcn), by show max 1 1 + 1 ≤ _; omega⟩
  · refine sx_ret (K := K) (x_tup (xa_cons (x_pure ev_c (fun _ => .str _) rfl) (xa_cons (x_pure (ev_var rfl) (fun _ => .str _) rfl) (xa_cons (x_var rfl hc9 nc d9) (xa_cons (x_var rfl hv9 nv d9) xa_nil)))) four) d9 fun v Ha d' hd n hv ea da => ?_
    refine q v Ha d' ?_ n hv (w8 (wx_trans e9 ea)) da
    obtain ⟨ds, rfl, _, _, rfl, rfl, _, _, rfl, rfl, _, _, rfl, rfl, _, _, rfl, rfl, rfl⟩ := hd
    exact ⟨.bin nm (.col cn) (.cst x), rfl, .bin nm _ _ hnb (.col cn hcn) (.cst x hx), by show max 1 1 + 1 ≤ _; omega⟩
end

--@SPLIT
/-! ### rows: lists of lists -/
theorem call_list_ofK {X : L2.Cx} {K : PySem.W.Frag} (h : X.K = K) : CallR X (.type "list") (rListS K) := h ▸ call_list_of
theorem sl_listK {X : L2.Cx} {K : PySem.W.Frag} (h : X.K = K) : SlR X (rSlL K) := h ▸ sl_list
theorem pi_listK {X : L2.Cx} {K : PySem.W.Frag} {tg e : Expr} {te : TE} (h : X.K = K) (he : PE X e te) : PI X tg e (iList K te) := h ▸ pi_list he
theorem pi_tupK {X : L2.Cx} {K : PySem.W.Frag} {tg e : Expr} {te : TE} (h : X.K = K) (he : PE X e te) : PI X tg e (iTup K te) := h ▸ pi_tup he
def RowAt (H : Hp) (p : Addr) (xs : List V) : Prop := H p = some (.lst xs)
def Mn {α : Type} (R : Hp → Addr → α → Prop) : Prop := ∀ H H' q l, Ex H H' → R H q l → R H' q l
theorem RowAt.mn : Mn RowAt := fun H H' q l e h => e _ _ h
theorem Lst2.mn {α : Type} {R : Hp → Addr → α → Prop} (hm : Mn R) : Mn (Lst2 R) := fun H H' q l e h => h.mono e fun q l h => hm _ _ _ _ e h
/-- what is new since H0 -/
def nu (H0 H : Hp) : Hp := fun a => match H0 a with
  | none => H a
  | some _ => none
theorem nu_le {H0 H : Hp} : Ex (nu H0 H) H := fun a o h => by
  unfold nu at h
  split at h
  · exact h
  · cases h
theorem nu_mono {H0 H1 H2 : Hp} (e : Ex H1 H2) : Ex (nu H0 H1) (nu H0 H2) := fun a o h => by
  unfold nu at h ⊢
  cases z : H0 a with
  | none => rw [z] at h; exact e a o h
  | some u => rw [z] at h; cases h
theorem nu_back {H0 H1 H : Hp} (e : Ex H0 H1) : Ex (nu H1 H) (nu H0 H) := fun a o h => by
  unfold nu at h ⊢
  cases z : H1 a with
  | none => rw [z] at h; rw [fresh_back e z]; exact h
  | some u => rw [z] at h; cases h
theorem nu_at {H0 H : Hp} {p : Addr} {o : HO} (h0 : H0 p = none) (h : H p = some o) : nu H0 H p = some o := by
  unfold nu
  rw [h0]
  exact h
theorem nu_wo {H0 H : Hp} {D : Addr} {o : HO} (h : H0 D = some o) : Ex (nu H0 H) (wo D H) := fun a u ha => by
  have hn : a ≠ D := fun z => by
    unfold nu at ha
    rw [z, h] at ha
    cases ha
  rw [wo_ne hn]
  exact nu_le a u ha
theorem nu_wo2 {H0 H1 H : Hp} {D : Addr} {o : HO} (h : H1 D = some o) (e : Ex H0 H1) : Ex (nu H1 H) (wo D (nu H0 H)) := fun a u ha => by
  have hn : a ≠ D := fun z => by
    unfold nu at ha
    rw [z, h] at ha
    cases ha
  rw [wo_ne hn]
  exact nu_back e a u ha
theorem nu_upd {H0 H : Hp} {p : Addr} {o u : HO} (h : H0 p = some u) : nu H0 (upd H p o) = nu H0 H := by
  funext a
  unfold nu
  cases z : H0 a with
  | none => exact upd_ne (fun e => by rw [e, h] at z; cases z)
  | some v => rfl
theorem wo_nu_upd {H0 H : Hp} {D : Addr} {o : HO} : wo D (nu H0 (upd H D o)) = wo D (nu H0 H) := by
  funext a
  by_cases h : a = D
  · rw [h, wo_self, wo_self]
  · rw [wo_ne h, wo_ne h]
    unfold nu
    rw [upd_ne h]
def EvRn (R : Hp → Addr → Prop) (te : TE) (σ : L2.St) (H : Hp) : Prop := ∀ H1, Ex H H1 → ∀ Q : VK, (∀ p H2, H1 p = none → Ex H1 H2 → R (nu H1 H2) p → Q (.ref p) H2) → te σ H1 Q
def EvRo (R : Hp → Addr → Prop) (te : TE) (σ : L2.St) (H : Hp) : Prop := ∀ H1, Ex H H1 → ∀ Q : VK, (∀ p H2, H1 p = none → Ex H1 H2 → R H2 p → Q (.ref p) H2) → te σ H1 Q
/-- a new list, the items' words stand beside it -/
def Lst3 {α : Type} (R : Hp → Addr → α → Prop) (H : Hp) (p : Addr) (L : List α) : Prop := ∃ qs, H p = some (.lst (qs.map V.ref)) ∧ Al2 R (wo p H) qs L
theorem Lst3.two {α : Type} {R : Hp → Addr → α → Prop} (hm : Mn R) {H : Hp} {p : Addr} {L : List α} (h : Lst3 R H p L) : Lst2 R H p L := by
  obtain ⟨qs, h1, h2⟩ := h
  exact ⟨qs, h1, h2.mono fun q l _ => hm _ _ _ _ (wo_le _ _)⟩
section
variable {K : PySem.W.Frag} {σ : L2.St} {H : Hp} {ta tb te tl : TE} {α : Type} {R : Hp → Addr → α → Prop} {D : Ends} {tz : TS}
theorem EvRn.o {R : Hp → Addr → Prop} (hm : ∀ H H' q, Ex H H' → R H q → R H' q) (h : EvRn R te σ H) : EvRo R te σ H := fun H1 e Q q => h H1 e Q fun p H2 hp e2 hR => q p H2 hp e2 (hm _ _ _ nu_le hR)
theorem q_asgR {i : Nat} {R : Hp → Addr → Prop} (h : EvRn R te σ H) (k : ∀ p H1, H p = none → Ex H H1 → R (nu H H1) p → tz D (σ.set i (some (.ref p))) H1) : tSeq (tAsg te (gName i)) tz D σ H := h H (Ex.refl H) _ k
theorem q_asgO {i : Nat} {R : Hp → Addr → Prop} (h : EvRo R te σ H) (k : ∀ p H1, H p = none → Ex H H1 → R H1 p → tz D (σ.set i (some (.ref p))) H1) : tSeq (tAsg te (gName i)) tz D σ H := h H (Ex.refl H) _ k
theorem s_retR {R : Hp → Addr → Prop} (h : EvRn R te σ H) (k : ∀ p H1, H p = none → Ex H H1 → R (nu H H1) p → D.rt (.ref p) H1) : tRet te D σ H := h H (Ex.refl H) _ k
theorem s_retO {R : Hp → Addr → Prop} (h : EvRo R te σ H) (k : ∀ p H1, H p = none → Ex H H1 → R H1 p → D.rt (.ref p) H1) : tRet te D σ H := h H (Ex.refl H) _ k
theorem rn_list {p : Addr} {xs : List V} (ha : Ev ta σ H (.ref p)) (h : SqL K H p xs) : EvRn (fun H p => RowAt H p xs) (tCB (rListS K) (tCons ta tNil)) σ H := fun H1 e Q q => el_list ha h H1 e Q fun p H2 hp e2 h2 => q p H2 hp e2 (nu_at hp h2)
/-- [a new object for x in xs] -/
theorem er_lcD (hm : Mn R) {a : Addr} {xs : List V} {j : Nat} {vs : List Nat} (f : Nat → α) (h : Ev tl σ H (.ref a)) (hx : SqL K H a xs) (hz : xs.length ≤ 40000) (hw : ∀ x, wipe ((wipe σ vs).set j (some x)) vs = wipe σ vs)
    (he : ∀ (i : Nat) (x : V) (H1 : Hp) (D : Addr), Ex H H1 → H D = none → (∃ ys, H1 D = some (.lst ys)) → xs[i]? = some x → ∀ Q : VK, (∀ p H2, H1 p = none → Ex H1 H2 → R (wo D H2) p (f i) → Q (.ref p) H2) → te ((wipe σ vs).set j (some x)) H1 Q) :
    EvRo (fun H p => Lst3 R H p ((List.range xs.length).map f)) (tLc (iList K tl) (gName j) tYes te vs) σ H := fun H0 e0 Q q => h H0 e0 _ fun H1 e1 => ⟨a, rfl, ⟨xs, ex_l (e0.trans e1) hx⟩, fun D hD =>
  lc_list (xs := xs) (fun i H' => H1 D = none ∧ Ex H1 H' ∧ ∃ qs, H' D = some (.lst (qs.map V.ref)) ∧ Al2 R (wo D H') qs ((List.range i).map f)) ⟨hD, Ex.new hD, [], upd_same, Al2.nil⟩ (fun i H' _ p => ex_l ((e0.trans e1).trans p.2.1) hx)
    (fun i x H' hi p => by
      obtain ⟨p1, p2, qs, p3, p4⟩ := p
      refine ⟨hw x, ?_⟩
      show te ((wipe σ vs).set j (some x)) H' fun y H4 => ∃ acc, H4 D = some (.lst acc) ∧ acc.length < sizeLine ∧ _
      refine he i x H' D ((e0.trans e1).trans p2) (fresh_back (e0.trans e1) hD) ⟨_, p3⟩ hi _ fun r H4 hr e4 hR => ⟨_, e4 _ _ p3, sz_lt ?_, p1, Ex.mut (p2.trans e4) p1, qs ++ [r], by rw [upd_same, List.map_append]; rfl, ?_⟩
      · have := p4.1
        rw [List.length_map, List.length_range] at this
        have := (List.getElem?_eq_some_iff.mp hi).1
        rw [List.length_map]
        omega
      · rw [wo_upd, List.range_succ, List.map_append]
        exact (p4.mono fun q l _ => hm _ _ _ _ (wo_mono e4)).snoc hR)
    (fun H' p => by
      obtain ⟨p1, p2, qs, p3, p4⟩ := p
      exact q D H' (fresh_back e1 p1) (e1.trans p2) ⟨qs, p3, p4⟩)⟩
/-- .. objects that are wholly new -/
theorem er_lcN (hm : Mn R) {a : Addr} {xs : List V} {j : Nat} {vs : List Nat} (f : Nat → α) (h : Ev tl σ H (.ref a)) (hx : SqL K H a xs) (hz : xs.length ≤ 40000) (hw : ∀ x, wipe ((wipe σ vs).set j (some x)) vs = wipe σ vs)
    (he : ∀ (i : Nat) (x : V) (H1 : Hp), Ex H H1 → xs[i]? = some x → EvRn (fun H q => R H q (f i)) te ((wipe σ vs).set j (some x)) H1) :
    EvRn (fun H p => Lst2 R H p ((List.range xs.length).map f)) (tLc (iList K tl) (gName j) tYes te vs) σ H := fun H0 e0 Q q => h H0 e0 _ fun H1 e1 => ⟨a, rfl, ⟨xs, ex_l (e0.trans e1) hx⟩, fun D hD =>
  lc_list (xs := xs) (fun i H' => H1 D = none ∧ Ex H1 H' ∧ ∃ qs, H' D = some (.lst (qs.map V.ref)) ∧ Al2 R (wo D (nu H0 H')) qs ((List.range i).map f)) ⟨hD, Ex.new hD, [], upd_same, Al2.nil⟩ (fun i H' _ p => ex_l ((e0.trans e1).trans p.2.1) hx)
    (fun i x H' hi p => by
      obtain ⟨p1, p2, qs, p3, p4⟩ := p
      refine ⟨hw x, ?_⟩
      show te ((wipe σ vs).set j (some x)) H' fun y H4 => ∃ acc, H4 D = some (.lst acc) ∧ acc.length < sizeLine ∧ _
      refine he i x H' ((e0.trans e1).trans p2) hi H' (Ex.refl H') _ fun r H4 hr e4 hR => ⟨_, e4 _ _ p3, sz_lt ?_, p1, Ex.mut (p2.trans e4) p1, qs ++ [r], by rw [upd_same, List.map_append]; rfl, ?_⟩
      · have := p4.1
        rw [List.length_map, List.length_range] at this
        have := (List.getElem?_eq_some_iff.mp hi).1
        rw [List.length_map]
        omega
      · rw [wo_nu_upd, List.range_succ, List.map_append]
        exact (p4.mono fun q l _ => hm _ _ _ _ (wo_mono (nu_mono e4))).snoc (hm _ _ _ _ (nu_wo2 p3 (e1.trans p2)) hR))
    (fun H' p => by
      obtain ⟨p1, p2, qs, p3, p4⟩ := p
      have hD0 := fresh_back e1 p1
      exact q D H' hD0 (e1.trans p2) ⟨qs, nu_at hD0 p3, p4.mono fun q l _ => hm _ _ _ _ (wo_le _ _)⟩)⟩
/-- [f(x) for x in a tuple] -/
theorem el_lcT {a : Addr} {xs : List V} {j : Nat} {vs : List Nat} (f : Nat → V) (h : Ev tl σ H (.ref a)) (hx : SqT K H a xs) (hz : xs.length ≤ 40000) (hw : ∀ x, wipe ((wipe σ vs).set j (some x)) vs = wipe σ vs)
    (he : ∀ (i : Nat) (x : V) (H1 : Hp), Ex H H1 → xs[i]? = some x → Ev te ((wipe σ vs).set j (some x)) H1 (f i)) :
    EvL (tLc (iTup K tl) (gName j) tYes te vs) σ H ((List.range xs.length).map f) := fun H0 e0 Q q => h H0 e0 _ fun H1 e1 => ⟨a, rfl, ⟨xs, ex_t (e0.trans e1) hx⟩, fun D hD =>
  lc_tup (xs := xs) (fun i H' => H1 D = none ∧ Ex H1 H' ∧ H' D = some (.lst ((List.range i).map f))) ⟨hD, Ex.new hD, upd_same⟩ (fun i H' _ p => ex_t ((e0.trans e1).trans p.2.1) hx)
    (fun i x H' hi p => by
      obtain ⟨p1, p2, p3⟩ := p
      refine ⟨hw x, ?_⟩
      show te ((wipe σ vs).set j (some x)) H' fun y H4 => ∃ acc, H4 D = some (.lst acc) ∧ acc.length < sizeLine ∧ _
      refine he i x H' ((e0.trans e1).trans p2) hi H' (Ex.refl H') _ fun H4 e4 => ⟨_, e4 _ _ p3, sz_lt ?_, p1, Ex.mut (p2.trans e4) p1, by rw [upd_same, List.range_succ, List.map_append]; rfl⟩
      have := (List.getElem?_eq_some_iff.mp hi).1
      rw [List.length_map, List.length_range]
      omega)
    (fun H' p => q D H' (fresh_back e1 p.1) (e1.trans p.2.1) p.2.2)⟩
theorem lc_rangeC {lo c : Int} {n : Nat} {g : TG} {tt : TT} {te : TE} {vs : List Nat} {σ : L2.St} {H1 : Hp} {D : Addr} {Qd : Hp → Prop} (Pv : Nat → Hp → Prop) (h0 : Pv 0 (upd H1 D (.lst [])))
    (hs : ∀ i H, i < n → Pv i H → g (.int (lo + (i : Nat) * c)) (wipe σ vs) H fun σ2 H2 => wipe σ2 vs = wipe σ vs ∧ tt σ2 H2 fun b H3 =>
      if b = true then te σ2 H3 fun y H4 => ∃ acc, H4 D = some (.lst acc) ∧ acc.length < sizeLine ∧ Pv (i + 1) (upd H4 D (.lst (acc ++ [y]))) else Pv (i + 1) H3) (hd : ∀ H, Pv n H → Qd H) :
    ∃ W : Nat → Nat → Hp → Prop, (∃ m, W 0 m (upd H1 D (.lst []))) ∧ ∀ i m H, W i m H →
      ((Itc lo c n).stop i H ∧ Qd H) ∨ ((Itc lo c n).go i H ∧ ∃ Nx : Hp → Prop, (∀ H', Nx H' → ∃ m', m' < m ∧ W (i + 1) m' H') ∧ ∀ x H', (Itc lo c n).yld i H x H' → g x (wipe σ vs) H' fun σ2 H2 => wipe σ2 vs = wipe σ vs ∧ tt σ2 H2 fun b H3 =>
        if b = true then te σ2 H3 fun y H4 => ∃ acc, H4 D = some (.lst acc) ∧ acc.length < sizeLine ∧ Nx (upd H4 D (.lst (acc ++ [y]))) else Nx H3) := by
  refine ⟨fun i m H => m = n - i ∧ i ≤ n ∧ Pv i H, ⟨n, by simp, Nat.zero_le _, h0⟩, ?_⟩
  rintro i m H ⟨rfl, hi, p⟩
  by_cases hlt : i < n
  · refine .inr ⟨hlt, Pv (i + 1), fun H' p' => ⟨n - (i + 1), by omega, rfl, hlt, p'⟩, fun x H' y => ?_⟩
    obtain ⟨e, y⟩ := y
    subst e y
    exact hs i _ hlt p
  · have e : i = n := by omega
    subst e
    exact .inl ⟨Nat.le_refl _, hd H p⟩
def stepsN (n c : Nat) : Nat := if 0 < n then (n - 1) / c + 1 else 0
theorem stepsN_le {n c : Nat} (hc : 0 < c) : stepsN n c ≤ n := by
  unfold stepsN
  split
  · have := Nat.div_le_self (n - 1) c
    omega
  · omega
theorem stepsN_mul {n c : Nat} (hc : 0 < c) : stepsN n c * c ≤ n + c := by
  unfold stepsN
  split
  · have h1 := Nat.div_mul_le_self (n - 1) c
    rw [Nat.add_mul, Nat.one_mul]
    omega
  · omega
theorem RgC.up {n c : Nat} (hn : n ≤ 100000) (hc : 0 < c) (hc2 : c ≤ 100000) : RgC 0 (n : Int) (c : Int) (stepsN n c) := by
  have hr : Builtin.Range.rangeSize 0 (n : Int) (c : Int) = ((stepsN n c : Nat) : Int) := by
    unfold Builtin.Range.rangeSize stepsN
    rw [if_pos (by omega)]
    by_cases h : 0 < n
    · rw [if_pos (by omega), if_pos h]
      have : (n : Int) - 0 - 1 = ((n - 1 : Nat) : Int) := by omega
      rw [this]
      rfl
    · rw [if_neg (by omega), if_neg h]
      rfl
  refine ⟨by omega, by omega, ?_, hr⟩
  have hm := stepsN_mul (n := n) hc
  have hm2 := stepsN_le (n := n) hc
  have e : ((stepsN n c : Nat) : Int) * (c : Int) = ((stepsN n c * c : Nat) : Int) := by rw [Int.natCast_mul]
  unfold Builtin.Range.small
  rw [hr]
  simp only [Builtin.Range.rangeFitsLong, Bool.and_eq_true, Bool.or_eq_true, decide_eq_true_eq, beq_iff_eq, show (c : Int) > 0 by omega, if_true, e, Int.zero_add]
  omega
theorem stepsN_at {n c i : Nat} (hc : 0 < c) (h : i < stepsN n c) : i * c < n := by
  unfold stepsN at h
  split at h
  · have h2 : i ≤ (n - 1) / c := by omega
    have := (Nat.le_div_iff_mul_le hc).mp h2
    omega
  · omega
theorem stepsN_all {n c : Nat} (hc : 0 < c) : n ≤ stepsN n c * c := by
  unfold stepsN
  split
  · have h1 := Nat.div_add_mod (n - 1) c
    have h2 := Nat.mod_lt (n - 1) hc
    rw [Nat.add_mul, Nat.one_mul, Nat.mul_comm]
    omega
  · omega
/-- .. over range(0, n, c) -/
theorem er_lcC (hm : Mn R) {n c : Nat} {tr : TA} {j : Nat} {vs : List Nat} (f : Nat → α) (h : EvA tr σ H [.int 0, .int (n : Int), .int (c : Int)]) (hn : n ≤ 40000) (hc : 0 < c) (hc2 : c ≤ 100000) (hw : ∀ x, wipe ((wipe σ vs).set j (some x)) vs = wipe σ vs)
    (he : ∀ (i : Nat) (H1 : Hp) (D : Addr), Ex H H1 → H D = none → (∃ ys, H1 D = some (.lst ys)) → i < stepsN n c → ∀ Q : VK, (∀ p H2, H1 p = none → Ex H1 H2 → R (wo D H2) p (f i) → Q (.ref p) H2) → te ((wipe σ vs).set j (some (.int ((i * c : Nat) : Int)))) H1 Q) :
    EvRo (fun H p => Lst3 R H p ((List.range (stepsN n c)).map f)) (tLc (iRng3 tr) (gName j) tYes te vs) σ H := fun H0 e0 Q q => h H0 e0 _ fun H1 e1 => ⟨0, (n : Int), (c : Int), stepsN n c, rfl, RgC.up (by omega) hc hc2, fun D hD =>
  lc_rangeC (lo := 0) (c := (c : Int)) (n := stepsN n c) (fun i H' => H1 D = none ∧ Ex H1 H' ∧ ∃ qs, H' D = some (.lst (qs.map V.ref)) ∧ Al2 R (wo D H') qs ((List.range i).map f)) ⟨hD, Ex.new hD, [], upd_same, Al2.nil⟩
    (fun i H' hi p => by
      obtain ⟨p1, p2, qs, p3, p4⟩ := p
      have e9 : (0 : Int) + ((i : Nat) : Int) * (c : Int) = ((i * c : Nat) : Int) := by rw [Int.natCast_mul, Int.zero_add]
      refine ⟨hw _, ?_⟩
      show te ((wipe σ vs).set j (some (.int ((0 : Int) + ((i : Nat) : Int) * (c : Int))))) H' fun y H4 => ∃ acc, H4 D = some (.lst acc) ∧ acc.length < sizeLine ∧ _
      rw [e9]
      refine he i H' D ((e0.trans e1).trans p2) (fresh_back (e0.trans e1) hD) ⟨_, p3⟩ hi _ fun r H4 hr e4 hR => ⟨_, e4 _ _ p3, sz_lt ?_, p1, Ex.mut (p2.trans e4) p1, qs ++ [r], by rw [upd_same, List.map_append]; rfl, ?_⟩
      · have := p4.1
        rw [List.length_map, List.length_range] at this
        have h9 := stepsN_le (n := n) hc
        rw [List.length_map]
        omega
      · rw [wo_upd, List.range_succ, List.map_append]
        exact (p4.mono fun q l _ => hm _ _ _ _ (wo_mono e4)).snoc hR)
    (fun H' p => by
      obtain ⟨p1, p2, qs, p3, p4⟩ := p
      exact q D H' (fresh_back e1 p1) (e1.trans p2) ⟨qs, p3, p4⟩)⟩
theorem cutV_nat {xs : List V} {i j : Nat} : cutV xs (some (i : Int)) (some (j : Int)) = (xs.take j).drop i := by
  unfold cutV
  rw [HT.sIx_nat, HT.sIx_nat, List.drop_take]
  by_cases hi : i ≤ xs.length
  · rw [Nat.min_eq_left hi]
    by_cases hj : j ≤ xs.length
    · rw [Nat.min_eq_left hj]
    · rw [Nat.min_eq_right (show xs.length ≤ j by omega), List.take_of_length_le (by rw [List.length_drop]; omega), List.take_of_length_le (by rw [List.length_drop]; omega)]
  · rw [Nat.min_eq_right (show xs.length ≤ i by omega), List.drop_eq_nil_of_le (Nat.le_refl _), List.drop_eq_nil_of_le (show xs.length ≤ i by omega)]
    simp
def chunk {α : Type} (xs : List α) (c i : Nat) : List α := (xs.take (i * c + c)).drop (i * c)
theorem chunk_flat {α : Type} (xs : List α) (c : Nat) : ∀ n, ((List.range n).map (chunk xs c)).flatten = xs.take (n * c)
  | 0 => by simp
  | n + 1 => by
    rw [List.range_succ, List.map_append, List.flatten_append, chunk_flat xs c n]
    show xs.take (n * c) ++ (chunk xs c n ++ []) = xs.take ((n + 1) * c)
    rw [List.append_nil, Nat.add_mul, Nat.one_mul]
    unfold chunk
    have := List.take_append_drop (n * c) (xs.take (n * c + c))
    rw [List.take_take, Nat.min_eq_left (by omega)] at this
    exact this
theorem chunk_map {α β : Type} (f : α → β) (xs : List α) (c i : Nat) : chunk (xs.map f) c i = (chunk xs c i).map f := by
  unfold chunk
  rw [List.map_drop, List.map_take]
/-- a list of rows, cut -/
theorem Al2.cut {qs : List Addr} {L : List α} (h : Al2 R H qs L) (c i : Nat) : Al2 R H (chunk qs c i) (chunk L c i) := by
  refine ⟨by unfold chunk; rw [List.length_drop, List.length_drop, List.length_take, List.length_take, h.1], fun k q l a b => ?_⟩
  unfold chunk at a b
  rw [List.getElem?_drop, List.getElem?_take] at a b
  split at a
  · rename_i hlt
    rw [if_pos hlt] at b
    exact h.2 _ q l a b
  · cases a
theorem ev_rgl {te : TE} {n : Nat} (h : Ev te σ H (.int (n : Int))) (hn : n ≤ 100000) : EvL (tLstRg (tRg1 te)) σ H ((List.range n).map fun i => V.int ((i : Nat) : Int)) := fun H1 e Q q => h H1 e _ fun H2 e2 => ⟨(n : Int), rfl, RgOk.of_le (by omega) (by omega) (by omega) (by omega), fun p hp => q p _ (fresh_back e2 hp) (e2.trans (Ex.new hp)) (by
  rw [upd_same]
  have : rgV 0 (n : Int) = (List.range n).map fun i => V.int ((i : Nat) : Int) := by
    unfold rgV
    rw [show ((n : Int) - 0).toNat = n by omega]
    exact List.map_congr_left fun i _ => by rw [Int.zero_add]
  rw [this])⟩
end
section
variable {K : PySem.W.Frag} {σ : L2.St} {H : Hp} {p : Addr} {te tn : TE} {R : V → Prop}
/-- [what is drawn for k in range(n)] -/
theorem e1_lcE {j : Nat} {vs : List Nat} {n : Nat} (hn : Ev tn σ (wo p H) (.int (n : Int))) (hm : n ≤ 10000) (hw : ∀ x, wipe ((wipe σ vs).set j (some x)) vs = wipe σ vs)
    (he : ∀ i : Nat, EvD1 te ((wipe σ vs).set j (some (.int (i : Int)))) p H R) : EvLD1 (tLc (iRng1 (tCons tn tNil)) (gName j) tYes te vs) σ p H (fun xs => xs.length = n ∧ ∀ x ∈ xs, R x) := fun H0 e d Q q =>
  hn H0 e _ fun H1 e1 => by
    have d1 := d.ex e1
    refine ⟨(n : Int), rfl, by omega, by omega, fun Dl hD => ?_⟩
    have hpd : p ≠ Dl := dr_ne d1 hD
    refine lc_range (lo := 0) (n := ((n : Int)).toNat) (fun i H' => Ex (wo p H1) H' ∧ Dr p H' ∧ ∃ acc, H' Dl = some (.lst acc) ∧ acc.length = i ∧ ∀ x ∈ acc, R x) ⟨Ex.mut (wo_le p H1) (by rw [wo_ne (Ne.symm hpd)]; exact hD), d1.upd hpd, [], upd_same, rfl, fun x hx => by cases hx⟩ (fun i H' hi pv => ?_) (fun H' pv => ?_)
    · obtain ⟨p1, p2, acc, p3, p4, p5⟩ := pv
      have e0 : (0 : Int) + (i : Int) = (i : Int) := Int.zero_add _
      show wipe ((wipe σ vs).set j (some (.int ((0 : Int) + (i : Int))))) vs = wipe σ vs ∧ te ((wipe σ vs).set j (some (.int ((0 : Int) + (i : Int))))) H' fun y H4 => ∃ acc, H4 Dl = some (.lst acc) ∧ acc.length < sizeLine ∧ _
      rw [e0]
      refine ⟨hw _, he i H' (wx_trans e (wx_trans (wx_of e1) p1)) p2 _ fun y H4 hy e4 d4 => ?_⟩
      refine ⟨acc, e4 Dl _ (by rw [wo_ne (Ne.symm hpd)]; exact p3), sz_lt (by omega), Ex.mut (wx_trans p1 e4) (by rw [wo_ne (Ne.symm hpd)]; exact hD), d4.upd hpd, acc ++ [y], upd_same, by rw [List.length_append, p4]; rfl, fun x hx => ?_⟩
      rcases List.mem_append.mp hx with h | h
      · exact p5 x h
      · rw [List.mem_singleton.mp h]
        exact hy
    · obtain ⟨p1, p2, acc, p3, p4, p5⟩ := pv
      exact q Dl H' acc ⟨by rw [p4]; exact Int.toNat_natCast n, p5⟩ (fresh_back e1 hD) (wx_trans (wx_of e1) p1) p2 p3
theorem q1_asgL {i : Nat} {P : List V → Prop} {D : Ends} {tz : TS} (h : EvLD1 te σ p H P) (d : Dr p H) (k : ∀ l H1 xs, P xs → H l = none → Ex (wo p H) H1 → Dr p H1 → H1 l = some (.lst xs) → tz D (σ.set i (some (.ref l))) H1) : tSeq (tAsg te (gName i)) tz D σ H := h H (wo_le p H) d _ fun l H1 xs hP hl e d1 h1 => k l H1 xs hP hl e d1 h1
end

/-! ### defs as values -/
section
variable {P : Program} {w : World} {K : PySem.W.Frag} {mg : Str → Option Value} {base : Heap}
noncomputable def calA {k : Nat} {x : Str} {sp : Sp} (c : C8.Cal P w K mg base k x sp []) : Addr := Classical.choose c.ex
theorem calA_mg {k : Nat} {x : Str} {sp : Sp} (c : C8.Cal P w K mg base k x sp []) : mg x = some (.ref (calA c)) := by
  obtain ⟨fd, ps, ds, F, hm, kp, b, v⟩ := Classical.choose_spec c.ex
  exact hm
theorem gdef {k : Nat} {x : Str} {sp : Sp} (c : C8.Cal P w K mg base k x sp []) : ∃ u, mg x = some u ∧ RelV (.ref (calA c)) u := ⟨_, calA_mg c, rfl⟩
theorem heldI {k : Nat} {f : Addr} {sp sp' : Sp} (h : L2.Held P w K mg base k f sp) (i : ∀ vs H Q E, sp' vs H Q E → sp vs H Q E) : L2.Held P w K mg base k f sp' := by
  obtain ⟨fd, ps, F, hk, hb⟩ := h.ex
  exact ⟨fd, ps, F.imp i, hk, hb⟩
end

--@SPLIT
/-! ### the four comparisons of two ranks -/
def vlt (x y : V) : Bool := ltD (rkD x) (rkD y)
def veq (x y : V) : Bool := PyData.eqv (rkD x) (rkD y)
theorem vlt_two {x y : V} : vlt x y = (if kr x = kr y then (if PyData.eqv (payD x) (payD y) = true then false else ltD (payD x) (payD y)) else decide (kr x < kr y)) := by
  show ltD (.tuple [.int (kr x), payD x]) (.tuple [.int (kr y), payD y]) = _
  rw [ltD, ltDs]
  by_cases h : kr x = kr y
  · rw [if_pos (show PyData.eqv (.int (kr x)) (.int (kr y)) = true from beq_iff_eq.mpr h), if_pos h, ltDs]
    rfl
  · rw [if_neg (show ¬ PyData.eqv (.int (kr x)) (.int (kr y)) = true from fun z => h (beq_iff_eq.mp z)), if_neg h, ltD]
theorem flat_pay {x : V} (h : Ok x) : flatV (payV x) = true := by cases h <;> rfl
theorem okI_pay {x y : V} (hx : Ok x) (hy : Ok y) (h : kr x = kr y) : okI (payV x) (payV y) = true := by
  cases hx <;> cases hy <;> first | rfl | exact absurd h (by decide) | (simp [kr] at h)
theorem dle (a b : Int) : decide (a ≤ b) = !decide (b < a) := by
  by_cases h : a ≤ b
  · rw [decide_eq_true h, decide_eq_false (show ¬ b < a by omega)]
    rfl
  · rw [decide_eq_false h, decide_eq_true (show b < a by omega)]
    rfl
/-- of one kind: two ints or two texts -/
inductive Two : V → V → PyData → PyData → Prop where
  | int (a b : Int) : Two (.int a) (.int b) (.int a) (.int b)
  | str (a b : Str) : Two (.str a) (.str b) (.str a) (.str b)
theorem two_pay {x y : V} (hx : Ok x) (hy : Ok y) (h : kr x = kr y) : Two (payV x) (payV y) (payD x) (payD y) := by
  cases hx <;> cases hy <;> first | exact .int _ _ | exact .str _ _ | exact absurd h (by decide) | (simp [kr] at h)
theorem le_res {x y : V} (hx : Ok x) (hy : Ok y) : (if kr x = kr y then (if eqV (payV x) (payV y) = true then true else leI (payV x) (payV y)) else decide (kr x ≤ kr y)) = !vlt y x := by
  rw [vlt_two]
  by_cases h : kr x = kr y
  · rw [if_pos h, if_pos h.symm]
    have t := two_pay hx hy h
    generalize payV x = p at t ⊢
    generalize payV y = q at t ⊢
    generalize payD x = d at t ⊢
    generalize payD y = e at t ⊢
    cases t with
    | int a b =>
      show (if (a == b) = true then true else decide (a ≤ b)) = !(if (b == a) = true then false else ltD (.int b) (.int a))
      rw [ltD]
      by_cases z : a = b
      · subst z; simp
      · have z' : ¬ b = a := fun w => z w.symm
        simp [z, z', dle a b]
    | str a b =>
      show (if (a == b) = true then true else !decide (b.cps.toList < a.cps.toList)) = !(if (b == a) = true then false else ltD (.str b) (.str a))
      rw [ltD]
      by_cases z : a = b
      · subst z; simp
      · have z' : ¬ b = a := fun w => z w.symm
        simp [z, z']
  · have h' : ¬ kr y = kr x := fun z => h z.symm
    rw [if_neg h, if_neg h']
    exact dle _ _
theorem gt_res {x y : V} (hx : Ok x) (hy : Ok y) : (if kr x = kr y then (if eqV (payV x) (payV y) = true then false else gtI (payV x) (payV y)) else decide (kr y < kr x)) = vlt y x := by
  rw [vlt_two]
  by_cases h : kr x = kr y
  · rw [if_pos h, if_pos h.symm]
    have t := two_pay hx hy h
    generalize payV x = p at t ⊢
    generalize payV y = q at t ⊢
    generalize payD x = d at t ⊢
    generalize payD y = e at t ⊢
    cases t with
    | int a b =>
      show (if (a == b) = true then false else decide (b < a)) = (if (b == a) = true then false else ltD (.int b) (.int a))
      rw [ltD]
      by_cases z : a = b
      · subst z; simp
      · have z' : ¬ b = a := fun w => z w.symm
        simp [z, z']
    | str a b =>
      show (if (a == b) = true then false else decide (b.cps.toList < a.cps.toList)) = (if (b == a) = true then false else ltD (.str b) (.str a))
      rw [ltD]
      by_cases z : a = b
      · subst z; simp
      · have z' : ¬ b = a := fun w => z w.symm
        simp [z, z']
  · have h' : ¬ kr y = kr x := fun z => h z.symm
    rw [if_neg h, if_neg h']
theorem ge_res {x y : V} (hx : Ok x) (hy : Ok y) : (if kr x = kr y then (if eqV (payV x) (payV y) = true then true else geI (payV x) (payV y)) else decide (kr y ≤ kr x)) = !vlt x y := by
  rw [vlt_two]
  by_cases h : kr x = kr y
  · rw [if_pos h, if_pos h]
    have t := two_pay hx hy h
    generalize payV x = p at t ⊢
    generalize payV y = q at t ⊢
    generalize payD x = d at t ⊢
    generalize payD y = e at t ⊢
    cases t with
    | int a b =>
      show (if (a == b) = true then true else decide (b ≤ a)) = !(if (a == b) = true then false else ltD (.int a) (.int b))
      rw [ltD]
      by_cases z : a = b
      · subst z; simp
      · simp [z, dle b a]
    | str a b =>
      show (if (a == b) = true then true else !decide (a.cps.toList < b.cps.toList)) = !(if (a == b) = true then false else ltD (.str a) (.str b))
      rw [ltD]
      by_cases z : a = b
      · subst z; simp
      · simp [z]
  · rw [if_neg h, if_neg h]
    exact dle _ _
section
variable {K : PySem.W.Frag} {H : Hp} {x y : V} {a b : Addr}
theorem rv_leR (ha : H a = some (.tup (rkL x))) (hb : H b = some (.tup (rkL y))) (hx : Ok x) (hy : Ok y) : RV (rLe2 K) (.ref a) (.ref b) H (.bl (!vlt y x)) := fun H1 e Q q =>
  ⟨a, b, kr x, kr y, payV x, payV y, rfl, rfl, st_of (e _ _ ha), st_of (e _ _ hb), flat_pay hx, flat_pay hy, fun h _ => okI_pay hx hy h, by rw [le_res hx hy]; exact q H1 (Ex.refl H1)⟩
theorem rv_gtR (ha : H a = some (.tup (rkL x))) (hb : H b = some (.tup (rkL y))) (hx : Ok x) (hy : Ok y) : RV (rGt2 K) (.ref a) (.ref b) H (.bl (vlt y x)) := fun H1 e Q q =>
  ⟨a, b, kr x, kr y, payV x, payV y, rfl, rfl, st_of (e _ _ ha), st_of (e _ _ hb), flat_pay hx, flat_pay hy, fun h _ => okI_pay hx hy h, by rw [gt_res hx hy]; exact q H1 (Ex.refl H1)⟩
theorem rv_geR (ha : H a = some (.tup (rkL x))) (hb : H b = some (.tup (rkL y))) (hx : Ok x) (hy : Ok y) : RV (rGe2 K) (.ref a) (.ref b) H (.bl (!vlt x y)) := fun H1 e Q q =>
  ⟨a, b, kr x, kr y, payV x, payV y, rfl, rfl, st_of (e _ _ ha), st_of (e _ _ hb), flat_pay hx, flat_pay hy, fun h _ => okI_pay hx hy h, by rw [ge_res hx hy]; exact q H1 (Ex.refl H1)⟩
theorem rv_ltR (ha : H a = some (.tup (rkL x))) (hb : H b = some (.tup (rkL y))) (hx : Ok x) (hy : Ok y) : RV (rLtD K) (.ref a) (.ref b) H (.bl (vlt x y)) := fun H1 e Q q =>
  ⟨rkD x, rkD y, dp_rk hx (e _ _ ha), dp_rk hy (e _ _ hb), lay_rk hx, lay_rk hy, ord_rk hx hy, by rw [dep_rk hx]; decide, q H1 (Ex.refl H1)⟩
theorem rv_eqR (ha : H a = some (.tup (rkL x))) (hb : H b = some (.tup (rkL y))) (hx : Ok x) (hy : Ok y) : RV (rEqD K) (.ref a) (.ref b) H (.bl (veq x y)) := fun H1 e Q q =>
  ⟨rkD x, rkD y, dp_rk hx (e _ _ ha), dp_rk hy (e _ _ hb), shaped_rk hx, shaped_rk hy, q H1 (Ex.refl H1)⟩
end

--@SPLIT
/-- len of a dict keyed by tuples -/
theorem call_lenN {X : L2.Cx} : CallR X (.builtin "len") (fun xs H Q => ∃ d kvs, xs = [.ref d] ∧ NDict X.prog X.w H d kvs ∧ kvs.length ≤ 100000 ∧ Q (.int (kvs.length : Nat)) H) := by
  intro pins s σ H vs us Q I r h
  obtain ⟨d, kvs, rfl, nd, hz, q⟩ := h
  obtain ⟨u, rfl, ru⟩ := vals1 r
  cases ru
  obtain ⟨hd, xs, _, _, kv, _, dd⟩ := NDict.of I.hok nd
  obtain ⟨es, ep, hr, hs, _⟩ := dd.raw
  have hl : es.size = kvs.length := by
    have h1 := kv.length
    rw [PySem.pairsH_length] at h1
    omega
  refine Calls.call_function_entry kind_len plain_len entry_len (args_len1 _) ?_
  unfold Builtin.«len»
  refine wpAny_bind (m := oneArg "len" _) (wpAny_pure ?_)
  refine wpAny_bind (m := callSpecial? (.ref d) (Str.ofString "__len__")) (wpAny_callSpecial?_slot (name := Str.ofString "__len__") hr.typeIs F.slot_dict_len (PySem.call_len_raw hd hr ?_))
  show wpAny _ _ _ _ _ { s with toks := s.toks + 1 }
  refine wpAny_bind (wpAny_holding (wpAny_pure ?_))
  refine wpAny_bind (wpAny_letGo ?_)
  show wpAny _ _ (if ((es.size : Nat) : Int) < 0 then _ else _) _ _ _
  rw [if_neg (by omega)]
  show wpAny _ _ (if ((es.size : Nat) : Int) ≥ 2 ^ 63 then _ else _) _ _ _
  rw [if_neg (by omega)]
  exact wpAny_bind (wpAny_mkInt (wpAny_pure ⟨_, rfl, .int (kvs.length : Nat), H, I.tok _, ⟨_, by rw [hl]⟩, q⟩))

/-! ### what is known of a column -/
theorem putK_pos (kvs : List (NK × V)) (k : NK) (v : V) : 0 < (putK kvs k v).length := by
  unfold putK
  split
  · rename_i h
    rw [List.length_map]
    cases kvs with
    | nil => simp at h
    | cons _ _ => exact Nat.zero_lt_succ _
  · rw [List.length_append]
    exact Nat.lt_of_lt_of_le Nat.zero_lt_one (Nat.le_add_left _ _)
structure Kn where
  nul : Nat
  dif : Nat
  fst : V
  lst : V
  mks : List V
def knF (n d f l m : V) : List (Str × V) := putF "marks" m (putF "last" l (putF "first" f (putF "different" d (putF "nulls" n []))))
section
variable {n d f l m : V}
theorem knF_n : (knF n d f l m).lookup ("nulls" : Str) = some n := by
  unfold knF
  rw [lookup_putF, if_neg (by decide +kernel), lookup_putF, if_neg (by decide +kernel), lookup_putF, if_neg (by decide +kernel), lookup_putF, if_neg (by decide +kernel), lookup_putF, if_pos rfl]
theorem knF_d : (knF n d f l m).lookup ("different" : Str) = some d := by
  unfold knF
  rw [lookup_putF, if_neg (by decide +kernel), lookup_putF, if_neg (by decide +kernel), lookup_putF, if_neg (by decide +kernel), lookup_putF, if_pos rfl]
theorem knF_f : (knF n d f l m).lookup ("first" : Str) = some f := by
  unfold knF
  rw [lookup_putF, if_neg (by decide +kernel), lookup_putF, if_neg (by decide +kernel), lookup_putF, if_pos rfl]
theorem knF_l : (knF n d f l m).lookup ("last" : Str) = some l := by
  unfold knF
  rw [lookup_putF, if_neg (by decide +kernel), lookup_putF, if_pos rfl]
theorem knF_m : (knF n d f l m).lookup ("marks" : Str) = some m := by
  unfold knF
  rw [lookup_putF, if_pos rfl]
end
theorem putF_le (f : Str) (v : V) : ∀ fs : List (Str × V), (putF f v fs).length ≤ fs.length + 1
  | [] => Nat.le_refl _
  | (g, x) :: r => by
    unfold putF
    split
    · show r.length + 1 ≤ r.length + 1 + 1
      omega
    · have := putF_le f v r
      show (putF f v r).length + 1 ≤ r.length + 1 + 1
      omega
def KnAt (K : PySem.W.Frag) (H : Hp) (p : Addr) (k : Kn) : Prop := ∃ dx l, H p = some (.ins (clsAt K "Known") dx (knF (.int (k.nul : Int)) (.int (k.dif : Int)) k.fst k.lst (.ref l))) ∧ H l = some (.lst k.mks)
theorem KnAt.mn (K : PySem.W.Frag) : Mn (KnAt K) := fun H H' q l e ⟨dx, a, h1, h2⟩ => ⟨dx, a, e _ _ h1, e _ _ h2⟩
structure KnOk (k : Kn) : Prop where
  f : Ok k.fst
  l : Ok k.lst
  m : ∀ x ∈ k.mks, Ok x
  len : k.mks.length ≤ 8
  z : k.dif ≤ 1000
  last : k.mks ≠ [] → 1 ≤ k.dif ∧ k.mks[7]? = some k.lst
def sp_Known____init__ (K : PySem.W.Frag) : Sp := fun vs H Q _ => ∃ (p dx a : Addr) (n d f l : V) (xs : List V), vs = [.ref p, n, d, f, l, .ref a] ∧ H p = some (.ins (clsAt K "Known") dx []) ∧ H a = some (.lst xs) ∧ ∀ H' l', Ex (wo p H) H' → H' p = some (.ins (clsAt K "Known") dx (knF n d f l (.ref l'))) → H' l' = some (.lst xs) → H l' = none → Q .non H'
/-- something new at an address, all else as it was -/
def SpO (R : Hp → Addr → Prop) (H : Hp) (Q : VK) : Prop := ∀ p H', H p = none → Ex H H' → R H' p → Q (.ref p) H'
/-- .. wholly new -/
def SpN (R : Hp → Addr → Prop) (H : Hp) (Q : VK) : Prop := ∀ p H', H p = none → Ex H H' → R (nu H H') p → Q (.ref p) H'
def sp_known_of (K : PySem.W.Frag) : Sp := fun vs H Q _ => ∃ (a : Addr) (xs : List V), vs = [.ref a] ∧ SqL K H a xs ∧ (∀ x ∈ xs, Ok x) ∧ xs.length ≤ 1000 ∧ SpN (fun H' p => ∃ k, KnOk k ∧ KnAt K H' p k) H Q
def unk (d : Nat) : Kn := ⟨0, d, .non, .non, []⟩
theorem unk_ok {d : Nat} (h : d ≤ 1000) : KnOk (unk d) := ⟨.non, .non, (fun x hx => nomatch hx), by show 0 ≤ 8; decide, h, fun z => absurd rfl z⟩
def sp_unknown_column (K : PySem.W.Frag) : Sp := fun vs H Q _ => ∃ d : Nat, vs = [.int (d : Int)] ∧ SpO (fun H' p => KnAt K H' p (unk d)) H Q
section
variable {K : PySem.W.Frag} {σ : L2.St} {H : Hp} {ta tb tc te tv tl tk t1 t2 t3 t4 t5 : TE} {tr : TA} {t : TT} {D : Ends} {tz : TS} {p C dx a : Addr} {fs : List (Str × V)} {f : Str} {v : V} {xs : List V} {d : PyData} {E : XK}
theorem ev_fld (ha : Ev ta σ H (.ref p)) (hp : H p = some (.ins C dx fs)) (c : Cls K C) (n : NoAttr K C f) (l : fs.lookup f = some v) : Ev (tFld K ta f) σ H v := fun H1 e Q q => ha H1 e _ fun H2 e2 => ⟨p, C, dx, fs, v, rfl, (e.trans e2) _ _ hp, c, n, l, q H2 e2⟩
theorem s_fld (hv : Ev tv σ H v) (ha : ∀ H1, Ex H H1 → Ev ta σ H1 (.ref p)) (hp : H p = some (.ins C dx fs)) (c : Cls K C) (n : NoAttr K C f) (hl : fs.length < 1000) (k : ∀ H1, Ex H H1 → D.nx σ (upd H1 p (.ins C dx (putF f v fs)))) : sFld K ta tv f D σ H :=
  hv H (Ex.refl H) _ fun H1 e1 => ha H1 e1 H1 (Ex.refl H1) _ fun H2 e2 => ⟨p, C, dx, fs, rfl, (e1.trans e2) _ _ hp, c, n, hl, k H2 (e1.trans e2)⟩
theorem q_fld (hv : Ev tv σ H v) (ha : ∀ H1, Ex H H1 → Ev ta σ H1 (.ref p)) (hp : H p = some (.ins C dx fs)) (c : Cls K C) (n : NoAttr K C f) (hl : fs.length < 1000) (k : ∀ H1, Ex H H1 → tz D σ (upd H1 p (.ins C dx (putF f v fs)))) : tSeq (sFld K ta tv f) tz D σ H := s_fld (D := { D with nx := tz D }) hv ha hp c n hl k
theorem s_fldL (hv : EvL tv σ H xs) (ha : ∀ H1, Ex H H1 → Ev ta σ H1 (.ref p)) (hp : H p = some (.ins C dx fs)) (c : Cls K C) (n : NoAttr K C f) (hl : fs.length < 1000) (k : ∀ l H1, H l = none → Ex H H1 → H1 l = some (.lst xs) → D.nx σ (upd H1 p (.ins C dx (putF f (.ref l) fs)))) : sFld K ta tv f D σ H :=
  hv H (Ex.refl H) _ fun l H1 hl1 e1 h1 => ha H1 e1 H1 (Ex.refl H1) _ fun H2 e2 => ⟨p, C, dx, fs, rfl, (e1.trans e2) _ _ hp, c, n, hl, k l H2 hl1 (e1.trans e2) (e2 _ _ h1)⟩
/-- Known(..) -/
theorem rn_known {k : Kn} (h1 : Ev t1 σ H (.int (k.nul : Int))) (h2 : Ev t2 σ H (.int (k.dif : Int))) (h3 : Ev t3 σ H k.fst) (h4 : Ev t4 σ H k.lst) (h5 : EvL t5 σ H k.mks) :
    EvRn (fun H p => KnAt K H p k) (tMake (clsAt K "Known") (sp_Known____init__ K) [] C8.E0 (tCons t1 (tCons t2 (tCons t3 (tCons t4 (tCons t5 tNil)))))) σ H := fun H0 e0 Q q =>
  h1 H0 e0 _ fun H1 e1 => h2 H1 (e0.trans e1) _ fun H2 e2 => h3 H2 ((e0.trans e1).trans e2) _ fun H3 e3 => h4 H3 (((e0.trans e1).trans e2).trans e3) _ fun H4 e4 => h5 H4 ((((e0.trans e1).trans e2).trans e3).trans e4) _ fun l H5 hl e5 hl5 => fun x dx hx hdx ne => by
    have up : Ex H5 (wo x (upd (upd H5 dx (.own x)) x (.ins (clsAt K "Known") dx []))) := fun b o hb => by
      have nb : b ≠ x := fun z => by rw [z, hx] at hb; cases hb
      have nd : b ≠ dx := fun z => by rw [z, hdx] at hb; cases hb
      rw [wo_ne nb, upd_ne nb, upd_ne nd]
      exact hb
    have x5 : Ex H0 H5 := (((e1.trans e2).trans e3).trans e4).trans e5
    refine ⟨x, dx, l, .int (k.nul : Int), .int (k.dif : Int), k.fst, k.lst, k.mks, rfl, upd_same, wo_le _ _ _ _ (up _ _ hl5), fun H' l' e' h' hl' nl' => ⟨rfl, ?_⟩⟩
    have l5 : H5 l' = none := by
      have n1 : l' ≠ x := fun z => by rw [z, upd_same] at nl'; cases nl'
      have n2 : l' ≠ dx := fun z => by rw [z, upd_ne ne, upd_same] at nl'; cases nl'
      rw [upd_ne n1, upd_ne n2] at nl'
      exact nl'
    exact q x H' (fresh_back x5 hx) (x5.trans (up.trans e')) ⟨dx, l', nu_at (fresh_back x5 hx) h', nu_at (fresh_back x5 l5) hl'⟩
theorem ro_known {k : Kn} (h1 : Ev t1 σ H (.int (k.nul : Int))) (h2 : Ev t2 σ H (.int (k.dif : Int))) (h3 : Ev t3 σ H k.fst) (h4 : Ev t4 σ H k.lst) (h5 : EvL t5 σ H k.mks) :
    EvRo (fun H p => KnAt K H p k) (tMake (clsAt K "Known") (sp_Known____init__ K) [] C8.E0 (tCons t1 (tCons t2 (tCons t3 (tCons t4 (tCons t5 tNil)))))) σ H := EvRn.o (fun H H' q e h => KnAt.mn K _ _ _ _ e h) (rn_known h1 h2 h3 h4 h5)
/-- {a tuple: True for x in xs} -/
theorem dc_list {P : Program} {w : World} {a : Addr} {xs : List V} {j : Nat} {vs : List Nat} (kf : Nat → NK) (h : Ev tl σ H (.ref a)) (hx : SqL K H a xs) (hz : xs.length ≤ 40000) (hw : ∀ x, wipe ((wipe σ vs).set j (some x)) vs = wipe σ vs) (hd : ∀ i, (kf i).depth ≤ 8)
    (hk : ∀ i x H1, Ex H H1 → xs[i]? = some x → ∀ Q : VK, (∀ b H2, Ex H1 H2 → NKey H2 (kf i) (.ref b) → Q (.ref b) H2) → tk ((wipe σ vs).set j (some x)) H1 Q) (hv : ∀ x H1, Ev tv ((wipe σ vs).set j (some x)) H1 v) :
    EvRo (fun H p => ∃ kvs, NDict P w H p kvs ∧ kvs.length ≤ xs.length ∧ (0 < xs.length → 0 < kvs.length)) (tDcN P w (iList K tl) (gName j) tYes tk tv vs) σ H := fun H0 e0 Q q => h H0 e0 _ fun H1 e1 => ⟨a, rfl, ⟨xs, ex_l (e0.trans e1) hx⟩, fun D hD => by
  refine ⟨fun i m H' => m = xs.length - i ∧ i ≤ xs.length ∧ Ex H1 H' ∧ ∃ kvs, NDict P w H' D kvs ∧ kvs.length ≤ i ∧ (0 < i → 0 < kvs.length), ⟨xs.length, ?_⟩, ?_⟩
  · rintro x rfl
    exact ⟨by omega, Nat.zero_le _, Ex.new hD, [], ⟨[], upd_same, fun x hx => (by cases hx), Paired.nil, Nat.zero_le _⟩, Nat.le_refl _, fun z => absurd z (Nat.lt_irrefl _)⟩
  · rintro i m H' ⟨rfl, hi, x1, kvs, nd, hl, hp⟩
    have hS := ex_l ((e0.trans e1).trans x1) hx
    by_cases hlt : i < xs.length
    · refine .inr ⟨⟨xs, xs[i], hS, by simp [hlt]⟩, fun H'' => i < xs.length ∧ Ex H1 H'' ∧ ∃ kvs, NDict P w H'' D kvs ∧ kvs.length ≤ i + 1 ∧ (0 < i + 1 → 0 < kvs.length), fun H'' ⟨_, p1, p2⟩ => ⟨xs.length - (i + 1), by omega, rfl, hlt, p1, p2⟩, fun x H'' y => ?_⟩
      obtain ⟨e, y⟩ := y
      subst e
      have hxi := y xs hS
      refine ⟨hw x, ?_⟩
      show tk ((wipe σ vs).set j (some x)) _ fun y H4 => _
      refine hk i x _ ((e0.trans e1).trans x1) hxi _ fun b H4 e4 nk => ?_
      refine hv x H4 H4 (Ex.refl H4) _ fun H5 e5 => ?_
      refine ⟨kvs, kf i, b, rfl, nd.ex (e4.trans e5), nk.ex e5, hd i, sz_lt (by omega), fun ys nd' => ⟨hlt, Ex.mut ((x1.trans e4).trans e5) hD, _, nd', ?_, fun _ => putK_pos _ _ _⟩⟩
      have := length_putK kvs (kf i) v
      omega
    · have e : i = xs.length := by omega
      subst e
      exact .inl ⟨⟨xs, hS, Nat.le_refl _⟩, q D H' (fresh_back e1 hD) (e1.trans x1) ⟨kvs, nd, hl, hp⟩⟩⟩
/-- len of such a dict -/
theorem en_lenDc {P : Program} {w : World} {R : Nat → Prop} (h : EvRo (fun H p => ∃ kvs, NDict P w H p kvs ∧ kvs.length ≤ 100000 ∧ R kvs.length) te σ H) :
    EvN (tCB (fun xs H Q => ∃ d kvs, xs = [.ref d] ∧ NDict P w H d kvs ∧ kvs.length ≤ 100000 ∧ Q (.int (kvs.length : Nat)) H) (tCons te tNil)) σ H (fun v => ∃ n : Nat, v = .int (n : Int) ∧ R n) := fun H1 e Q q =>
  h H1 e _ fun p H2 hp e2 ⟨kvs, nd, hz, hR⟩ => ⟨p, kvs, rfl, nd, hz, q _ H2 ⟨_, rfl, hR⟩ e2⟩
end
section
variable {P : Program} {w : World} {K : PySem.W.Frag} {mg : Str → Option Value} {base : Heap}
theorem ok_Known____init__ (D : MetD K "Known" "__init__" "Known.__init__" s_Known____init__ ["self", "nulls", "different", "first", "last", "marks"]) (C_Known : ClsD K mg "Known" ["nulls", "different", "first", "last", "marks"]) (z_list : mg "list" = none) :
    C8.Mak P w K mg base 1 "Known" (clsAt K "Known") (sp_Known____init__ K) [] := by
  refine mak_of C_Known D sc_Known____init__ (fun vs H Q E h => ?_) (fun f cdv A outer s H vs Q E hr h => ?_)
  · obtain ⟨_, _, _, _, _, _, _, _, rfl, _⟩ := h
    rfl
  refine ⟨_, (pss_cons (ps_fld (pv 0) (pv 1) rfl)
    (pss_cons (ps_fld (pv 0) (pv 2) rfl)
    (pss_cons (ps_fld (pv 0) (pv 3) rfl)
    (pss_cons (ps_fld (pv 0) (pv 4) rfl)
    (pss_one (ps_fld (pv 0) (pe_callTy call_list_of (by rfl) z_list (by decide +kernel) (pa_cons (pv 5) pa_nil)) rfl)))))), ?_⟩
  obtain ⟨p, dx, a, n, d, f, l, xs, rfl, hp, ha, q⟩ := h
  have cl := C_Known.cl
  have lt1 : ∀ (g : Str) (v : V) (fs : List (Str × V)) (m : Nat), fs.length ≤ m → m < 998 → (putF g v fs).length < 1000 := fun g v fs m h1 h2 => by
    have := putF_le g v fs
    omega
  have le1 : ∀ (g : Str) (v : V) (fs : List (Str × V)) (m : Nat), fs.length ≤ m → (putF g v fs).length ≤ m + 1 := fun g v fs m h1 => by
    have := putF_le g v fs
    omega
  refine q_fld (ev_var rfl) (fun _ _ => ev_var rfl) hp cl C_Known.na.1 (by decide) fun H1 e1 => ?_
  have xa : Ex (wo p H) (upd H1 p (.ins (clsAt K "Known") dx (putF "nulls" n []))) := wx_mut (wx_of e1)
  refine q_fld (ev_var rfl) (fun _ _ => ev_var rfl) upd_same cl C_Known.na.2.1 (lt1 _ _ _ 0 (Nat.le_refl _) (by decide)) fun H2 e2 => ?_
  have xb : Ex (wo p H) (upd H2 p (.ins (clsAt K "Known") dx (putF "different" d (putF "nulls" n [])))) := wx_mut (xa.trans e2)
  refine q_fld (ev_var rfl) (fun _ _ => ev_var rfl) upd_same cl C_Known.na.2.2.1 (lt1 _ _ _ 1 (le1 _ _ _ 0 (Nat.le_refl _)) (by decide)) fun H3 e3 => ?_
  have xc : Ex (wo p H) (upd H3 p (.ins (clsAt K "Known") dx (putF "first" f (putF "different" d (putF "nulls" n []))))) := wx_mut (xb.trans e3)
  refine q_fld (ev_var rfl) (fun _ _ => ev_var rfl) upd_same cl C_Known.na.2.2.2.1 (lt1 _ _ _ 2 (le1 _ _ _ 1 (le1 _ _ _ 0 (Nat.le_refl _))) (by decide)) fun H4 e4 => ?_
  have xd : Ex (wo p H) (upd H4 p (.ins (clsAt K "Known") dx (putF "last" l (putF "first" f (putF "different" d (putF "nulls" n [])))))) := wx_mut (xc.trans e4)
  have npa : a ≠ p := fun z => by rw [z, hp] at ha; cases ha
  have ha4 : upd H4 p (.ins (clsAt K "Known") dx (putF "last" l (putF "first" f (putF "different" d (putF "nulls" n []))))) a = some (.lst xs) := xd _ _ (by rw [wo_ne npa]; exact ha)
  refine s_fldL (xs := xs) (el_list (ev_var rfl) (sq_of ha4)) (fun _ _ => ev_var rfl) upd_same cl C_Known.na.2.2.2.2.1 (lt1 _ _ _ 3 (le1 _ _ _ 2 (le1 _ _ _ 1 (le1 _ _ _ 0 (Nat.le_refl _)))) (by decide)) fun l' H5 hl' e5 h5 => ?_
  have nl : l' ≠ p := fun z => by rw [z, upd_same] at hl'; cases hl'
  refine q _ l' (wx_mut (xd.trans e5)) upd_same (by rw [upd_ne nl]; exact h5) ?_
  cases z : H l' with
  | none => rfl
  | some o =>
    have := xd l' o (by rw [wo_ne nl]; exact z)
    rw [this] at hl'
    cases hl'
end

--@SPLIT
/-! ### ranks as keys to sort by -/
def payT : V → Int ⊕ List Nat
  | .bl b => .inl (if b = true then 1 else 0)
  | .int i => .inl i
  | .str s => .inr s.cps.toList
  | _ => .inl 0
def tkR (x : V) : Tks := [.inl (kr x), payT x]
theorem lex_two (m n : Int) (a b : Int ⊕ List Nat) : tkLt [.inl m, a] [.inl n, b] = if m = n then PyProof.Rows.itemLt a b else decide (m < n) := by
  by_cases h : m = n
  · subst h
    rw [if_pos rfl]
    show PyProof.Rows.lexLt PyProof.Rows.itemOrd (Sum.inl m :: [a]) (Sum.inl m :: [b]) = _
    rw [PyProof.Rows.lex_self, PyProof.Rows.lex_cons]
    show (PyProof.Rows.itemLt a b || (!PyProof.Rows.itemLt b a && false)) = _
    rw [Bool.and_false, Bool.or_false]
  · rw [if_neg h]
    exact PyProof.Rows.lex_diff (O := PyProof.Rows.itemOrd) (x := Sum.inl m) (y := Sum.inl n) fun z => h (Sum.inl.inj z)
theorem kf_rank : KFam rkDs tkR true Ok where
  lt x y hx hy := by
    have e : ltDs (rkDs x) (rkDs y) = vlt x y := by
      show _ = ltD (.tuple (rkDs x)) (.tuple (rkDs y))
      rw [ltD]
    rw [e, vlt_two]
    have same : ∀ a b : Int, (if PyData.eqv (.int a) (.int b) = true then false else ltD (.int a) (.int b)) = decide (a < b) := fun a b => by
      show (if (a == b) = true then false else ltD (.int a) (.int b)) = _
      rw [ltD]
      by_cases z : a = b
      · subst z; simp
      · simp [z]
    rw [show tkLt (tkR x) (tkR y) = _ from lex_two _ _ _ _]
    by_cases h : kr x = kr y
    · rw [if_pos h, if_pos h]
      cases hx <;> cases hy <;> first | exact same _ _ | exact absurd h (by decide) | (simp [kr] at h; done) | skip
      rename_i a _ b _
      show (if (a == b) = true then false else ltD (.str a) (.str b)) = decide (a.cps.toList < b.cps.toList)
      rw [ltD]
      by_cases z : a = b
      · subst z; simp
      · simp [z]
    · rw [if_neg h, if_neg h]
  ord x y hx hy := by
    have := ord_rk hx hy
    rw [rkD, rkD, ordD] at this
    exact this
  lay x hx := by have := lay_rk hx; simpa [rkD, PyData.canLay0] using this
  dep x hx := by
    have := dep_rk hx
    have h2 : (rkD x).depth = PyData.depthAll (rkDs x) + 1 := rfl
    omega
  nol x hx := by have := noL_rk hx; simpa [rkD, noL] using this
  head x hx := ⟨_, _, rfl, by rw [if_pos rfl]; exact ⟨_, rfl⟩⟩

--@SPLIT
/-! ### the program's words of columns -/
section
variable {K : PySem.W.Frag} {σ : L2.St} {H : Hp} {ta tb te tl tk : TE} {v : V} {D : Ends} {tz : TS}
theorem el_lcR2 {tr : TA} {j : Nat} {vs : List Nat} {lo n : Int} (f : Nat → V) (h : EvA tr σ H [.int lo, .int n]) (hb : 0 ≤ lo ∧ lo ≤ n ∧ n ≤ 40000) (hw : ∀ x, wipe ((wipe σ vs).set j (some x)) vs = wipe σ vs)
    (he : ∀ (i : Nat) H1, Ex H H1 → lo + (i : Int) < n → Ev te ((wipe σ vs).set j (some (.int (lo + (i : Int))))) H1 (f i)) : EvL (tLc (iRng2 tr) (gName j) tYes te vs) σ H ((List.range (n - lo).toNat).map f) := fun H0 e Q q => h H0 e _ fun H1 e1 =>
  ⟨lo, n, rfl, ⟨by omega, by omega, by omega, by omega⟩, fun D hD =>
    lc_range (lo := lo) (n := (n - lo).toNat) (fun i H' => H1 D = none ∧ Ex H1 H' ∧ H' D = some (.lst ((List.range i).map f))) ⟨hD, Ex.new hD, upd_same⟩
      (fun i H' hi p => by
        obtain ⟨p1, p2, p3⟩ := p
        refine ⟨hw _, ?_⟩
        show te ((wipe σ vs).set j (some (.int (lo + (i : Int))))) H' fun y H4 => ∃ acc, H4 D = some (.lst acc) ∧ acc.length < sizeLine ∧ _
        refine he i H1 (e.trans e1) (by omega) H' p2 _ fun H4 e4 => ⟨_, e4 _ _ p3, sz_lt ?_, p1, Ex.mut (p2.trans e4) p1, ?_⟩
        · rw [List.length_map, List.length_range]; omega
        · rw [List.range_succ, List.map_append]
          exact upd_same)
      (fun H' p => q D H' (fresh_back e1 p.1) (e1.trans p.2.1) p.2.2)⟩
theorem ev_lenL {xs : List V} (h : EvL te σ H xs) : Ev (tCB (fun xs H Q => ∃ p ys, xs = [.ref p] ∧ (SqL K H p ys ∨ SqT K H p ys) ∧ Q (.int ys.length) H) (tCons te tNil)) σ H (.int xs.length) := fun H1 e Q q => h H1 e _ fun p H2 hp e2 h2 => ⟨p, xs, rfl, .inl (sq_of h2), q H2 e2⟩
theorem et_truL {a : Addr} {xs : List V} (h : Ev te σ H (.ref a)) (hx : SqL K H a xs) : EvT (fun σ H Q => te σ H fun x H' => ∃ k, TruV K x H' k ∧ Q k H') σ H (!xs.isEmpty) := fun H1 e Q q => h H1 e _ fun H2 e2 => ⟨!xs.isEmpty, .inl ⟨xs, ex_l (e.trans e2) hx, rfl⟩, q H2 e2⟩
theorem et_yes : EvT tYes σ H true := fun H1 e Q q => q H1 (Ex.refl H1)
/-- [.. for x in xs] -/
theorem el_lcY {a : Addr} {xs : List V} {j : Nat} {vs : List Nat} (f : Nat → V) (h : Ev tl σ H (.ref a)) (hx : SqL K H a xs) (hz : xs.length ≤ 40000) (hw : ∀ x, wipe ((wipe σ vs).set j (some x)) vs = wipe σ vs)
    (he : ∀ (i : Nat) (x : V) H1, Ex H H1 → xs[i]? = some x → Ev te ((wipe σ vs).set j (some x)) H1 (f i)) : EvL (tLc (iList K tl) (gName j) tYes te vs) σ H ((List.range xs.length).map f) := by
  rw [← given_all]
  exact el_lcL (fun _ => true) f h hx hz hw (fun i x H1 e1 hi => et_yes) (fun i x H1 e1 hi _ => he i x H1 e1 hi)
theorem el_sortR {P : Program} {w : World} {mg : Str → Option Value} {base : Heap} {lv : Nat} {f : Addr} {xs : List V} (h : EvL te σ H xs) (hk : ∀ H1, Ev tk σ H1 (.ref f)) (hH : L2.Held P w K mg base lv f (sp_rank K)) (hok : ∀ x ∈ xs, Ok x) :
    EvL (tCKw (rSortedF P w K mg base lv false fun f => [.ref f]) (tCons te tNil) (tCons tk tNil)) σ H (sortT tkR false xs) := fun H1 e Q q =>
  h H1 e _ fun p H2 hp e2 h2 => hk H2 H2 (Ex.refl H2) _ fun H3 e3 => ⟨p, f, sp_rank K, V, xs, id, rkDs, tkR, true, Ok, rfl, rfl, by rw [List.map_id]; exact sq_of (e3 _ _ h2), hH, kf_rank, hok,
    fun x hx H4 e4 Q4 q4 E4 => ⟨x, rfl, hok x hx, fun p' H' hp' e' h' => q4 _ H' e' (dp_rk (hok x hx) h')⟩, fun p' H' hp' e' h' => q p' H' (fresh_back (e2.trans e3) hp') ((e2.trans e3).trans e') (by rw [List.map_id] at h'; exact h')⟩
end
theorem given_filter (xs : List V) (f : V → Bool) : (given xs.length (fun i => f (xs.getD i .non)) fun i => xs.getD i .non) = xs.filter f := by
  unfold given
  have h : ∀ (n : Nat), n ≤ xs.length → (((List.range n).filter fun i => f (xs.getD i .non)).map fun i => xs.getD i .non) = (xs.take n).filter f := by
    intro n
    induction n with
    | zero => intro _; rfl
    | succ n ih =>
      intro hn
      have hx : xs[n]? = some xs[n] := List.getElem?_eq_getElem (by omega)
      rw [List.range_succ, List.filter_append, List.map_append, ih (by omega), List.take_add_one, hx, List.filter_append]
      show _ ++ (([n].filter fun i => f (xs.getD i .non)).map _) = _ ++ [xs[n]].filter f
      have hg : xs.getD n .non = xs[n] := by rw [List.getD_eq_getElem?_getD, hx]; rfl
      rw [List.filter_cons, List.filter_cons, hg]
      cases f xs[n]
      · rfl
      · show _ ++ [xs.getD n .non] = _ ++ [xs[n]]
        rw [hg]
  have := h xs.length (Nat.le_refl _)
  rw [List.take_length] at this
  exact this
theorem getD_is {xs : List V} {i : Nat} {x : V} (hi : xs[i]? = some x) : xs.getD i .non = x := by rw [List.getD_eq_getElem?_getD, hi]; rfl
def pres (xs : List V) : List V := xs.filter fun x => !decide (x = .non)
def nkR (x : V) : NK := .tup [.num (kr x), match payV x with | .int i => .num i | .str s => .text s | _ => .none]
theorem nk_rank {H : Hp} {p : Addr} {x : V} (h : Ok x) (hp : H p = some (.tup (rkL x))) : NKey H (nkR x) (.ref p) := by
  refine .tup hp (.cons (.num _) (.cons ?_ .nil))
  cases h with
  | non => exact .num _
  | bl b => exact .num _
  | int i => exact .num _
  | str s _ => exact .text _
theorem dep_nk (x : V) : (nkR x).depth ≤ 8 := by
  cases x <;> exact Nat.le_of_ble_eq_true rfl
section
variable {P : Program} {w : World} {K : PySem.W.Frag} {mg : Str → Option Value} {base : Heap}
theorem ok_unknown_column (D : Dn K mg "unknown_column" s_unknown_column ["different"]) (c_Known____init__ : C8.Mak P w K mg base 1 "Known" (clsAt K "Known") (sp_Known____init__ K) []) :
    C8.Cal P w K mg base 3 "unknown_column" (sp_unknown_column K) [] := by
  refine cal_of D sc_unknown_column (fun vs H Q E h => ?_) (fun f cdv A outer s H vs Q E hr h => ?_)
  · obtain ⟨_, rfl, _⟩ := h
    rfl
  refine ⟨_, (pss_one (ps_ret (C8.pe_mk c_Known____init__ hr (by decide) (by rfl) (pa_cons pe_int (pa_cons (pv 0) (pa_cons pe_non (pa_cons pe_non (pa_cons (pe_lst pa_nil) pa_nil)))))))), ?_⟩
  obtain ⟨d, rfl, q⟩ := h
  exact s_retO (ro_known (k := unk d) ev_c (ev_var rfl) ev_c ev_c (el_lst ea_nil (by show 0 ≤ 100000; decide))) fun p H' hp e' h' => q p H' hp e' h'
theorem ok_known_of (D : Dn K mg "known_of" s_known_of ["column"]) (c_Known____init__ : C8.Mak P w K mg base 1 "Known" (clsAt K "Known") (sp_Known____init__ K) []) (c_rank : C8.Cal P w K mg base 2 "rank" (sp_rank K) []) (z_len : mg "len" = none) (z_range : mg "range" = none) (z_sorted : mg "sorted" = none) (g_MARKS : ∃ u, mg "MARKS" = some u ∧ RelV (.int (8)) u) :
    C8.Cal P w K mg base 12 "known_of" (sp_known_of K) [] := by
  refine cal_of D sc_known_of (fun vs H Q E h => ?_) (fun f cdv A outer s H vs Q E hr h => ?_)
  · obtain ⟨_, _, rfl, _⟩ := h
    rfl
  refine ⟨_, (pss_cons (ps_set (i := 1) sc_known_of.nd rfl (.inr rfl) (pe_callBK (cr_sortedF (lv := 8) (hr.mono (by decide))) (by rfl) z_sorted (by decide +kernel) (pa_cons (pe_lc (own := [("value", 6)]) (g := gName 6) rfl sc_known_of.nd (pi_list (pv 0)) (blkOk_by (N := n_known_of) (sc := C8.fnScope s_known_of) (by decide +kernel)) (fun _ _ _ _ _ => pg_name (i := 6) sc_known_of.nd rfl (Or.inl rfl)) (fun _ _ _ _ _ => (pts_one (pt_cmpR op_notN (pv 6) pe_non (nomark _)))) (fun _ _ _ _ _ => (pv 6))) pa_nil) (pk_cons (C8.pe_gc rfl (gdef c_rank)) pk_nil)))
    (pss_cons (ps_set (i := 2) sc_known_of.nd rfl (.inl rfl) (pe_op op_sub (pe_callB call_len_seq (by rfl) z_len PySem.boot_len (pa_cons (pv 0) pa_nil)) (pe_callB call_len_seq (by rfl) z_len PySem.boot_len (pa_cons (pv 1) pa_nil))))
    (pss_cons (ps_if (pt_not (pt_truth (pv 1) (by intro _; rfl)))
      (pss_one (ps_ret (C8.pe_mk c_Known____init__ hr (by decide) (by rfl) (pa_cons (pv 2) (pa_cons pe_int (pa_cons pe_non (pa_cons pe_non (pa_cons (pe_lst pa_nil) pa_nil))))))))
      pss_nil)
    (pss_cons (ps_set (i := 3) sc_known_of.nd rfl (.inl rfl) (pe_callB call_lenN (by rfl) z_len PySem.boot_len (pa_cons (pe_dcN (hu64 hr) (own := [("value", 6)]) (g := gName 6) (tt := tYes) rfl sc_known_of.nd (pi_list (pv 1)) (blkOk_by (N := n_known_of) (sc := C8.fnScope s_known_of) (by decide +kernel)) (fun _ _ _ _ _ => pg_name (i := 6) sc_known_of.nd rfl (Or.inl rfl)) (fun _ _ _ _ _ => pts_nil) (fun _ _ _ _ _ => (C8.pe_c c_rank hr (by decide) (by rfl) (pa_cons (pv 6) pa_nil))) (fun _ _ _ _ _ => pe_bl)) pa_nil)))
    (pss_cons (ps_setLc (i := 4) (own := [("number", 5)]) (g := gName 5) (tt := tYes) rfl sc_known_of.nd rfl rfl (sw_true rfl rfl rfl (by decide +kernel)) (pi_range2 rfl z_range (pa_cons pe_int (pa_cons (pe_op op_add (C8.pe_gc rfl g_MARKS) pe_int) pa_nil))) (blkOk_by (N := n_known_of) (sc := C8.fnScope s_known_of) (by decide +kernel)) (fun _ _ _ _ _ => pg_name (i := 5) sc_known_of.nd rfl (Or.inl rfl)) (fun _ _ _ _ _ => pts_nil) (fun _ _ _ _ _ => (pe_op op_fdiv (pe_op op_sub (pe_op op_add (pe_op op_mul (pv 5) (pe_callB (call_len_seqK (K := K) rfl) (by rfl) z_len PySem.boot_len (pa_cons (pv 1) pa_nil))) (C8.pe_gc rfl g_MARKS)) pe_int) (C8.pe_gc rfl g_MARKS))))
    (pss_one (ps_ret (C8.pe_mk c_Known____init__ hr (by decide) (by rfl) (pa_cons (pv 2) (pa_cons (pv 3) (pa_cons (pe_ix ix_list (pv 1) pe_int (fun _ _ => rfl)) (pa_cons (pe_ix ix_list (pv 1) (pe_un un_neg pe_int) (fun _ _ => rfl)) (pa_cons (pe_lc (own := [("place", 7)]) (g := gName 7) (tt := tYes) rfl sc_known_of.nd (pi_list (pv 4)) (blkOk_by (N := n_known_of) (sc := C8.fnScope s_known_of) (by decide +kernel)) (fun _ _ _ _ _ => pg_name (i := 7) sc_known_of.nd rfl (Or.inl rfl)) (fun _ _ _ _ _ => pts_nil) (fun _ _ _ _ _ => (pe_ix (ix_listK (K := K) rfl) (pv 1) (pe_op op_sub (pv 7) pe_int) (fun _ _ => rfl)))) pa_nil))))))))))))), ?_⟩
  obtain ⟨a, xs, rfl, hS, hok, hz, q⟩ := h
  have hH : L2.Held P w K mg base 8 (calA c_rank) (sp_rank K) := held_of c_rank (calA_mg _) (by decide)
  have hpo : ∀ x ∈ pres xs, Ok x := fun x hx => hok x (List.mem_filter.mp hx).1
  refine q_asgL (xs := sortT tkR false (pres xs)) (el_sortR (lv := 8) ?_ (fun _ => ev_c) hH hpo) fun pp H1 hpp e1 h1 => ?_
  · unfold pres
    rw [← given_filter]
    refine el_lcL _ _ (ev_var rfl) hS (by omega) (fun _ => rfl) (fun i x H1 e1 hi => ?_) (fun i x H1 e1 hi _ => ?_)
    · rw [getD_is hi]
      walk_at "et"
    · rw [getD_is hi]
      exact ev_var rfl
  have hper := sortT_perm tkR false (pres xs)
  have hyo : ∀ y ∈ sortT tkR false (pres xs), Ok y := fun y hy => hpo y (hper.mem_iff.mp hy)
  have hyl : (sortT tkR false (pres xs)).length ≤ xs.length := by rw [hper.length_eq]; exact List.length_filter_le _ _
  generalize sortT tkR false (pres xs) = ys at h1 hyo hyl
  refine q_asg (v := .int ((xs.length - ys.length : Nat) : Int)) (ev_is (ev_op (ev_len (ev_var rfl) (ex_l e1 hS)) (ev_len (ev_var rfl) (sq_of h1)) rv_I0) (by rw [show ((xs.length : Nat) : Int) - ((ys.length : Nat) : Int) = ((xs.length - ys.length : Nat) : Int) by omega])) fun H2 e2 => ?_
  refine q_when (b := !!ys.isEmpty) (et_not (et_truL (ev_var rfl) (sq_of (e2 _ _ h1)))) (fun hb H3 e3 => ?_) fun hb H3 e3 => ?_
  · exact s_retR (rn_known (k := ⟨xs.length - ys.length, 0, .non, .non, []⟩) (ev_var rfl) ev_c ev_c ev_c (el_lst ea_nil (by show 0 ≤ 100000; decide))) fun p H' hp e' h' => q p H' (fresh_back (e1.trans (e2.trans e3)) hp) ((e1.trans (e2.trans e3)).trans e') ⟨_, ⟨.non, .non, (fun x hx => by cases hx), by show 0 ≤ 8; decide, by show 0 ≤ 1000; decide, fun z => absurd rfl z⟩, KnAt.mn K _ _ _ _ (nu_back (e1.trans (e2.trans e3))) h'⟩
  have hne : ys ≠ [] := fun z => by rw [z] at hb; exact nomatch hb
  have hpos : 0 < ys.length := List.length_pos_iff.mpr hne
  have h3 := e3 _ _ (e2 _ _ h1)
  refine q_asgN (en_lenDc (P := P) (w := w) (R := fun n => 1 ≤ n ∧ n ≤ 1000) ?_) fun v H4 ⟨n, ev, hn⟩ e4 => ?_
  · refine fun H4 e4 Q q => dc_list (fun i => nkR (ys.getD i .non)) (ev_var rfl) (sq_of (e4 _ _ h3)) (by omega) (fun _ => rfl) (fun i => dep_nk _) (fun i x H5 e5 hi Q q => ?_) (fun x H5 => ev_c) H4 (Ex.refl H4) Q fun p H5 hp e5 ⟨kvs, nd, hl, hp0⟩ => q p H5 hp e5 ⟨kvs, nd, by omega, by omega, by omega⟩
    rw [getD_is hi] at q
    have ok := hyo x (List.mem_of_getElem? hi)
    exact ec_rank (ev_var rfl) ok H5 (Ex.refl H5) Q fun p H6 hp e6 h6 => q p H6 e6 (nk_rank ok h6)
  subst ev
  have h4 := e4 _ _ h3
  have hmul : ∀ i : Nat, i < 8 → ((1 : Int) + (i : Int)) * (ys.length : Int) = (((1 + i) * ys.length : Nat) : Int) := fun i _ => by rw [Int.natCast_mul]; congr 1
  have hb8 : ∀ i : Nat, i < 8 → (1 + i) * ys.length ≤ 8 * ys.length := fun i hi => Nat.mul_le_mul_right _ (by omega)
  have hb1 : ∀ i : Nat, ys.length ≤ (1 + i) * ys.length := fun i => Nat.le_mul_of_pos_left _ (by omega)
  refine q_asgL (xs := (List.range 8).map fun i => V.int ((((1 + i) * ys.length + 7) / 8 : Nat) : Int)) (el_lcR2 (lo := 1) (n := 9) _ (ea_cons ev_c (ea_cons (ev_op ev_c ev_c rv_I0) ea_nil)) (by decide) (fun _ => rfl) fun i H5 e5 hi => ?_) fun pl H5 hpl e5 h5 => ?_
  · refine ev_is (ev_op (ev_op (ev_op (ev_op (ev_var rfl) (ev_len (ev_var rfl) (sq_of (e5 _ _ h4))) (rv_I (.inl ⟨by omega, by omega⟩))) ev_c rv_I0) ev_c rv_I0) ev_c (rv_I ⟨by decide, by decide⟩)) ?_
    rw [hmul i (by omega)]
    congr 1
    omega
  have x5 : Ex H H5 := e1.trans (e2.trans (e3.trans (e4.trans e5)))
  have idx : ∀ i : Nat, i < 8 → 1 ≤ ((1 + i) * ys.length + 7) / 8 ∧ ((1 + i) * ys.length + 7) / 8 - 1 < ys.length := fun i hi => by
    have h8 := hb8 i hi
    have h1 := hb1 i
    generalize (1 + i) * ys.length = m at h8 h1
    omega
  have at_ : ∀ j, j < ys.length → ys[j]? = some (ys.getD j .non) := fun j hj => by rw [List.getD_eq_getElem?_getD, List.getElem?_eq_getElem hj]; rfl
  have h50 := e5 _ _ h4
  have hlast : atI ys (-1) = some (ys.getD (ys.length - 1) .non) := by
    unfold atI ixN
    rw [if_neg (by omega), if_pos (by omega), show ((-1 : Int) + (ys.length : Int)).toNat = ys.length - 1 by omega]
    exact at_ _ (by omega)
  refine s_retR (rn_known (k := ⟨xs.length - ys.length, n, ys.getD 0 .non, ys.getD (ys.length - 1) .non, (List.range 8).map fun i => ys.getD (((1 + i) * ys.length + 7) / 8 - 1) .non⟩) (ev_var rfl) (ev_var rfl) (ev_op (ev_var rfl) ev_c (rv_ixL (sq_of h50) (atI_nat (j := 0) (at_ 0 hpos)))) (ev_op (ev_var rfl) (ev_un ev_c ru_neg) (rv_ixL (sq_of h50) hlast)) ?_) fun p H' hp e' h' => q p H' (fresh_back x5 hp) (x5.trans e') ⟨_, ?_, KnAt.mn K _ _ _ _ (nu_back x5) h'⟩
  · have key : (List.range ((List.range 8).map fun i => V.int ((((1 + i) * ys.length + 7) / 8 : Nat) : Int)).length).map (fun i => ys.getD (((1 + i) * ys.length + 7) / 8 - 1) .non) = (List.range 8).map fun i => ys.getD (((1 + i) * ys.length + 7) / 8 - 1) .non := by rw [List.length_map, List.length_range]
    show EvL _ _ _ ((List.range 8).map fun i => ys.getD (((1 + i) * ys.length + 7) / 8 - 1) .non)
    rw [← key]
    refine el_lcY _ (ev_var rfl) (sq_of h5) (by rw [List.length_map, List.length_range]; decide) (fun _ => rfl) fun i x H6 e6 hi => ?_
    have hi8 : i < 8 := by have := (List.getElem?_eq_some_iff.mp hi).1; simpa using this
    rw [List.getElem?_map, List.getElem?_range hi8] at hi
    cases hi
    obtain ⟨g1, g2⟩ := idx i hi8
    exact ev_op (ev_var rfl) (ev_op (ev_var rfl) ev_c rv_I0) (rv_ixL (sq_of (e6 _ _ h50)) (by rw [show ((((1 + i) * ys.length + 7) / 8 : Nat) : Int) - 1 = ((((1 + i) * ys.length + 7) / 8 - 1 : Nat) : Int) by omega]; exact atI_nat (at_ _ g2)))
  · have okD : ∀ j, Ok (ys.getD j .non) := fun j => by
      rw [List.getD_eq_getElem?_getD]
      cases e : ys[j]? with
      | none => exact .non
      | some x => exact hyo x (List.mem_of_getElem? e)
    refine ⟨okD _, okD _, fun x hx => ?_, by show ((List.range 8).map _).length ≤ 8; rw [List.length_map, List.length_range]; exact Nat.le_refl _, hn.2, fun _ => ⟨hn.1, ?_⟩⟩
    · obtain ⟨i, _, rfl⟩ := List.mem_map.mp hx
      exact okD _
    · show ((List.range 8).map _)[7]? = some (ys.getD (ys.length - 1) .non)
      rw [List.getElem?_map, List.getElem?_range (by decide)]
      show some (ys.getD (((1 + 7) * ys.length + 7) / 8 - 1) .non) = _
      rw [show ((1 + 7) * ys.length + 7) / 8 - 1 = ys.length - 1 by omega]
end

--@SPLIT
/-! ### shares -/
def upI (n d : Int) : Int := -(-n / d)
def allI (s : Int) (k : Kn) (m : Int) : Int := if m = 0 then 0 else upI (s * (m - (if m < (k.nul : Int) then m else (k.nul : Int)))) m
def cnt (n : Nat) (b : Nat → Bool) : Nat := ((List.range n).filter b).length
def btw (n : Nat) : Int := upI (1000 * (2 * (n : Int) + 1)) 16
def mkK (k : Kn) (f : V → Bool) : Nat := cnt k.mks.length fun i => f (k.mks.getD i .non)
def mxI (a b : Int) : Int := if b > a then b else a
def eqS (k : Kn) (v : V) : Int := if (vlt v k.fst || vlt k.lst v) = true then 0 else mxI (upI 1000 k.dif) (125 * ((mkK k fun m => veq m v : Nat) - 1 : Int))
def lsS (k : Kn) (v : V) : Int := if (!vlt k.fst v) = true then 0 else if vlt k.lst v = true then 1000 else btw (mkK k fun m => vlt m v)
def amS (k : Kn) (v : V) : Int := if vlt v k.fst = true then 0 else if (!vlt v k.lst) = true then 1000 else btw (mkK k fun m => !vlt v m)
def isS (a b : Str) : Bool := decide (V.str a = V.str b)
def besI (nm : Str) (k : Kn) (v : V) (m : Int) : Int :=
  if k.dif = 0 then 0 else if k.mks.isEmpty = true then (if isS nm "equal" = true then upI 1000 k.dif else 333)
  else if decide (V.int (kr v) = V.int (kr k.fst)) = false then 0 else allI (if isS nm "equal" = true then eqS k v else if isS nm "less" = true then lsS k v else amS k v) k m
def behI (nm : Str) (k : Kn) (v : V) (m : Int) : Int :=
  if k.dif = 0 then 0 else if k.mks.isEmpty = true then 333
  else mxI (allI 1000 k m - besI (if isS nm "less" = true then "at most" else "less") k v m) 0
theorem upI_le {n d c : Int} (hd : 0 < d) (h : n ≤ c * d) : upI n d ≤ c := by
  unfold upI
  have : -c ≤ -n / d := (Int.le_ediv_iff_mul_le hd).mpr (by rw [Int.neg_mul]; omega)
  omega
theorem upI_nn {n d : Int} (hd : 0 < d) (h : 0 ≤ n) : 0 ≤ upI n d := by
  unfold upI
  have : -n / d ≤ 0 / d := Int.ediv_le_ediv hd (by omega)
  rw [Int.zero_ediv] at this
  omega
def In1 (s : Int) : Prop := 0 ≤ s ∧ s ≤ 1000
theorem all_in {s : Int} {k : Kn} {m : Int} (hs : In1 s) (hm : 0 ≤ m) : In1 (allI s k m) := by
  unfold allI
  split
  · exact ⟨Int.le_refl _, by decide⟩
  · have hm1 : 0 < m := by omega
    have h1 : 0 ≤ m - (if m < (k.nul : Int) then m else (k.nul : Int)) ∧ m - (if m < (k.nul : Int) then m else (k.nul : Int)) ≤ m := by split <;> omega
    refine ⟨upI_nn hm1 (Int.mul_nonneg hs.1 h1.1), upI_le hm1 ?_⟩
    exact Int.mul_le_mul hs.2 h1.2 h1.1 (by decide)
theorem cnt_le (n : Nat) (b : Nat → Bool) : cnt n b ≤ n := by
  unfold cnt
  have := List.length_filter_le b (List.range n)
  rw [List.length_range] at this
  exact this
theorem cnt_lt {n : Nat} {b : Nat → Bool} {i : Nat} (hi : i < n) (h : b i = false) : cnt n b < n := by
  unfold cnt
  rcases Nat.lt_or_ge ((List.range n).filter b).length n with z | z
  · exact z
  · exfalso
    have h2 : ((List.range n).filter b).length = (List.range n).length := by
      have := List.length_filter_le b (List.range n)
      rw [List.length_range] at this ⊢
      omega
    have := (List.filter_eq_self.mp (List.Sublist.eq_of_length List.filter_sublist h2)) i (List.mem_range.mpr hi)
    rw [h] at this
    cases this
theorem btw_in {n : Nat} (h : n ≤ 7) : In1 (btw n) := by
  unfold btw upI In1
  omega
theorem mks_last {k : Kn} (hk : KnOk k) (h : k.mks.isEmpty = false) : 1 ≤ k.dif ∧ 7 < k.mks.length ∧ k.mks.getD 7 .non = k.lst := by
  obtain ⟨h1, h2⟩ := hk.last fun z => by rw [z] at h; cases h
  exact ⟨h1, (List.getElem?_eq_some_iff.mp h2).1, by rw [List.getD_eq_getElem?_getD, h2]; rfl⟩
theorem dif_in {k : Kn} (h : 1 ≤ k.dif) : In1 (upI 1000 k.dif) := ⟨upI_nn (by omega) (by decide), upI_le (by omega) (by omega)⟩
theorem eqS_in {k : Kn} {v : V} (hk : KnOk k) (h1 : 1 ≤ k.dif) : In1 (eqS k v) := by
  have h8 := hk.len
  unfold eqS
  split
  · exact ⟨Int.le_refl _, by decide⟩
  · have hd := dif_in h1
    have hc : mkK k (fun m => veq m v) ≤ k.mks.length := cnt_le _ _
    unfold mxI
    unfold In1 at hd ⊢
    split <;> omega
theorem lsS_in {k : Kn} {v : V} (h7 : 7 < k.mks.length) (hl : k.mks.getD 7 .non = k.lst) (h8 : k.mks.length ≤ 8) : In1 (lsS k v) := by
  unfold lsS
  split
  · exact ⟨Int.le_refl _, by decide⟩
  split
  · exact ⟨by decide, Int.le_refl _⟩
  · rename_i hv
    have : mkK k (fun m => vlt m v) < k.mks.length := cnt_lt h7 (by show vlt (k.mks.getD 7 .non) v = false; rw [hl]; rw [Bool.not_eq_true] at hv; exact hv)
    exact btw_in (by omega)
theorem amS_in {k : Kn} {v : V} (h7 : 7 < k.mks.length) (hl : k.mks.getD 7 .non = k.lst) (h8 : k.mks.length ≤ 8) : In1 (amS k v) := by
  unfold amS
  split
  · exact ⟨Int.le_refl _, by decide⟩
  split
  · exact ⟨by decide, Int.le_refl _⟩
  · rename_i hv
    have : mkK k (fun m => !vlt v m) < k.mks.length := cnt_lt h7 (by show (!vlt v (k.mks.getD 7 .non)) = false; rw [hl]; rw [Bool.not_eq_true] at hv; exact hv)
    exact btw_in (by omega)
theorem bes_in {nm : Str} {k : Kn} {v : V} {m : Int} (hk : KnOk k) (hm : 0 ≤ m) : In1 (besI nm k v m) := by
  unfold besI
  split
  · exact ⟨Int.le_refl _, by decide⟩
  rename_i hd
  split
  · split
    · exact dif_in (by omega)
    · exact ⟨by decide, by decide⟩
  rename_i he
  obtain ⟨h1, h7, hl⟩ := mks_last hk (by rw [Bool.not_eq_true] at he; exact he)
  have h8 := hk.len
  split
  · exact ⟨Int.le_refl _, by decide⟩
  refine all_in ?_ hm
  split
  · exact eqS_in hk h1
  split
  · exact lsS_in h7 hl h8
  · exact amS_in h7 hl h8
theorem beh_in {nm : Str} {k : Kn} {v : V} {m : Int} (hk : KnOk k) (hm : 0 ≤ m) : In1 (behI nm k v m) := by
  unfold behI
  split
  · exact ⟨Int.le_refl _, by decide⟩
  split
  · exact ⟨by decide, by decide⟩
  · have h1 := all_in (s := 1000) (k := k) ⟨by decide, Int.le_refl _⟩ hm
    generalize (if isS nm "less" = true then ("at most" : Str) else "less") = o
    have h2 := bes_in (nm := o) (v := v) hk hm
    unfold mxI
    unfold In1 at h1 h2 ⊢
    split <;> omega
def colsI (a b : Kn) : Int := if (if b.dif > a.dif then b.dif else a.dif) = 0 then 0 else upI 1000 ((if b.dif > a.dif then b.dif else a.dif : Nat) : Int)
theorem cols_in (a b : Kn) : In1 (colsI a b) := by
  unfold colsI
  generalize (if b.dif > a.dif then b.dif else a.dif) = n
  split
  · exact ⟨Int.le_refl _, by decide⟩
  · rename_i h
    exact ⟨upI_nn (by omega) (by decide), upI_le (by omega) (by omega)⟩
def nulI (k : Kn) (m : Int) : Int := if m = 0 then 0 else (if 1000 < upI (1000 * (k.nul : Int)) m then 1000 else upI (1000 * (k.nul : Int)) m)
theorem nul_in {k : Kn} {m : Int} (hm : 0 ≤ m) : In1 (nulI k m) := by
  unfold nulI
  split
  · exact ⟨Int.le_refl _, by decide⟩
  · have := upI_nn (n := 1000 * (k.nul : Int)) (d := m) (by omega) (by omega)
    unfold In1
    split <;> omega
def colAt (ks : List Kn) (n : Nat) : Kn := ks.getD n (unk 3)
theorem colAt_ok {ks : List Kn} (h : ∀ k ∈ ks, KnOk k) (n : Nat) : KnOk (colAt ks n) := by
  unfold colAt
  rw [List.getD_eq_getElem?_getD]
  cases e : ks[n]? with
  | none => exact unk_ok (by decide)
  | some k => exact h k (List.mem_of_getElem? e)
def cmpI (ks : List Kn) (m : Int) (nm : Str) : Cnd → Cnd → Int
  | .col i, .col j => if (isS nm "equal" || isS nm "same") = true then colsI (colAt ks i) (colAt ks j) else 333
  | .col i, .cst v => if (isS nm "equal" || isS nm "less" || isS nm "at most") = true then besI nm (colAt ks i) v m else 333
  | .cst v, .col i => if isS nm "equal" = true then besI nm (colAt ks i) v m else if (isS nm "less" || isS nm "at most") = true then behI nm (colAt ks i) v m else 333
  | _, _ => 333
theorem u333 : In1 333 := ⟨by decide, by decide⟩
theorem cmp_in {ks : List Kn} {m : Int} (h : ∀ k ∈ ks, KnOk k) (hm : 0 ≤ m) (nm : Str) (a b : Cnd) : In1 (cmpI ks m nm a b) := by
  unfold cmpI
  split
  · split
    · exact cols_in _ _
    · exact u333
  · split
    · exact bes_in (colAt_ok h _) hm
    · exact u333
  · split
    · exact bes_in (colAt_ok h _) hm
    · split
      · exact beh_in (colAt_ok h _) hm
      · exact u333
  · exact u333
def isCol : Cnd → Option Nat
  | .col n => some n
  | _ => none
def shrI (ks : List Kn) (m : Int) : Cnd → Int
  | .cst v => if v = .bl true then 1000 else 0
  | .col _ => 333
  | .un nm a => if isS nm "not" = true then 1000 - shrI ks m a else if isS nm "is null" = true then (match isCol a with | some n => nulI (colAt ks n) m | none => 333) else 333
  | .bin nm a b => if isS nm "and" = true then upI (shrI ks m a * shrI ks m b) 1000 else if isS nm "or" = true then (if 1000 < shrI ks m a + shrI ks m b then 1000 else shrI ks m a + shrI ks m b) else cmpI ks m nm a b
theorem sh_in {ks : List Kn} {m : Int} (h : ∀ k ∈ ks, KnOk k) (hm : 0 ≤ m) : ∀ e : Cnd, In1 (shrI ks m e)
  | .cst v => by
    unfold shrI
    split
    · exact ⟨by decide, Int.le_refl _⟩
    · exact ⟨Int.le_refl _, by decide⟩
  | .col _ => u333
  | .un nm a => by
    have ih := sh_in h hm a
    unfold shrI
    split
    · unfold In1 at ih ⊢
      omega
    · split
      · cases isCol a with
        | none => exact u333
        | some n => exact nul_in hm
      · exact u333
  | .bin nm a b => by
    have ih1 := sh_in h hm a
    have ih2 := sh_in h hm b
    unfold shrI
    split
    · refine ⟨upI_nn (by decide) (Int.mul_nonneg ih1.1 ih2.1), upI_le (by decide) ?_⟩
      exact Int.mul_le_mul ih1.2 ih2.2 ih2.1 (by decide)
    · split
      · unfold In1 at ih1 ih2 ⊢
        split <;> omega
      · exact cmp_in h hm nm a b

--@SPLIT
/-! ### the program's shares -/
theorem dv_ok {x : V} (h : DV x) : Ok x := by
  cases h with
  | non => exact .non
  | bl b => exact .bl b
  | int i _ => exact .int i
  | str l hl hc => exact .str _ (strOk_S fun c h => signs_ok c (hc c h))
theorem dp_tupD {K : PySem.W.Frag} {H : Hp} {v : V} {ds : List PyData} (h : Dp K H v (.tuple ds)) : ∃ b ys, v = .ref b ∧ SqT K H b ys ∧ DpAll K H ys ds := by
  cases h with
  | tup hS hd => exact ⟨_, _, rfl, hS, hd⟩
theorem dp_strD {K : PySem.W.Frag} {H : Hp} {v : V} {s : Str} (h : Dp K H v (.str s)) : v = .str s := by cases h; rfl
theorem dp_intD {K : PySem.W.Frag} {H : Hp} {v : V} {n : Int} (h : Dp K H v (.int n)) : v = .int n := by cases h; rfl
/-- a condition as data -/
def Cx (K : PySem.W.Frag) (H : Hp) (v : V) (e : Cnd) : Prop := Dp K H v e.d ∧ e.ok 1000
theorem Cx.ex {K : PySem.W.Frag} {H H' : Hp} {v : V} {e : Cnd} (h : Cx K H v e) (x : Ex H H') : Cx K H' v e := ⟨ex_dp x h.1, h.2⟩
theorem okW {w w2 : Nat} (h : w ≤ w2) : ∀ {e : Cnd}, e.ok w → e.ok w2
  | _, .col n hn => .col n (by omega)
  | _, .cst v hv => .cst v hv
  | _, .un nm a hn ha => .un nm a hn (okW h ha)
  | _, .bin nm a b hn ha hb => .bin nm a b hn (okW h ha) (okW h hb)
def Cnd.hd : Cnd → Str
  | .col _ => "column"
  | .cst _ => "constant"
  | .un _ _ => "unary"
  | .bin _ _ _ => "binary"
/-- what stands at a condition's address -/
inductive CxV (K : PySem.W.Frag) (H : Hp) : Cnd → List V → Prop where
  | col (n : Nat) : CxV K H (.col n) [.str "column", .int (n : Int)]
  | cst (x : V) (h : DV x) : CxV K H (.cst x) [.str "constant", x]
  | un (nm : Str) (a : Cnd) (y : V) (hn : nm ∈ unNames) (h : Cx K H y a) : CxV K H (.un nm a) [.str "unary", .str nm, y]
  | bin (nm : Str) (a b : Cnd) (y z : V) (hn : nm ∈ binNames) (h : Cx K H y a) (g : Cx K H z b) : CxV K H (.bin nm a b) [.str "binary", .str nm, y, z]
theorem cx_at {K : PySem.W.Frag} {H : Hp} {v : V} {e : Cnd} (h : Cx K H v e) : ∃ b ys, v = .ref b ∧ SqT K H b ys ∧ CxV K H e ys := by
  obtain ⟨hd, ho⟩ := h
  cases e with
  | col n =>
    obtain ⟨b, ys, e1, hS, hds⟩ := dp_tupD (ds := [.str "column", .int (n : Int)]) hd
    cases hds with
    | cons h1 h2 => cases h2 with
      | cons h3 h4 =>
        cases h4
        cases dp_strD h1
        cases dp_intD h3
        exact ⟨b, _, e1, hS, .col n⟩
  | cst x =>
    obtain ⟨b, ys, e1, hS, hds⟩ := dp_tupD (ds := [.str "constant", vDc x]) hd
    cases hds with
    | cons h1 h2 => cases h2 with
      | cons h3 h4 =>
        cases h4
        cases dp_strD h1
        cases ho with
        | cst _ hv =>
          cases vDc_is hv.pl h3
          exact ⟨b, _, e1, hS, .cst _ hv⟩
  | un nm a =>
    obtain ⟨b, ys, e1, hS, hds⟩ := dp_tupD (ds := [.str "unary", .str nm, a.d]) hd
    cases hds with
    | cons h1 h2 => cases h2 with
      | cons h3 h4 => cases h4 with
        | cons h5 h6 =>
          cases h6
          cases dp_strD h1
          cases dp_strD h3
          cases ho with
          | un _ _ hn ha => exact ⟨b, _, e1, hS, .un nm a _ hn ⟨h5, ha⟩⟩
  | bin nm a c =>
    obtain ⟨b, ys, e1, hS, hds⟩ := dp_tupD (ds := [.str "binary", .str nm, a.d, c.d]) hd
    cases hds with
    | cons h1 h2 => cases h2 with
      | cons h3 h4 => cases h4 with
        | cons h5 h6 => cases h6 with
          | cons h7 h8 =>
            cases h8
            cases dp_strD h1
            cases dp_strD h3
            cases ho with
            | bin _ _ _ hn ha hb => exact ⟨b, _, e1, hS, .bin nm a c _ _ hn ⟨h5, ha⟩ ⟨h7, hb⟩⟩
theorem CxV.hd {K : PySem.W.Frag} {H : Hp} {e : Cnd} {ys : List V} (h : CxV K H e ys) : ys[0]? = some (.str e.hd) := by cases h <;> rfl
theorem eqv2S (x y u v : Str) : PyData.eqv (.tuple [.str x, .str y]) (.tuple [.str u, .str v]) = (isS x u && isS y v) := by
  have h : ∀ a b : Str, PyData.eqv (.str a) (.str b) = isS a b := fun a b => by
    show (a == b) = _
    unfold isS
    rw [Bool.eq_iff_iff, beq_iff_eq, decide_eq_true_eq]
    exact ⟨fun h => by rw [h], fun h => V.str.inj h⟩
  show (PyData.eqv (.str x) (.str u) && (PyData.eqv (.str y) (.str v) && true)) = _
  rw [h, h, Bool.and_true]
theorem inV_cons (a x : Str) (xs : List V) : inV (.str a) (.str x :: xs) = (isS a x || inV (.str a) xs) := by
  show (eqV (.str x) (.str a) || _) = _
  congr 1
  show (x == a) = _
  unfold isS
  rw [Bool.eq_iff_iff, beq_iff_eq, decide_eq_true_eq]
  exact ⟨fun h => by rw [h], fun h => (V.str.inj h).symm⟩
def ColsAt (K : PySem.W.Frag) (H : Hp) (c : Addr) (ks : List Kn) : Prop := Lst2 (KnAt K) H c ks ∧ (∀ k ∈ ks, KnOk k) ∧ ks.length ≤ 1000
theorem ColsAt.ex {K : PySem.W.Frag} {H H' : Hp} {c : Addr} {ks : List Kn} (h : ColsAt K H c ks) (x : Ex H H') : ColsAt K H' c ks := ⟨Lst2.mn (KnAt.mn K) _ _ _ _ x h.1, h.2⟩
abbrev Many (m : Int) : Prop := 0 ≤ m ∧ m ≤ 1000
def sp_rounded_up (K : PySem.W.Frag) : Sp := fun vs H Q _ => ∃ n d : Int, vs = [.int n, .int d] ∧ 0 < d ∧ d < 1073741824 ∧ ∀ H', Ex H H' → Q (.int (upI n d)) H'
def sp__law_up (K : PySem.W.Frag) : Sp := sp_rounded_up K
def sp_column_at (K : PySem.W.Frag) : Sp := fun vs H Q _ => ∃ (n : Nat) (c : Addr) (ks : List Kn), vs = [.int (n : Int), .ref c] ∧ ColsAt K H c ks ∧ ∀ p H', Ex H H' → KnAt K H' p (colAt ks n) → Q (.ref p) H'
def sp__of_all_rows (K : PySem.W.Frag) : Sp := fun vs H Q _ => ∃ (s m : Int) (p : Addr) (k : Kn), vs = [.int s, .ref p, .int m] ∧ KnAt K H p k ∧ In1 s ∧ Many m ∧ ∀ H', Ex H H' → Q (.int (allI s k m)) H'
def sp__between_marks (K : PySem.W.Frag) : Sp := fun vs H Q _ => ∃ n : Nat, vs = [.int (n : Int)] ∧ ∀ H', Ex H H' → Q (.int (btw n)) H'
def spSh (f : Kn → V → Int) (K : PySem.W.Frag) : Sp := fun vs H Q _ => ∃ (p : Addr) (k : Kn) (v : V), vs = [.ref p, v] ∧ KnAt K H p k ∧ KnOk k ∧ Ok v ∧ 1 ≤ k.dif ∧ ∀ H', Ex H H' → Q (.int (f k v)) H'
def sp__share_of_equal (K : PySem.W.Frag) : Sp := spSh eqS K
def sp__share_of_less (K : PySem.W.Frag) : Sp := spSh lsS K
def sp__share_of_at_most (K : PySem.W.Frag) : Sp := spSh amS K
def spBes (f : Str → Kn → V → Int → Int) (K : PySem.W.Frag) : Sp := fun vs H Q _ => ∃ (nm : Str) (p : Addr) (k : Kn) (v : V) (m : Int), vs = [.str nm, .ref p, v, .int m] ∧ KnAt K H p k ∧ KnOk k ∧ Ok v ∧ Many m ∧ ∀ H', Ex H H' → Q (.int (f nm k v m)) H'
def sp__beside_value (K : PySem.W.Frag) : Sp := spBes besI K
def sp__behind_value (K : PySem.W.Frag) : Sp := spBes behI K
def sp__share_of_columns (K : PySem.W.Frag) : Sp := fun vs H Q _ => ∃ (p r : Addr) (a b : Kn), vs = [.ref p, .ref r] ∧ KnAt K H p a ∧ KnAt K H r b ∧ KnOk a ∧ KnOk b ∧ ∀ H', Ex H H' → Q (.int (colsI a b)) H'
def sp__share_of_comparison (K : PySem.W.Frag) : Sp := fun vs H Q _ => ∃ (v : V) (nm : Str) (a b : Cnd) (m : Int) (c : Addr) (ks : List Kn), vs = [v, .int m, .ref c] ∧ Cx K H v (.bin nm a b) ∧ ColsAt K H c ks ∧ Many m ∧ ∀ H', Ex H H' → Q (.int (cmpI ks m nm a b)) H'
def sp__share_of_nulls (K : PySem.W.Frag) : Sp := fun vs H Q _ => ∃ (p : Addr) (k : Kn) (m : Int), vs = [.ref p, .int m] ∧ KnAt K H p k ∧ Many m ∧ ∀ H', Ex H H' → Q (.int (nulI k m)) H'
def spShare (f : List Kn → Int → Cnd → Int) (n : Nat) (K : PySem.W.Frag) : Sp := fun vs H Q _ => ∃ (v : V) (e : Cnd) (m : Int) (c : Addr) (ks : List Kn), vs = [v, .int m, .ref c] ∧ Cx K H v e ∧ e.dep ≤ n ∧ ColsAt K H c ks ∧ Many m ∧ ∀ H', Ex H H' → Q (.int (f ks m e)) H'
def spR_share_in : Nat → PySem.W.Frag → Sp
  | 0, _ => fun _ _ _ _ => False
  | n + 1, K => spShare shrI (n + 1) K
def sp_share_in (K : PySem.W.Frag) : Sp := spR_share_in 8 K
def sp_share_of (K : PySem.W.Frag) : Sp := spShare shrI 8 K
/-- something known, found -/
def EvK (K : PySem.W.Frag) (te : TE) (σ : L2.St) (H : Hp) (k : Kn) : Prop := ∀ H1, Ex H H1 → ∀ Q : VK, (∀ p H2, Ex H1 H2 → KnAt K H2 p k → Q (.ref p) H2) → te σ H1 Q
abbrev flds : List Str := ["nulls", "different", "first", "last", "marks"]
section
variable {K : PySem.W.Frag} {σ : L2.St} {H : Hp} {ta tb tc te tf tl tk : TE} {t : TT} {v : V} {D : Ends} {tz tu tw : TS} {E : XK} {p : Addr} {k : Kn} {mg : Str → Option Value}
theorem gt4 {p : Addr} {a b c d : V} {i j k l : Nat} (h : SqT K H p [a, b, c, d]) {Q : L2.St → Hp → Prop} (q : Q ((((σ.set i (some a)).set j (some b)).set k (some c)).set l (some d)) H) : gTup K 4 (gCons (gName i) (gCons (gName j) (gCons (gName k) (gCons (gName l) gNil)))) (.ref p) σ H Q :=
  ⟨p, [a, b, c, d], rfl, h, rfl, a, [b, c, d], rfl, b, [c, d], rfl, c, [d], rfl, d, [], rfl, rfl, q⟩
theorem q_asgT {g : TG} (h : te σ H fun v H1 => g v σ H1 (tz D)) : tSeq (tAsg te g) tz D σ H := h
theorem q_if {b : Bool} (h : EvT t σ H b) (h1 : b = true → ∀ H1, Ex H H1 → tu { D with nx := tz D } σ H1) (h2 : b = false → ∀ H1, Ex H H1 → tw { D with nx := tz D } σ H1) : tSeq (tIfS t tu tw) tz D σ H := s_if (D := { D with nx := tz D }) h h1 h2
theorem et_S {a b : Str} (ha : Ev ta σ H (.str a)) (hb : Ev tb σ H (.str b)) : EvT (tTest (tOp rEq ta tb)) σ H (isS a b) := et_test (ev_op ha hb (rv_eq rfl))
theorem et_SN {a b : Str} (ha : Ev ta σ H (.str a)) (hb : Ev tb σ H (.str b)) : EvT (tTest (tOp rNe ta tb)) σ H (!isS a b) := et_test (ev_op ha hb (rv_ne rfl))
theorem kn_n (C : ClsD K mg "Known" flds) (h : KnAt K H p k) (ha : Ev ta σ H (.ref p)) : Ev (tFld K ta "nulls") σ H (.int (k.nul : Int)) := by
  obtain ⟨dx, l, h1, h2⟩ := h
  exact ev_fld ha h1 C.cl C.na.1 knF_n
theorem kn_d (C : ClsD K mg "Known" flds) (h : KnAt K H p k) (ha : Ev ta σ H (.ref p)) : Ev (tFld K ta "different") σ H (.int (k.dif : Int)) := by
  obtain ⟨dx, l, h1, h2⟩ := h
  exact ev_fld ha h1 C.cl C.na.2.1 knF_d
theorem kn_f (C : ClsD K mg "Known" flds) (h : KnAt K H p k) (ha : Ev ta σ H (.ref p)) : Ev (tFld K ta "first") σ H k.fst := by
  obtain ⟨dx, l, h1, h2⟩ := h
  exact ev_fld ha h1 C.cl C.na.2.2.1 knF_f
theorem kn_l (C : ClsD K mg "Known" flds) (h : KnAt K H p k) (ha : Ev ta σ H (.ref p)) : Ev (tFld K ta "last") σ H k.lst := by
  obtain ⟨dx, l, h1, h2⟩ := h
  exact ev_fld ha h1 C.cl C.na.2.2.2.1 knF_l
theorem kn_m (C : ClsD K mg "Known" flds) (h : KnAt K H p k) (ha : Ev ta σ H (.ref p)) : ∃ l, Ev (tFld K ta "marks") σ H (.ref l) ∧ H l = some (.lst k.mks) := by
  obtain ⟨dx, l, h1, h2⟩ := h
  exact ⟨l, ev_fld ha h1 C.cl C.na.2.2.2.2.1 knF_m, h2⟩
theorem KnAt.ex {H' : Hp} (h : KnAt K H p k) (e : Ex H H') : KnAt K H' p k := KnAt.mn K _ _ _ _ e h
theorem et_noM (C : ClsD K mg "Known" flds) (h : KnAt K H p k) (ha : Ev ta σ H (.ref p)) : EvT (fun σ H Q => tFld K ta "marks" σ H fun x H' => ∃ k, TruV K x H' k ∧ Q k H') σ H (!k.mks.isEmpty) := by
  obtain ⟨l, h1, h2⟩ := kn_m C h ha
  exact et_truL h1 (sq_of h2)
/-- how many of the marks -/
theorem ev_cntM (C : ClsD K mg "Known" flds) (h : KnAt K H p k) (ha : Ev ta σ H (.ref p)) (hk : k.mks.length ≤ 8) {j : Nat} {vs : List Nat} (f : V → Bool) (hw : ∀ x, wipe ((wipe σ vs).set j (some x)) vs = wipe σ vs) (hj : ∀ x, ((wipe σ vs).set j (some x))[j]? = some (some x))
    (ht : ∀ (x : V) H1, Ex H H1 → x ∈ k.mks → EvT t ((wipe σ vs).set j (some x)) H1 (f x)) :
    Ev (tCB (fun xs H Q => ∃ p ys, xs = [.ref p] ∧ (SqL K H p ys ∨ SqT K H p ys) ∧ Q (.int ys.length) H) (tCons (tLc (iList K (tFld K ta "marks")) (gName j) t (tVar j) vs) tNil)) σ H (.int (mkK k f : Nat)) := by
  obtain ⟨l, h1, h2⟩ := kn_m C h ha
  have e : (given k.mks.length (fun i => f (k.mks.getD i .non)) fun i => k.mks.getD i .non).length = mkK k f := by
    unfold given mkK cnt
    rw [List.length_map]
  rw [← e]
  refine ev_lenL (el_lcL _ _ h1 (sq_of h2) (by omega) hw (fun i x H1 e1 hi => ?_) (fun i x H1 e1 hi _ => ?_))
  · rw [getD_is hi]
    exact ht x H1 e1 (List.mem_of_getElem? hi)
  · rw [getD_is hi]
    exact ev_var (hj x)
theorem ro_ifF {R : Hp → Addr → Prop} (h : EvT t σ H false) (h2 : EvRo R tb σ H) : EvRo R (tIf t ta tb) σ H := fun H1 e Q q => h H1 e _ fun H2 e2 => h2 H2 (e.trans e2) Q fun p H3 hp e3 h3 => q p H3 (fresh_back e2 hp) (e2.trans e3) h3
theorem ro_unk {d : Nat} (ha : Ev ta σ H (.int (d : Int))) : EvRo (fun H' p => KnAt K H' p (unk d)) (tCall (sp_unknown_column K) [] E (tCons ta tNil)) σ H := fun H1 e Q q => ha H1 e _ fun H2 e2 => ⟨d, rfl, fun p H3 hp e3 h3 => q p H3 (fresh_back e2 hp) (e2.trans e3) h3⟩
theorem ec_up {n d : Int} (ha : Ev ta σ H (.int n)) (hb : Ev tb σ H (.int d)) (h0 : 0 < d) (h1 : d < 1073741824) : Ev (tCall (sp_rounded_up K) [] E (tCons ta (tCons tb tNil))) σ H (.int (upI n d)) := ev_call (ea_cons ha (ea_cons hb ea_nil)) fun H1 e Q q E => ⟨n, d, rfl, h0, h1, q⟩
theorem ec_all {s m : Int} (ha : Ev ta σ H (.int s)) (hb : Ev tb σ H (.ref p)) (hc : Ev tc σ H (.int m)) (h : KnAt K H p k) (hs : In1 s) (hm : Many m) : Ev (tCall (sp__of_all_rows K) [] E (tCons ta (tCons tb (tCons tc tNil)))) σ H (.int (allI s k m)) := ev_call (ea_cons ha (ea_cons hb (ea_cons hc ea_nil))) fun H1 e Q q E => ⟨s, m, p, k, rfl, h.ex e, hs, hm, q⟩
theorem ec_btw {n : Nat} (ha : Ev ta σ H (.int (n : Int))) : Ev (tCall (sp__between_marks K) [] E (tCons ta tNil)) σ H (.int (btw n)) := ev_call (ea_cons ha ea_nil) fun H1 e Q q E => ⟨n, rfl, q⟩
theorem ec_sh {f : Kn → V → Int} (ha : Ev ta σ H (.ref p)) (hb : Ev tb σ H v) (h : KnAt K H p k) (ho : KnOk k) (hv : Ok v) (h1 : 1 ≤ k.dif) : Ev (tCall (spSh f K) [] E (tCons ta (tCons tb tNil))) σ H (.int (f k v)) := ev_call (ea_cons ha (ea_cons hb ea_nil)) fun H1 e Q q E => ⟨p, k, v, rfl, h.ex e, ho, hv, h1, q⟩
theorem ec_bes {f : Str → Kn → V → Int → Int} {nm : Str} {m : Int} (ha : Ev ta σ H (.str nm)) (hb : Ev tb σ H (.ref p)) (hc : Ev tc σ H v) (hm : Ev te σ H (.int m)) (h : KnAt K H p k) (ho : KnOk k) (hv : Ok v) (h1 : Many m) : Ev (tCall (spBes f K) [] E (tCons ta (tCons tb (tCons tc (tCons te tNil))))) σ H (.int (f nm k v m)) := ev_call (ea_cons ha (ea_cons hb (ea_cons hc (ea_cons hm ea_nil)))) fun H1 e Q q E => ⟨nm, p, k, v, m, rfl, h.ex e, ho, hv, h1, q⟩
theorem ec_besK {f : Str → Kn → V → Int → Int} {nm : Str} {m : Int} (ha : Ev ta σ H (.str nm)) (hb : EvK K tb σ H k) (hc : Ev tc σ H v) (hm : Ev te σ H (.int m)) (ho : KnOk k) (hv : Ok v) (h1 : Many m) : Ev (tCall (spBes f K) [] E (tCons ta (tCons tb (tCons tc (tCons te tNil))))) σ H (.int (f nm k v m)) := fun H1 e Q q =>
  ha H1 e _ fun H2 e2 => hb H2 (e.trans e2) _ fun p H3 e3 hp => hc H3 ((e.trans e2).trans e3) _ fun H4 e4 => hm H4 (((e.trans e2).trans e3).trans e4) _ fun H5 e5 => ⟨nm, p, k, v, m, rfl, hp.ex (e4.trans e5), ho, hv, h1, fun H6 e6 => q H6 (e2.trans (e3.trans (e4.trans (e5.trans e6))))⟩
theorem ec_colsK {a b : Kn} (ha : EvK K ta σ H a) (hb : EvK K tb σ H b) (oa : KnOk a) (ob : KnOk b) : Ev (tCall (sp__share_of_columns K) [] E (tCons ta (tCons tb tNil))) σ H (.int (colsI a b)) := fun H1 e Q q =>
  ha H1 e _ fun p H2 e2 hp => hb H2 (e.trans e2) _ fun r H3 e3 hr => ⟨p, r, a, b, rfl, hp.ex e3, hr, oa, ob, fun H4 e4 => q H4 (e2.trans (e3.trans e4))⟩
theorem ec_nulK {m : Int} (ha : EvK K ta σ H k) (hb : Ev tb σ H (.int m)) (hm : Many m) : Ev (tCall (sp__share_of_nulls K) [] E (tCons ta (tCons tb tNil))) σ H (.int (nulI k m)) := fun H1 e Q q =>
  ha H1 e _ fun p H2 e2 hp => hb H2 (e.trans e2) _ fun H3 e3 => ⟨p, k, m, rfl, hp.ex e3, hm, fun H4 e4 => q H4 (e2.trans (e3.trans e4))⟩
theorem ek_col {n : Nat} {c : Addr} {ks : List Kn} (ha : Ev ta σ H (.int (n : Int))) (hb : Ev tb σ H (.ref c)) (h : ColsAt K H c ks) : EvK K (tCall (sp_column_at K) [] E (tCons ta (tCons tb tNil))) σ H (colAt ks n) := fun H1 e Q q =>
  ha H1 e _ fun H2 e2 => hb H2 (e.trans e2) _ fun H3 e3 => ⟨n, c, ks, rfl, h.ex ((e.trans e2).trans e3), fun p H4 e4 hp => q p H4 (e2.trans (e3.trans e4)) hp⟩
theorem ec_cmp {nm : Str} {a b : Cnd} {m : Int} {c : Addr} {ks : List Kn} (ha : Ev ta σ H v) (hb : Ev tb σ H (.int m)) (hc : Ev tc σ H (.ref c)) (h : Cx K H v (.bin nm a b)) (g : ColsAt K H c ks) (hm : Many m) : Ev (tCall (sp__share_of_comparison K) [] E (tCons ta (tCons tb (tCons tc tNil)))) σ H (.int (cmpI ks m nm a b)) :=
  ev_call (ea_cons ha (ea_cons hb (ea_cons hc ea_nil))) fun H1 e Q q E => ⟨v, nm, a, b, m, c, ks, rfl, h.ex e, g.ex e, hm, q⟩
theorem ec_share {f : List Kn → Int → Cnd → Int} {n : Nat} {e : Cnd} {m : Int} {c : Addr} {ks : List Kn} (ha : Ev ta σ H v) (hb : Ev tb σ H (.int m)) (hc : Ev tc σ H (.ref c)) (h : Cx K H v e) (hd : e.dep ≤ n) (g : ColsAt K H c ks) (hm : Many m) : Ev (tCall (spShare f n K) [] E (tCons ta (tCons tb (tCons tc tNil)))) σ H (.int (f ks m e)) :=
  ev_call (ea_cons ha (ea_cons hb (ea_cons hc ea_nil))) fun H1 e' Q q E => ⟨v, e, m, c, ks, rfl, h.ex e', hd, g.ex e', hm, q⟩
end

--@SPLIT
section
variable {P : Program} {w : World} {K : PySem.W.Frag} {mg : Str → Option Value} {base : Heap}
theorem ok_rounded_up (D : Dn K mg "rounded_up" s_rounded_up ["number", "divisor"]) :
    C8.Cal P w K mg base 1 "rounded_up" (sp_rounded_up K) [] := by
  refine cal_of D sc_rounded_up (fun vs H Q E h => ?_) (fun f cdv A outer s H vs Q E hr h => ?_)
  · obtain ⟨_, _, rfl, _⟩ := h
    rfl
  refine ⟨_, (pss_one (ps_ret (pe_un un_neg (pe_op op_fdiv (pe_un un_neg (pv 0)) (pv 1))))), ?_⟩
  obtain ⟨n, d, rfl, h0, h1, q⟩ := h
  exact s_ret (ev_un (ev_op (ev_un (ev_var rfl) ru_neg) (ev_var rfl) (rv_I ⟨h0, h1⟩)) ru_neg) fun H1 e1 => q H1 e1
theorem ok_column_at (D : Dn K mg "column_at" s_column_at ["number", "columns"]) (c_unknown_column : C8.Cal P w K mg base 3 "unknown_column" (sp_unknown_column K) []) (z_len : mg "len" = none) (g__DIFFERENT_OF_MISSING : ∃ u, mg "_DIFFERENT_OF_MISSING" = some u ∧ RelV (.int (3)) u) :
    C8.Cal P w K mg base 4 "column_at" (sp_column_at K) [] := by
  refine cal_of D sc_column_at (fun vs H Q E h => ?_) (fun f cdv A outer s H vs Q E hr h => ?_)
  · obtain ⟨_, _, _, rfl, _⟩ := h
    rfl
  refine ⟨_, (pss_one (ps_ret (pe_ifExp (pt_cmpR op_lt (pv 0) (pe_callB call_len_seq (by rfl) z_len PySem.boot_len (pa_cons (pv 1) pa_nil)) (nomark _)) (pe_ix ix_list (pv 1) (pv 0) (fun _ _ => rfl)) (C8.pe_c c_unknown_column hr (by decide) (by rfl) (pa_cons (C8.pe_gc rfl g__DIFFERENT_OF_MISSING) pa_nil))))), ?_⟩
  obtain ⟨n, c, ks, rfl, ⟨⟨qs, h1, h2⟩, ho, hz⟩, q⟩ := h
  by_cases hn : n < ks.length
  · obtain ⟨p, hp, hk⟩ := h2.get hn
    have e : colAt ks n = ks[n] := by unfold colAt; rw [List.getD_eq_getElem?_getD, List.getElem?_eq_getElem hn]; rfl
    refine s_ret (v := .ref p) (ev_if (b := true) (et_is (et_test (ev_op (ev_var rfl) (ev_len (ev_var rfl) (sq_of h1)) rv_I0)) ?_) (fun _ => ev_op (ev_var rfl) (ev_var rfl) (rv_ixL (sq_of h1) (atI_nat (by rw [List.getElem?_map, hp]; rfl)))) fun h => nomatch h) fun H1 e1 => q p H1 e1 (by rw [e]; exact hk.ex e1)
    rw [List.length_map, h2.1]
    exact decide_eq_true (by omega)
  · have e : colAt ks n = unk 3 := by unfold colAt; rw [List.getD_eq_getElem?_getD, List.getElem?_eq_none (by omega)]; rfl
    refine s_retO (R := fun H' p => KnAt K H' p (unk 3)) (ro_ifF (et_is (et_test (ev_op (ev_var rfl) (ev_len (ev_var rfl) (sq_of h1)) rv_I0)) ?_) (ro_unk (d := 3) ev_c)) fun p H1 hp e1 hk => q p H1 e1 (by rw [e]; exact hk)
    rw [List.length_map, h2.1]
    exact decide_eq_false (by omega)
theorem ok__of_all_rows (D : Dn K mg "_of_all_rows" s__of_all_rows ["share", "known", "many"]) (C_Known : ClsD K mg "Known" ["nulls", "different", "first", "last", "marks"]) (c_rounded_up : C8.Cal P w K mg base 1 "rounded_up" (sp_rounded_up K) []) (z_min : mg "min" = none) :
    C8.Cal P w K mg base 2 "_of_all_rows" (sp__of_all_rows K) [] := by
  refine cal_of D sc__of_all_rows (fun vs H Q E h => ?_) (fun f cdv A outer s H vs Q E hr h => ?_)
  · obtain ⟨_, _, _, _, rfl, _⟩ := h
    rfl
  refine ⟨_, (pss_cons (ps_if (pt_cmpR op_eq (pv 2) pe_int (nomark _))
      (pss_one (ps_ret pe_int))
      pss_nil)
    (pss_one (ps_ret (C8.pe_c c_rounded_up hr (by decide) (by rfl) (pa_cons (pe_op op_mul (pv 0) (pe_op op_sub (pv 2) (pe_callB (call_min2 rfl) (by rfl) z_min (by decide +kernel) (pa_cons (pe_fld (pv 1) (by rfl)) (pa_cons (pv 2) pa_nil))))) (pa_cons (pv 2) pa_nil)))))), ?_⟩
  obtain ⟨s, m, p, k, rfl, hk, hs, hm, q⟩ := h
  refine q_when (b := decide (V.int m = V.int 0)) (by walk_at "et") (fun hb H1 e1 => s_ret (v := .int (allI s k m)) (ev_is ev_c ?_) fun H2 e2 => q H2 (e1.trans e2)) fun hb H1 e1 => ?_
  · have : m = 0 := V.int.inj (of_decide_eq_true hb)
    unfold allI
    rw [if_pos this]
  have h0 : ¬ m = 0 := fun z => by rw [z] at hb; exact absurd hb (by decide)
  refine s_ret (v := .int (allI s k m)) (ev_is (ec_up (n := s * (m - (if m < (k.nul : Int) then m else (k.nul : Int)))) (d := m) (ev_op (ev_var rfl) (ev_op (ev_var rfl) (ev_min2 (kn_n C_Known (hk.ex e1) (ev_var rfl)) (ev_var rfl)) rv_I0) (rv_I (.inl ⟨by have := hs.1; omega, by have := hs.2; omega⟩))) (ev_var rfl) (by omega) (by omega)) ?_) fun H2 e2 => q H2 (e1.trans e2)
  unfold allI
  rw [if_neg h0]
theorem ok__between_marks (D : Dn K mg "_between_marks" s__between_marks ["marks_before"]) (c_rounded_up : C8.Cal P w K mg base 1 "rounded_up" (sp_rounded_up K) []) (g_MARKS : ∃ u, mg "MARKS" = some u ∧ RelV (.int (8)) u) (g_WHOLE : ∃ u, mg "WHOLE" = some u ∧ RelV (.int (1000)) u) :
    C8.Cal P w K mg base 2 "_between_marks" (sp__between_marks K) [] := by
  refine cal_of D sc__between_marks (fun vs H Q E h => ?_) (fun f cdv A outer s H vs Q E hr h => ?_)
  · obtain ⟨_, rfl, _⟩ := h
    rfl
  refine ⟨_, (pss_one (ps_ret (C8.pe_c c_rounded_up hr (by decide) (by rfl) (pa_cons (pe_op op_mul (C8.pe_gc rfl g_WHOLE) (pe_op op_add (pe_op op_mul pe_int (pv 0)) pe_int)) (pa_cons (pe_op op_mul pe_int (C8.pe_gc rfl g_MARKS)) pa_nil))))), ?_⟩
  obtain ⟨n, rfl, q⟩ := h
  exact s_ret (ec_up (d := 16) (ev_op ev_c (ev_op (ev_op ev_c (ev_var rfl) (rv_I (.inl ⟨by decide, by decide⟩))) ev_c rv_I0) (rv_I (.inl ⟨by decide, by decide⟩))) (ev_is (ev_op ev_c ev_c (rv_I (.inl ⟨by decide, by decide⟩))) rfl) (by decide) (by decide)) fun H1 e1 => q H1 e1
theorem ok__share_of_equal (D : Dn K mg "_share_of_equal" s__share_of_equal ["known", "value"]) (C_Known : ClsD K mg "Known" ["nulls", "different", "first", "last", "marks"]) (c_before : C8.Cal P w K mg base 3 "before" (sp_before K) []) (c_rounded_up : C8.Cal P w K mg base 1 "rounded_up" (sp_rounded_up K) []) (c_same : C8.Cal P w K mg base 3 "same" (sp_same K) []) (z_len : mg "len" = none) (z_max : mg "max" = none) (g_MARKS : ∃ u, mg "MARKS" = some u ∧ RelV (.int (8)) u) (g_WHOLE : ∃ u, mg "WHOLE" = some u ∧ RelV (.int (1000)) u) :
    C8.Cal P w K mg base 4 "_share_of_equal" (sp__share_of_equal K) [] := by
  refine cal_of D sc__share_of_equal (fun vs H Q E h => ?_) (fun f cdv A outer s H vs Q E hr h => ?_)
  · obtain ⟨_, _, _, rfl, _⟩ := h
    rfl
  refine ⟨_, (pss_cons (ps_if (PW.pt (pw_or (pt_val (C8.pe_c c_before hr (by decide) (by rfl) (pa_cons (pv 1) (pa_cons (pe_fld (pv 0) (by rfl)) pa_nil)))) (pw_or1 (pt_val (C8.pe_c c_before hr (by decide) (by rfl) (pa_cons (pe_fld (pv 0) (by rfl)) (pa_cons (pv 1) pa_nil)))))))
      (pss_one (ps_ret pe_int))
      pss_nil)
    (pss_cons (ps_set (i := 2) sc__share_of_equal.nd rfl (.inl rfl) (pe_callB call_len_seq (by rfl) z_len PySem.boot_len (pa_cons (pe_lc (own := [("mark", 3)]) (g := gName 3) rfl sc__share_of_equal.nd (pi_list (pe_fld (pv 0) (by rfl))) (blkOk_by (N := n__share_of_equal) (sc := C8.fnScope s__share_of_equal) (by decide +kernel)) (fun _ _ _ _ _ => pg_name (i := 3) sc__share_of_equal.nd rfl (Or.inl rfl)) (fun _ _ _ _ _ => (pts_one (pt_val (C8.pe_c c_same hr (by decide) (by rfl) (pa_cons (pv 3) (pa_cons (pv 1) pa_nil)))))) (fun _ _ _ _ _ => (pv 3))) pa_nil)))
    (pss_one (ps_ret (pe_callB (call_max2 rfl) (by rfl) z_max (by decide +kernel) (pa_cons (C8.pe_c c_rounded_up hr (by decide) (by rfl) (pa_cons (C8.pe_gc rfl g_WHOLE) (pa_cons (pe_fld (pv 0) (by rfl)) pa_nil))) (pa_cons (pe_op op_mul (pe_op op_fdiv (C8.pe_gc rfl g_WHOLE) (C8.pe_gc rfl g_MARKS)) (pe_op op_sub (pv 2) pe_int)) pa_nil))))))), ?_⟩
  obtain ⟨p, k, v, rfl, hk, ho, hv, h1, q⟩ := h
  refine q_when (b := vlt v k.fst || vlt k.lst v) (et_or (et_B (ec_before (ev_var rfl) (kn_f C_Known hk (ev_var rfl)) hv ho.f)) fun _ => et_B (ec_before (kn_l C_Known hk (ev_var rfl)) (ev_var rfl) ho.l hv)) (fun hb H1 e1 => s_ret (v := .int (eqS k v)) (ev_is ev_c ?_) fun H2 e2 => q H2 (e1.trans e2)) fun hb H1 e1 => ?_
  · unfold eqS
    rw [if_pos hb]
  refine q_asg (v := .int ((mkK k fun m => veq m v : Nat) : Int)) (ev_cntM C_Known (hk.ex e1) (ev_var rfl) ho.len _ (fun _ => rfl) (fun _ => rfl) fun x H2 e2 hx => et_B (ec_same (ev_var rfl) (ev_var rfl) (ho.m x hx) hv)) fun H2 e2 => ?_
  have hz := ho.z
  refine s_ret (v := .int (eqS k v)) (ev_is (Evl.ev_max2 (ec_up (n := 1000) ev_c (kn_d C_Known (hk.ex (e1.trans e2)) (ev_var rfl)) (by omega) (by omega)) (ev_op (ev_op ev_c ev_c (rv_I ⟨by decide, by decide⟩)) (ev_op (ev_var rfl) ev_c rv_I0) (rv_I (.inl ⟨by decide, by decide⟩)))) ?_) fun H3 e3 => q H3 (e1.trans (e2.trans e3))
  have e : eqS k v = mxI (upI 1000 k.dif) (125 * ((mkK k fun m => veq m v : Nat) - 1 : Int)) := by
    unfold eqS
    rw [if_neg (by rw [hb]; decide)]
  rw [e]
  rfl
theorem ok__share_of_less (D : Dn K mg "_share_of_less" s__share_of_less ["known", "value"]) (C_Known : ClsD K mg "Known" ["nulls", "different", "first", "last", "marks"]) (c__between_marks : C8.Cal P w K mg base 2 "_between_marks" (sp__between_marks K) []) (c_before : C8.Cal P w K mg base 3 "before" (sp_before K) []) (z_len : mg "len" = none) (g_WHOLE : ∃ u, mg "WHOLE" = some u ∧ RelV (.int (1000)) u) :
    C8.Cal P w K mg base 4 "_share_of_less" (sp__share_of_less K) [] := by
  refine cal_of D sc__share_of_less (fun vs H Q E h => ?_) (fun f cdv A outer s H vs Q E hr h => ?_)
  · obtain ⟨_, _, _, rfl, _⟩ := h
    rfl
  refine ⟨_, (pss_cons (ps_if (pt_not (pt_val (C8.pe_c c_before hr (by decide) (by rfl) (pa_cons (pe_fld (pv 0) (by rfl)) (pa_cons (pv 1) pa_nil)))))
      (pss_one (ps_ret pe_int))
      pss_nil)
    (pss_cons (ps_if (pt_val (C8.pe_c c_before hr (by decide) (by rfl) (pa_cons (pe_fld (pv 0) (by rfl)) (pa_cons (pv 1) pa_nil))))
      (pss_one (ps_ret (C8.pe_gc rfl g_WHOLE)))
      pss_nil)
    (pss_one (ps_ret (C8.pe_c c__between_marks hr (by decide) (by rfl) (pa_cons (pe_callB call_len_seq (by rfl) z_len PySem.boot_len (pa_cons (pe_lc (own := [("mark", 2)]) (g := gName 2) rfl sc__share_of_less.nd (pi_list (pe_fld (pv 0) (by rfl))) (blkOk_by (N := n__share_of_less) (sc := C8.fnScope s__share_of_less) (by decide +kernel)) (fun _ _ _ _ _ => pg_name (i := 2) sc__share_of_less.nd rfl (Or.inl rfl)) (fun _ _ _ _ _ => (pts_one (pt_val (C8.pe_c c_before hr (by decide) (by rfl) (pa_cons (pv 2) (pa_cons (pv 1) pa_nil)))))) (fun _ _ _ _ _ => (pv 2))) pa_nil)) pa_nil)))))), ?_⟩
  obtain ⟨p, k, v, rfl, hk, ho, hv, h1, q⟩ := h
  refine q_when (b := !vlt k.fst v) (et_not (et_B (ec_before (kn_f C_Known hk (ev_var rfl)) (ev_var rfl) ho.f hv))) (fun hb H1 e1 => s_ret (v := .int (lsS k v)) (ev_is ev_c ?_) fun H2 e2 => q H2 (e1.trans e2)) fun hb H1 e1 => ?_
  · unfold lsS
    rw [if_pos hb]
  refine q_when (b := vlt k.lst v) (et_B (ec_before (kn_l C_Known (hk.ex e1) (ev_var rfl)) (ev_var rfl) ho.l hv)) (fun hc H2 e2 => s_ret (v := .int (lsS k v)) (ev_is ev_c ?_) fun H3 e3 => q H3 (e1.trans (e2.trans e3))) fun hc H2 e2 => ?_
  · unfold lsS
    rw [if_neg (by rw [hb]; decide), if_pos hc]
  refine s_ret (v := .int (lsS k v)) (ev_is (ec_btw (n := mkK k fun m => vlt m v) (ev_cntM C_Known (hk.ex (e1.trans e2)) (ev_var rfl) ho.len _ (fun _ => rfl) (fun _ => rfl) fun x H3 e3 hx => et_B (ec_before (ev_var rfl) (ev_var rfl) (ho.m x hx) hv))) ?_) fun H3 e3 => q H3 (e1.trans (e2.trans e3))
  unfold lsS
  rw [if_neg (by rw [hb]; decide), if_neg (by rw [hc]; decide)]
theorem ok__share_of_at_most (D : Dn K mg "_share_of_at_most" s__share_of_at_most ["known", "value"]) (C_Known : ClsD K mg "Known" ["nulls", "different", "first", "last", "marks"]) (c__between_marks : C8.Cal P w K mg base 2 "_between_marks" (sp__between_marks K) []) (c_before : C8.Cal P w K mg base 3 "before" (sp_before K) []) (z_len : mg "len" = none) (g_WHOLE : ∃ u, mg "WHOLE" = some u ∧ RelV (.int (1000)) u) :
    C8.Cal P w K mg base 4 "_share_of_at_most" (sp__share_of_at_most K) [] := by
  refine cal_of D sc__share_of_at_most (fun vs H Q E h => ?_) (fun f cdv A outer s H vs Q E hr h => ?_)
  · obtain ⟨_, _, _, rfl, _⟩ := h
    rfl
  refine ⟨_, (pss_cons (ps_if (pt_val (C8.pe_c c_before hr (by decide) (by rfl) (pa_cons (pv 1) (pa_cons (pe_fld (pv 0) (by rfl)) pa_nil))))
      (pss_one (ps_ret pe_int))
      pss_nil)
    (pss_cons (ps_if (pt_not (pt_val (C8.pe_c c_before hr (by decide) (by rfl) (pa_cons (pv 1) (pa_cons (pe_fld (pv 0) (by rfl)) pa_nil)))))
      (pss_one (ps_ret (C8.pe_gc rfl g_WHOLE)))
      pss_nil)
    (pss_one (ps_ret (C8.pe_c c__between_marks hr (by decide) (by rfl) (pa_cons (pe_callB call_len_seq (by rfl) z_len PySem.boot_len (pa_cons (pe_lc (own := [("mark", 2)]) (g := gName 2) rfl sc__share_of_at_most.nd (pi_list (pe_fld (pv 0) (by rfl))) (blkOk_by (N := n__share_of_at_most) (sc := C8.fnScope s__share_of_at_most) (by decide +kernel)) (fun _ _ _ _ _ => pg_name (i := 2) sc__share_of_at_most.nd rfl (Or.inl rfl)) (fun _ _ _ _ _ => (pts_one (pt_not (pt_val (C8.pe_c c_before hr (by decide) (by rfl) (pa_cons (pv 1) (pa_cons (pv 2) pa_nil))))))) (fun _ _ _ _ _ => (pv 2))) pa_nil)) pa_nil)))))), ?_⟩
  obtain ⟨p, k, v, rfl, hk, ho, hv, h1, q⟩ := h
  refine q_when (b := vlt v k.fst) (et_B (ec_before (ev_var rfl) (kn_f C_Known hk (ev_var rfl)) hv ho.f)) (fun hb H1 e1 => s_ret (v := .int (amS k v)) (ev_is ev_c ?_) fun H2 e2 => q H2 (e1.trans e2)) fun hb H1 e1 => ?_
  · unfold amS
    rw [if_pos hb]
  refine q_when (b := !vlt v k.lst) (et_not (et_B (ec_before (ev_var rfl) (kn_l C_Known (hk.ex e1) (ev_var rfl)) hv ho.l))) (fun hc H2 e2 => s_ret (v := .int (amS k v)) (ev_is ev_c ?_) fun H3 e3 => q H3 (e1.trans (e2.trans e3))) fun hc H2 e2 => ?_
  · unfold amS
    rw [if_neg (by rw [hb]; decide), if_pos hc]
  refine s_ret (v := .int (amS k v)) (ev_is (ec_btw (n := mkK k fun m => !vlt v m) (ev_cntM C_Known (hk.ex (e1.trans e2)) (ev_var rfl) ho.len _ (fun _ => rfl) (fun _ => rfl) fun x H3 e3 hx => et_not (et_B (ec_before (ev_var rfl) (ev_var rfl) hv (ho.m x hx))))) ?_) fun H3 e3 => q H3 (e1.trans (e2.trans e3))
  unfold amS
  rw [if_neg (by rw [hb]; decide), if_neg (by rw [hc]; decide)]
theorem ok__beside_value (D : Dn K mg "_beside_value" s__beside_value ["name", "known", "value", "many"]) (C_Known : ClsD K mg "Known" ["nulls", "different", "first", "last", "marks"]) (c__of_all_rows : C8.Cal P w K mg base 2 "_of_all_rows" (sp__of_all_rows K) []) (c__share_of_at_most : C8.Cal P w K mg base 4 "_share_of_at_most" (sp__share_of_at_most K) []) (c__share_of_equal : C8.Cal P w K mg base 4 "_share_of_equal" (sp__share_of_equal K) []) (c__share_of_less : C8.Cal P w K mg base 4 "_share_of_less" (sp__share_of_less K) []) (c_kind_rank : C8.Cal P w K mg base 1 "kind_rank" (sp_kind_rank K) []) (c_rounded_up : C8.Cal P w K mg base 1 "rounded_up" (sp_rounded_up K) []) (g_WHOLE : ∃ u, mg "WHOLE" = some u ∧ RelV (.int (1000)) u) (g__UNKNOWN : ∃ u, mg "_UNKNOWN" = some u ∧ RelV (.int (333)) u) :
    C8.Cal P w K mg base 5 "_beside_value" (sp__beside_value K) [] := by
  refine cal_of D sc__beside_value (fun vs H Q E h => ?_) (fun f cdv A outer s H vs Q E hr h => ?_)
  · obtain ⟨_, _, _, _, _, rfl, _⟩ := h
    rfl
  refine ⟨_, (pss_cons (ps_if (pt_cmpR op_eq (pe_fld (pv 1) (by rfl)) pe_int (nomark _))
      (pss_one (ps_ret pe_int))
      pss_nil)
    (pss_cons (ps_if (pt_not (pt_truth (pe_fld (pv 1) (by rfl)) (by intro _; rfl)))
      (pss_one (ps_ret (pe_ifExp (pt_cmpR op_eq (pv 0) pe_str (nomark _)) (C8.pe_c c_rounded_up hr (by decide) (by rfl) (pa_cons (C8.pe_gc rfl g_WHOLE) (pa_cons (pe_fld (pv 1) (by rfl)) pa_nil))) (C8.pe_gc rfl g__UNKNOWN))))
      pss_nil)
    (pss_cons (ps_if (pt_cmpR op_ne (C8.pe_c c_kind_rank hr (by decide) (by rfl) (pa_cons (pv 2) pa_nil)) (C8.pe_c c_kind_rank hr (by decide) (by rfl) (pa_cons (pe_fld (pv 1) (by rfl)) pa_nil)) (nomark _))
      (pss_one (ps_ret pe_int))
      pss_nil)
    (Evl.pss_cut (ps_if (pt_cmpR op_eq (pv 0) pe_str (nomark _))
      (pss_one (ps_set (i := 4) sc__beside_value.nd rfl (.inl rfl) (C8.pe_c c__share_of_equal hr (by decide) (by rfl) (pa_cons (pv 1) (pa_cons (pv 2) pa_nil)))))
      (pss_one (ps_if (pt_cmpR op_eq (pv 0) pe_str (nomark _))
      (pss_one (ps_set (i := 4) sc__beside_value.nd rfl (.inl rfl) (C8.pe_c c__share_of_less hr (by decide) (by rfl) (pa_cons (pv 1) (pa_cons (pv 2) pa_nil)))))
      (pss_one (ps_set (i := 4) sc__beside_value.nd rfl (.inl rfl) (C8.pe_c c__share_of_at_most hr (by decide) (by rfl) (pa_cons (pv 1) (pa_cons (pv 2) pa_nil))))))))
    (pss_one (ps_ret (C8.pe_c c__of_all_rows hr (by decide) (by rfl) (pa_cons (pv 4) (pa_cons (pv 1) (pa_cons (pv 3) pa_nil)))))))))), ?_⟩
  obtain ⟨nm, p, k, v, m, rfl, hk, ho, hv, hm, q⟩ := h
  have hz := ho.z
  refine q_when (b := decide (V.int (k.dif : Int) = V.int 0)) (et_test (ev_op (kn_d C_Known hk (ev_var rfl)) ev_c (rv_eq rfl))) (fun hb H1 e1 => s_ret (v := .int (besI nm k v m)) (ev_is ev_c ?_) fun H2 e2 => q H2 (e1.trans e2)) fun hb H1 e1 => ?_
  · have h0 : k.dif = 0 := by have := V.int.inj (of_decide_eq_true hb); omega
    unfold besI
    rw [if_pos h0]
  have h0 : ¬ k.dif = 0 := fun z => by rw [z] at hb; exact absurd hb (by decide)
  have hk1 := hk.ex e1
  refine q_when (b := !!k.mks.isEmpty) (et_not (et_noM C_Known hk1 (ev_var rfl))) (fun hb2 H2 e2 => s_ret (v := .int (besI nm k v m)) ?_ fun H3 e3 => q H3 (e1.trans (e2.trans e3))) fun hb2 H2 e2 => ?_
  · rw [Bool.not_not] at hb2
    refine ev_if (b := isS nm "equal") (et_S (ev_var rfl) ev_c) (fun hc => ev_is (ec_up (n := 1000) ev_c (kn_d C_Known (hk1.ex e2) (ev_var rfl)) (by omega) (by omega)) ?_) fun hc => ev_is ev_c ?_
    · unfold besI
      rw [if_neg h0, if_pos hb2, if_pos hc]
    · unfold besI
      rw [if_neg h0, if_pos hb2, if_neg (by rw [hc]; decide)]
  rw [Bool.not_not] at hb2
  have hk2 := hk1.ex e2
  refine q_when (b := !decide (V.int (kr v) = V.int (kr k.fst))) (et_test (ev_op (ec_kr (ev_var rfl) hv) (ec_kr (kn_f C_Known hk2 (ev_var rfl)) ho.f) (rv_ne rfl))) (fun hb3 H3 e3 => s_ret (v := .int (besI nm k v m)) (ev_is ev_c ?_) fun H4 e4 => q H4 (e1.trans (e2.trans (e3.trans e4)))) fun hb3 H3 e3 => ?_
  · unfold besI
    rw [if_neg h0, if_neg (by rw [hb2]; decide), if_pos (by simpa using hb3)]
  have hk3 := hk2.ex e3
  have h1 : 1 ≤ k.dif := by omega
  have x3 := e1.trans (e2.trans e3)
  refine q_cut (M := fun σ' H' => σ' = [some (.str nm), some (.ref p), some v, some (.int m), some (.int (if isS nm "equal" = true then eqS k v else if isS nm "less" = true then lsS k v else amS k v))] ∧ Ex H3 H') ?_ fun σ' H4 pw => ?_
  · refine s_if (b := isS nm "equal") (et_S (ev_var rfl) ev_c) (fun hc H4 e4 => s_asg (ec_sh (ev_var rfl) (ev_var rfl) (hk3.ex e4) ho hv h1) fun H5 e5 => ⟨?_, e4.trans e5⟩) fun hc H4 e4 => s_if (b := isS nm "less") (et_S (ev_var rfl) ev_c) (fun hd H5 e5 => s_asg (ec_sh (ev_var rfl) (ev_var rfl) (hk3.ex (e4.trans e5)) ho hv h1) fun H6 e6 => ⟨?_, e4.trans (e5.trans e6)⟩) fun hd H5 e5 => s_asg (ec_sh (ev_var rfl) (ev_var rfl) (hk3.ex (e4.trans e5)) ho hv h1) fun H6 e6 => ⟨?_, e4.trans (e5.trans e6)⟩
    · rw [if_pos hc]
      rfl
    · rw [if_neg (by rw [hc]; decide), if_pos hd]
      rfl
    · rw [if_neg (by rw [hc]; decide), if_neg (by rw [hd]; decide)]
      rfl
  obtain ⟨rfl, e4⟩ := pw
  have hs : In1 (if isS nm "equal" = true then eqS k v else if isS nm "less" = true then lsS k v else amS k v) := by
    obtain ⟨_, h7, hl⟩ := mks_last ho hb2
    have h8 := ho.len
    split
    · exact eqS_in ho h1
    · split
      · exact lsS_in h7 hl h8
      · exact amS_in h7 hl h8
  refine s_ret (v := .int (besI nm k v m)) (ev_is (ec_all (ev_var rfl) (ev_var rfl) (ev_var rfl) (hk3.ex e4) hs hm) ?_) fun H5 e5 => q H5 (x3.trans (e4.trans e5))
  unfold besI
  rw [if_neg h0, if_neg (show ¬ k.mks.isEmpty = true by rw [hb2]; decide), if_neg (show ¬ decide (V.int (kr v) = V.int (kr k.fst)) = false by simpa using hb3)]
theorem ok__behind_value (D : Dn K mg "_behind_value" s__behind_value ["name", "known", "value", "many"]) (C_Known : ClsD K mg "Known" ["nulls", "different", "first", "last", "marks"]) (c__beside_value : C8.Cal P w K mg base 5 "_beside_value" (sp__beside_value K) []) (c__of_all_rows : C8.Cal P w K mg base 2 "_of_all_rows" (sp__of_all_rows K) []) (z_max : mg "max" = none) (g_WHOLE : ∃ u, mg "WHOLE" = some u ∧ RelV (.int (1000)) u) (g__UNKNOWN : ∃ u, mg "_UNKNOWN" = some u ∧ RelV (.int (333)) u) :
    C8.Cal P w K mg base 6 "_behind_value" (sp__behind_value K) [] := by
  refine cal_of D sc__behind_value (fun vs H Q E h => ?_) (fun f cdv A outer s H vs Q E hr h => ?_)
  · obtain ⟨_, _, _, _, _, rfl, _⟩ := h
    rfl
  refine ⟨_, (pss_cons (ps_if (pt_cmpR op_eq (pe_fld (pv 1) (by rfl)) pe_int (nomark _))
      (pss_one (ps_ret pe_int))
      pss_nil)
    (pss_cons (ps_if (pt_not (pt_truth (pe_fld (pv 1) (by rfl)) (by intro _; rfl)))
      (pss_one (ps_ret (C8.pe_gc rfl g__UNKNOWN)))
      pss_nil)
    (pss_cons (ps_set (i := 4) sc__behind_value.nd rfl (.inl rfl) (pe_ifExp (pt_cmpR op_eq (pv 0) pe_str (nomark _)) pe_str pe_str))
    (pss_one (ps_ret (pe_callB (call_max2 rfl) (by rfl) z_max (by decide +kernel) (pa_cons (pe_op op_sub (C8.pe_c c__of_all_rows hr (by decide) (by rfl) (pa_cons (C8.pe_gc rfl g_WHOLE) (pa_cons (pv 1) (pa_cons (pv 3) pa_nil)))) (C8.pe_c c__beside_value hr (by decide) (by rfl) (pa_cons (pv 4) (pa_cons (pv 1) (pa_cons (pv 2) (pa_cons (pv 3) pa_nil)))))) (pa_cons pe_int pa_nil)))))))), ?_⟩
  obtain ⟨nm, p, k, v, m, rfl, hk, ho, hv, hm, q⟩ := h
  refine q_when (b := decide (V.int (k.dif : Int) = V.int 0)) (et_test (ev_op (kn_d C_Known hk (ev_var rfl)) ev_c (rv_eq rfl))) (fun hb H1 e1 => s_ret (v := .int (behI nm k v m)) (ev_is ev_c ?_) fun H2 e2 => q H2 (e1.trans e2)) fun hb H1 e1 => ?_
  · have h0 : k.dif = 0 := by have := V.int.inj (of_decide_eq_true hb); omega
    unfold behI
    rw [if_pos h0]
  have h0 : ¬ k.dif = 0 := fun z => by rw [z] at hb; exact absurd hb (by decide)
  have hk1 := hk.ex e1
  refine q_when (b := !!k.mks.isEmpty) (et_not (et_noM C_Known hk1 (ev_var rfl))) (fun hb2 H2 e2 => s_ret (v := .int (behI nm k v m)) (ev_is ev_c ?_) fun H3 e3 => q H3 (e1.trans (e2.trans e3))) fun hb2 H2 e2 => ?_
  · rw [Bool.not_not] at hb2
    unfold behI
    rw [if_neg h0, if_pos hb2]
  rw [Bool.not_not] at hb2
  have hk2 := hk1.ex e2
  refine q_asg (v := .str (if isS nm "less" = true then "at most" else "less")) (ev_if (b := isS nm "less") (et_S (ev_var rfl) ev_c) (fun hc => ev_is ev_c (by rw [if_pos hc])) fun hc => ev_is ev_c (by rw [if_neg (by rw [hc]; decide)])) fun H3 e3 => ?_
  have hk3 := hk2.ex e3
  refine s_ret (v := .int (behI nm k v m)) (ev_is (Evl.ev_max2 (ev_op (ec_all ev_c (ev_var rfl) (ev_var rfl) hk3 ⟨by decide, by decide⟩ hm) (ec_bes (ev_var rfl) (ev_var rfl) (ev_var rfl) (ev_var rfl) hk3 ho hv hm) rv_I0) ev_c) ?_) fun H4 e4 => q H4 (e1.trans (e2.trans (e3.trans e4)))
  have e : behI nm k v m = mxI (allI 1000 k m - besI (if isS nm "less" = true then "at most" else "less") k v m) 0 := by
    unfold behI
    rw [if_neg h0, if_neg (by rw [hb2]; decide)]
  rw [e]
  rfl
theorem ok__share_of_columns (D : Dn K mg "_share_of_columns" s__share_of_columns ["first", "second"]) (C_Known : ClsD K mg "Known" ["nulls", "different", "first", "last", "marks"]) (c_rounded_up : C8.Cal P w K mg base 1 "rounded_up" (sp_rounded_up K) []) (z_max : mg "max" = none) (g_WHOLE : ∃ u, mg "WHOLE" = some u ∧ RelV (.int (1000)) u) :
    C8.Cal P w K mg base 2 "_share_of_columns" (sp__share_of_columns K) [] := by
  refine cal_of D sc__share_of_columns (fun vs H Q E h => ?_) (fun f cdv A outer s H vs Q E hr h => ?_)
  · obtain ⟨_, _, _, _, rfl, _⟩ := h
    rfl
  refine ⟨_, (pss_cons (ps_set (i := 2) sc__share_of_columns.nd rfl (.inl rfl) (pe_callB (call_max2 rfl) (by rfl) z_max (by decide +kernel) (pa_cons (pe_fld (pv 0) (by rfl)) (pa_cons (pe_fld (pv 1) (by rfl)) pa_nil))))
    (pss_one (ps_ret (pe_ifExp (pt_cmpR op_eq (pv 2) pe_int (nomark _)) pe_int (C8.pe_c c_rounded_up hr (by decide) (by rfl) (pa_cons (C8.pe_gc rfl g_WHOLE) (pa_cons (pv 2) pa_nil))))))), ?_⟩
  obtain ⟨p, r, a, b, rfl, ha, hb, oa, ob, q⟩ := h
  have za := oa.z
  have zb := ob.z
  refine q_asg (v := .int ((if b.dif > a.dif then b.dif else a.dif : Nat) : Int)) (ev_is (Evl.ev_max2 (kn_d C_Known ha (ev_var rfl)) (kn_d C_Known hb (ev_var rfl))) ?_) fun H1 e1 => ?_
  · congr 1
    split <;> split <;> omega
  have hn : ∀ n : Nat, n ≤ 1000 → Ev (tIf (tTest (tOp rEq (tVar 2) (tC (.int 0)))) (tC (.int 0)) (tCall (sp_rounded_up K) [] C8.E0 (tCons (tC (.int 1000)) (tCons (tVar 2) tNil)))) [some (.ref p), some (.ref r), some (.int (n : Int))] H1 (.int (if n = 0 then 0 else upI 1000 (n : Int))) := fun n hn => by
    refine ev_if (b := decide (V.int (n : Int) = V.int 0)) (et_test (ev_op (ev_var rfl) ev_c (rv_eq rfl))) (fun hc => ev_is ev_c ?_) fun hc => ev_is (ec_up (n := 1000) ev_c (ev_var rfl) ?_ (by omega)) ?_
    · have h0 : n = 0 := by have := V.int.inj (of_decide_eq_true hc); omega
      rw [if_pos h0]
    · have h0 : ¬ n = 0 := fun z => by rw [z] at hc; exact absurd hc (by decide)
      omega
    · have h0 : ¬ n = 0 := fun z => by rw [z] at hc; exact absurd hc (by decide)
      rw [if_neg h0]
  exact s_ret (v := .int (colsI a b)) (hn _ (by split <;> omega)) fun H2 e2 => q H2 (e1.trans e2)
theorem ok__share_of_nulls (D : Dn K mg "_share_of_nulls" s__share_of_nulls ["known", "many"]) (C_Known : ClsD K mg "Known" ["nulls", "different", "first", "last", "marks"]) (c_rounded_up : C8.Cal P w K mg base 1 "rounded_up" (sp_rounded_up K) []) (z_min : mg "min" = none) (g_WHOLE : ∃ u, mg "WHOLE" = some u ∧ RelV (.int (1000)) u) :
    C8.Cal P w K mg base 2 "_share_of_nulls" (sp__share_of_nulls K) [] := by
  refine cal_of D sc__share_of_nulls (fun vs H Q E h => ?_) (fun f cdv A outer s H vs Q E hr h => ?_)
  · obtain ⟨_, _, _, rfl, _⟩ := h
    rfl
  refine ⟨_, (pss_one (ps_ret (pe_ifExp (pt_cmpR op_eq (pv 1) pe_int (nomark _)) pe_int (pe_callB (call_min2 rfl) (by rfl) z_min (by decide +kernel) (pa_cons (C8.pe_c c_rounded_up hr (by decide) (by rfl) (pa_cons (pe_op op_mul (C8.pe_gc rfl g_WHOLE) (pe_fld (pv 0) (by rfl))) (pa_cons (pv 1) pa_nil))) (pa_cons (C8.pe_gc rfl g_WHOLE) pa_nil)))))), ?_⟩
  obtain ⟨p, k, m, rfl, hk, hm, q⟩ := h
  refine s_ret (v := .int (nulI k m)) (ev_if (b := decide (V.int m = V.int 0)) (et_test (ev_op (ev_var rfl) ev_c (rv_eq rfl))) (fun hc => ev_is ev_c ?_) fun hc => ev_is (ev_min2 (ec_up (n := 1000 * (k.nul : Int)) (d := m) (ev_op ev_c (kn_n C_Known hk (ev_var rfl)) (rv_I (.inl ⟨by decide, by decide⟩))) (ev_var rfl) ?_ (by omega)) ev_c) ?_) fun H2 e2 => q H2 e2
  · have h0 : m = 0 := V.int.inj (of_decide_eq_true hc)
    unfold nulI
    rw [if_pos h0]
  · have h0 : ¬ m = 0 := fun z => by rw [z] at hc; exact absurd hc (by decide)
    omega
  · have h0 : ¬ m = 0 := fun z => by rw [z] at hc; exact absurd hc (by decide)
    unfold nulI
    rw [if_neg h0]
theorem hd_col {e : Cnd} (h : isS e.hd "column" = true) : ∃ n, e = .col n := by
  cases e with
  | col n => exact ⟨n, rfl⟩
  | cst v => exact absurd h (show ¬ isS "constant" "column" = true by decide +kernel)
  | un nm a => exact absurd h (show ¬ isS "unary" "column" = true by decide +kernel)
  | bin nm a b => exact absurd h (show ¬ isS "binary" "column" = true by decide +kernel)
theorem hd_cst {e : Cnd} (h : isS e.hd "constant" = true) : ∃ v, e = .cst v := by
  cases e with
  | col n => exact absurd h (show ¬ isS "column" "constant" = true by decide +kernel)
  | cst v => exact ⟨v, rfl⟩
  | un nm a => exact absurd h (show ¬ isS "unary" "constant" = true by decide +kernel)
  | bin nm a b => exact absurd h (show ¬ isS "binary" "constant" = true by decide +kernel)
theorem cmp_other {ks : List Kn} {m : Int} {nm : Str} {a b : Cnd} (h1 : ((isS a.hd "column" && isS b.hd "column") && (isS nm "equal" || isS nm "same")) = false) (h2 : ((isS a.hd "column" && isS b.hd "constant") && (isS nm "equal" || isS nm "less" || isS nm "at most")) = false)
    (h3 : ((isS a.hd "constant" && isS b.hd "column") && isS nm "equal") = false) (h4 : ((isS a.hd "constant" && isS b.hd "column") && (isS nm "less" || isS nm "at most")) = false) : cmpI ks m nm a b = 333 := by
  have c1 : isS "column" "column" = true := by decide +kernel
  have c2 : isS "constant" "constant" = true := by decide +kernel
  cases a with
  | col i => cases b with
    | col j =>
      have h1 : ((isS "column" "column" && isS "column" "column") && (isS nm "equal" || isS nm "same")) = false := h1
      rw [c1, Bool.and_self, Bool.true_and] at h1
      show (if (isS nm "equal" || isS nm "same") = true then _ else _) = _
      rw [if_neg (by rw [h1]; decide)]
    | cst v =>
      have h2 : ((isS "column" "column" && isS "constant" "constant") && (isS nm "equal" || isS nm "less" || isS nm "at most")) = false := h2
      rw [c1, c2, Bool.and_self, Bool.true_and] at h2
      show (if (isS nm "equal" || isS nm "less" || isS nm "at most") = true then _ else _) = _
      rw [if_neg (by rw [h2]; decide)]
    | un _ _ => rfl
    | bin _ _ _ => rfl
  | cst v => cases b with
    | col i =>
      have h3 : ((isS "constant" "constant" && isS "column" "column") && isS nm "equal") = false := h3
      have h4 : ((isS "constant" "constant" && isS "column" "column") && (isS nm "less" || isS nm "at most")) = false := h4
      rw [c1, c2, Bool.and_self, Bool.true_and] at h3 h4
      show (if isS nm "equal" = true then _ else if (isS nm "less" || isS nm "at most") = true then _ else _) = _
      rw [if_neg (by rw [h3]; decide), if_neg (by rw [h4]; decide)]
    | cst _ => rfl
    | un _ _ => rfl
    | bin _ _ _ => rfl
  | un _ _ => rfl
  | bin _ _ _ => rfl
section
variable {σ : L2.St} {H : Hp} {ta tb : TE} {p : Addr} {s x y u v : Str}
theorem shp2 (hx : PyData.strOk x = true) (hy : PyData.strOk y = true) : SeqAt.shaped (.tuple [.str x, .str y]) = true := by
  show ((PyData.strOk x && (PyData.strOk y && true)) && decide (_ ≤ 64)) = true
  rw [hx, hy]
  rfl
theorem hd_ok (e : Cnd) : PyData.strOk e.hd = true := by
  cases e with
  | col _ => show PyData.strOk "column" = true; decide +kernel
  | cst _ => show PyData.strOk "constant" = true; decide +kernel
  | un _ _ => show PyData.strOk "unary" = true; decide +kernel
  | bin _ _ _ => show PyData.strOk "binary" = true; decide +kernel
theorem et_forms (hx : PyData.strOk x = true) (hy : PyData.strOk y = true) (hu : PyData.strOk u = true) (hv : PyData.strOk v = true) (ha : Ev ta σ H (.ref p)) (hp : H p = some (.tup [.str x, .str y])) (h1 : EvU tb σ H [.str u, .str v]) : EvT (tTest (tOp (rEqD K) ta tb)) σ H (isS x u && isS y v) := by
  refine et_is (et_test (ev_eqD (ed_val ha (.tup (st_of hp) (.cons (.str x) (.cons (.str y) .nil)))) (e := .tuple [.str u, .str v]) (fun H1 e Q q => h1 H1 e _ fun p H2 hp e2 h2 => q _ H2 e2 (.tup (st_of h2) (.cons (.str u) (.cons (.str v) .nil)))) (shp2 hx hy) (shp2 hu hv))) (eqv2S x y u v)
theorem et_in2 (ha : Ev ta σ H (.str s)) (h1 : EvU tb σ H [.str x, .str y]) : EvT (tTest (tOp (rIn K false) ta tb)) σ H (isS s x || isS s y) := by
  have e : inV (.str s) [.str x, .str y] = (isS s x || isS s y) := by
    rw [inV_cons, inV_cons]
    show (_ || (_ || false)) = _
    rw [Bool.or_false]
  rw [← e]
  exact et_test fun H1 e1 Q q => ha H1 e1 _ fun H2 e2 => h1 H2 (e1.trans e2) _ fun r H3 hr e3 h3 => ⟨r, _, rfl, .inr (st_of h3), rfl, rfl, q H3 (e2.trans e3)⟩
theorem et_in3 {z : Str} (ha : Ev ta σ H (.str s)) (h1 : EvU tb σ H [.str x, .str y, .str z]) : EvT (tTest (tOp (rIn K false) ta tb)) σ H (isS s x || isS s y || isS s z) := by
  have e : inV (.str s) [.str x, .str y, .str z] = (isS s x || isS s y || isS s z) := by
    rw [inV_cons, inV_cons, inV_cons]
    show (_ || (_ || (_ || false))) = _
    rw [Bool.or_false, Bool.or_assoc]
  rw [← e]
  exact et_test fun H1 e1 Q q => ha H1 e1 _ fun H2 e2 => h1 H2 (e1.trans e2) _ fun r H3 hr e3 h3 => ⟨r, _, rfl, .inr (st_of h3), rfl, rfl, q H3 (e2.trans e3)⟩
end
theorem c_ok : PyData.strOk "column" = true ∧ PyData.strOk "constant" = true := ⟨by decide +kernel, by decide +kernel⟩
theorem ok__share_of_comparison (D : Dn K mg "_share_of_comparison" s__share_of_comparison ["condition", "many", "columns"]) (c__behind_value : C8.Cal P w K mg base 6 "_behind_value" (sp__behind_value K) []) (c__beside_value : C8.Cal P w K mg base 5 "_beside_value" (sp__beside_value K) []) (c__share_of_columns : C8.Cal P w K mg base 2 "_share_of_columns" (sp__share_of_columns K) []) (c_column_at : C8.Cal P w K mg base 4 "column_at" (sp_column_at K) []) (g__UNKNOWN : ∃ u, mg "_UNKNOWN" = some u ∧ RelV (.int (333)) u) :
    C8.Cal P w K mg base 7 "_share_of_comparison" (sp__share_of_comparison K) [] := by
  refine cal_of D sc__share_of_comparison (fun vs H Q E h => ?_) (fun f cdv A outer s H vs Q E hr h => ?_)
  · obtain ⟨_, _, _, _, _, _, _, rfl, _⟩ := h
    rfl
  refine ⟨_, (pss_cons (ps_asg (pv 0) (pg_tup rfl (pgs_cons (pg_name (i := 3) sc__share_of_comparison.nd rfl (.inl rfl)) (pgs_cons (pg_name (i := 4) sc__share_of_comparison.nd rfl (.inl rfl)) (pgs_cons (pg_name (i := 5) sc__share_of_comparison.nd rfl (.inl rfl)) (pgs_cons (pg_name (i := 6) sc__share_of_comparison.nd rfl (.inl rfl)) pgs_nil))))))
    (pss_cons (ps_set (i := 7) sc__share_of_comparison.nd rfl (.inl rfl) (pe_tup (pa_cons (pe_ix ix_tup (pv 5) pe_int (fun _ _ => rfl)) (pa_cons (pe_ix ix_tup (pv 6) pe_int (fun _ _ => rfl)) pa_nil))))
    (pss_cons (ps_if (PW.pt (pw_and (pt_cmpR (op_eqD (hu64 hr)) (pv 7) (pe_tup (pa_cons pe_str (pa_cons pe_str pa_nil))) (nomark _)) (pw_and1 (pt_cmpR op_in_seq (pv 4) (pe_tup (pa_cons pe_str (pa_cons pe_str pa_nil))) (by with_unfolding_all rfl)))))
      (pss_one (ps_ret (C8.pe_c c__share_of_columns hr (by decide) (by rfl) (pa_cons (C8.pe_c c_column_at hr (by decide) (by rfl) (pa_cons (pe_ix ix_tup (pv 5) pe_int (fun _ _ => rfl)) (pa_cons (pv 2) pa_nil))) (pa_cons (C8.pe_c c_column_at hr (by decide) (by rfl) (pa_cons (pe_ix ix_tup (pv 6) pe_int (fun _ _ => rfl)) (pa_cons (pv 2) pa_nil))) pa_nil)))))
      pss_nil)
    (pss_cons (ps_if (PW.pt (pw_and (pt_cmpR (op_eqD (hu64 hr)) (pv 7) (pe_tup (pa_cons pe_str (pa_cons pe_str pa_nil))) (nomark _)) (pw_and1 (pt_cmpR op_in_seq (pv 4) (pe_tup (pa_cons pe_str (pa_cons pe_str (pa_cons pe_str pa_nil)))) (by with_unfolding_all rfl)))))
      (pss_one (ps_ret (C8.pe_c c__beside_value hr (by decide) (by rfl) (pa_cons (pv 4) (pa_cons (C8.pe_c c_column_at hr (by decide) (by rfl) (pa_cons (pe_ix ix_tup (pv 5) pe_int (fun _ _ => rfl)) (pa_cons (pv 2) pa_nil))) (pa_cons (pe_ix ix_tup (pv 6) pe_int (fun _ _ => rfl)) (pa_cons (pv 1) pa_nil)))))))
      pss_nil)
    (pss_cons (ps_if (PW.pt (pw_and (pt_cmpR (op_eqD (hu64 hr)) (pv 7) (pe_tup (pa_cons pe_str (pa_cons pe_str pa_nil))) (nomark _)) (pw_and1 (pt_cmpR op_eq (pv 4) pe_str (nomark _)))))
      (pss_one (ps_ret (C8.pe_c c__beside_value hr (by decide) (by rfl) (pa_cons (pv 4) (pa_cons (C8.pe_c c_column_at hr (by decide) (by rfl) (pa_cons (pe_ix ix_tup (pv 6) pe_int (fun _ _ => rfl)) (pa_cons (pv 2) pa_nil))) (pa_cons (pe_ix ix_tup (pv 5) pe_int (fun _ _ => rfl)) (pa_cons (pv 1) pa_nil)))))))
      pss_nil)
    (pss_cons (ps_if (PW.pt (pw_and (pt_cmpR (op_eqD (hu64 hr)) (pv 7) (pe_tup (pa_cons pe_str (pa_cons pe_str pa_nil))) (nomark _)) (pw_and1 (pt_cmpR op_in_seq (pv 4) (pe_tup (pa_cons pe_str (pa_cons pe_str pa_nil))) (by with_unfolding_all rfl)))))
      (pss_one (ps_ret (C8.pe_c c__behind_value hr (by decide) (by rfl) (pa_cons (pv 4) (pa_cons (C8.pe_c c_column_at hr (by decide) (by rfl) (pa_cons (pe_ix ix_tup (pv 6) pe_int (fun _ _ => rfl)) (pa_cons (pv 2) pa_nil))) (pa_cons (pe_ix ix_tup (pv 5) pe_int (fun _ _ => rfl)) (pa_cons (pv 1) pa_nil)))))))
      pss_nil)
    (pss_one (ps_ret (C8.pe_gc rfl g__UNKNOWN))))))))), ?_⟩
  obtain ⟨v, nm, a, b, m, c, ks, rfl, hcx, hc, hm, q⟩ := h
  obtain ⟨ad, ys, rfl, hS, hV⟩ := cx_at hcx
  cases hV with
  | bin _ _ _ y z hn ha hb =>
  refine q_asgT ((ev_var rfl) H (Ex.refl H) _ fun H1 e1 => gt4 (ex_t e1 hS) ?_)
  obtain ⟨pa, xa, rfl, hSa, hVa⟩ := cx_at (ha.ex e1)
  obtain ⟨pb, xb, rfl, hSb, hVb⟩ := cx_at (hb.ex e1)
  have cc := hc.ex e1
  refine q_asgU (eu_tup (ea_cons (ev_op (ev_var rfl) ev_c (rv_ixT hSa (atI_nat (j := 0) hVa.hd))) (ea_cons (ev_op (ev_var rfl) ev_c (rv_ixT hSb (atI_nat (j := 0) hVb.hd))) ea_nil)) (by show 2 ≤ 100000; decide)) fun pf H2 hpf e2 h2 => ?_
  have two : ∀ {σ : L2.St} {H0 : Hp} {s t : Str}, EvU (tTup (tCons (tC (.str s)) (tCons (tC (.str t)) tNil))) σ H0 [.str s, .str t] := eu_tup (ea_cons ev_c (ea_cons ev_c ea_nil)) (by show 2 ≤ 100000; decide)
  have three : ∀ {σ : L2.St} {H0 : Hp} {s t u : Str}, EvU (tTup (tCons (tC (.str s)) (tCons (tC (.str t)) (tCons (tC (.str u)) tNil)))) σ H0 [.str s, .str t, .str u] := eu_tup (ea_cons ev_c (ea_cons ev_c (ea_cons ev_c ea_nil))) (by show 3 ≤ 100000; decide)
  have oks := fun n => colAt_ok hc.2.1 n
  refine q_when (b := (isS a.hd "column" && isS b.hd "column") && (isS nm "equal" || isS nm "same")) (et_and (et_forms (hd_ok a) (hd_ok b) c_ok.1 c_ok.1 (ev_var rfl) h2 two) fun _ => et_in2 (ev_var rfl) two) (fun hb1 H3 e3 => ?_) fun hb1 H3 e3 => ?_
  · simp only [Bool.and_eq_true] at hb1
    obtain ⟨i, rfl⟩ := hd_col hb1.1.1
    obtain ⟨j, rfl⟩ := hd_col hb1.1.2
    cases hVa
    cases hVb
    have x3 := e2.trans e3
    refine s_ret (v := .int (cmpI ks m nm (.col i) (.col j))) (ev_is (ec_colsK (ek_col (ev_op (ev_var rfl) ev_c (rv_ixT (ex_t x3 hSa) (atI_nat (j := 1) rfl))) (ev_var rfl) (cc.ex x3)) (ek_col (ev_op (ev_var rfl) ev_c (rv_ixT (ex_t x3 hSb) (atI_nat (j := 1) rfl))) (ev_var rfl) (cc.ex x3)) (oks i) (oks j)) ?_) fun H4 e4 => q H4 (e1.trans (x3.trans e4))
    show _ = V.int (if (isS nm "equal" || isS nm "same") = true then _ else _)
    rw [if_pos hb1.2]
  refine q_when (b := (isS a.hd "column" && isS b.hd "constant") && (isS nm "equal" || isS nm "less" || isS nm "at most")) (et_and (et_forms (hd_ok a) (hd_ok b) c_ok.1 c_ok.2 (ev_var rfl) (e3 _ _ h2) two) fun _ => et_in3 (ev_var rfl) three) (fun hb2 H4 e4 => ?_) fun hb2 H4 e4 => ?_
  · simp only [Bool.and_eq_true] at hb2
    obtain ⟨i, rfl⟩ := hd_col hb2.1.1
    obtain ⟨x, rfl⟩ := hd_cst hb2.1.2
    cases hVa
    cases hVb with
    | cst _ hx =>
    have x4 := e2.trans (e3.trans e4)
    refine s_ret (v := .int (cmpI ks m nm (.col i) (.cst x))) (ev_is (ec_besK (ev_var rfl) (ek_col (ev_op (ev_var rfl) ev_c (rv_ixT (ex_t x4 hSa) (atI_nat (j := 1) rfl))) (ev_var rfl) (cc.ex x4)) (ev_op (ev_var rfl) ev_c (rv_ixT (ex_t x4 hSb) (atI_nat (j := 1) rfl))) (ev_var rfl) (oks i) (dv_ok hx) hm) ?_) fun H5 e5 => q H5 (e1.trans (x4.trans e5))
    show _ = V.int (if (isS nm "equal" || isS nm "less" || isS nm "at most") = true then _ else _)
    rw [if_pos hb2.2]
  refine q_when (b := (isS a.hd "constant" && isS b.hd "column") && isS nm "equal") (et_and (et_forms (hd_ok a) (hd_ok b) c_ok.2 c_ok.1 (ev_var rfl) ((e3.trans e4) _ _ h2) two) fun _ => et_S (ev_var rfl) ev_c) (fun hb3 H5 e5 => ?_) fun hb3 H5 e5 => ?_
  · simp only [Bool.and_eq_true] at hb3
    obtain ⟨x, rfl⟩ := hd_cst hb3.1.1
    obtain ⟨i, rfl⟩ := hd_col hb3.1.2
    cases hVb
    cases hVa with
    | cst _ hx =>
    have x5 := e2.trans (e3.trans (e4.trans e5))
    refine s_ret (v := .int (cmpI ks m nm (.cst x) (.col i))) (ev_is (ec_besK (ev_var rfl) (ek_col (ev_op (ev_var rfl) ev_c (rv_ixT (ex_t x5 hSb) (atI_nat (j := 1) rfl))) (ev_var rfl) (cc.ex x5)) (ev_op (ev_var rfl) ev_c (rv_ixT (ex_t x5 hSa) (atI_nat (j := 1) rfl))) (ev_var rfl) (oks i) (dv_ok hx) hm) ?_) fun H6 e6 => q H6 (e1.trans (x5.trans e6))
    show _ = V.int (if isS nm "equal" = true then _ else _)
    rw [if_pos hb3.2]
  refine q_when (b := (isS a.hd "constant" && isS b.hd "column") && (isS nm "less" || isS nm "at most")) (et_and (et_forms (hd_ok a) (hd_ok b) c_ok.2 c_ok.1 (ev_var rfl) ((e3.trans (e4.trans e5)) _ _ h2) two) fun _ => et_in2 (ev_var rfl) two) (fun hb4 H6 e6 => ?_) fun hb4 H6 e6 => ?_
  · simp only [Bool.and_eq_true] at hb4
    obtain ⟨x, rfl⟩ := hd_cst hb4.1.1
    obtain ⟨i, rfl⟩ := hd_col hb4.1.2
    cases hVb
    cases hVa with
    | cst _ hx =>
    have x6 := e2.trans (e3.trans (e4.trans (e5.trans e6)))
    have ne : isS nm "equal" = false := by
      cases z : isS nm "equal" with
      | false => rfl
      | true =>
        rw [z, show isS (Cnd.cst x).hd "constant" = true by show isS "constant" "constant" = true; decide +kernel, show isS (Cnd.col i).hd "column" = true by show isS "column" "column" = true; decide +kernel] at hb3
        exact nomatch hb3
    refine s_ret (v := .int (cmpI ks m nm (.cst x) (.col i))) (ev_is (ec_besK (ev_var rfl) (ek_col (ev_op (ev_var rfl) ev_c (rv_ixT (ex_t x6 hSb) (atI_nat (j := 1) rfl))) (ev_var rfl) (cc.ex x6)) (ev_op (ev_var rfl) ev_c (rv_ixT (ex_t x6 hSa) (atI_nat (j := 1) rfl))) (ev_var rfl) (oks i) (dv_ok hx) hm) ?_) fun H7 e7 => q H7 (e1.trans (x6.trans e7))
    show _ = V.int (if isS nm "equal" = true then _ else if (isS nm "less" || isS nm "at most") = true then _ else _)
    rw [if_neg (by rw [ne]; decide), if_pos hb4.2]
  refine s_ret (v := .int (cmpI ks m nm a b)) (ev_is ev_c ?_) fun H7 e7 => q H7 (e1.trans (e2.trans (e3.trans (e4.trans (e5.trans (e6.trans e7))))))
  rw [cmp_other hb1 hb2 hb3 hb4]

end
--@SPLIT
section
variable {P : Program} {w : World} {K : PySem.W.Frag} {mg : Str → Option Value} {base : Heap}
theorem hd_c (n : Nat) : isS (Cnd.col n).hd "constant" = false ∧ isS (Cnd.col n).hd "unary" = false ∧ isS (Cnd.col n).hd "binary" = false := by
  show isS "column" "constant" = false ∧ isS "column" "unary" = false ∧ isS "column" "binary" = false
  exact ⟨by decide +kernel, by decide +kernel, by decide +kernel⟩
theorem hd_k (x : V) : isS (Cnd.cst x).hd "constant" = true ∧ isS (Cnd.cst x).hd "unary" = false ∧ isS (Cnd.cst x).hd "binary" = false := by
  show isS "constant" "constant" = true ∧ isS "constant" "unary" = false ∧ isS "constant" "binary" = false
  exact ⟨by decide +kernel, by decide +kernel, by decide +kernel⟩
theorem hd_u (nm : Str) (a : Cnd) : isS (Cnd.un nm a).hd "constant" = false ∧ isS (Cnd.un nm a).hd "unary" = true ∧ isS (Cnd.un nm a).hd "binary" = false := by
  show isS "unary" "constant" = false ∧ isS "unary" "unary" = true ∧ isS "unary" "binary" = false
  exact ⟨by decide +kernel, by decide +kernel, by decide +kernel⟩
theorem hd_b (nm : Str) (a b : Cnd) : isS (Cnd.bin nm a b).hd "constant" = false ∧ isS (Cnd.bin nm a b).hd "unary" = false ∧ isS (Cnd.bin nm a b).hd "binary" = true := by
  show isS "binary" "constant" = false ∧ isS "binary" "unary" = false ∧ isS "binary" "binary" = true
  exact ⟨by decide +kernel, by decide +kernel, by decide +kernel⟩
theorem dep_pos : ∀ e : Cnd, 1 ≤ e.dep
  | .col _ => Nat.le_refl _
  | .cst _ => Nat.le_refl _
  | .un _ a => Nat.le_add_left _ _
  | .bin _ a b => Nat.le_add_left _ _
theorem isCol_no {a : Cnd} (h : isS a.hd "column" = false) : isCol a = none := by
  cases a with
  | col n => exact absurd h (by show ¬ isS "column" "column" = false; decide +kernel)
  | _ => rfl
theorem ok_share_in {rn : Nat} (D : Dn K mg "share_in" s_share_in ["condition", "many", "columns"]) (c__share_of_comparison : C8.Cal P w K mg base 7 "_share_of_comparison" (sp__share_of_comparison K) []) (c__share_of_nulls : C8.Cal P w K mg base 2 "_share_of_nulls" (sp__share_of_nulls K) []) (c_column_at : C8.Cal P w K mg base 4 "column_at" (sp_column_at K) []) (c_rounded_up : C8.Cal P w K mg base 1 "rounded_up" (sp_rounded_up K) []) (z_min : mg "min" = none) (g_WHOLE : ∃ u, mg "WHOLE" = some u ∧ RelV (.int (1000)) u) (g__UNKNOWN : ∃ u, mg "_UNKNOWN" = some u ∧ RelV (.int (333)) u) (c_share_in : C8.Cal P w K mg base (8 + rn) "share_in" (spR_share_in rn K) []) :
    C8.Cal P w K mg base (8 + rn + 1) "share_in" (spR_share_in (rn + 1) K) [] := by
  refine cal_of D sc_share_in (fun vs H Q E h => ?_) (fun f cdv A outer s H vs Q E hr h => ?_)
  · obtain ⟨_, _, _, _, _, rfl, _⟩ := h
    rfl
  refine ⟨_, (pss_cons (ps_set (i := 3) sc_share_in.nd rfl (.inl rfl) (pe_ix ix_tup (pv 0) pe_int (fun _ _ => rfl)))
    (pss_cons (ps_if (pt_cmpR op_eq (pv 3) pe_str (nomark _))
      (pss_one (ps_ret (pe_ifExp (pt_cmpR op_isTF (pe_ix ix_tup (pv 0) pe_int (fun _ _ => rfl)) pe_bl (nomark _)) (C8.pe_gc rfl g_WHOLE) pe_int)))
      pss_nil)
    (pss_cons (ps_if (PW.pt (pw_and (pt_cmpR op_eq (pv 3) pe_str (nomark _)) (pw_and1 (pt_cmpR op_eq (pe_ix ix_tup (pv 0) pe_int (fun _ _ => rfl)) pe_str (nomark _)))))
      (pss_one (ps_ret (pe_op op_sub (C8.pe_gc rfl g_WHOLE) (C8.pe_c c_share_in hr (Nat.le_refl _) (by rfl) (pa_cons (pe_ix ix_tup (pv 0) pe_int (fun _ _ => rfl)) (pa_cons (pv 1) (pa_cons (pv 2) pa_nil)))))))
      pss_nil)
    (pss_cons (ps_if (PW.pt (pw_and (pt_cmpR op_eq (pv 3) pe_str (nomark _)) (pw_and (pt_cmpR op_eq (pe_ix ix_tup (pv 0) pe_int (fun _ _ => rfl)) pe_str (nomark _)) (pw_and1 (pt_cmpR op_eq (pe_ix ix_tup (pe_ix ix_tup (pv 0) pe_int (fun _ _ => rfl)) pe_int (fun _ _ => rfl)) pe_str (nomark _))))))
      (pss_one (ps_ret (C8.pe_c c__share_of_nulls hr (by omega) (by rfl) (pa_cons (C8.pe_c c_column_at hr (by omega) (by rfl) (pa_cons (pe_ix ix_tup (pe_ix ix_tup (pv 0) pe_int (fun _ _ => rfl)) pe_int (fun _ _ => rfl)) (pa_cons (pv 2) pa_nil))) (pa_cons (pv 1) pa_nil)))))
      pss_nil)
    (pss_cons (ps_if (pt_cmpR op_ne (pv 3) pe_str (nomark _))
      (pss_one (ps_ret (C8.pe_gc rfl g__UNKNOWN)))
      pss_nil)
    (pss_cons (ps_asg (pv 0) (pg_tup rfl (pgs_cons (pg_name (i := 4) sc_share_in.nd rfl (.inl rfl)) (pgs_cons (pg_name (i := 5) sc_share_in.nd rfl (.inl rfl)) (pgs_cons (pg_name (i := 6) sc_share_in.nd rfl (.inl rfl)) (pgs_cons (pg_name (i := 7) sc_share_in.nd rfl (.inl rfl)) pgs_nil))))))
    (pss_cons (ps_if (pt_cmpR op_eq (pv 5) pe_str (nomark _))
      (pss_one (ps_ret (C8.pe_c c_rounded_up hr (by omega) (by rfl) (pa_cons (pe_op op_mul (C8.pe_c c_share_in hr (Nat.le_refl _) (by rfl) (pa_cons (pv 6) (pa_cons (pv 1) (pa_cons (pv 2) pa_nil)))) (C8.pe_c c_share_in hr (Nat.le_refl _) (by rfl) (pa_cons (pv 7) (pa_cons (pv 1) (pa_cons (pv 2) pa_nil))))) (pa_cons (C8.pe_gc rfl g_WHOLE) pa_nil)))))
      pss_nil)
    (pss_cons (ps_if (pt_cmpR op_eq (pv 5) pe_str (nomark _))
      (pss_one (ps_ret (pe_callB (call_min2 rfl) (by rfl) z_min (by decide +kernel) (pa_cons (pe_op op_add (C8.pe_c c_share_in hr (Nat.le_refl _) (by rfl) (pa_cons (pv 6) (pa_cons (pv 1) (pa_cons (pv 2) pa_nil)))) (C8.pe_c c_share_in hr (Nat.le_refl _) (by rfl) (pa_cons (pv 7) (pa_cons (pv 1) (pa_cons (pv 2) pa_nil))))) (pa_cons (C8.pe_gc rfl g_WHOLE) pa_nil)))))
      pss_nil)
    (pss_one (ps_ret (C8.pe_c c__share_of_comparison hr (by omega) (by rfl) (pa_cons (pv 0) (pa_cons (pv 1) (pa_cons (pv 2) pa_nil)))))))))))))), ?_⟩
  obtain ⟨v, e, m, c, ks, rfl, hcx, hd, hc, hm, q⟩ := h
  obtain ⟨ad, ys, rfl, hS, hV⟩ := cx_at hcx
  have hin : ∀ e : Cnd, In1 (shrI ks m e) := sh_in hc.2.1 hm.1
  refine q_asg (v := .str e.hd) (ev_op (ev_var rfl) ev_c (rv_ixT hS (atI_nat (j := 0) hV.hd))) fun H1 e1 => ?_
  have hS1 := ex_t e1 hS
  cases hV with
  | col n =>
    refine q_when (b := false) (et_is (et_S (ev_var rfl) ev_c) (hd_c n).1) (fun h => nomatch h) fun _ H2 e2 => ?_
    refine q_when (b := false) (et_is (et_and (a := false) (b := false) (et_is (et_S (ev_var rfl) ev_c) (hd_c n).2.1) fun h => nomatch h) rfl) (fun h => nomatch h) fun _ H3 e3 => ?_
    refine q_when (b := false) (et_is (et_and (a := false) (b := false) (et_is (et_S (ev_var rfl) ev_c) (hd_c n).2.1) fun h => nomatch h) rfl) (fun h => nomatch h) fun _ H4 e4 => ?_
    exact q_when (b := true) (et_is (et_SN (ev_var rfl) ev_c) (by rw [(hd_c n).2.2]; rfl)) (fun _ H5 e5 => s_ret (v := .int 333) ev_c fun H6 e6 => q H6 (e1.trans (e2.trans (e3.trans (e4.trans (e5.trans e6)))))) fun h => nomatch h
  | cst x hx =>
    refine q_when (b := true) (et_is (et_S (ev_var rfl) ev_c) (hd_k x).1) (fun _ H2 e2 => ?_) fun h => nomatch h
    refine s_ret (v := .int (shrI ks m (.cst x))) (ev_if (b := decide (x = .bl true)) (et_test (ev_op (ev_op (ev_var rfl) ev_c (rv_ixT (ex_t e2 hS1) (atI_nat (j := 1) rfl))) ev_c rv_isT)) (fun hb => ev_is ev_c ?_) fun hb => ev_is ev_c ?_) fun H3 e3 => q H3 (e1.trans (e2.trans e3))
    · show _ = V.int (if x = .bl true then 1000 else 0)
      rw [if_pos (of_decide_eq_true hb)]
    · show _ = V.int (if x = .bl true then 1000 else 0)
      rw [if_neg (of_decide_eq_false hb)]
  | un nm a y hn ha =>
    have hda : a.dep + 1 ≤ rn + 1 := hd
    have hpa := dep_pos a
    refine q_when (b := false) (et_is (et_S (ev_var rfl) ev_c) (hd_u nm a).1) (fun h => nomatch h) fun _ H2 e2 => ?_
    have hS2 := ex_t e2 hS1
    refine q_when (b := isS nm "not") (et_is (et_and (a := true) (et_is (et_S (ev_var rfl) ev_c) (hd_u nm a).2.1) fun _ => et_S (ev_op (ev_var rfl) ev_c (rv_ixT hS2 (atI_nat (j := 1) rfl))) ev_c) (Bool.true_and _)) (fun hb H3 e3 => ?_) fun hb H3 e3 => ?_
    · have x3 := e1.trans (e2.trans e3)
      cases rn with
      | zero => omega
      | succ n =>
      refine s_ret (v := .int (shrI ks m (.un nm a))) (ev_is (ev_op ev_c (ec_share (f := shrI) (n := n + 1) (ev_op (ev_var rfl) ev_c (rv_ixT (ex_t e3 hS2) (atI_nat (j := 2) rfl))) (ev_var rfl) (ev_var rfl) (ha.ex x3) (by omega) (hc.ex x3) hm) rv_I0) ?_) fun H4 e4 => q H4 (x3.trans e4)
      show _ = V.int (if isS nm "not" = true then _ else _)
      rw [if_pos hb]
    have hS3 := ex_t e3 hS2
    have x3 := e1.trans (e2.trans e3)
    obtain ⟨pa, xa, rfl, hSa, hVa⟩ := cx_at (ha.ex x3)
    refine q_when (b := isS nm "is null" && isS a.hd "column") (et_is (et_and (a := true) (et_is (et_S (ev_var rfl) ev_c) (hd_u nm a).2.1) fun _ => et_and (et_S (ev_op (ev_var rfl) ev_c (rv_ixT hS3 (atI_nat (j := 1) rfl))) ev_c) fun _ => et_S (ev_op (ev_op (ev_var rfl) ev_c (rv_ixT hS3 (atI_nat (j := 2) rfl))) ev_c (rv_ixT hSa (atI_nat (j := 0) hVa.hd))) ev_c) (Bool.true_and _)) (fun hb2 H4 e4 => ?_) fun hb2 H4 e4 => ?_
    · simp only [Bool.and_eq_true] at hb2
      obtain ⟨n, rfl⟩ := hd_col hb2.2
      cases hVa
      refine s_ret (v := .int (shrI ks m (.un nm (.col n)))) (ev_is (ec_nulK (ek_col (ev_op (ev_op (ev_var rfl) ev_c (rv_ixT (ex_t e4 hS3) (atI_nat (j := 2) rfl))) ev_c (rv_ixT (ex_t e4 hSa) (atI_nat (j := 1) rfl))) (ev_var rfl) (hc.ex (x3.trans e4))) (ev_var rfl) hm) ?_) fun H5 e5 => q H5 (x3.trans (e4.trans e5))
      show _ = V.int (if isS nm "not" = true then _ else if isS nm "is null" = true then nulI (colAt ks n) m else _)
      rw [if_neg (by rw [hb]; decide), if_pos hb2.1]
    refine q_when (b := true) (et_is (et_SN (ev_var rfl) ev_c) (by rw [(hd_u nm a).2.2]; rfl)) (fun _ H5 e5 => s_ret (v := .int (shrI ks m (.un nm a))) (ev_is ev_c ?_) fun H6 e6 => q H6 (x3.trans (e4.trans (e5.trans e6)))) fun h => nomatch h
    show _ = V.int (if isS nm "not" = true then _ else if isS nm "is null" = true then _ else 333)
    rw [if_neg (by rw [hb]; decide)]
    cases h1 : isS nm "is null" with
    | false => rw [if_neg (by decide)]
    | true =>
      rw [h1, Bool.true_and] at hb2
      rw [if_pos rfl, isCol_no hb2]
  | bin nm a b y z hn ha hb =>
    have hda : max a.dep b.dep + 1 ≤ rn + 1 := hd
    have hpa := dep_pos a
    refine q_when (b := false) (et_is (et_S (ev_var rfl) ev_c) (hd_b nm a b).1) (fun h => nomatch h) fun _ H2 e2 => ?_
    refine q_when (b := false) (et_is (et_and (a := false) (b := false) (et_is (et_S (ev_var rfl) ev_c) (hd_b nm a b).2.1) fun h => nomatch h) rfl) (fun h => nomatch h) fun _ H3 e3 => ?_
    refine q_when (b := false) (et_is (et_and (a := false) (b := false) (et_is (et_S (ev_var rfl) ev_c) (hd_b nm a b).2.1) fun h => nomatch h) rfl) (fun h => nomatch h) fun _ H4 e4 => ?_
    refine q_when (b := false) (et_is (et_SN (ev_var rfl) ev_c) (by rw [(hd_b nm a b).2.2]; rfl)) (fun h => nomatch h) fun _ H5 e5 => ?_
    have x5 := e1.trans (e2.trans (e3.trans (e4.trans e5)))
    refine q_asgT ((ev_var rfl) H5 (Ex.refl H5) _ fun H6 e6 => gt4 (ex_t (e2.trans (e3.trans (e4.trans (e5.trans e6)))) hS1) ?_)
    have x6 := x5.trans e6
    cases rn with
    | zero => omega
    | succ n =>
    refine q_when (b := isS nm "and") (et_S (ev_var rfl) ev_c) (fun h1 H7 e7 => ?_) fun h1 H7 e7 => ?_
    · have x7 := x6.trans e7
      have i1 := hin a
      have i2 := hin b
      refine s_ret (v := .int (shrI ks m (.bin nm a b))) (ev_is (ec_up (n := shrI ks m a * shrI ks m b) (d := 1000) (ev_op (ec_share (f := shrI) (n := n + 1) (ev_var rfl) (ev_var rfl) (ev_var rfl) (ha.ex x7) (by omega) (hc.ex x7) hm) (ec_share (f := shrI) (n := n + 1) (ev_var rfl) (ev_var rfl) (ev_var rfl) (hb.ex x7) (by omega) (hc.ex x7) hm) (rv_I (.inl ⟨by have := i1.1; omega, by have := i1.2; omega⟩))) ev_c (by decide) (by decide)) ?_) fun H8 e8 => q H8 (x7.trans e8)
      show _ = V.int (if isS nm "and" = true then _ else _)
      rw [if_pos h1]
    refine q_when (b := isS nm "or") (et_S (ev_var rfl) ev_c) (fun h2 H8 e8 => ?_) fun h2 H8 e8 => ?_
    · have x8 := x6.trans (e7.trans e8)
      refine s_ret (v := .int (shrI ks m (.bin nm a b))) (ev_is (ev_min2 (ev_op (ec_share (f := shrI) (n := n + 1) (ev_var rfl) (ev_var rfl) (ev_var rfl) (ha.ex x8) (by omega) (hc.ex x8) hm) (ec_share (f := shrI) (n := n + 1) (ev_var rfl) (ev_var rfl) (ev_var rfl) (hb.ex x8) (by omega) (hc.ex x8) hm) rv_I0) ev_c) ?_) fun H9 e9 => q H9 (x8.trans e9)
      show _ = V.int (if isS nm "and" = true then _ else if isS nm "or" = true then _ else _)
      rw [if_neg (show ¬ isS nm "and" = true by rw [h1]; decide), if_pos h2]
    have x8 := x6.trans (e7.trans e8)
    refine s_ret (v := .int (shrI ks m (.bin nm a b))) (ev_is (ec_cmp (ev_var rfl) (ev_var rfl) (ev_var rfl) (hcx.ex x8) (hc.ex x8) hm) ?_) fun H9 e9 => q H9 (x8.trans e9)
    show _ = V.int (if isS nm "and" = true then _ else if isS nm "or" = true then _ else _)
    rw [if_neg (show ¬ isS nm "and" = true by rw [h1]; decide), if_neg (show ¬ isS nm "or" = true by rw [h2]; decide)]
theorem ok_share_of (D : Dn K mg "share_of" s_share_of ["condition", "many", "columns"]) (c_share_in : C8.Cal P w K mg base 16 "share_in" (sp_share_in K) []) :
    C8.Cal P w K mg base 17 "share_of" (sp_share_of K) [] := by
  refine cal_of D sc_share_of (fun vs H Q E h => ?_) (fun f cdv A outer s H vs Q E hr h => ?_)
  · obtain ⟨_, _, _, _, _, rfl, _⟩ := h
    rfl
  refine ⟨_, (pss_one (ps_ret (C8.pe_c c_share_in hr (by decide) (by rfl) (pa_cons (pv 0) (pa_cons (pv 1) (pa_cons (pv 2) pa_nil)))))), ?_⟩
  obtain ⟨v, e, m, c, ks, rfl, hcx, hd, hc, hm, q⟩ := h
  exact s_ret (ec_share (f := shrI) (n := 8) (ev_var rfl) (ev_var rfl) (ev_var rfl) hcx hd hc hm) fun H1 e1 => q H1 e1
end

--@SPLIT
/-! ### the law's shares -/
def RkAt (H : Hp) (q : Addr) (x : V) : Prop := H q = some (.tup (rkL x))
theorem RkAt.mn : Mn RkAt := fun H H' q x e h => e _ _ h
def sp__law_ranks (K : PySem.W.Frag) : Sp := fun vs H Q _ => ∃ (a : Addr) (xs : List V), vs = [.ref a] ∧ SqL K H a xs ∧ (∀ x ∈ xs, Ok x) ∧ xs.length ≤ 1000 ∧ SpO (fun H' p => Lst2 RkAt H' p xs) H Q
def sp__law_all (K : PySem.W.Frag) : Sp := fun vs H Q _ => ∃ (s m : Int) (p : Addr) (k : Kn), vs = [.int m, .ref p, .int s] ∧ KnAt K H p k ∧ In1 s ∧ Many m ∧ ∀ H', Ex H H' → Q (.int (allI s k m)) H'
def Nm3 (nm : Str) : Prop := (isS nm "equal" || isS nm "less" || isS nm "at most") = true
def spLb (f : Str → Kn → V → Int → Int) (K : PySem.W.Frag) : Sp := fun vs H Q _ => ∃ (nm : Str) (p : Addr) (k : Kn) (v : V) (m : Int), vs = [.str nm, .int m, .ref p, v] ∧ Nm3 nm ∧ KnAt K H p k ∧ KnOk k ∧ Ok v ∧ Many m ∧ ∀ H', Ex H H' → Q (.int (f nm k v m)) H'
def sp__law_beside (K : PySem.W.Frag) : Sp := spLb besI K
def sp__law_turned (K : PySem.W.Frag) : Sp := spLb behI K
def sp__law_known (K : PySem.W.Frag) : Sp := fun vs H Q _ => ∃ (n : Nat) (c : Addr) (ks : List Kn), vs = [.ref c, .int (n : Int)] ∧ ColsAt K H c ks ∧ ∀ p H', Ex H H' → KnAt K H' p (colAt ks n) → Q (.ref p) H'
def sp__law_compared (K : PySem.W.Frag) : Sp := fun vs H Q _ => ∃ (va vb : V) (nm : Str) (a b : Cnd) (m : Int) (c : Addr) (ks : List Kn), vs = [.str nm, va, vb, .int m, .ref c] ∧ Cx K H va a ∧ Cx K H vb b ∧ (isS nm "equal" || isS nm "same" || isS nm "less" || isS nm "at most") = true ∧ ColsAt K H c ks ∧ Many m ∧ ∀ H', Ex H H' → Q (.int (cmpI ks m nm a b)) H'
def spR__law_share : Nat → PySem.W.Frag → Sp
  | 0, _ => fun _ _ _ _ => False
  | n + 1, K => spShare shrI (n + 1) K
def sp__law_share (K : PySem.W.Frag) : Sp := spR__law_share 8 K
theorem all_zero (k : Kn) (m : Int) : allI 0 k m = 0 := by
  unfold allI upI
  split
  · rfl
  · rw [Int.zero_mul]
    simp
theorem isS_eq {a b : Str} (h : isS a b = true) : a = b := V.str.inj (of_decide_eq_true h)
section
variable {K : PySem.W.Frag} {σ : L2.St} {H : Hp} {ta tb tc te tf tl tk : TE} {t : TT} {v : V} {D : Ends} {tz tu tw : TS} {E : XK} {p : Addr} {k : Kn} {mg : Str → Option Value}
theorem ec_lup {n d : Int} (ha : Ev ta σ H (.int n)) (hb : Ev tb σ H (.int d)) (h0 : 0 < d) (h1 : d < 1073741824) : Ev (tCall (sp__law_up K) [] E (tCons ta (tCons tb tNil))) σ H (.int (upI n d)) := ev_call (ea_cons ha (ea_cons hb ea_nil)) fun H1 e Q q E => ⟨n, d, rfl, h0, h1, q⟩
theorem ec_lall {s m : Int} (ha : Ev ta σ H (.int m)) (hb : Ev tb σ H (.ref p)) (hc : Ev tc σ H (.int s)) (h : KnAt K H p k) (hs : In1 s) (hm : Many m) : Ev (tCall (sp__law_all K) [] E (tCons ta (tCons tb (tCons tc tNil)))) σ H (.int (allI s k m)) := ev_call (ea_cons ha (ea_cons hb (ea_cons hc ea_nil))) fun H1 e Q q E => ⟨s, m, p, k, rfl, h.ex e, hs, hm, q⟩
theorem ec_lb {f : Str → Kn → V → Int → Int} {nm : Str} {m : Int} (ha : Ev ta σ H (.str nm)) (hm : Ev te σ H (.int m)) (hb : Ev tb σ H (.ref p)) (hc : Ev tc σ H v) (hn : Nm3 nm) (h : KnAt K H p k) (ho : KnOk k) (hv : Ok v) (h1 : Many m) : Ev (tCall (spLb f K) [] E (tCons ta (tCons te (tCons tb (tCons tc tNil))))) σ H (.int (f nm k v m)) := ev_call (ea_cons ha (ea_cons hm (ea_cons hb (ea_cons hc ea_nil)))) fun H1 e Q q E => ⟨nm, p, k, v, m, rfl, hn, h.ex e, ho, hv, h1, q⟩
theorem ec_lbK {f : Str → Kn → V → Int → Int} {nm : Str} {m : Int} (ha : Ev ta σ H (.str nm)) (hm : Ev te σ H (.int m)) (hb : EvK K tb σ H k) (hc : Ev tc σ H v) (hn : Nm3 nm) (ho : KnOk k) (hv : Ok v) (h1 : Many m) : Ev (tCall (spLb f K) [] E (tCons ta (tCons te (tCons tb (tCons tc tNil))))) σ H (.int (f nm k v m)) := fun H1 e Q q =>
  ha H1 e _ fun H2 e2 => hm H2 (e.trans e2) _ fun H3 e3 => hb H3 ((e.trans e2).trans e3) _ fun p H4 e4 hp => hc H4 (((e.trans e2).trans e3).trans e4) _ fun H5 e5 => ⟨nm, p, k, v, m, rfl, hn, hp.ex e5, ho, hv, h1, fun H6 e6 => q H6 (e2.trans (e3.trans (e4.trans (e5.trans e6))))⟩
theorem ek_lk {n : Nat} {c : Addr} {ks : List Kn} (hb : Ev tb σ H (.ref c)) (ha : Ev ta σ H (.int (n : Int))) (h : ColsAt K H c ks) : EvK K (tCall (sp__law_known K) [] E (tCons tb (tCons ta tNil))) σ H (colAt ks n) := fun H1 e Q q =>
  hb H1 e _ fun H2 e2 => ha H2 (e.trans e2) _ fun H3 e3 => ⟨n, c, ks, rfl, h.ex ((e.trans e2).trans e3), fun p H4 e4 hp => q p H4 (e2.trans (e3.trans e4)) hp⟩
/-- a field of something found -/
theorem ek_d (C : ClsD K mg "Known" flds) (h : EvK K ta σ H k) : Ev (tFld K ta "different") σ H (.int (k.dif : Int)) := fun H1 e Q q => h H1 e _ fun p H2 e2 hp => by
  obtain ⟨dx, l, h1, h2⟩ := hp
  exact ⟨p, _, dx, _, _, rfl, h1, C.cl, C.na.2.1, knF_d, q H2 e2⟩
theorem ek_n (C : ClsD K mg "Known" flds) (h : EvK K ta σ H k) : Ev (tFld K ta "nulls") σ H (.int (k.nul : Int)) := fun H1 e Q q => h H1 e _ fun p H2 e2 hp => by
  obtain ⟨dx, l, h1, h2⟩ := hp
  exact ⟨p, _, dx, _, _, rfl, h1, C.cl, C.na.1, knF_n, q H2 e2⟩
theorem q_asgK {i : Nat} (h : EvK K te σ H k) (q : ∀ p H1, Ex H H1 → KnAt K H1 p k → tz D (σ.set i (some (.ref p))) H1) : tSeq (tAsg te (gName i)) tz D σ H := h H (Ex.refl H) _ q
theorem ec_lcmp {va vb : V} {t1 t2 t3 t4 t5 : TE} {nm : Str} {a b : Cnd} {m : Int} {c : Addr} {ks : List Kn} (h1 : Ev t1 σ H (.str nm)) (h2 : Ev t2 σ H va) (h3 : Ev t3 σ H vb) (h4 : Ev t4 σ H (.int m)) (h5 : Ev t5 σ H (.ref c)) (ha : Cx K H va a) (hb : Cx K H vb b) (hn : (isS nm "equal" || isS nm "same" || isS nm "less" || isS nm "at most") = true) (g : ColsAt K H c ks) (hm : Many m) : Ev (tCall (sp__law_compared K) [] E (tCons t1 (tCons t2 (tCons t3 (tCons t4 (tCons t5 tNil)))))) σ H (.int (cmpI ks m nm a b)) :=
  ev_call (ea_cons h1 (ea_cons h2 (ea_cons h3 (ea_cons h4 (ea_cons h5 ea_nil))))) fun H1 e Q q E => ⟨va, vb, nm, a, b, m, c, ks, rfl, ha.ex e, hb.ex e, hn, g.ex e, hm, q⟩
theorem ro_ranks {a : Addr} {xs : List V} (ha : Ev ta σ H (.ref a)) (h : SqL K H a xs) (ho : ∀ x ∈ xs, Ok x) (hz : xs.length ≤ 1000) : EvRo (fun H' p => Lst2 RkAt H' p xs) (tCall (sp__law_ranks K) [] E (tCons ta tNil)) σ H := fun H1 e Q q => ha H1 e _ fun H2 e2 => ⟨a, xs, rfl, ex_l (e.trans e2) h, ho, hz, fun p H3 hp e3 h3 => q p H3 (fresh_back e2 hp) (e2.trans e3) h3⟩
/-- how many of the ranks -/
theorem ev_cntR {l : Addr} {xs : List V} (hl : Ev tl σ H (.ref l)) (hL : Lst2 RkAt H l xs) (hk : xs.length ≤ 1000) {j : Nat} {vs : List Nat} (f : V → Bool) (hw : ∀ x, wipe ((wipe σ vs).set j (some x)) vs = wipe σ vs) (hj : ∀ x, ((wipe σ vs).set j (some x))[j]? = some (some x))
    (ht : ∀ (q : Addr) (x : V) H1, Ex H H1 → x ∈ xs → RkAt H1 q x → EvT t ((wipe σ vs).set j (some (.ref q))) H1 (f x)) :
    Ev (tCB (fun xs H Q => ∃ p ys, xs = [.ref p] ∧ (SqL K H p ys ∨ SqT K H p ys) ∧ Q (.int ys.length) H) (tCons (tLc (iList K tl) (gName j) t (tVar j) vs) tNil)) σ H (.int (cnt xs.length fun i => f (xs.getD i .non) : Nat)) := by
  obtain ⟨qs, h1, h2⟩ := hL
  have e : (given (qs.map V.ref).length (fun i => f (xs.getD i .non)) fun i => (qs.map V.ref).getD i .non).length = cnt xs.length fun i => f (xs.getD i .non) := by
    unfold given cnt
    rw [List.length_map, List.length_map, h2.1]
  rw [← e]
  refine ev_lenL (el_lcL _ _ hl (sq_of h1) (by rw [List.length_map, h2.1]; omega) hw (fun i x H1 e1 hi => ?_) (fun i x H1 e1 hi _ => ?_))
  · rw [List.getElem?_map] at hi
    cases hq : qs[i]? with
    | none => rw [hq] at hi; cases hi
    | some q =>
      rw [hq] at hi
      cases hi
      have hlt : i < xs.length := by rw [← h2.1]; exact (List.getElem?_eq_some_iff.mp hq).1
      have hx : xs[i]? = some xs[i] := List.getElem?_eq_getElem hlt
      rw [getD_is hx]
      exact ht q _ H1 e1 (List.getElem_mem hlt) (e1 _ _ (h2.2 i q _ hq hx))
  · rw [getD_is hi]
    exact ev_var (hj x)
end
theorem et_nin2 {K : PySem.W.Frag} {σ : L2.St} {H : Hp} {ta tb : TE} {s x y : Str} (ha : Ev ta σ H (.str s)) (h1 : EvU tb σ H [.str x, .str y]) : EvT (tTest (tOp (rIn K true) ta tb)) σ H (!(isS s x || isS s y)) := by
  have e : inV (.str s) [.str x, .str y] = (isS s x || isS s y) := by
    rw [inV_cons, inV_cons]
    show (_ || (_ || false)) = _
    rw [Bool.or_false]
  rw [← e]
  exact et_test fun H1 e1 Q q => ha H1 e1 _ fun H2 e2 => h1 H2 (e1.trans e2) _ fun r H3 hr e3 h3 => ⟨r, _, rfl, .inr (st_of h3), rfl, rfl, q H3 (e2.trans e3)⟩
theorem et_in4 {K : PySem.W.Frag} {σ : L2.St} {H : Hp} {ta tb : TE} {s x y z u : Str} (ha : Ev ta σ H (.str s)) (h1 : EvU tb σ H [.str x, .str y, .str z, .str u]) : EvT (tTest (tOp (rIn K false) ta tb)) σ H (isS s x || isS s y || isS s z || isS s u) := by
  have e : inV (.str s) [.str x, .str y, .str z, .str u] = (isS s x || isS s y || isS s z || isS s u) := by
    rw [inV_cons, inV_cons, inV_cons, inV_cons]
    show (_ || (_ || (_ || (_ || false)))) = _
    rw [Bool.or_false, Bool.or_assoc, Bool.or_assoc]
  rw [← e]
  exact et_test fun H1 e1 Q q => ha H1 e1 _ fun H2 e2 => h1 H2 (e1.trans e2) _ fun r H3 hr e3 h3 => ⟨r, _, rfl, .inr (st_of h3), rfl, rfl, q H3 (e2.trans e3)⟩
theorem op_eqDK {X : L2.Cx} {K : PySem.W.Frag} (h : X.K = K) (hu : X.A.units + 64 < cLine) : OpR X (compareOp .Eq) (rEqD K) := h ▸ op_eqD hu
theorem op_ltDK {X : L2.Cx} {K : PySem.W.Frag} (h : X.K = K) (hu : X.A.units + 64 < cLine) : OpR X (compareOp .Lt) (rLtD K) := h ▸ op_ltD hu
theorem op_le2K {X : L2.Cx} {K : PySem.W.Frag} (h : X.K = K) (hu : X.A.units + 64 < cLine) : OpR X (compareOp .LtE) (rLe2 K) := h ▸ op_le2 hu
section
variable {P : Program} {w : World} {K : PySem.W.Frag} {mg : Str → Option Value} {base : Heap}
theorem ok__law_ranks (D : Dn K mg "_law_ranks" s__law_ranks ["row"]) (c__law_rank : C8.Cal P w K mg base 1 "_law_rank" (sp__law_rank K) []) :
    C8.Cal P w K mg base 2 "_law_ranks" (sp__law_ranks K) [] := by
  refine cal_of D sc__law_ranks (fun vs H Q E h => ?_) (fun f cdv A outer s H vs Q E hr h => ?_)
  · obtain ⟨_, _, rfl, _⟩ := h
    rfl
  refine ⟨_, (pss_one (ps_ret (pe_lc (own := [("value", 1)]) (g := gName 1) (tt := tYes) rfl sc__law_ranks.nd (pi_list (pv 0)) (blkOk_by (N := n__law_ranks) (sc := C8.fnScope s__law_ranks) (by decide +kernel)) (fun _ _ _ _ _ => pg_name (i := 1) sc__law_ranks.nd rfl (Or.inl rfl)) (fun _ _ _ _ _ => pts_nil) (fun _ _ _ _ _ => (C8.pe_c c__law_rank hr (by decide) (by rfl) (pa_cons (pv 1) pa_nil)))))), ?_⟩
  obtain ⟨a, xs, rfl, hS, ho, hz, q⟩ := h
  have e : (List.range xs.length).map (fun i => xs.getD i .non) = xs := by
    apply List.ext_getElem?
    intro i
    rw [List.getElem?_map]
    by_cases h : i < xs.length
    · rw [List.getElem?_range h, List.getElem?_eq_getElem h]
      show some (xs.getD i .non) = _
      rw [getD_is (List.getElem?_eq_getElem h)]
    · rw [List.getElem?_eq_none (by rw [List.length_range]; omega), List.getElem?_eq_none (by omega)]
      rfl
  refine s_retO (er_lcD RkAt.mn (fun i => xs.getD i .non) (ev_var rfl) hS (by omega) (fun _ => rfl) fun i x H1 Dl e1 hD hD1 hi Q k => ?_) fun r H1 hr e1 h1 => q r H1 hr e1 (by have := h1.two RkAt.mn; rw [e] at this; exact this)
  rw [getD_is hi] at k
  exact ec_lrank (ev_var rfl) (ho x (List.mem_of_getElem? hi)) H1 (Ex.refl H1) Q fun p H2 hp e2 h2 => k p H2 hp e2 (by
    obtain ⟨ys, hys⟩ := hD1
    have hne : p ≠ Dl := fun z => by rw [z, hys] at hp; cases hp
    show wo Dl H2 p = _
    rw [wo_ne hne]
    exact h2)
theorem ok__law_up (D : Dn K mg "_law_up" s__law_up ["number", "divisor"]) :
    C8.Cal P w K mg base 1 "_law_up" (sp__law_up K) [] := by
  refine cal_of D sc__law_up (fun vs H Q E h => ?_) (fun f cdv A outer s H vs Q E hr h => ?_)
  · obtain ⟨_, _, rfl, _⟩ := h
    rfl
  refine ⟨_, (pss_one (ps_ret (pe_un un_neg (pe_op op_fdiv (pe_un un_neg (pv 0)) (pv 1))))), ?_⟩
  obtain ⟨n, d, rfl, h0, h1, q⟩ := h
  exact s_ret (ev_un (ev_op (ev_un (ev_var rfl) ru_neg) (ev_var rfl) (rv_I ⟨h0, h1⟩)) ru_neg) fun H1 e1 => q H1 e1
theorem ok__law_all (D : Dn K mg "_law_all" s__law_all ["many", "known", "share"]) (C_Known : ClsD K mg "Known" ["nulls", "different", "first", "last", "marks"]) (c__law_up : C8.Cal P w K mg base 1 "_law_up" (sp__law_up K) []) (z_min : mg "min" = none) :
    C8.Cal P w K mg base 2 "_law_all" (sp__law_all K) [] := by
  refine cal_of D sc__law_all (fun vs H Q E h => ?_) (fun f cdv A outer s H vs Q E hr h => ?_)
  · obtain ⟨_, _, _, _, rfl, _⟩ := h
    rfl
  refine ⟨_, (pss_cons (ps_if (pt_cmpR op_eq (pv 0) pe_int (nomark _))
      (pss_one (ps_ret pe_int))
      pss_nil)
    (pss_one (ps_ret (C8.pe_c c__law_up hr (by decide) (by rfl) (pa_cons (pe_op op_mul (pv 2) (pe_op op_sub (pv 0) (pe_callB (call_min2 rfl) (by rfl) z_min (by decide +kernel) (pa_cons (pe_fld (pv 1) (by rfl)) (pa_cons (pv 0) pa_nil))))) (pa_cons (pv 0) pa_nil)))))), ?_⟩
  obtain ⟨s, m, p, k, rfl, hk, hs, hm, q⟩ := h
  refine q_when (b := decide (V.int m = V.int 0)) (by walk_at "et") (fun hb H1 e1 => s_ret (v := .int (allI s k m)) (ev_is ev_c ?_) fun H2 e2 => q H2 (e1.trans e2)) fun hb H1 e1 => ?_
  · have : m = 0 := V.int.inj (of_decide_eq_true hb)
    unfold allI
    rw [if_pos this]
  have h0 : ¬ m = 0 := fun z => by rw [z] at hb; exact absurd hb (by decide)
  refine s_ret (v := .int (allI s k m)) (ev_is (ec_lup (n := s * (m - (if m < (k.nul : Int) then m else (k.nul : Int)))) (d := m) (ev_op (ev_var rfl) (ev_op (ev_var rfl) (ev_min2 (kn_n C_Known (hk.ex e1) (ev_var rfl)) (ev_var rfl)) rv_I0) (rv_I (.inl ⟨by have := hs.1; omega, by have := hs.2; omega⟩))) (ev_var rfl) (by omega) (by omega)) ?_) fun H2 e2 => q H2 (e1.trans e2)
  unfold allI
  rw [if_neg h0]
theorem ok__law_beside (D : Dn K mg "_law_beside" s__law_beside ["name", "many", "known", "value"]) (C_Known : ClsD K mg "Known" ["nulls", "different", "first", "last", "marks"]) (c__law_all : C8.Cal P w K mg base 2 "_law_all" (sp__law_all K) []) (c__law_rank : C8.Cal P w K mg base 1 "_law_rank" (sp__law_rank K) []) (c__law_ranks : C8.Cal P w K mg base 2 "_law_ranks" (sp__law_ranks K) []) (c__law_up : C8.Cal P w K mg base 1 "_law_up" (sp__law_up K) []) (z_len : mg "len" = none) (z_max : mg "max" = none) :
    C8.Cal P w K mg base 3 "_law_beside" (sp__law_beside K) [] := by
  refine cal_of D sc__law_beside (fun vs H Q E h => ?_) (fun f cdv A outer s H vs Q E hr h => ?_)
  · obtain ⟨_, _, _, _, _, rfl, _⟩ := h
    rfl
  refine ⟨_, (pss_cons (ps_if (pt_cmpR op_eq (pe_fld (pv 2) (by rfl)) pe_int (nomark _))
      (pss_one (ps_ret pe_int))
      pss_nil)
    (pss_cons (ps_if (pt_cmpR op_eq (pe_callB call_len_seq (by rfl) z_len PySem.boot_len (pa_cons (pe_fld (pv 2) (by rfl)) pa_nil)) pe_int (nomark _))
      (pss_one (ps_ret (pe_ifExp (pt_cmpR op_eq (pv 0) pe_str (nomark _)) (C8.pe_c c__law_up hr (by decide) (by rfl) (pa_cons pe_int (pa_cons (pe_fld (pv 2) (by rfl)) pa_nil))) pe_int)))
      pss_nil)
    (pss_cons (ps_set (i := 4) sc__law_beside.nd rfl (.inr rfl) (C8.pe_c c__law_rank hr (by decide) (by rfl) (pa_cons (pv 3) pa_nil)))
    (pss_cons (ps_set (i := 5) sc__law_beside.nd rfl (.inl rfl) (C8.pe_c c__law_rank hr (by decide) (by rfl) (pa_cons (pe_fld (pv 2) (by rfl)) pa_nil)))
    (pss_cons (ps_set (i := 6) sc__law_beside.nd rfl (.inl rfl) (C8.pe_c c__law_rank hr (by decide) (by rfl) (pa_cons (pe_fld (pv 2) (by rfl)) pa_nil)))
    (pss_cons (ps_set (i := 7) sc__law_beside.nd rfl (.inl rfl) (C8.pe_c c__law_ranks hr (by decide) (by rfl) (pa_cons (pe_fld (pv 2) (by rfl)) pa_nil)))
    (pss_cons (ps_if (pt_cmpR op_ne (pe_ix ix_tup (pv 4) pe_int (fun _ _ => rfl)) (pe_ix ix_tup (pv 5) pe_int (fun _ _ => rfl)) (nomark _))
      (pss_one (ps_ret pe_int))
      pss_nil)
    (pss_cons (ps_if (pt_cmpR op_eq (pv 0) pe_str (nomark _))
      (pss_cons (ps_if (PW.pt (pw_or (pt_cmpR (op_ltD (hu64 hr)) (pv 4) (pv 5) (nomark _)) (pw_or1 (pt_cmpR (op_ltD (hu64 hr)) (pv 6) (pv 4) (nomark _)))))
      (pss_one (ps_ret pe_int))
      pss_nil)
    (pss_cons (ps_set (i := 8) sc__law_beside.nd rfl (.inl rfl) (pe_callB call_len_seq (by rfl) z_len PySem.boot_len (pa_cons (pe_lc (own := [("mark", 12)]) (g := gName 12) rfl sc__law_beside.nd (pi_list (pv 7)) (blkOk_by (N := n__law_beside) (sc := C8.fnScope s__law_beside) (by decide +kernel)) (fun _ _ _ _ _ => pg_name (i := 12) sc__law_beside.nd rfl (Or.inl rfl)) (fun _ _ _ _ _ => (pts_one (pt_cmpR (op_eqDK (K := K) rfl (hu64 hr)) (pv 12) (pv 4) (nomark _)))) (fun _ _ _ _ _ => (pv 12))) pa_nil)))
    (pss_one (ps_ret (C8.pe_c c__law_all hr (by decide) (by rfl) (pa_cons (pv 1) (pa_cons (pv 2) (pa_cons (pe_callB (call_max2 rfl) (by rfl) z_max (by decide +kernel) (pa_cons (C8.pe_c c__law_up hr (by decide) (by rfl) (pa_cons pe_int (pa_cons (pe_fld (pv 2) (by rfl)) pa_nil))) (pa_cons (pe_op op_mul pe_int (pe_op op_sub (pv 8) pe_int)) pa_nil))) pa_nil))))))))
      pss_nil)
    (pss_cons (ps_set (i := 9) sc__law_beside.nd rfl (.inl rfl) (pe_callB call_len_seq (by rfl) z_len PySem.boot_len (pa_cons (pe_lc (own := [("mark", 12)]) (g := gName 12) rfl sc__law_beside.nd (pi_list (pv 7)) (blkOk_by (N := n__law_beside) (sc := C8.fnScope s__law_beside) (by decide +kernel)) (fun _ _ _ _ _ => pg_name (i := 12) sc__law_beside.nd rfl (Or.inl rfl)) (fun _ _ _ _ _ => (pts_one (pt_cmpR (op_ltDK (K := K) rfl (hu64 hr)) (pv 12) (pv 4) (nomark _)))) (fun _ _ _ _ _ => (pv 12))) pa_nil)))
    (pss_cons (ps_set (i := 10) sc__law_beside.nd rfl (.inl rfl) (pe_cmpR (op_le2 (hu64 hr)) (pv 4) (pv 5) (nomark _)))
    (pss_cons (ps_set (i := 11) sc__law_beside.nd rfl (.inl rfl) (pe_cmpR (op_gt2 (hu64 hr)) (pv 4) (pv 6) (nomark _)))
    (Evl.pss_cut (ps_if (pt_cmpR op_eq (pv 0) pe_str (nomark _))
      (pss_cons (ps_set (i := 9) sc__law_beside.nd rfl (.inl rfl) (pe_callB call_len_seq (by rfl) z_len PySem.boot_len (pa_cons (pe_lc (own := [("mark", 12)]) (g := gName 12) rfl sc__law_beside.nd (pi_list (pv 7)) (blkOk_by (N := n__law_beside) (sc := C8.fnScope s__law_beside) (by decide +kernel)) (fun _ _ _ _ _ => pg_name (i := 12) sc__law_beside.nd rfl (Or.inl rfl)) (fun _ _ _ _ _ => (pts_one (pt_cmpR (op_le2K (K := K) rfl (hu64 hr)) (pv 12) (pv 4) (nomark _)))) (fun _ _ _ _ _ => (pv 12))) pa_nil)))
    (pss_cons (ps_set (i := 10) sc__law_beside.nd rfl (.inl rfl) (pe_cmpR (op_ltD (hu64 hr)) (pv 4) (pv 5) (nomark _)))
    (pss_one (ps_set (i := 11) sc__law_beside.nd rfl (.inl rfl) (pe_cmpR (op_ge2 (hu64 hr)) (pv 4) (pv 6) (nomark _))))))
      pss_nil)
    (pss_cons (ps_if (pt_val (pv 10))
      (pss_one (ps_ret pe_int))
      pss_nil)
    (pss_cons (ps_if (pt_val (pv 11))
      (pss_one (ps_ret (C8.pe_c c__law_all hr (by decide) (by rfl) (pa_cons (pv 1) (pa_cons (pv 2) (pa_cons pe_int pa_nil))))))
      pss_nil)
    (pss_one (ps_ret (C8.pe_c c__law_all hr (by decide) (by rfl) (pa_cons (pv 1) (pa_cons (pv 2) (pa_cons (C8.pe_c c__law_up hr (by decide) (by rfl) (pa_cons (pe_op op_mul pe_int (pe_op op_add (pe_op op_mul pe_int (pv 9)) pe_int)) (pa_cons pe_int pa_nil))) pa_nil)))))))))))))))))))), ?_⟩
  obtain ⟨nm, p, k, v, m, rfl, hn, hk, ho, hv, hm, q⟩ := h
  have hz := ho.z
  refine q_when (b := decide (V.int (k.dif : Int) = V.int 0)) (et_test (ev_op (kn_d C_Known hk (ev_var rfl)) ev_c (rv_eq rfl))) (fun hb H1 e1 => s_ret (v := .int (besI nm k v m)) (ev_is ev_c ?_) fun H2 e2 => q H2 (e1.trans e2)) fun hb H1 e1 => ?_
  · have h0 : k.dif = 0 := by have := V.int.inj (of_decide_eq_true hb); omega
    unfold besI
    rw [if_pos h0]
  have h0 : ¬ k.dif = 0 := fun z => by rw [z] at hb; exact absurd hb (by decide)
  have h1 : 1 ≤ k.dif := by omega
  have hk1 := hk.ex e1
  obtain ⟨lm, hlm, hlm1⟩ := kn_m (ta := tVar 2) (σ := L2.start n__law_beside [.str nm, .int m, .ref p, v]) C_Known hk1 (ev_var rfl)
  refine q_when (b := decide (V.int ((k.mks.length : Nat) : Int) = V.int 0)) (et_test (ev_op (ev_len hlm (sq_of hlm1)) ev_c (rv_eq rfl))) (fun hb2 H2 e2 => s_ret (v := .int (besI nm k v m)) ?_ fun H3 e3 => q H3 (e1.trans (e2.trans e3))) fun hb2 H2 e2 => ?_
  · have hb3 : k.mks.isEmpty = true := by
      have : ((k.mks.length : Nat) : Int) = 0 := V.int.inj (of_decide_eq_true hb2)
      rw [List.isEmpty_iff]
      exact List.length_eq_zero_iff.mp (by omega)
    refine ev_if (b := isS nm "equal") (et_S (ev_var rfl) ev_c) (fun hc => ev_is (ec_lup (n := 1000) ev_c (kn_d C_Known (hk1.ex e2) (ev_var rfl)) (by omega) (by omega)) ?_) fun hc => ev_is ev_c ?_
    · unfold besI
      rw [if_neg h0, if_pos hb3, if_pos hc]
    · unfold besI
      rw [if_neg h0, if_pos hb3, if_neg (by rw [hc]; decide)]
  have hb3 : k.mks.isEmpty = false := by
    cases z : k.mks.isEmpty with
    | false => rfl
    | true =>
      rw [List.isEmpty_iff.mp z] at hb2
      exact absurd hb2 (by decide)
  have hk2 := hk1.ex e2
  refine q_asgU (ec_lrank (ev_var rfl) hv) fun pr H3 hpr e3 hr3 => ?_
  have hk3 := hk2.ex e3
  refine q_asgU (ec_lrank (kn_f C_Known hk3 (ev_var rfl)) ho.f) fun pf H4 hpf e4 hf4 => ?_
  have hk4 := hk3.ex e4
  refine q_asgU (ec_lrank (kn_l C_Known hk4 (ev_var rfl)) ho.l) fun pl H5 hpl e5 hl5 => ?_
  have hk5 := hk4.ex e5
  obtain ⟨lm5, hlm5, hlm15⟩ := kn_m (ta := tVar 2) (σ := [some (.str nm), some (.int m), some (.ref p), some v, some (.ref pr), some (.ref pf), some (.ref pl), none, none, none, none, none, none]) C_Known hk5 (ev_var rfl)
  refine q_asgO (ro_ranks hlm5 (sq_of hlm15) ho.m (by have := ho.len; omega)) fun pm H6 hpm e6 hm6 => ?_
  have hk6 := hk5.ex e6
  have r6 : RkAt H6 pr v := (e4.trans (e5.trans e6)) _ _ hr3
  have f6 : RkAt H6 pf k.fst := (e5.trans e6) _ _ hf4
  have l6 : RkAt H6 pl k.lst := e6 _ _ hl5
  have x6 : Ex H H6 := e1.trans (e2.trans (e3.trans (e4.trans (e5.trans e6))))
  clear hlm hlm1 hlm5 hlm15 hr3 hf4 hl5 hk hk1 hk2 hk3 hk4 hk5 hpr hpf hpl hpm e1 e2 e3 e4 e5 e6
  have hlen : k.mks.length ≤ 1000 := by have := ho.len; omega
  have rx0 : ∀ {H0 : Hp} {q : Addr} {x : V}, RkAt H0 q x → SqT K H0 q (rkL x) := fun h => st_of h
  refine q_when (b := !decide (V.int (kr v) = V.int (kr k.fst))) (et_test (ev_op (ev_op (ev_var rfl) ev_c (rv_ixT (rx0 r6) (atI_nat (j := 0) rfl))) (ev_op (ev_var rfl) ev_c (rv_ixT (rx0 f6) (atI_nat (j := 0) rfl))) (rv_ne rfl))) (fun hb4 H7 e7 => s_ret (v := .int (besI nm k v m)) (ev_is ev_c ?_) fun H8 e8 => q H8 (x6.trans (e7.trans e8))) fun hb4 H7 e7 => ?_
  · unfold besI
    rw [if_neg h0, if_neg (by rw [hb3]; decide), if_pos (by simpa using hb4)]
  have hbes : besI nm k v m = allI (if isS nm "equal" = true then eqS k v else if isS nm "less" = true then lsS k v else amS k v) k m := by
    unfold besI
    rw [if_neg h0, if_neg (show ¬ k.mks.isEmpty = true by rw [hb3]; decide), if_neg (show ¬ decide (V.int (kr v) = V.int (kr k.fst)) = false by simpa using hb4)]
  obtain ⟨_, h7, hl7⟩ := mks_last ho hb3
  have h8 := ho.len
  have r7 := e7 _ _ r6
  have f7 := e7 _ _ f6
  have l7 := e7 _ _ l6
  have m7 := Lst2.mn RkAt.mn _ _ _ _ e7 hm6
  have x7 := x6.trans e7
  have hk7 := hk6.ex e7
  clear r6 f6 l6 hm6 hk6 x6 e7
  refine q_when (b := isS nm "equal") (et_S (ev_var rfl) ev_c) (fun hc H8 e8 => ?_) fun hc H8 e8 => ?_
  · rw [if_pos hc] at hbes
    have r8 := e8 _ _ r7
    have f8 := e8 _ _ f7
    have l8 := e8 _ _ l7
    refine q_when (b := vlt v k.fst || vlt k.lst v) (et_or (et_test (ev_op (ev_var rfl) (ev_var rfl) (rv_ltR r8 f8 hv ho.f))) fun _ => et_test (ev_op (ev_var rfl) (ev_var rfl) (rv_ltR l8 r8 ho.l hv))) (fun hd H9 e9 => s_ret (v := .int (besI nm k v m)) (ev_is ev_c ?_) fun Ha ea => q Ha (x7.trans (e8.trans (e9.trans ea)))) fun hd H9 e9 => ?_
    · rw [hbes]
      unfold eqS
      rw [if_pos hd, all_zero]
    refine q_asg (v := .int ((mkK k fun m => veq m v : Nat) : Int)) (ev_cntR (ev_var rfl) (Lst2.mn RkAt.mn _ _ _ _ (e8.trans e9) m7) hlen _ (fun _ => rfl) (fun _ => rfl) fun s x Ha ea hx hr => et_test (ev_op (ev_var rfl) (ev_var rfl) (rv_eqR hr ((e9.trans ea) _ _ r8) (ho.m x hx) hv))) fun Ha ea => ?_
    have hka := hk7.ex (e8.trans (e9.trans ea))
    have e : eqS k v = mxI (upI 1000 k.dif) (125 * ((mkK k fun m => veq m v : Nat) - 1 : Int)) := by
      unfold eqS
      rw [if_neg (by rw [hd]; decide)]
    refine s_ret (v := .int (besI nm k v m)) (ev_is (ec_lall (s := eqS k v) (ev_var rfl) (ev_var rfl) (ev_is (Evl.ev_max2 (ec_lup (n := 1000) ev_c (kn_d C_Known hka (ev_var rfl)) (by omega) (by omega)) (ev_op ev_c (ev_op (ev_var rfl) ev_c rv_I0) (rv_I (.inl ⟨by decide, by decide⟩)))) (by rw [e]; rfl)) hka (eqS_in ho h1) hm) (by rw [hbes])) fun Hb eb => q Hb (x7.trans (e8.trans (e9.trans (ea.trans eb))))
  rw [if_neg (by rw [hc]; decide)] at hbes
  have r8 := e8 _ _ r7
  have f8 := e8 _ _ f7
  have l8 := e8 _ _ l7
  have m8 := Lst2.mn RkAt.mn _ _ _ _ e8 m7
  have hk8 := hk7.ex e8
  refine q_asg (v := .int ((mkK k fun m => vlt m v : Nat) : Int)) (ev_cntR (ev_var rfl) m8 hlen _ (fun _ => rfl) (fun _ => rfl) fun s x Ha ea hx hr => et_test (ev_op (ev_var rfl) (ev_var rfl) (rv_ltR hr (ea _ _ r8) (ho.m x hx) hv))) fun H9 e9 => ?_
  refine q_asg (v := .bl (!vlt k.fst v)) (ev_op (ev_var rfl) (ev_var rfl) (rv_leR (e9 _ _ r8) (e9 _ _ f8) hv ho.f)) fun Ha ea => ?_
  refine q_asg (v := .bl (vlt k.lst v)) (ev_op (ev_var rfl) (ev_var rfl) (rv_gtR ((e9.trans ea) _ _ r8) ((e9.trans ea) _ _ l8) hv ho.l)) fun Hb eb => ?_
  have xb := e9.trans (ea.trans eb)
  refine q_cut (M := fun σ' H' => ∃ (f : V → Bool) (nn wh : Bool), σ' = [some (.str nm), some (.int m), some (.ref p), some v, some (.ref pr), some (.ref pf), some (.ref pl), some (.ref pm), none, some (.int ((mkK k f : Nat) : Int)), some (.bl nn), some (.bl wh), none] ∧ Ex Hb H' ∧ (if isS nm "less" = true then lsS k v else amS k v) = (if nn = true then 0 else if wh = true then 1000 else btw (mkK k f)) ∧ (nn = false → wh = false → mkK k f ≤ 7)) ?_ fun σ' Hc pw => ?_
  · refine s_if (b := isS nm "at most") (et_S (ev_var rfl) ev_c) (fun hd Hc ec => ?_) fun hd Hc ec => ?_
    · have hls : isS nm "less" = false := by rw [isS_eq hd]; decide +kernel
      rw [if_neg (by rw [hls]; decide)]
      have xc := xb.trans ec
      refine q_asg (v := .int ((mkK k fun m => !vlt v m : Nat) : Int)) (ev_cntR (ev_var rfl) (Lst2.mn RkAt.mn _ _ _ _ xc m8) hlen _ (fun _ => rfl) (fun _ => rfl) fun s x Ha ea hx hr => et_test (ev_op (ev_var rfl) (ev_var rfl) (rv_leR hr ((xc.trans ea) _ _ r8) (ho.m x hx) hv))) fun Hd ed => ?_
      have xd := xc.trans ed
      refine q_asg (v := .bl (vlt v k.fst)) (ev_op (ev_var rfl) (ev_var rfl) (rv_ltR (xd _ _ r8) (xd _ _ f8) hv ho.f)) fun He ee => ?_
      have xe := xd.trans ee
      refine s_asg (v := .bl (!vlt v k.lst)) (ev_op (ev_var rfl) (ev_var rfl) (rv_geR (xe _ _ r8) (xe _ _ l8) hv ho.l)) fun Hf ef => ⟨_, _, _, rfl, ec.trans (ed.trans (ee.trans ef)), rfl, fun _ hw => ?_⟩
      have : mkK k (fun m => !vlt v m) < k.mks.length := cnt_lt h7 (by show (!vlt v (k.mks.getD 7 .non)) = false; rw [hl7]; exact hw)
      omega
    · have hls : isS nm "less" = true := by
        unfold Nm3 at hn
        rw [hc, hd, Bool.false_or, Bool.or_false] at hn
        exact hn
      rw [if_pos hls]
      refine ⟨_, _, _, rfl, ec, rfl, fun _ hw => ?_⟩
      have : mkK k (fun m => vlt m v) < k.mks.length := cnt_lt h7 (by show vlt (k.mks.getD 7 .non) v = false; rw [hl7]; exact hw)
      omega
  obtain ⟨f, nn, wh, rfl, ec, hsh, h7'⟩ := pw
  rw [hsh] at hbes
  have xc := x7.trans (e8.trans (xb.trans ec))
  have hkc := hk8.ex (xb.trans ec)
  refine q_when (b := nn) (et_B (ev_var rfl)) (fun hd Hd ed => s_ret (v := .int (besI nm k v m)) (ev_is ev_c ?_) fun He ee => q He (xc.trans (ed.trans ee))) fun hd Hd ed => ?_
  · rw [hbes, if_pos hd, all_zero]
  rw [if_neg (by rw [hd]; decide)] at hbes
  refine q_when (b := wh) (et_B (ev_var rfl)) (fun hw He ee => s_ret (v := .int (besI nm k v m)) (ev_is (ec_lall (ev_var rfl) (ev_var rfl) ev_c (hkc.ex (ed.trans ee)) ⟨by decide, Int.le_refl _⟩ hm) ?_) fun Hf ef => q Hf (xc.trans (ed.trans (ee.trans ef)))) fun hw He ee => ?_
  · rw [hbes, if_pos hw]
  rw [if_neg (by rw [hw]; decide)] at hbes
  exact s_ret (v := .int (besI nm k v m)) (ev_is (ec_lall (s := btw (mkK k f)) (ev_var rfl) (ev_var rfl) (ec_lup (d := 16) (ev_op ev_c (ev_op (ev_op ev_c (ev_var rfl) (rv_I (.inl ⟨by decide, by decide⟩))) ev_c rv_I0) (rv_I (.inl ⟨by decide, by decide⟩))) ev_c (by decide) (by decide)) (hkc.ex (ed.trans ee)) (btw_in (h7' hd hw)) hm) (by rw [hbes])) fun Hf ef => q Hf (xc.trans (ed.trans (ee.trans ef)))
end

--@SPLIT
section
variable {P : Program} {w : World} {K : PySem.W.Frag} {mg : Str → Option Value} {base : Heap}
theorem ok__law_turned (D : Dn K mg "_law_turned" s__law_turned ["name", "many", "known", "value"]) (C_Known : ClsD K mg "Known" ["nulls", "different", "first", "last", "marks"]) (c__law_all : C8.Cal P w K mg base 2 "_law_all" (sp__law_all K) []) (c__law_beside : C8.Cal P w K mg base 3 "_law_beside" (sp__law_beside K) []) (z_len : mg "len" = none) (z_max : mg "max" = none) :
    C8.Cal P w K mg base 4 "_law_turned" (sp__law_turned K) [] := by
  refine cal_of D sc__law_turned (fun vs H Q E h => ?_) (fun f cdv A outer s H vs Q E hr h => ?_)
  · obtain ⟨_, _, _, _, _, rfl, _⟩ := h
    rfl
  refine ⟨_, (pss_cons (ps_if (pt_cmpR op_eq (pe_fld (pv 2) (by rfl)) pe_int (nomark _))
      (pss_one (ps_ret pe_int))
      pss_nil)
    (pss_cons (ps_if (pt_cmpR op_eq (pe_callB call_len_seq (by rfl) z_len PySem.boot_len (pa_cons (pe_fld (pv 2) (by rfl)) pa_nil)) pe_int (nomark _))
      (pss_one (ps_ret pe_int))
      pss_nil)
    (pss_cons (ps_set (i := 4) sc__law_turned.nd rfl (.inl rfl) (pe_ifExp (pt_cmpR op_eq (pv 0) pe_str (nomark _)) pe_str pe_str))
    (pss_one (ps_ret (pe_callB (call_max2 rfl) (by rfl) z_max (by decide +kernel) (pa_cons pe_int (pa_cons (pe_op op_sub (C8.pe_c c__law_all hr (by decide) (by rfl) (pa_cons (pv 1) (pa_cons (pv 2) (pa_cons pe_int pa_nil)))) (C8.pe_c c__law_beside hr (by decide) (by rfl) (pa_cons (pv 4) (pa_cons (pv 1) (pa_cons (pv 2) (pa_cons (pv 3) pa_nil)))))) pa_nil)))))))), ?_⟩
  obtain ⟨nm, p, k, v, m, rfl, hn, hk, ho, hv, hm, q⟩ := h
  refine q_when (b := decide (V.int (k.dif : Int) = V.int 0)) (et_test (ev_op (kn_d C_Known hk (ev_var rfl)) ev_c (rv_eq rfl))) (fun hb H1 e1 => s_ret (v := .int (behI nm k v m)) (ev_is ev_c ?_) fun H2 e2 => q H2 (e1.trans e2)) fun hb H1 e1 => ?_
  · have h0 : k.dif = 0 := by have := V.int.inj (of_decide_eq_true hb); omega
    unfold behI
    rw [if_pos h0]
  have h0 : ¬ k.dif = 0 := fun z => by rw [z] at hb; exact absurd hb (by decide)
  have hk1 := hk.ex e1
  obtain ⟨lm, hlm, hlm1⟩ := kn_m (ta := tVar 2) (σ := L2.start n__law_turned [.str nm, .int m, .ref p, v]) C_Known hk1 (ev_var rfl)
  refine q_when (b := decide (V.int ((k.mks.length : Nat) : Int) = V.int 0)) (et_test (ev_op (ev_len hlm (sq_of hlm1)) ev_c (rv_eq rfl))) (fun hb2 H2 e2 => s_ret (v := .int (behI nm k v m)) (ev_is ev_c ?_) fun H3 e3 => q H3 (e1.trans (e2.trans e3))) fun hb2 H2 e2 => ?_
  · have hb3 : k.mks.isEmpty = true := by
      have : ((k.mks.length : Nat) : Int) = 0 := V.int.inj (of_decide_eq_true hb2)
      rw [List.isEmpty_iff]
      exact List.length_eq_zero_iff.mp (by omega)
    unfold behI
    rw [if_neg h0, if_pos hb3]
  have hb3 : k.mks.isEmpty = false := by
    cases z : k.mks.isEmpty with
    | false => rfl
    | true =>
      rw [List.isEmpty_iff.mp z] at hb2
      exact absurd hb2 (by decide)
  have hk2 := hk1.ex e2
  refine q_asg (v := .str (if isS nm "less" = true then "at most" else "less")) (ev_if (b := isS nm "less") (et_S (ev_var rfl) ev_c) (fun hc => ev_is ev_c (by rw [if_pos hc])) fun hc => ev_is ev_c (by rw [if_neg (by rw [hc]; decide)])) fun H3 e3 => ?_
  have hk3 := hk2.ex e3
  have hn3 : Nm3 (if isS nm "less" = true then "at most" else "less") := by
    split
    · unfold Nm3
      decide +kernel
    · unfold Nm3
      decide +kernel
  refine s_ret (v := .int (behI nm k v m)) (ev_is (Evl.ev_max2 ev_c (ev_op (ec_lall (ev_var rfl) (ev_var rfl) ev_c hk3 ⟨by decide, by decide⟩ hm) (ec_lb (ev_var rfl) (ev_var rfl) (ev_var rfl) (ev_var rfl) hn3 hk3 ho hv hm) rv_I0)) ?_) fun H4 e4 => q H4 (e1.trans (e2.trans (e3.trans e4)))
  have e : behI nm k v m = mxI (allI 1000 k m - besI (if isS nm "less" = true then "at most" else "less") k v m) 0 := by
    unfold behI
    rw [if_neg h0, if_neg (by rw [hb3]; decide)]
  rw [e]
  unfold mxI
  congr 1
  generalize allI 1000 k m - besI (if isS nm "less" = true then "at most" else "less") k v m = z
  split <;> split <;> omega
theorem ok__law_known (D : Dn K mg "_law_known" s__law_known ["columns", "number"]) (C_Known : ClsD K mg "Known" ["nulls", "different", "first", "last", "marks"]) (c_Known____init__ : C8.Mak P w K mg base 1 "Known" (clsAt K "Known") (sp_Known____init__ K) []) (z_len : mg "len" = none) :
    C8.Cal P w K mg base 3 "_law_known" (sp__law_known K) [] := by
  refine cal_of D sc__law_known (fun vs H Q E h => ?_) (fun f cdv A outer s H vs Q E hr h => ?_)
  · obtain ⟨_, _, _, rfl, _⟩ := h
    rfl
  refine ⟨_, (pss_cons (ps_if (pt_cmpR op_lt (pv 1) (pe_callB call_len_seq (by rfl) z_len PySem.boot_len (pa_cons (pv 0) pa_nil)) (nomark _))
      (pss_one (ps_ret (pe_ix ix_list (pv 0) (pv 1) (fun _ _ => rfl))))
      pss_nil)
    (pss_one (ps_ret (C8.pe_mk c_Known____init__ hr (by decide) (by rfl) (pa_cons pe_int (pa_cons pe_int (pa_cons pe_non (pa_cons pe_non (pa_cons (pe_lst pa_nil) pa_nil))))))))), ?_⟩
  obtain ⟨n, c, ks, rfl, ⟨⟨qs, h1, h2⟩, ho, hz⟩, q⟩ := h
  refine q_when (b := decide ((n : Int) < ((ks.length : Nat) : Int))) (et_test (ev_op (ev_var rfl) (ev_is (ev_len (ev_var rfl) (sq_of h1)) (by rw [List.length_map, h2.1])) rv_I0)) (fun hb H1 e1 => ?_) fun hb H1 e1 => ?_
  · have hn : n < ks.length := by have := of_decide_eq_true hb; omega
    obtain ⟨p, hp, hk⟩ := h2.get hn
    have e : colAt ks n = ks[n] := by unfold colAt; rw [List.getD_eq_getElem?_getD, List.getElem?_eq_getElem hn]; rfl
    exact s_ret (v := .ref p) (ev_op (ev_var rfl) (ev_var rfl) (rv_ixL (sq_of (e1 _ _ h1)) (atI_nat (by rw [List.getElem?_map, hp]; rfl)))) fun H2 e2 => q p H2 (e1.trans e2) (by rw [e]; exact hk.ex (e1.trans e2))
  · have hn : ¬ n < ks.length := fun z => absurd hb (by rw [decide_eq_true (by omega : (n : Int) < ((ks.length : Nat) : Int))]; decide)
    have e : colAt ks n = unk 3 := by unfold colAt; rw [List.getD_eq_getElem?_getD, List.getElem?_eq_none (by omega)]; rfl
    exact s_retO (R := fun H' p => KnAt K H' p (unk 3)) (ro_known (k := unk 3) ev_c ev_c ev_c ev_c (el_lst ea_nil (by show 0 ≤ 100000; decide))) fun p H2 hp e2 hk => q p H2 (e1.trans e2) (by rw [e]; exact hk)
theorem ok__law_compared (D : Dn K mg "_law_compared" s__law_compared ["name", "first", "second", "many", "columns"]) (C_Known : ClsD K mg "Known" ["nulls", "different", "first", "last", "marks"]) (c__law_beside : C8.Cal P w K mg base 3 "_law_beside" (sp__law_beside K) []) (c__law_known : C8.Cal P w K mg base 3 "_law_known" (sp__law_known K) []) (c__law_turned : C8.Cal P w K mg base 4 "_law_turned" (sp__law_turned K) []) (c__law_up : C8.Cal P w K mg base 1 "_law_up" (sp__law_up K) []) (z_max : mg "max" = none) :
    C8.Cal P w K mg base 5 "_law_compared" (sp__law_compared K) [] := by
  refine cal_of D sc__law_compared (fun vs H Q E h => ?_) (fun f cdv A outer s H vs Q E hr h => ?_)
  · obtain ⟨_, _, _, _, _, _, _, _, rfl, _⟩ := h
    rfl
  refine ⟨_, (pss_cons (ps_if (PW.pt (pw_and (pt_cmpR op_eq (pe_ix ix_tup (pv 1) pe_int (fun _ _ => rfl)) pe_str (nomark _)) (pw_and1 (pt_cmpR op_eq (pe_ix ix_tup (pv 2) pe_int (fun _ _ => rfl)) pe_str (nomark _)))))
      (pss_cons (ps_if (pt_cmpR op_notIn_seq (pv 0) (pe_tup (pa_cons pe_str (pa_cons pe_str pa_nil))) (by with_unfolding_all rfl))
      (pss_one (ps_ret pe_int))
      pss_nil)
    (pss_cons (ps_set (i := 5) sc__law_compared.nd rfl (.inl rfl) (pe_callB (call_max2 rfl) (by rfl) z_max (by decide +kernel) (pa_cons (pe_fld (C8.pe_c c__law_known hr (by decide) (by rfl) (pa_cons (pv 4) (pa_cons (pe_ix ix_tup (pv 1) pe_int (fun _ _ => rfl)) pa_nil))) (by rfl)) (pa_cons (pe_fld (C8.pe_c c__law_known hr (by decide) (by rfl) (pa_cons (pv 4) (pa_cons (pe_ix ix_tup (pv 2) pe_int (fun _ _ => rfl)) pa_nil))) (by rfl)) pa_nil))))
    (pss_one (ps_ret (pe_ifExp (pt_cmpR op_gt (pv 5) pe_int (nomark _)) (C8.pe_c c__law_up hr (by decide) (by rfl) (pa_cons pe_int (pa_cons (pv 5) pa_nil))) pe_int)))))
      pss_nil)
    (pss_cons (ps_if (pt_cmpR op_eq (pv 0) pe_str (nomark _))
      (pss_one (ps_ret pe_int))
      pss_nil)
    (pss_cons (ps_if (PW.pt (pw_and (pt_cmpR op_eq (pe_ix ix_tup (pv 1) pe_int (fun _ _ => rfl)) pe_str (nomark _)) (pw_and1 (pt_cmpR op_eq (pe_ix ix_tup (pv 2) pe_int (fun _ _ => rfl)) pe_str (nomark _)))))
      (pss_one (ps_ret (C8.pe_c c__law_beside hr (by decide) (by rfl) (pa_cons (pv 0) (pa_cons (pv 3) (pa_cons (C8.pe_c c__law_known hr (by decide) (by rfl) (pa_cons (pv 4) (pa_cons (pe_ix ix_tup (pv 1) pe_int (fun _ _ => rfl)) pa_nil))) (pa_cons (pe_ix ix_tup (pv 2) pe_int (fun _ _ => rfl)) pa_nil)))))))
      pss_nil)
    (pss_cons (ps_if (PW.pt (pw_and (pt_cmpR op_eq (pe_ix ix_tup (pv 1) pe_int (fun _ _ => rfl)) pe_str (nomark _)) (pw_and1 (pt_cmpR op_eq (pe_ix ix_tup (pv 2) pe_int (fun _ _ => rfl)) pe_str (nomark _)))))
      (pss_cons (ps_set (i := 6) sc__law_compared.nd rfl (.inl rfl) (C8.pe_c c__law_known hr (by decide) (by rfl) (pa_cons (pv 4) (pa_cons (pe_ix ix_tup (pv 2) pe_int (fun _ _ => rfl)) pa_nil))))
    (pss_cons (ps_if (pt_cmpR op_eq (pv 0) pe_str (nomark _))
      (pss_one (ps_ret (C8.pe_c c__law_beside hr (by decide) (by rfl) (pa_cons (pv 0) (pa_cons (pv 3) (pa_cons (pv 6) (pa_cons (pe_ix ix_tup (pv 1) pe_int (fun _ _ => rfl)) pa_nil)))))))
      pss_nil)
    (pss_one (ps_ret (C8.pe_c c__law_turned hr (by decide) (by rfl) (pa_cons (pv 0) (pa_cons (pv 3) (pa_cons (pv 6) (pa_cons (pe_ix ix_tup (pv 1) pe_int (fun _ _ => rfl)) pa_nil)))))))))
      pss_nil)
    (pss_one (ps_ret pe_int)))))), ?_⟩
  obtain ⟨va, vb, nm, a, b, m, c, ks, rfl, ha, hb, hn, hc, hm, q⟩ := h
  obtain ⟨pa, xa, rfl, hSa, hVa⟩ := cx_at ha
  obtain ⟨pb, xb, rfl, hSb, hVb⟩ := cx_at hb
  have oks := fun n => colAt_ok hc.2.1 n
  have two : ∀ {σ : L2.St} {H0 : Hp} {s t : Str}, EvU (tTup (tCons (tC (.str s)) (tCons (tC (.str t)) tNil))) σ H0 [.str s, .str t] := eu_tup (ea_cons ev_c (ea_cons ev_c ea_nil)) (by show 2 ≤ 100000; decide)
  have hd1 : ∀ {H0 : Hp} {σ : L2.St} {s : Str}, Ex H H0 → σ[1]? = some (some (.ref pa)) → EvT (tTest (tOp rEq (tOp (rIxT K) (tVar 1) (tC (.int 0))) (tC (.str s)))) σ H0 (isS a.hd s) := fun e h => et_S (ev_op (ev_var h) ev_c (rv_ixT (ex_t e hSa) (atI_nat (j := 0) hVa.hd))) ev_c
  have hd2 : ∀ {H0 : Hp} {σ : L2.St} {s : Str}, Ex H H0 → σ[2]? = some (some (.ref pb)) → EvT (tTest (tOp rEq (tOp (rIxT K) (tVar 2) (tC (.int 0))) (tC (.str s)))) σ H0 (isS b.hd s) := fun e h => et_S (ev_op (ev_var h) ev_c (rv_ixT (ex_t e hSb) (atI_nat (j := 0) hVb.hd))) ev_c
  have k1 : isS "column" "column" = true := by decide +kernel
  have k2 : isS "constant" "column" = false := by decide +kernel
  have k3 : isS "constant" "constant" = true := by decide +kernel
  have k4 : isS "column" "constant" = false := by decide +kernel
  refine q_when (b := isS a.hd "column" && isS b.hd "column") (et_and (hd1 (Ex.refl H) rfl) fun _ => hd2 (Ex.refl H) rfl) (fun hb1 H1 e1 => ?_) fun hb1 H1 e1 => ?_
  · rw [Bool.and_eq_true] at hb1
    obtain ⟨i, rfl⟩ := hd_col hb1.1
    obtain ⟨j, rfl⟩ := hd_col hb1.2
    cases hVa
    cases hVb
    refine q_when (b := !(isS nm "equal" || isS nm "same")) (et_nin2 (ev_var rfl) two) (fun h2 H2 e2 => s_ret (v := .int (cmpI ks m nm (.col i) (.col j))) (ev_is ev_c ?_) fun H3 e3 => q H3 (e1.trans (e2.trans e3))) fun h2 H2 e2 => ?_
    · rw [Bool.not_eq_true'] at h2
      show _ = V.int (if (isS nm "equal" || isS nm "same") = true then _ else _)
      rw [if_neg (by rw [h2]; decide)]
    have x2 := e1.trans e2
    have zi := (oks i).z
    have zj := (oks j).z
    refine q_asg (v := .int ((if (colAt ks j).dif > (colAt ks i).dif then (colAt ks j).dif else (colAt ks i).dif : Nat) : Int)) (ev_is (Evl.ev_max2 (ek_d C_Known (ek_lk (ev_var rfl) (ev_op (ev_var rfl) ev_c (rv_ixT (ex_t x2 hSa) (atI_nat (j := 1) rfl))) (hc.ex x2))) (ek_d C_Known (ek_lk (ev_var rfl) (ev_op (ev_var rfl) ev_c (rv_ixT (ex_t x2 hSb) (atI_nat (j := 1) rfl))) (hc.ex x2)))) ?_) fun H3 e3 => ?_
    · congr 1
      split <;> split <;> omega
    have hv : cmpI ks m nm (.col i) (.col j) = colsI (colAt ks i) (colAt ks j) := by
      show (if (isS nm "equal" || isS nm "same") = true then _ else _) = _
      rw [if_pos (show (isS nm "equal" || isS nm "same") = true by rw [← Bool.not_not (isS nm "equal" || isS nm "same"), h2]; rfl)]
    unfold colsI at hv
    have hle : (if (colAt ks j).dif > (colAt ks i).dif then (colAt ks j).dif else (colAt ks i).dif) ≤ 1000 := by split <;> omega
    generalize (if (colAt ks j).dif > (colAt ks i).dif then (colAt ks j).dif else (colAt ks i).dif) = n at hv hle ⊢
    refine s_ret (v := .int (cmpI ks m nm (.col i) (.col j))) (ev_if (b := decide ((n : Int) > 0)) (et_test (ev_op (ev_var rfl) ev_c rv_I0)) (fun hd => ev_is (ec_lup (n := 1000) ev_c (ev_var rfl) ?_ (by omega)) ?_) fun hd => ev_is ev_c ?_) fun H4 e4 => q H4 (x2.trans (e3.trans e4))
    · have := of_decide_eq_true hd
      omega
    · have := of_decide_eq_true hd
      rw [hv, if_neg (by omega)]
    · have := of_decide_eq_false hd
      rw [hv, if_pos (by omega)]
  refine q_when (b := isS nm "same") (et_S (ev_var rfl) ev_c) (fun h2 H2 e2 => s_ret (v := .int (cmpI ks m nm a b)) (ev_is ev_c ?_) fun H3 e3 => q H3 (e1.trans (e2.trans e3))) fun h2 H2 e2 => ?_
  · have hq : isS nm "equal" = false ∧ isS nm "less" = false ∧ isS nm "at most" = false := by rw [isS_eq h2]; exact ⟨by decide +kernel, by decide +kernel, by decide +kernel⟩
    rw [cmp_other (by rw [hb1]; rfl) (by rw [hq.1, hq.2.1, hq.2.2, Bool.or_self, Bool.or_self, Bool.and_false]) (by rw [hq.1, Bool.and_false]) (by rw [hq.2.1, hq.2.2, Bool.or_self, Bool.and_false])]
  have hn3 : Nm3 nm := by
    unfold Nm3
    rw [h2, Bool.or_false] at hn
    exact hn
  have x2 := e1.trans e2
  refine q_when (b := isS a.hd "column" && isS b.hd "constant") (et_and (hd1 x2 rfl) fun _ => hd2 x2 rfl) (fun hb2 H3 e3 => ?_) fun hb2 H3 e3 => ?_
  · rw [Bool.and_eq_true] at hb2
    obtain ⟨i, rfl⟩ := hd_col hb2.1
    obtain ⟨x, rfl⟩ := hd_cst hb2.2
    cases hVa
    cases hVb with
    | cst _ hx =>
    have x3 := x2.trans e3
    refine s_ret (v := .int (cmpI ks m nm (.col i) (.cst x))) (ev_is (ec_lbK (ev_var rfl) (ev_var rfl) (ek_lk (ev_var rfl) (ev_op (ev_var rfl) ev_c (rv_ixT (ex_t x3 hSa) (atI_nat (j := 1) rfl))) (hc.ex x3)) (ev_op (ev_var rfl) ev_c (rv_ixT (ex_t x3 hSb) (atI_nat (j := 1) rfl))) hn3 (oks i) (dv_ok hx) hm) ?_) fun H4 e4 => q H4 (x3.trans e4)
    show _ = V.int (if (isS nm "equal" || isS nm "less" || isS nm "at most") = true then _ else _)
    rw [if_pos (show (isS nm "equal" || isS nm "less" || isS nm "at most") = true from hn3)]
  refine q_when (b := isS a.hd "constant" && isS b.hd "column") (et_and (hd1 (x2.trans e3) rfl) fun _ => hd2 (x2.trans e3) rfl) (fun hb3 H4 e4 => ?_) fun hb3 H4 e4 => ?_
  · rw [Bool.and_eq_true] at hb3
    obtain ⟨x, rfl⟩ := hd_cst hb3.1
    obtain ⟨i, rfl⟩ := hd_col hb3.2
    cases hVb
    cases hVa with
    | cst _ hx =>
    have x4 := x2.trans (e3.trans e4)
    refine q_asgK (ek_lk (ev_var rfl) (ev_op (ev_var rfl) ev_c (rv_ixT (ex_t x4 hSb) (atI_nat (j := 1) rfl))) (hc.ex x4)) fun pk H5 e5 hk => ?_
    refine q_when (b := isS nm "equal") (et_S (ev_var rfl) ev_c) (fun h4 H6 e6 => ?_) fun h4 H6 e6 => ?_
    · refine s_ret (v := .int (cmpI ks m nm (.cst x) (.col i))) (ev_is (ec_lb (ev_var rfl) (ev_var rfl) (ev_var rfl) (ev_op (ev_var rfl) ev_c (rv_ixT (ex_t (x4.trans (e5.trans e6)) hSa) (atI_nat (j := 1) rfl))) hn3 (hk.ex e6) (oks i) (dv_ok hx) hm) ?_) fun H7 e7 => q H7 (x4.trans (e5.trans (e6.trans e7)))
      show _ = V.int (if isS nm "equal" = true then _ else _)
      rw [if_pos h4]
    · refine s_ret (v := .int (cmpI ks m nm (.cst x) (.col i))) (ev_is (ec_lb (ev_var rfl) (ev_var rfl) (ev_var rfl) (ev_op (ev_var rfl) ev_c (rv_ixT (ex_t (x4.trans (e5.trans e6)) hSa) (atI_nat (j := 1) rfl))) hn3 (hk.ex e6) (oks i) (dv_ok hx) hm) ?_) fun H7 e7 => q H7 (x4.trans (e5.trans (e6.trans e7)))
      have h5 : (isS nm "less" || isS nm "at most") = true := by
        unfold Nm3 at hn3
        rw [h4, Bool.false_or] at hn3
        exact hn3
      show _ = V.int (if isS nm "equal" = true then _ else if (isS nm "less" || isS nm "at most") = true then _ else _)
      rw [if_neg (by rw [h4]; decide), if_pos h5]
  refine s_ret (v := .int (cmpI ks m nm a b)) (ev_is ev_c ?_) fun H5 e5 => q H5 (x2.trans (e3.trans (e4.trans e5)))
  rw [cmp_other (by rw [hb1]; rfl) (by rw [hb2]; rfl) (by rw [hb3]; rfl) (by rw [hb3]; rfl)]

end
--@SPLIT
theorem cmp_like {ks : List Kn} {m : Int} {nm : Str} {a b : Cnd} (h : (isS nm "equal" || isS nm "same" || isS nm "less" || isS nm "at most") = false) : cmpI ks m nm a b = 333 := by
  simp only [Bool.or_eq_false_iff] at h
  obtain ⟨⟨⟨h1, h2⟩, h3⟩, h4⟩ := h
  exact cmp_other (by rw [h1, h2, Bool.or_self, Bool.and_false]) (by rw [h1, h3, h4, Bool.or_self, Bool.or_self, Bool.and_false]) (by rw [h1, Bool.and_false]) (by rw [h3, h4, Bool.or_self, Bool.and_false])
section
variable {P : Program} {w : World} {K : PySem.W.Frag} {mg : Str → Option Value} {base : Heap}
theorem ok__law_share {rn : Nat} (D : Dn K mg "_law_share" s__law_share ["condition", "many", "columns"]) (C_Known : ClsD K mg "Known" ["nulls", "different", "first", "last", "marks"]) (c__law_compared : C8.Cal P w K mg base 5 "_law_compared" (sp__law_compared K) []) (c__law_known : C8.Cal P w K mg base 3 "_law_known" (sp__law_known K) []) (c__law_up : C8.Cal P w K mg base 1 "_law_up" (sp__law_up K) []) (z_int : mg "int" = none) (z_min : mg "min" = none) (c__law_share : C8.Cal P w K mg base (6 + rn) "_law_share" (spR__law_share rn K) []) :
    C8.Cal P w K mg base (6 + rn + 1) "_law_share" (spR__law_share (rn + 1) K) [] := by
  refine cal_of D sc__law_share (fun vs H Q E h => ?_) (fun f cdv A outer s H vs Q E hr h => ?_)
  · obtain ⟨_, _, _, _, _, rfl, _⟩ := h
    rfl
  refine ⟨_, (pss_cons (ps_if (pt_cmpR op_eq (pe_ix ix_tup (pv 0) pe_int (fun _ _ => rfl)) pe_str (nomark _))
      (pss_one (ps_ret (pe_op op_mul pe_int (pe_callTy call_int1 (by rfl) z_int (by decide +kernel) (pa_cons (pe_cmpR op_isTF (pe_ix ix_tup (pv 0) pe_int (fun _ _ => rfl)) pe_bl (nomark _)) pa_nil)))))
      pss_nil)
    (pss_cons (ps_if (PW.pt (pw_and (pt_cmpR op_eq (pe_ix ix_tup (pv 0) pe_int (fun _ _ => rfl)) pe_str (nomark _)) (pw_and1 (pt_cmpR op_eq (pe_ix ix_tup (pv 0) pe_int (fun _ _ => rfl)) pe_str (nomark _)))))
      (pss_one (ps_ret (pe_op op_sub pe_int (C8.pe_c c__law_share hr (Nat.le_refl _) (by rfl) (pa_cons (pe_ix ix_tup (pv 0) pe_int (fun _ _ => rfl)) (pa_cons (pv 1) (pa_cons (pv 2) pa_nil)))))))
      pss_nil)
    (pss_cons (ps_if (PW.pt (pw_and (pt_cmpR op_eq (pe_ix ix_tup (pv 0) pe_int (fun _ _ => rfl)) pe_str (nomark _)) (pw_and (pt_cmpR op_eq (pe_ix ix_tup (pv 0) pe_int (fun _ _ => rfl)) pe_str (nomark _)) (pw_and1 (pt_cmpR op_eq (pe_ix ix_tup (pe_ix ix_tup (pv 0) pe_int (fun _ _ => rfl)) pe_int (fun _ _ => rfl)) pe_str (nomark _))))))
      (pss_cons (ps_if (pt_cmpR op_eq (pv 1) pe_int (nomark _))
      (pss_one (ps_ret pe_int))
      pss_nil)
    (pss_one (ps_ret (pe_callB (call_min2 rfl) (by rfl) z_min (by decide +kernel) (pa_cons pe_int (pa_cons (C8.pe_c c__law_up hr (by omega) (by rfl) (pa_cons (pe_op op_mul pe_int (pe_fld (C8.pe_c c__law_known hr (by omega) (by rfl) (pa_cons (pv 2) (pa_cons (pe_ix ix_tup (pe_ix ix_tup (pv 0) pe_int (fun _ _ => rfl)) pe_int (fun _ _ => rfl)) pa_nil))) (by rfl))) (pa_cons (pv 1) pa_nil))) pa_nil))))))
      pss_nil)
    (pss_cons (ps_if (PW.pt (pw_and (pt_cmpR op_eq (pe_ix ix_tup (pv 0) pe_int (fun _ _ => rfl)) pe_str (nomark _)) (pw_and1 (pt_cmpR op_in_seq (pe_ix ix_tup (pv 0) pe_int (fun _ _ => rfl)) (pe_tup (pa_cons pe_str (pa_cons pe_str pa_nil))) (by with_unfolding_all rfl)))))
      (pss_cons (ps_set (i := 3) sc__law_share.nd rfl (.inl rfl) (C8.pe_c c__law_share hr (Nat.le_refl _) (by rfl) (pa_cons (pe_ix ix_tup (pv 0) pe_int (fun _ _ => rfl)) (pa_cons (pv 1) (pa_cons (pv 2) pa_nil)))))
    (pss_cons (ps_set (i := 4) sc__law_share.nd rfl (.inl rfl) (C8.pe_c c__law_share hr (Nat.le_refl _) (by rfl) (pa_cons (pe_ix ix_tup (pv 0) pe_int (fun _ _ => rfl)) (pa_cons (pv 1) (pa_cons (pv 2) pa_nil)))))
    (pss_cons (ps_if (pt_cmpR op_eq (pe_ix ix_tup (pv 0) pe_int (fun _ _ => rfl)) pe_str (nomark _))
      (pss_one (ps_ret (C8.pe_c c__law_up hr (by omega) (by rfl) (pa_cons (pe_op op_mul (pv 3) (pv 4)) (pa_cons pe_int pa_nil)))))
      pss_nil)
    (pss_one (ps_ret (pe_callB (call_min2 rfl) (by rfl) z_min (by decide +kernel) (pa_cons pe_int (pa_cons (pe_op op_add (pv 3) (pv 4)) pa_nil))))))))
      pss_nil)
    (pss_cons (ps_if (PW.pt (pw_and (pt_cmpR op_eq (pe_ix ix_tup (pv 0) pe_int (fun _ _ => rfl)) pe_str (nomark _)) (pw_and1 (pt_cmpR op_in_seq (pe_ix ix_tup (pv 0) pe_int (fun _ _ => rfl)) (pe_tup (pa_cons pe_str (pa_cons pe_str (pa_cons pe_str (pa_cons pe_str pa_nil))))) (by with_unfolding_all rfl)))))
      (pss_one (ps_ret (C8.pe_c c__law_compared hr (by omega) (by rfl) (pa_cons (pe_ix ix_tup (pv 0) pe_int (fun _ _ => rfl)) (pa_cons (pe_ix ix_tup (pv 0) pe_int (fun _ _ => rfl)) (pa_cons (pe_ix ix_tup (pv 0) pe_int (fun _ _ => rfl)) (pa_cons (pv 1) (pa_cons (pv 2) pa_nil))))))))
      pss_nil)
    (pss_one (ps_ret pe_int))))))), ?_⟩
  obtain ⟨v, e, m, c, ks, rfl, hcx, hd, hc, hm, q⟩ := h
  obtain ⟨ad, ys, rfl, hS, hV⟩ := cx_at hcx
  have hin : ∀ e : Cnd, In1 (shrI ks m e) := sh_in hc.2.1 hm.1
  have t0 : ∀ {H0 : Hp} {σ : L2.St} {s : Str}, Ex H H0 → σ[0]? = some (some (.ref ad)) → EvT (tTest (tOp rEq (tOp (rIxT K) (tVar 0) (tC (.int 0))) (tC (.str s)))) σ H0 (isS e.hd s) := fun x h => et_S (ev_op (ev_var h) ev_c (rv_ixT (ex_t x hS) (atI_nat (j := 0) hV.hd))) ev_c
  have two : ∀ {σ : L2.St} {H0 : Hp} {s t : Str}, EvU (tTup (tCons (tC (.str s)) (tCons (tC (.str t)) tNil))) σ H0 [.str s, .str t] := eu_tup (ea_cons ev_c (ea_cons ev_c ea_nil)) (by show 2 ≤ 100000; decide)
  have four : ∀ {σ : L2.St} {H0 : Hp} {s t u v : Str}, EvU (tTup (tCons (tC (.str s)) (tCons (tC (.str t)) (tCons (tC (.str u)) (tCons (tC (.str v)) tNil))))) σ H0 [.str s, .str t, .str u, .str v] := eu_tup (ea_cons ev_c (ea_cons ev_c (ea_cons ev_c (ea_cons ev_c ea_nil)))) (by show 4 ≤ 100000; decide)
  cases hV with
  | col n =>
    refine q_when (b := false) (et_is (t0 (Ex.refl H) rfl) (hd_c n).1) (fun h => nomatch h) fun _ H2 e2 => ?_
    refine q_when (b := false) (et_is (et_and (a := false) (b := false) (et_is (t0 e2 rfl) (hd_c n).2.1) fun h => nomatch h) rfl) (fun h => nomatch h) fun _ H3 e3 => ?_
    refine q_when (b := false) (et_is (et_and (a := false) (b := false) (et_is (t0 (e2.trans e3) rfl) (hd_c n).2.1) fun h => nomatch h) rfl) (fun h => nomatch h) fun _ H4 e4 => ?_
    refine q_when (b := false) (et_is (et_and (a := false) (b := false) (et_is (t0 (e2.trans (e3.trans e4)) rfl) (hd_c n).2.2) fun h => nomatch h) rfl) (fun h => nomatch h) fun _ H5 e5 => ?_
    refine q_when (b := false) (et_is (et_and (a := false) (b := false) (et_is (t0 (e2.trans (e3.trans (e4.trans e5))) rfl) (hd_c n).2.2) fun h => nomatch h) rfl) (fun h => nomatch h) fun _ H6 e6 => ?_
    exact s_ret (v := .int 333) ev_c fun H7 e7 => q H7 (e2.trans (e3.trans (e4.trans (e5.trans (e6.trans e7)))))
  | cst x hx =>
    refine q_when (b := true) (et_is (t0 (Ex.refl H) rfl) (hd_k x).1) (fun _ H2 e2 => ?_) fun h => nomatch h
    refine s_ret (v := .int (shrI ks m (.cst x))) (ev_is (ev_op ev_c (ev_intB (b := decide (x = .bl true)) (ev_op (ev_op (ev_var rfl) ev_c (rv_ixT (ex_t e2 hS) (atI_nat (j := 1) rfl))) ev_c rv_isT)) (rv_I (.inl ⟨by decide, by decide⟩))) ?_) fun H3 e3 => q H3 (e2.trans e3)
    show _ = V.int (if x = .bl true then 1000 else 0)
    by_cases hb : x = .bl true
    · rw [decide_eq_true hb, if_pos hb]
      rfl
    · rw [decide_eq_false hb, if_neg hb]
      rfl
  | un nm a y hn ha =>
    have hda : a.dep + 1 ≤ rn + 1 := hd
    have hpa := dep_pos a
    refine q_when (b := false) (et_is (t0 (Ex.refl H) rfl) (hd_u nm a).1) (fun h => nomatch h) fun _ H2 e2 => ?_
    have hS2 := ex_t e2 hS
    refine q_when (b := isS nm "not") (et_is (et_and (a := true) (et_is (t0 e2 rfl) (hd_u nm a).2.1) fun _ => et_S (ev_op (ev_var rfl) ev_c (rv_ixT hS2 (atI_nat (j := 1) rfl))) ev_c) (Bool.true_and _)) (fun hb H3 e3 => ?_) fun hb H3 e3 => ?_
    · have x3 := e2.trans e3
      cases rn with
      | zero => omega
      | succ n =>
      refine s_ret (v := .int (shrI ks m (.un nm a))) (ev_is (ev_op ev_c (ec_share (f := shrI) (n := n + 1) (ev_op (ev_var rfl) ev_c (rv_ixT (ex_t e3 hS2) (atI_nat (j := 2) rfl))) (ev_var rfl) (ev_var rfl) (ha.ex x3) (by omega) (hc.ex x3) hm) rv_I0) ?_) fun H4 e4 => q H4 (x3.trans e4)
      show _ = V.int (if isS nm "not" = true then _ else _)
      rw [if_pos hb]
    have hS3 := ex_t e3 hS2
    have x3 := e2.trans e3
    obtain ⟨pa, xa, rfl, hSa, hVa⟩ := cx_at (ha.ex x3)
    refine q_when (b := isS nm "is null" && isS a.hd "column") (et_is (et_and (a := true) (et_is (t0 x3 rfl) (hd_u nm a).2.1) fun _ => et_and (et_S (ev_op (ev_var rfl) ev_c (rv_ixT hS3 (atI_nat (j := 1) rfl))) ev_c) fun _ => et_S (ev_op (ev_op (ev_var rfl) ev_c (rv_ixT hS3 (atI_nat (j := 2) rfl))) ev_c (rv_ixT hSa (atI_nat (j := 0) hVa.hd))) ev_c) (Bool.true_and _)) (fun hb2 H4 e4 => ?_) fun hb2 H4 e4 => ?_
    · simp only [Bool.and_eq_true] at hb2
      obtain ⟨n, rfl⟩ := hd_col hb2.2
      cases hVa
      have hval : shrI ks m (.un nm (.col n)) = nulI (colAt ks n) m := by
        show (if isS nm "not" = true then _ else if isS nm "is null" = true then nulI (colAt ks n) m else _) = _
        rw [if_neg (by rw [hb]; decide), if_pos hb2.1]
      refine q_when (b := decide (V.int m = V.int 0)) (by walk_at "et") (fun h5 H5 e5 => s_ret (v := .int (shrI ks m (.un nm (.col n)))) (ev_is ev_c ?_) fun H6 e6 => q H6 (x3.trans (e4.trans (e5.trans e6)))) fun h5 H5 e5 => ?_
      · have hm0 : m = 0 := V.int.inj (of_decide_eq_true h5)
        rw [hval]
        unfold nulI
        rw [if_pos hm0]
      have hm0 : ¬ m = 0 := fun z => by rw [z] at h5; exact absurd h5 (by decide)
      refine s_ret (v := .int (shrI ks m (.un nm (.col n)))) (ev_is (ev_min2 ev_c (ec_lup (n := 1000 * ((colAt ks n).nul : Int)) (d := m) (ev_op ev_c (ek_n C_Known (ek_lk (ev_var rfl) (ev_op (ev_op (ev_var rfl) ev_c (rv_ixT (ex_t (e4.trans e5) hS3) (atI_nat (j := 2) rfl))) ev_c (rv_ixT (ex_t (e4.trans e5) hSa) (atI_nat (j := 1) rfl))) (hc.ex (x3.trans (e4.trans e5))))) (rv_I (.inl ⟨by decide, by decide⟩))) (ev_var rfl) (by omega) (by omega))) ?_) fun H6 e6 => q H6 (x3.trans (e4.trans (e5.trans e6)))
      rw [hval]
      unfold nulI
      rw [if_neg hm0]
      generalize upI (1000 * ((colAt ks n).nul : Int)) m = z
      congr 1
      split <;> split <;> omega
    have x4 := x3.trans e4
    refine q_when (b := false) (et_is (et_and (a := false) (b := false) (et_is (t0 x4 rfl) (hd_u nm a).2.2) fun h => nomatch h) rfl) (fun h => nomatch h) fun _ H5 e5 => ?_
    refine q_when (b := false) (et_is (et_and (a := false) (b := false) (et_is (t0 (x4.trans e5) rfl) (hd_u nm a).2.2) fun h => nomatch h) rfl) (fun h => nomatch h) fun _ H6 e6 => ?_
    refine s_ret (v := .int (shrI ks m (.un nm a))) (ev_is ev_c ?_) fun H7 e7 => q H7 (x4.trans (e5.trans (e6.trans e7)))
    show _ = V.int (if isS nm "not" = true then _ else if isS nm "is null" = true then _ else 333)
    rw [if_neg (by rw [hb]; decide)]
    cases h1 : isS nm "is null" with
    | false => rw [if_neg (by decide)]
    | true =>
      rw [h1, Bool.true_and] at hb2
      rw [if_pos rfl, isCol_no hb2]
  | bin nm a b y z hn ha hb =>
    have hda : max a.dep b.dep + 1 ≤ rn + 1 := hd
    have hpa := dep_pos a
    refine q_when (b := false) (et_is (t0 (Ex.refl H) rfl) (hd_b nm a b).1) (fun h => nomatch h) fun _ H2 e2 => ?_
    refine q_when (b := false) (et_is (et_and (a := false) (b := false) (et_is (t0 e2 rfl) (hd_b nm a b).2.1) fun h => nomatch h) rfl) (fun h => nomatch h) fun _ H3 e3 => ?_
    refine q_when (b := false) (et_is (et_and (a := false) (b := false) (et_is (t0 (e2.trans e3) rfl) (hd_b nm a b).2.1) fun h => nomatch h) rfl) (fun h => nomatch h) fun _ H4 e4 => ?_
    have x4 := e2.trans (e3.trans e4)
    have hS4 := ex_t x4 hS
    cases rn with
    | zero => omega
    | succ n =>
    refine q_when (b := isS nm "and" || isS nm "or") (et_is (et_and (a := true) (et_is (t0 x4 rfl) (hd_b nm a b).2.2) fun _ => et_in2 (ev_op (ev_var rfl) ev_c (rv_ixT hS4 (atI_nat (j := 1) rfl))) two) (Bool.true_and _)) (fun h5 H5 e5 => ?_) fun h5 H5 e5 => ?_
    · have i1 := hin a
      have i2 := hin b
      have hS5 := ex_t e5 hS4
      have x5 := x4.trans e5
      refine q_asg (v := .int (shrI ks m a)) (ec_share (f := shrI) (n := n + 1) (ev_op (ev_var rfl) ev_c (rv_ixT hS5 (atI_nat (j := 2) rfl))) (ev_var rfl) (ev_var rfl) (ha.ex x5) (by omega) (hc.ex x5) hm) fun H6 e6 => ?_
      have x6 := x5.trans e6
      refine q_asg (v := .int (shrI ks m b)) (ec_share (f := shrI) (n := n + 1) (ev_op (ev_var rfl) ev_c (rv_ixT (ex_t e6 hS5) (atI_nat (j := 3) rfl))) (ev_var rfl) (ev_var rfl) (hb.ex x6) (by omega) (hc.ex x6) hm) fun H7 e7 => ?_
      have x7 := x6.trans e7
      have hS7 := ex_t (e6.trans e7) hS5
      refine q_when (b := isS nm "and") (et_S (ev_op (ev_var rfl) ev_c (rv_ixT hS7 (atI_nat (j := 1) rfl))) ev_c) (fun h8 H8 e8 => ?_) fun h8 H8 e8 => ?_
      · refine s_ret (v := .int (shrI ks m (.bin nm a b))) (ev_is (ec_lup (n := shrI ks m a * shrI ks m b) (d := 1000) (ev_op (ev_var rfl) (ev_var rfl) (rv_I (.inl ⟨by have := i1.1; omega, by have := i1.2; omega⟩))) ev_c (by decide) (by decide)) ?_) fun H9 e9 => q H9 (x7.trans (e8.trans e9))
        show _ = V.int (if isS nm "and" = true then _ else _)
        rw [if_pos h8]
      · have h9 : isS nm "or" = true := by rw [h8, Bool.false_or] at h5; exact h5
        refine s_ret (v := .int (shrI ks m (.bin nm a b))) (ev_is (ev_min2 ev_c (ev_op (ev_var rfl) (ev_var rfl) rv_I0)) ?_) fun H9 e9 => q H9 (x7.trans (e8.trans e9))
        have hval : shrI ks m (.bin nm a b) = (if 1000 < shrI ks m a + shrI ks m b then 1000 else shrI ks m a + shrI ks m b) := by
          show (if isS nm "and" = true then _ else if isS nm "or" = true then _ else _) = _
          rw [if_neg (show ¬ isS nm "and" = true by rw [h8]; decide), if_pos h9]
        rw [hval]
        congr 1
        split <;> split <;> omega
    have h56 : isS nm "and" = false ∧ isS nm "or" = false := by rw [Bool.or_eq_false_iff] at h5; exact h5
    have hval : shrI ks m (.bin nm a b) = cmpI ks m nm a b := by
      show (if isS nm "and" = true then _ else if isS nm "or" = true then _ else cmpI ks m nm a b) = _
      rw [if_neg (show ¬ isS nm "and" = true by rw [h56.1]; decide), if_neg (show ¬ isS nm "or" = true by rw [h56.2]; decide)]
    have x5 := x4.trans e5
    have hS5 := ex_t e5 hS4
    refine q_when (b := isS nm "equal" || isS nm "same" || isS nm "less" || isS nm "at most") (et_is (et_and (a := true) (et_is (t0 x5 rfl) (hd_b nm a b).2.2) fun _ => et_in4 (ev_op (ev_var rfl) ev_c (rv_ixT hS5 (atI_nat (j := 1) rfl))) four) (Bool.true_and _)) (fun h6 H6 e6 => ?_) fun h6 H6 e6 => ?_
    · have x6 := x5.trans e6
      have hS6 := ex_t e6 hS5
      refine s_ret (v := .int (shrI ks m (.bin nm a b))) (ev_is (ec_lcmp (ev_op (ev_var rfl) ev_c (rv_ixT hS6 (atI_nat (j := 1) rfl))) (ev_op (ev_var rfl) ev_c (rv_ixT hS6 (atI_nat (j := 2) rfl))) (ev_op (ev_var rfl) ev_c (rv_ixT hS6 (atI_nat (j := 3) rfl))) (ev_var rfl) (ev_var rfl) (ha.ex x6) (hb.ex x6) h6 (hc.ex x6) hm) ?_) fun H7 e7 => q H7 (x6.trans e7)
      rw [hval]
    · refine s_ret (v := .int (shrI ks m (.bin nm a b))) (ev_is ev_c ?_) fun H7 e7 => q H7 (x5.trans (e6.trans e7))
      rw [hval, cmp_like h6]
end

--@SPLIT
/-! ### the law of shares -/
section
variable {K : PySem.W.Frag}
theorem dps_atI : ∀ {ys : List V} {ds : List PyData} {H : Hp} {i : Nat} {d : PyData}, DpAll K H ys ds → ds[i]? = some d → ∃ x, ys[i]? = some x ∧ Dp K H x d
  | _, _, _, _, _, .nil, h => by simp at h
  | _, _, _, 0, _, .cons h _, e => by
    cases e
    exact ⟨_, rfl, h⟩
  | _, _, _, i + 1, _, .cons _ t, e => by
    obtain ⟨d, h1, h2⟩ := dps_atI (i := i) t (by simpa using e)
    exact ⟨d, by simpa using h1, h2⟩
end
theorem noL_of : ∀ {ds : List PyData} {d : PyData}, noLs ds = true → d ∈ ds → noL d = true
  | x :: xs, d, n, h => by
    have n' : (noL x && noLs xs) = true := n
    rw [Bool.and_eq_true] at n'
    rcases List.mem_cons.mp h with z | z
    · rw [z]; exact n'.1
    · exact noL_of n'.2 z
section
variable {K : PySem.W.Frag} {σ : L2.St} {H : Hp} {p : Addr} {ta tb tc te tl tn t1 t2 t3 : TE} {PL : List PyData → Prop} {R : PyData → Prop} {D : Ends} {tz : TS} {RV : V → Prop} {E : XK}
/-- (a, b, c)[i]: data -/
theorem x_ix {m : Int} (h : EvX K te σ p H (fun d => ∃ ds, d = .tuple ds ∧ PL ds)) (hi : EvD1 tb σ p H (ZP fun j => 0 ≤ j ∧ j < m)) (k : ∀ ds (j : Nat), PL ds → (j : Int) < m → ∃ d, ds[j]? = some d ∧ R d) : EvX K (tOp (rIxT K) te tb) σ p H R := fun H1 e dr Q q =>
  h H1 e dr _ fun v H2 d ⟨ds, ed, hP⟩ n hv e2 d2 => hi H2 (wx_trans e e2) d2 _ fun y H3 ⟨j, ey, hj⟩ e3 d3 => by
    subst ed ey
    obtain ⟨jn, rfl⟩ := Int.eq_ofNat_of_zero_le hj.1
    obtain ⟨b, ys, rfl, hS, hds⟩ := dp_tupD (dp_wx hv n d2 e3)
    obtain ⟨d, hi2, hR⟩ := k ds jn hP hj.2
    obtain ⟨x, hx, hd⟩ := dps_atI hds hi2
    have hn : noL d = true := noL_of n (List.mem_of_getElem? hi2)
    exact rv_ixT hS (atI_nat hx) H3 (Ex.refl H3) Q fun H4 e4 => q x H4 d hR hn (ex_dp e4 hd) (wx_trans e2 (wx_trans e3 (wx_of e4))) (d3.ex e4)
/-- (texts)[i] -/
theorem x_ixT {xs : List Str} (ha : EvU ta σ (wo p H) (xs.map V.str)) (hb : EvD1 tb σ p H (ZP fun j => 0 ≤ j ∧ j < (xs.length : Int))) : EvX K (tOp (rIxT K) ta tb) σ p H (fun d => ∃ s ∈ xs, d = .str s) := fun H1 e dr Q q =>
  ha H1 e _ fun t H2 ht e2 h2 => hb H2 (e.trans e2) (dr.ex e2) _ fun y H3 ⟨j, ey, hj⟩ e3 d3 => by
    subst ey
    obtain ⟨jn, rfl⟩ := Int.eq_ofNat_of_zero_le hj.1
    have hjn : jn < xs.length := by omega
    have htp : t ≠ p := fun z => by
      obtain ⟨s, hs⟩ := dr.at
      rw [z, hs] at ht
      cases ht
    have h3 : H3 t = some (.tup (xs.map V.str)) := e3 _ _ (by rw [wo_ne htp]; exact h2)
    refine rv_ixT (st_of h3) (atI_nat (j := jn) (v := .str xs[jn]) (by rw [List.getElem?_map, List.getElem?_eq_getElem hjn]; rfl)) H3 (Ex.refl H3) Q fun H4 e4 => ?_
    exact q _ H4 _ ⟨_, List.getElem_mem hjn, rfl⟩ rfl (.str _) (wx_trans (wx_of e2) (wx_trans e3 (wx_of e4))) (d3.ex e4)
theorem q_asgE {i : Nat} (h : te σ H fun v H1 => tz D (σ.set i (some v)) H1) : tSeq (tAsg te (gName i)) tz D σ H := h
/-- [a, b, c], drawn -/
theorem e1_lst3 (h1 : EvD1 t1 σ p H RV) (h2 : EvD1 t2 σ p H RV) (h3 : EvD1 t3 σ p H RV) : EvLD1 (tLst (tCons t1 (tCons t2 (tCons t3 tNil)))) σ p H (fun xs => xs.length = 3 ∧ ∀ x ∈ xs, RV x) := fun H0 e d Q q =>
  h1 H0 e d _ fun x H1 hx e1 d1 => h2 H1 (wx_trans e e1) d1 _ fun y H2 hy e2 d2 => h3 H2 (wx_trans e (wx_trans e1 e2)) d2 _ fun z H3 hz e3 d3 => ⟨sz_of (by show 3 ≤ 100000; decide), fun l hl => by
    have x03 := wx_trans e1 (wx_trans e2 e3)
    have hlp : p ≠ l := dr_ne d3 hl
    refine q l _ [x, y, z] ⟨rfl, fun v hv => ?_⟩ ?_ (x03.trans (Ex.new hl)) (d3.upd hlp) upd_same
    · simp only [List.mem_cons, List.not_mem_nil, or_false] at hv
      rcases hv with rfl | rfl | rfl
      · exact hx
      · exact hy
      · exact hz
    · cases w : H0 l with
      | none => rfl
      | some o =>
        have := x03 l o (by rw [wo_ne (Ne.symm hlp)]; exact w)
        rw [hl] at this
        cases this⟩
/-- [what is known of the j-th items for j in range(n)] -/
theorem ro_cols {n j : Nat} {vs : List Nat} (hn : Ev tn σ H (.int (n : Int))) (hm : n ≤ 1000) (hw : ∀ x, wipe ((wipe σ vs).set j (some x)) vs = wipe σ vs)
    (he : ∀ (i : Nat) (H1 : Hp), i < n → Ex H H1 → EvRn (fun H p => ∃ k, KnOk k ∧ KnAt K H p k) te ((wipe σ vs).set j (some (.int (i : Int)))) H1) : EvRo (fun H p => ∃ ks, ColsAt K H p ks) (tLc (iRng1 (tCons tn tNil)) (gName j) tYes te vs) σ H := fun H0 e0 Q q =>
  hn H0 e0 _ fun H1 e1 => ⟨(n : Int), rfl, by omega, by omega, fun Dl hD => by
    refine lc_range (lo := 0) (n := n) (fun i H' => Ex H1 H' ∧ ∃ qs ks, H' Dl = some (.lst (qs.map V.ref)) ∧ Al2 (KnAt K) (wo Dl H') qs ks ∧ (∀ k ∈ ks, KnOk k) ∧ ks.length = i) ⟨Ex.new hD, [], [], upd_same, Al2.nil, (fun k hk => by cases hk), rfl⟩ (fun i H' hi pv => ?_) (fun H' pv => ?_)
    · obtain ⟨p1, qs, ks, p3, p4, p5, p6⟩ := pv
      have e00 : (0 : Int) + (i : Int) = (i : Int) := Int.zero_add _
      show wipe ((wipe σ vs).set j (some (.int ((0 : Int) + (i : Int))))) vs = wipe σ vs ∧ te ((wipe σ vs).set j (some (.int ((0 : Int) + (i : Int))))) H' fun y H4 => ∃ acc, H4 Dl = some (.lst acc) ∧ acc.length < sizeLine ∧ _
      rw [e00]
      refine ⟨hw _, he i H' hi (e0.trans (e1.trans p1)) H' (Ex.refl H') _ fun r H4 hr e4 ⟨k, hk, hK⟩ => ⟨_, e4 _ _ p3, sz_lt (by rw [List.length_map, p4.1]; omega), Ex.mut (p1.trans e4) hD, qs ++ [r], ks ++ [k], by rw [upd_same, List.map_append]; rfl, ?_, fun x hx => ?_, by rw [List.length_append, p6]; rfl⟩⟩
      · rw [wo_upd]
        exact (p4.mono fun q l _ => KnAt.mn K _ _ _ _ (wo_mono e4)).snoc (KnAt.mn K _ _ _ _ (nu_wo p3) hK)
      · rcases List.mem_append.mp hx with h | h
        · exact p5 x h
        · rw [List.mem_singleton.mp h]; exact hk
    · obtain ⟨p1, qs, ks, p3, p4, p5, p6⟩ := pv
      exact q Dl H' (fresh_back e1 hD) (e1.trans p1) ⟨ks, ⟨qs, p3, p4.mono fun q l _ => KnAt.mn K _ _ _ _ (wo_le _ _)⟩, p5, by omega⟩⟩
theorem rn_known_of {xs : List V} (h : EvL te σ H xs) (ho : ∀ x ∈ xs, Ok x) (hz : xs.length ≤ 1000) : EvRn (fun H p => ∃ k, KnOk k ∧ KnAt K H p k) (tCall (sp_known_of K) [] E (tCons te tNil)) σ H := fun H1 e Q q =>
  h H1 e _ fun a H2 ha e2 h2 => ⟨a, xs, rfl, sq_of h2, ho, hz, fun p H3 hp e3 ⟨k, hk, hK⟩ => q p H3 (fresh_back e2 hp) (e2.trans e3) ⟨k, hk, KnAt.mn K _ _ _ _ (nu_back e2) hK⟩⟩
theorem x_col {m : Int} (ha : Ev ta σ (wo p H) (.ref p)) (hm : 0 < m) (hm2 : m < 2 ^ 400) : EvX K (tTup (tCons (tC (.str "column")) (tCons (tCall (sp__law_digit K) [] E (tCons ta (tCons (tC (.int m)) tNil))) tNil))) σ p H (fun d => ∃ n : Nat, (n : Int) < m ∧ d = Cnd.d (.col n)) := by
  refine x_mono (x_tup (xa_cons (x_pure ev_c (fun _ => .str _) rfl) (xa_cons (x_int (PI := fun j => 0 ≤ j ∧ j < m) (ez_digit ha ev_c hm hm2)) xa_nil)) ?_) ?_
  · rintro ds ⟨_, _, rfl, _, _, _, rfl, _, rfl⟩
    show 2 ≤ 100000
    decide
  · rintro d ⟨ds, rfl, _, _, rfl, rfl, _, _, rfl, ⟨j, hj, rfl⟩, rfl⟩
    obtain ⟨jn, rfl⟩ := Int.eq_ofNat_of_zero_le hj.1
    exact ⟨jn, hj.2, rfl⟩
end
def sp__law_odd (K : PySem.W.Frag) : Sp := fun vs H Q _ => ∃ p : Addr, vs = [.ref p] ∧ Dr p H ∧ ∀ v H' d, CondD 4 3 d → noL d = true → Dp K H' v d → Ex (wo p H) H' → Dr p H' → Q v H'
theorem x_odd {K : PySem.W.Frag} {σ : L2.St} {H : Hp} {p : Addr} {ta : TE} {E : XK} (ha : Ev ta σ (wo p H) (.ref p)) : EvX K (tCall (sp__law_odd K) [] E (tCons ta tNil)) σ p H (CondD 4 3) := fun H1 e d Q q =>
  ha H1 e _ fun H2 e2 => ⟨p, rfl, d.ex e2, fun v H5 dd hd n hv e5 d5 => q v H5 dd hd n hv (wx_trans (wx_of e2) e5) d5⟩
theorem dv_a : DV (.str "a") := by
  rw [show V.str "a" = V.str (SX.S [97]) by decide +kernel]
  exact .str [97] (by decide) (by decide)
section
variable {P : Program} {w : World} {K : PySem.W.Frag} {mg : Str → Option Value} {base : Heap}
theorem ok__law_odd (D : Dn K mg "_law_odd" s__law_odd ["state"]) (c__law_digit : C8.Cal P w K mg base 1 "_law_digit" (sp__law_digit K) []) (c__law_value : C8.Cal P w K mg base 3 "_law_value" (sp__law_value K) []) :
    C8.Cal P w K mg base 4 "_law_odd" (sp__law_odd K) [] := by
  refine cal_of D sc__law_odd (fun vs H Q E h => ?_) (fun f cdv A outer s H vs Q E hr h => ?_)
  · obtain ⟨_, rfl, _⟩ := h
    rfl
  refine ⟨_, (pss_cons (ps_set (i := 1) sc__law_odd.nd rfl (.inl rfl) (pe_tup (pa_cons pe_str (pa_cons (C8.pe_c c__law_digit hr (by decide) (by rfl) (pa_cons (pv 0) (pa_cons pe_int pa_nil))) pa_nil))))
    (pss_cons (ps_set (i := 2) sc__law_odd.nd rfl (.inl rfl) (pe_tup (pa_cons (pe_tup (pa_cons pe_str (pa_cons pe_str (pa_cons (pv 1) (pa_cons (pe_tup (pa_cons pe_str (pa_cons (C8.pe_c c__law_digit hr (by decide) (by rfl) (pa_cons (pv 0) (pa_cons pe_int pa_nil))) pa_nil))) pa_nil))))) (pa_cons (pe_tup (pa_cons pe_str (pa_cons pe_str (pa_cons (pv 1) (pa_cons (pe_tup (pa_cons pe_str (pa_cons pe_str pa_nil))) pa_nil))))) (pa_cons (pe_tup (pa_cons pe_str (pa_cons (C8.pe_c c__law_value hr (by decide) (by rfl) (pa_cons (pv 0) pa_nil)) pa_nil))) (pa_cons (pe_tup (pa_cons pe_str (pa_cons pe_str (pa_cons (pe_tup (pa_cons pe_str (pa_cons pe_str (pa_cons (pv 1) pa_nil)))) (pa_cons (pe_tup (pa_cons pe_str (pa_cons pe_int pa_nil))) pa_nil))))) (pa_cons (pe_tup (pa_cons pe_str (pa_cons pe_str (pa_cons (pe_tup (pa_cons pe_str (pa_cons pe_str (pa_cons (pv 1) pa_nil)))) pa_nil)))) pa_nil)))))))
    (pss_one (ps_ret (pe_ix ix_tup (pv 2) (C8.pe_c c__law_digit hr (by decide) (by rfl) (pa_cons (pv 0) (pa_cons pe_int pa_nil))) (fun _ _ => rfl)))))), ?_⟩
  obtain ⟨p, rfl, dr, q⟩ := h
  have two : ∀ {a b : PyData → Prop} (ds : List PyData), (∃ d r, ds = d :: r ∧ a d ∧ ∃ d' r', r = d' :: r' ∧ b d' ∧ r' = []) → ds.length ≤ 100000 := fun ds h => by
    obtain ⟨d1, r1, rfl, _, d2, r2, rfl, _, rfl⟩ := h
    show 2 ≤ 100000
    decide
  have three : ∀ {a b c : PyData → Prop} (ds : List PyData), (∃ d r, ds = d :: r ∧ a d ∧ ∃ d' r', r = d' :: r' ∧ b d' ∧ ∃ d2 r2, r' = d2 :: r2 ∧ c d2 ∧ r2 = []) → ds.length ≤ 100000 := fun ds h => by
    obtain ⟨d1, r1, rfl, _, d2, r2, rfl, _, d3, r3, rfl, _, rfl⟩ := h
    show 3 ≤ 100000
    decide
  have four : ∀ {a b c e : PyData → Prop} (ds : List PyData), (∃ d r, ds = d :: r ∧ a d ∧ ∃ d' r', r = d' :: r' ∧ b d' ∧ ∃ d2 r2, r' = d2 :: r2 ∧ c d2 ∧ ∃ d3 r3, r2 = d3 :: r3 ∧ e d3 ∧ r3 = []) → ds.length ≤ 100000 := fun ds h => by
    obtain ⟨d1, r1, rfl, _, d2, r2, rfl, _, d3, r3, rfl, _, d4, r4, rfl, _, rfl⟩ := h
    show 4 ≤ 100000
    decide
  refine qx_asg (P := fun d => ∃ n : Nat, (n : Int) < 4 ∧ d = Cnd.d (.col n)) (x_col (ev_var rfl) (by decide) (by decide)) dr fun vc H1 dc hdc nc hvc e1 d1 => ?_
  obtain ⟨cn, hcn, rfl⟩ := hdc
  have hcn : cn < 4 := by omega
  have xc : ∀ {σ : L2.St}, σ[1]? = some (some vc) → EvX K (tVar 1) σ p H1 (· = (Cnd.col cn).d) := fun h => x_var h hvc nc d1
  have habs : ∀ {σ : L2.St}, σ[1]? = some (some vc) → EvX K (tTup (tCons (tC (.str "unary")) (tCons (tC (.str "abs")) (tCons (tVar 1) tNil)))) σ p H1 (· = (Cnd.un "abs" (.col cn)).d) := fun h => by
    refine x_mono (x_tup (xa_cons (x_pure ev_c (fun _ => .str _) rfl) (xa_cons (x_pure ev_c (fun _ => .str _) rfl) (xa_cons (xc h) xa_nil))) three) ?_
    rintro d ⟨ds, rfl, _, _, rfl, rfl, _, _, rfl, rfl, _, _, rfl, rfl, rfl⟩
    rfl
  have okc : (Cnd.col cn).ok 4 := .col cn hcn
  have oka : (Cnd.un "abs" (.col cn)).ok 4 := .un _ _ (by decide +kernel) okc
  refine qx_asg (P := fun d => ∃ ds, d = .tuple ds ∧ ds.length = 5 ∧ ∀ x ∈ ds, CondD 4 3 x) (x_mono (x_tup (PL := fun ds => ds.length = 5 ∧ ∀ x ∈ ds, CondD 4 3 x) (fun H2 e2 dr2 Q2 q2 => (xa_cons (P := CondD 4 3) (x_mono (x_tup (xa_cons (x_pure ev_c (fun _ => .str _) rfl) (xa_cons (x_pure ev_c (fun _ => .str _) rfl) (xa_cons (xc rfl) (xa_cons (x_col (m := 3) (ev_var rfl) (by decide) (by decide)) xa_nil)))) four) ?_) (xa_cons (P := CondD 4 3) (x_mono (x_tup (xa_cons (x_pure ev_c (fun _ => .str _) rfl) (xa_cons (x_pure ev_c (fun _ => .str _) rfl) (xa_cons (xc rfl) (xa_cons (x_tup (xa_cons (x_pure ev_c (fun _ => .str _) rfl) (xa_cons (x_pure ev_c (fun _ => .str _) rfl) xa_nil)) two) xa_nil)))) four) ?_) (xa_cons (P := CondD 4 3) (x_mono (x_tup (xa_cons (x_pure ev_c (fun _ => .str _) rfl) (xa_cons (x_dv (e1_value (ev_var rfl))) xa_nil)) two) ?_) (xa_cons (P := CondD 4 3) (x_mono (x_tup (xa_cons (x_pure ev_c (fun _ => .str _) rfl) (xa_cons (x_pure ev_c (fun _ => .str _) rfl) (xa_cons (habs rfl) (xa_cons (x_tup (xa_cons (x_pure ev_c (fun _ => .str _) rfl) (xa_cons (x_pure ev_c (fun _ => .int _) rfl) xa_nil)) two) xa_nil)))) four) ?_) (xa_cons (P := CondD 4 3) (x_mono (x_tup (xa_cons (x_pure ev_c (fun _ => .str _) rfl) (xa_cons (x_pure ev_c (fun _ => .str _) rfl) (xa_cons (habs rfl) xa_nil))) three) ?_) xa_nil))))) H2 e2 dr2 Q2 fun vs H3 ds hds => q2 vs H3 ds ?_) (fun ds h => by rw [h.1]; decide)) (fun d h => h)) d1 fun vo H4 do_ hdo no hvo e4 d4 => ?_
  · rintro d ⟨ds, rfl, _, _, rfl, rfl, _, _, rfl, rfl, _, _, rfl, rfl, _, _, rfl, ⟨n, hn, rfl⟩, rfl⟩
    exact ⟨.bin "same" (.col cn) (.col n), rfl, .bin _ _ _ (by decide +kernel) okc (.col n (by omega)), by show max 1 1 + 1 ≤ 3; decide⟩
  · rintro d ⟨ds, rfl, _, _, rfl, rfl, _, _, rfl, rfl, _, _, rfl, rfl, _, _, rfl, ⟨_, rfl, _, _, rfl, rfl, _, _, rfl, rfl, rfl⟩, rfl⟩
    exact ⟨.bin "like" (.col cn) (.cst (.str "a")), rfl, .bin _ _ _ (by decide +kernel) okc (.cst _ dv_a), by show max 1 1 + 1 ≤ 3; decide⟩
  · rintro d ⟨ds, rfl, _, _, rfl, rfl, _, _, rfl, ⟨x, hx, rfl⟩, rfl⟩
    exact ⟨.cst x, rfl, .cst x hx, by show 1 ≤ 3; decide⟩
  · rintro d ⟨ds, rfl, _, _, rfl, rfl, _, _, rfl, rfl, _, _, rfl, rfl, _, _, rfl, ⟨_, rfl, _, _, rfl, rfl, _, _, rfl, rfl, rfl⟩, rfl⟩
    exact ⟨.bin "less" (.un "abs" (.col cn)) (.cst (.int 3)), rfl, .bin _ _ _ (by decide +kernel) oka (.cst _ (.int 3 (by omega))), by show max 2 1 + 1 ≤ 3; decide⟩
  · rintro d ⟨ds, rfl, _, _, rfl, rfl, _, _, rfl, rfl, _, _, rfl, rfl, rfl⟩
    exact ⟨.un "is null" (.un "abs" (.col cn)), rfl, .un _ _ (by decide +kernel) oka, by show 2 + 1 ≤ 3; decide⟩
  · obtain ⟨_, _, rfl, a1, _, _, rfl, a2, _, _, rfl, a3, _, _, rfl, a4, _, _, rfl, a5, rfl⟩ := hds
    refine ⟨rfl, fun x hx => ?_⟩
    simp only [List.mem_cons, List.not_mem_nil, or_false] at hx
    rcases hx with rfl | rfl | rfl | rfl | rfl <;> assumption
  obtain ⟨ds, rfl, hl5, hall⟩ := hdo
  exact sx_ret (x_ix (m := 5) (PL := fun ds' => ds' = ds) (x_mono (x_var rfl hvo no d4) fun d h => ⟨ds, h, rfl⟩) (ez_digit (ev_var rfl) ev_c (by decide) (by decide)) fun ds' j h hj => by
    subst h
    have hj5 : j < ds'.length := by omega
    exact ⟨_, List.getElem?_eq_getElem hj5, hall _ (List.getElem_mem hj5)⟩) d4 fun v H5 d' hd n hv e5 d5 => q v H5 d' hd n hv (wx_trans e1 (wx_trans e4 e5)) d5
end

--@SPLIT
def sp_law (K : PySem.W.Frag) : Sp := fun vs H Q _ => ∃ (a : Addr) (ns : List Int), vs = [.ref a] ∧ SqL K H a (ns.map V.int) ∧ ns.length ≤ 63 ∧ ∀ H', Q (.bl true) H'
theorem sp_law_of {K : PySem.W.Frag} {H : Hp} {a : Addr} {ns : List Int} (hl : ns.length ≤ 63) (hS : SqL K H a (ns.map V.int)) : sp_law K [.ref a] H (fun v _ => v = .bl true) fun _ _ _ => False :=
  ⟨a, ns, rfl, hS, hl, fun _ => rfl⟩
theorem ok_lits : ∀ s ∈ (["a", "b", "aB", "19"] : List Str), PyData.strOk s = true := by decide +kernel
section
variable {P : Program} {w : World} {K : PySem.W.Frag} {mg : Str → Option Value} {base : Heap}
theorem ok_law {f : Addr} {fd : FuncData} (D : C8.Def K mg "law" s_law f fd) (c__law_cell : C8.Cal P w K mg base 1 "_law_cell" (sp__law_cell K) []) (c__law_condition : C8.Cal P w K mg base 8 "_law_condition" (sp__law_condition K) []) (c__law_digit : C8.Cal P w K mg base 1 "_law_digit" (sp__law_digit K) []) (c__law_is_integer : C8.Cal P w K mg base 1 "_law_is_integer" (sp__law_is_integer K) []) (c__law_odd : C8.Cal P w K mg base 4 "_law_odd" (sp__law_odd K) []) (c__law_share : C8.Cal P w K mg base 14 "_law_share" (sp__law_share K) []) (c__law_state : C8.Cal P w K mg base 1 "_law_state" (sp__law_state K) []) (c__law_value : C8.Cal P w K mg base 3 "_law_value" (sp__law_value K) []) (c_known_of : C8.Cal P w K mg base 12 "known_of" (sp_known_of K) []) (c_share_of : C8.Cal P w K mg base 17 "share_of" (sp_share_of K) []) (z_len : mg "len" = none) (z_max : mg "max" = none) (z_min : mg "min" = none) (z_range : mg "range" = none) :
    FnOk P w K mg base C8.CX0 18 f fd ["script"] (sp_law K) := by
  refine C8.fn0 D.fn sc_law (fun vs H Q E h => ?_) (fun cdv A outer s H vs Q E hr h => ?_)
  · obtain ⟨_, _, rfl, _⟩ := h
    rfl
  refine ⟨_, (pss_cons (ps_set (i := 1) sc_law.nd rfl (.inr rfl) (pe_lst pa_nil))
    (pss_cons (ps_for PassesOwn.never rfl (pi_range1 rfl z_range (pa_cons (pe_callB (call_min2 rfl) (by rfl) z_min (by decide +kernel) (pa_cons pe_int (pa_cons (pe_callB call_len_seq (by rfl) z_len PySem.boot_len (pa_cons (pv 0) pa_nil)) pa_nil))) pa_nil)) (pg_name (i := 2) sc_law.nd rfl (.inl rfl))
      (pss_cons (ps_set (i := 3) sc_law.nd rfl (.inl rfl) (C8.pe_c c__law_state hr (by decide) (by rfl) (pa_cons (C8.pe_c c__law_cell hr (by decide) (by rfl) (pa_cons (pv 0) (pa_cons (pv 2) pa_nil))) (pa_cons (pv 2) pa_nil))))
    (pss_cons (ps_set (i := 4) sc_law.nd rfl (.inl rfl) (pe_lst (pa_cons (C8.pe_c c__law_value hr (by decide) (by rfl) (pa_cons (pv 3) pa_nil)) (pa_cons (pe_op op_sub (C8.pe_c c__law_digit hr (by decide) (by rfl) (pa_cons (pv 3) (pa_cons pe_int pa_nil))) pe_int) (pa_cons (C8.pe_c c__law_value hr (by decide) (by rfl) (pa_cons (pv 3) pa_nil)) pa_nil)))))
    (Evl.pss_cut (ps_if (pt_cmpR op_eq (C8.pe_c c__law_digit hr (by decide) (by rfl) (pa_cons (pv 3) (pa_cons pe_int pa_nil))) pe_int (nomark _))
      (pss_one (ps_asg pe_non (pg_sub (pv 4) pe_int set_list)))
      pss_nil)
    (Evl.pss_cut (ps_if (pt_cmpR op_eq (C8.pe_c c__law_digit hr (by decide) (by rfl) (pa_cons (pv 3) (pa_cons pe_int pa_nil))) pe_int (nomark _))
      (pss_one (ps_asg (pe_ix ix_tup (pe_tup (pa_cons pe_str (pa_cons pe_str (pa_cons pe_str (pa_cons pe_str pa_nil))))) (C8.pe_c c__law_digit hr (by decide) (by rfl) (pa_cons (pv 3) (pa_cons pe_int pa_nil))) (fun _ _ => rfl)) (pg_sub (pv 4) pe_int set_list)))
      pss_nil)
    (pss_one (ps_expr (pe_bm PySem.F.plainAttrs_list PySem.F.slot_list_append PySem.F.type_list_append mt_append (pv 1) (pa_cons (pv 4) pa_nil)))))))))
    (pss_cons (ps_setLc (i := 5) (own := [("k", 2)]) (g := gName 2) (tt := tYes) rfl sc_law.nd rfl rfl (sw_true rfl rfl rfl (by decide +kernel)) (pi_range1 rfl z_range (pa_cons pe_int pa_nil)) (blkOk_by (N := n_law) (sc := C8.fnScope s_law) (by decide +kernel)) (fun _ _ _ _ _ => pg_name (i := 2) sc_law.nd rfl (Or.inr rfl)) (fun _ _ _ _ _ => pts_nil) (fun _ _ _ _ _ => (C8.pe_c c_known_of hr (by decide) (by rfl) (pa_cons (pe_lc (own := [("row", 4)]) (g := gName 4) (tt := tYes) rfl sc_law.nd (pi_listK (K := K) rfl (pv 1)) (blkOk_by (N := n_law) (sc := _) (by kernel_rfl)) (fun _ _ _ _ _ => pg_name (i := 4) sc_law.nd rfl (Or.inl rfl)) (fun _ _ _ _ _ => pts_nil) (fun _ _ _ _ _ => (pe_ix (ix_listK (K := K) rfl) (pv 4) (pv 2) (fun _ _ => rfl)))) pa_nil))))
    (pss_cons (ps_for PassesOwn.never rfl (pi_range1 rfl z_range (pa_cons (pe_callB (call_min2 rfl) (by rfl) z_min (by decide +kernel) (pa_cons pe_int (pa_cons (pe_callB (call_max2 rfl) (by rfl) z_max (by decide +kernel) (pa_cons pe_int (pa_cons (pe_callB call_len_seq (by rfl) z_len PySem.boot_len (pa_cons (pv 0) pa_nil)) pa_nil))) pa_nil))) pa_nil)) (pg_name (i := 2) sc_law.nd rfl (.inl rfl))
      (pss_cons (ps_set (i := 3) sc_law.nd rfl (.inl rfl) (C8.pe_c c__law_state hr (by decide) (by rfl) (pa_cons (C8.pe_c c__law_cell hr (by decide) (by rfl) (pa_cons (pv 0) (pa_cons (pv 2) pa_nil))) (pa_cons (pe_op op_add pe_int (pv 2)) pa_nil))))
    (pss_cons (ps_set (i := 6) sc_law.nd rfl (.inl rfl) (C8.pe_c c__law_condition hr (by decide) (by rfl) (pa_cons (pv 3) (pa_cons pe_int (pa_cons pe_int pa_nil)))))
    (Evl.pss_cut (ps_if (pt_cmpR op_eq (C8.pe_c c__law_digit hr (by decide) (by rfl) (pa_cons (pv 3) (pa_cons pe_int pa_nil))) pe_int (nomark _))
      (pss_one (ps_set (i := 6) sc_law.nd rfl (.inl rfl) (pe_tup (pa_cons pe_str (pa_cons pe_str (pa_cons (C8.pe_c c__law_odd hr (by decide) (by rfl) (pa_cons (pv 3) pa_nil)) (pa_cons (pv 6) pa_nil)))))))
      pss_nil)
    (pss_cons (ps_set (i := 7) sc_law.nd rfl (.inl rfl) (pe_ix ix_tup (pe_tup (pa_cons (pe_callB call_len_seq (by rfl) z_len PySem.boot_len (pa_cons (pv 1) pa_nil)) (pa_cons (pe_callB call_len_seq (by rfl) z_len PySem.boot_len (pa_cons (pv 1) pa_nil)) (pa_cons pe_int (pa_cons (pe_op op_add pe_int (C8.pe_c c__law_digit hr (by decide) (by rfl) (pa_cons (pv 3) (pa_cons pe_int pa_nil)))) pa_nil))))) (C8.pe_c c__law_digit hr (by decide) (by rfl) (pa_cons (pv 3) (pa_cons pe_int pa_nil))) (fun _ _ => rfl)))
    (pss_cons (ps_set (i := 8) sc_law.nd rfl (.inl rfl) (C8.pe_c c_share_of hr (by decide) (by rfl) (pa_cons (pv 6) (pa_cons (pv 7) (pa_cons (pv 5) pa_nil)))))
    (pss_one (ps_if (PW.pt (pw_or (pt_not (pt_val (C8.pe_c c__law_is_integer hr (by decide) (by rfl) (pa_cons (pv 8) pa_nil)))) (pw_or (pt_cmpR op_ne (pv 8) (C8.pe_c c__law_share hr (by decide) (by rfl) (pa_cons (pv 6) (pa_cons (pv 7) (pa_cons (pv 5) pa_nil)))) (nomark _)) (pw_or1 (pt_not (pt_chain op_le op_le pe_int (pv 8) pe_int))))))
      (pss_one (ps_ret pe_bl))
      pss_nil))))))))
    (pss_one (ps_ret pe_bl)))))), ?_⟩
  obtain ⟨a, ns, rfl, hS, h63, q⟩ := h
  have lenS : (ns.map V.int).length = ns.length := List.length_map ..
  refine q_asgL (el_lst ea_nil (by decide)) fun pR H1 hpR e1 h1 => ?_
  refine q_forR1 (n := if ((ns.length : Nat) : Int) < 30 then ((ns.length : Nat) : Int) else 30) (ea_cons (ev_min2 ev_c (ev_is (ev_len (ev_var rfl) (ex_l e1 hS)) (by rw [lenS]))) ea_nil) ⟨by split <;> omega, by split <;> omega⟩
    (fun i σ' H' => ∃ (kv sv rv : Option V) (L : List (List V)), σ' = [some (.ref a), some (.ref pR), kv, sv, rv, none, none, none, none] ∧ Ex H H' ∧ Lst3 RowAt H' pR L ∧ L.length = i ∧ ∀ r ∈ L, r.length = 3 ∧ ∀ x ∈ r, Ok x) (fun H2 e2 => ⟨none, none, none, [], rfl, e1.trans e2, ⟨[], e2 _ _ h1, Al2.nil⟩, rfl, fun r h => nomatch h⟩) (fun i σ' Ho hi pv => ?_) fun σ' H' pv => ?_
  · obtain ⟨kv, sv, rv, L, rfl, xo, ⟨qs, hqs, hA⟩, hl, hL⟩ := pv
    refine q_asgC (ec_state (ec_cell (k := (i : Int)) (ev_var rfl) (ev_var rfl) (ex_l xo hS) (by omega)) (ev_var rfl)) fun ps Ha hps ea da => ?_
    refine q1_asgL (e1_lst3 (RV := Ok) (e1_mono (e1_value (ev_var rfl)) fun v h => dv_ok h) (e1_mono (ez_op0 (SI := fun _ => True) (ez_digit (ev_var rfl) ev_c (by decide) (by decide)) (e1_int (PI := fun _ => True) ev_c trivial) fun _ _ _ _ => trivial) fun v ⟨n, hv, _⟩ => by rw [hv]; exact .int n) (e1_mono (e1_value (ev_var rfl)) fun v h => dv_ok h)) da fun pr Hb xs hP hpr eb db hb => ?_
    obtain ⟨hxl, hxd⟩ := hP
    have hprps : pr ≠ ps := fun z => by
      obtain ⟨ys, hy⟩ := da.at
      rw [← z, hpr] at hy
      cases hy
    have xb : Ex Ho Hb := wx_back hps ea eb
    have hpro : Ho pr = none := fresh_back ea hpr
    have hpRpr : pr ≠ pR := fun z => by rw [← z, hpro] at hqs; cases hqs
    have okset : ∀ {ys : List V} {j : Nat} {v : V}, (∀ x ∈ ys, Ok x) → Ok v → ∀ x ∈ ys.set j v, Ok x := fun h hv x hx => by
      rcases List.mem_or_eq_of_mem_set hx with h2 | h2
      · exact h x h2
      · rw [h2]; exact hv
    refine q_cut (M := fun σ' H' => ∃ ys, σ' = [some (.ref a), some (.ref pR), some (.int (i : Int)), some (.ref ps), some (.ref pr), none, none, none, none] ∧ Ex Ho H' ∧ Dr ps H' ∧ H' pr = some (.lst ys) ∧ ys.length = 3 ∧ ∀ x ∈ ys, Ok x) ?_ fun σ' Hc pw => ?_
    · refine (edt_test (ez_eq (ez_digit (m := 4) (ev_var rfl) ev_c (by decide) (by decide)) (e1_int (PI := fun j => j = 0) ev_c rfl))) Hb (wo_le _ _) db _ fun b Hc _ ec dc => ?_
      have xc : Ex Ho Hc := wx_back hps xb ec
      have hc : Hc pr = some (.lst xs) := ec _ _ (by rw [wo_ne hprps]; exact hb)
      cases b with
      | false => exact ⟨xs, rfl, xc, dc, hc, hxl, hxd⟩
      | true =>
        rw [if_pos rfl]
        exact s_setL (j := 1) hc ev_c (ev_var rfl) ev_c (by omega) fun Hd ed => ⟨xs.set 1 .non, rfl, Ex.mut (xc.trans ed) hpro, (dc.ex ed).upd (Ne.symm hprps), upd_same, by rw [List.length_set]; exact hxl, okset hxd .non⟩
    clear hxl hxd hb db eb xb
    clear xs
    obtain ⟨ys, rfl, xc, dc, hc, hyl, hyd⟩ := pw
    refine q_cut (M := fun σ' H' => ∃ ys, σ' = [some (.ref a), some (.ref pR), some (.int (i : Int)), some (.ref ps), some (.ref pr), none, none, none, none] ∧ Ex Ho H' ∧ H' pr = some (.lst ys) ∧ ys.length = 3 ∧ ∀ x ∈ ys, Ok x) ?_ fun σ' He pw => ?_
    · refine (edt_test (ez_eq (ez_digit (m := 2) (ev_var rfl) ev_c (by decide) (by decide)) (e1_int (PI := fun j => j = 0) ev_c rfl))) Hc (wo_le _ _) dc _ fun b Hd _ ed dd => ?_
      have xd : Ex Ho Hd := wx_back hps xc ed
      have hd : Hd pr = some (.lst ys) := ed _ _ (by rw [wo_ne hprps]; exact hc)
      cases b with
      | false => exact ⟨ys, rfl, xd, hd, hyl, hyd⟩
      | true =>
        rw [if_pos rfl]
        refine (x_ixT (K := K) (xs := ["a", "b", "aB", "19"]) (eu_tup (ea_cons ev_c (ea_cons ev_c (ea_cons ev_c (ea_cons ev_c ea_nil)))) (by show 4 ≤ 100000; decide)) (ez_digit (m := 4) (ev_var rfl) ev_c (by decide) (by decide))) Hd (wo_le _ _) dd _ fun v He d ⟨s, hs, hds⟩ _ hv ee de => ?_
        subst hds
        obtain rfl := dp_strD hv
        have he : He pr = some (.lst ys) := ee _ _ (by rw [wo_ne hprps]; exact hd)
        exact ⟨.ref pr, rfl, pr, ys, 2, 2, rfl, rfl, he, ixN_nat (j := 2) (by omega), ys.set 2 (.str s), rfl, Ex.mut (wx_back hps xd ee) hpro, upd_same, by rw [List.length_set]; exact hyl, okset hyd (.str s (ok_lits s hs))⟩
    clear hyl hyd hc dc xc
    clear ys
    obtain ⟨ys, rfl, xe, he, hyl, hyd⟩ := pw
    refine s_app (v := .ref pr) (xe _ _ hqs) (ev_var rfl) (ev_var rfl) (by rw [List.length_map, hA.1]; split at hi <;> omega) fun Hd ed => ⟨_, _, _, L ++ [ys], rfl, Ex.mut ((xo.trans xe).trans ed) (by exact hpR), ⟨qs ++ [pr], by rw [upd_same, List.map_append]; rfl, ?_⟩, by rw [List.length_append, hl]; rfl, fun r hr => ?_⟩
    · rw [wo_upd]
      refine (hA.mono fun q l _ => RowAt.mn _ _ _ _ (wo_mono (xe.trans ed))).snoc ?_
      show wo pR Hd pr = _
      rw [wo_ne hpRpr]
      exact ed _ _ he
    · rcases List.mem_append.mp hr with h | h
      · exact hL r h
      · rw [List.mem_singleton.mp h]; exact ⟨hyl, hyd⟩
  obtain ⟨kv, sv, rv, L, rfl, xo, hA3, hl, hL⟩ := pv
  have hl30 : L.length ≤ 30 := by
    rw [hl]
    split <;> omega
  obtain ⟨qs, hqs, hA⟩ := hA3.two RowAt.mn
  have hqlen : (qs.map V.ref).length = L.length := by rw [List.length_map, hA.1]
  refine q_asgO (ro_cols (K := K) (n := 3) ev_c (by decide) (fun _ => rfl) fun k H2 hk e2 => ?_) fun pc H2 hpc e2 ⟨ks, hcols⟩ => ?_
  · refine rn_known_of (xs := (List.range (qs.map V.ref).length).map fun i => (L.getD i []).getD k .non) (el_lcY _ (ev_var rfl) (sq_of (e2 _ _ hqs)) (by omega) (fun _ => rfl) fun i x H3 e3 hi => ?_) (fun x hx => ?_) (by rw [List.length_map, List.length_range]; omega)
    · rw [List.getElem?_map] at hi
      cases hqi : qs[i]? with
      | none => rw [hqi] at hi; cases hi
      | some r =>
        rw [hqi] at hi
        cases hi
        have hlt : i < L.length := by rw [← hA.1]; exact (List.getElem?_eq_some_iff.mp hqi).1
        have hLi : L[i]? = some L[i] := List.getElem?_eq_getElem hlt
        have hrow : H3 r = some (.lst L[i]) := e3 _ _ (e2 _ _ (hA.2 i r _ hqi hLi))
        have hg : L.getD i [] = L[i] := by rw [List.getD_eq_getElem?_getD, hLi]; rfl
        have h3 := (hL _ (List.getElem_mem hlt)).1
        rw [hg]
        exact ev_op (ev_var rfl) (ev_var rfl) (rv_ixL (sq_of hrow) (atI_nat (by rw [List.getD_eq_getElem?_getD, List.getElem?_eq_getElem (show k < L[i].length by omega)]; rfl)))
    · obtain ⟨i, _, rfl⟩ := List.mem_map.mp hx
      rw [List.getD_eq_getElem?_getD]
      cases hz : (L.getD i [])[k]? with
      | none => exact .non
      | some x =>
        have hmem := List.mem_of_getElem? hz
        rw [List.getD_eq_getElem?_getD] at hmem
        cases hLi : L[i]? with
        | none => rw [hLi] at hmem; cases hmem
        | some r =>
          rw [hLi] at hmem
          exact (hL r (List.mem_of_getElem? hLi)).2 x hmem
  have x2 := xo.trans e2
  have hlenR : ∀ {Hx : Hp} {σ : L2.St}, Ex H' Hx → σ[1]? = some (some (V.ref pR)) → Ev (tCB (fun xs H Q => ∃ p ys, xs = [.ref p] ∧ (SqL K H p ys ∨ SqT K H p ys) ∧ Q (.int ys.length) H) (tCons (tVar 1) tNil)) σ Hx (.int (L.length : Int)) := fun ex h => ev_is (ev_len (ev_var h) (sq_of (ex _ _ hqs))) (by rw [hqlen])
  refine q_forR1 (n := if (if ((ns.length : Nat) : Int) > 5 then ((ns.length : Nat) : Int) else 5) < 20 then (if ((ns.length : Nat) : Int) > 5 then ((ns.length : Nat) : Int) else 5) else 20) (ea_cons (ev_min2 ev_c (Evl.ev_max2 ev_c (ev_is (ev_len (ev_var rfl) (ex_l x2 hS)) (by rw [lenS])))) ea_nil) ⟨by split <;> split <;> omega, by split <;> split <;> omega⟩
    (fun i σ' H'' => ∃ (kv sv cv mv tv : Option V), σ' = [some (.ref a), some (.ref pR), kv, sv, rv, some (.ref pc), cv, mv, tv] ∧ Ex H2 H'') (fun H3 e3 => ⟨_, _, _, _, _, rfl, e3⟩) (fun i σ' Ho hi pv => ?_) fun σ' H'' pv => ?_
  · obtain ⟨kv, sv, cv, mv, tv, rfl, xo2⟩ := pv
    refine q_asgC (ec_state (ec_cell (k := (i : Int)) (ev_var rfl) (ev_var rfl) (ex_l (x2.trans xo2) hS) (by omega)) (ev_op ev_c (ev_var rfl) rv_I0)) fun ps Ha hps ea da => ?_
    refine qx_asg (x_cond (n := 3) (wd := 4) (dp := 3) (ev_var rfl) ev_c ev_c (by decide) (by decide) (by decide)) da fun vc Hb dcd ⟨ce, hce, hok, hdep⟩ hnc hvc eb db => ?_
    subst hce
    have xb : Ex Ho Hb := wx_back hps ea eb
    refine q_cut (M := fun σ' Hx => ∃ (v : V) (e : Cnd), σ' = [some (.ref a), some (.ref pR), some (.int (i : Int)), some (.ref ps), rv, some (.ref pc), some v, mv, tv] ∧ Ex Ho Hx ∧ Dr ps Hx ∧ Dp K Hx v e.d ∧ e.ok 4 ∧ e.dep ≤ 6) ?_ fun σ' Hc pw => ?_
    · refine (edt_test (ez_eq (ez_digit (m := 5) (ev_var rfl) ev_c (by decide) (by decide)) (e1_int (PI := fun j => j = 0) ev_c rfl))) Hb (wo_le _ _) db _ fun b Hc _ ec dc => ?_
      have xc : Ex Ho Hc := wx_back hps xb ec
      have hvc2 := dp_wx hvc hnc db ec
      cases b with
      | false => exact ⟨vc, ce, rfl, xc, dc, hvc2, hok, by omega⟩
      | true =>
        rw [if_pos rfl]
        refine (x_tup (K := K) (p := ps) (xa_cons (x_pure ev_c (fun _ => .str _) rfl) (xa_cons (x_pure ev_c (fun _ => .str _) rfl) (xa_cons (x_odd (ev_var rfl)) (xa_cons (x_var rfl hvc2 hnc dc) xa_nil)))) ?_) Hc (wo_le _ _) dc _ fun v Hd d hd _ hv ed dd => ?_
        · rintro ds ⟨_, _, rfl, _, _, _, rfl, _, _, _, rfl, _, _, _, rfl, _, rfl⟩
          show 4 ≤ 100000
          decide
        · obtain ⟨ds, rfl, _, _, rfl, rfl, _, _, rfl, rfl, _, _, rfl, ⟨oe, rfl, ook, odep⟩, _, _, rfl, rfl, rfl⟩ := hd
          exact ⟨v, .bin "or" oe ce, rfl, wx_back hps xc ed, dd, hv, .bin _ _ _ (by decide +kernel) ook hok, by show max oe.dep ce.dep + 1 ≤ 6; omega⟩
    clear hvc hnc hok hdep db eb xb
    obtain ⟨v, e, rfl, xc, dc, hvc, hok, hdep⟩ := pw
    have xH : ∀ {Hx : Hp}, Ex Ho Hx → Ex H' Hx := fun x => (e2.trans xo2).trans x
    have xwc : Ex H' (wo ps Hc) := wx_to (fresh_back (e2.trans xo2) hps) (xH xc)
    refine qx_asg (x_ix (R := fun d => ∃ m : Int, d = .int m ∧ Many m) (m := 4) (PL := fun ds => ∃ i j k l : Int, ds = [.int i, .int j, .int k, .int l] ∧ Many i ∧ Many j ∧ Many k ∧ Many l) (x_mono (x_tup (xa_cons (x_int (PI := Many) (e1_int (hlenR xwc rfl) ⟨by omega, by omega⟩)) (xa_cons (x_int (PI := Many) (e1_int (hlenR xwc rfl) ⟨by omega, by omega⟩)) (xa_cons (x_int (PI := Many) (e1_int ev_c ⟨by decide, by decide⟩)) (xa_cons (x_int (PI := Many) (ez_op0 (e1_int (PI := fun j => j = 1) ev_c rfl) (ez_digit (m := 60) (ev_var rfl) ev_c (by decide) (by decide)) fun i j hi hj => ⟨by omega, by omega⟩)) xa_nil)))) ?_) ?_) (ez_digit (m := 4) (ev_var rfl) ev_c (by decide) (by decide)) ?_) dc fun vm Hd dm ⟨m, hdm, hm⟩ _ hvm ed dd => ?_
    · rintro ds ⟨_, _, rfl, _, _, _, rfl, _, _, _, rfl, _, _, _, rfl, _, rfl⟩
      show 4 ≤ 100000
      decide
    · rintro d ⟨ds, rfl, _, _, rfl, ⟨i, hi, rfl⟩, _, _, rfl, ⟨j, hj, rfl⟩, _, _, rfl, ⟨k, hk, rfl⟩, _, _, rfl, ⟨l, hl, rfl⟩, rfl⟩
      exact ⟨_, rfl, i, j, k, l, rfl, hi, hj, hk, hl⟩
    · rintro ds j ⟨i1, i2, i3, i4, rfl, h1, h2, h3, h4⟩ hj
      rcases (show j = 0 ∨ j = 1 ∨ j = 2 ∨ j = 3 by omega) with z | z | z | z <;> subst z
      · exact ⟨_, rfl, i1, rfl, h1⟩
      · exact ⟨_, rfl, i2, rfl, h2⟩
      · exact ⟨_, rfl, i3, rfl, h3⟩
      · exact ⟨_, rfl, i4, rfl, h4⟩
    subst hdm
    obtain rfl := dp_intD hvm
    have xd : Ex Ho Hd := wx_back hps xc ed
    have hcx : Cx K Hd v e := ⟨dp_wx hvc (noL_cx e) dc ed, okW (by decide) hok⟩
    have hco : ColsAt K Hd pc ks := hcols.ex (xo2.trans xd)
    have hin := sh_in (m := m) hcols.2.1 hm.1 e
    refine q_asg (v := .int (shrI ks m e)) (ec_share (f := shrI) (n := 8) (ev_var rfl) (ev_var rfl) (ev_var rfl) hcx (by omega) hco hm) fun He ee => ?_
    refine s_when (b := !true || (!decide (V.int (shrI ks m e) = V.int (shrI ks m e)) || !(decide (0 ≤ shrI ks m e) && decide (shrI ks m e ≤ 1000)))) (et_or (et_not (et_B (ec_isint (x := .int _) (ev_var rfl) (.int _)))) fun _ => et_or (et_test (ev_op (ev_var rfl) (ec_share (f := shrI) (n := 8) (ev_var rfl) (ev_var rfl) (ev_var rfl) (hcx.ex ee) (by omega) (hco.ex ee) hm) (rv_ne rfl))) fun _ => et_not (et_test (ev_chain ev_c (ev_var rfl) rv_I0 (fun _ => ev_c) (fun _ => rv_I0)))) (fun hb => ?_) fun _ Hf ef => ⟨_, _, _, _, _, rfl, xo2.trans (xd.trans (ee.trans ef))⟩
    rw [decide_eq_true (rfl : V.int (shrI ks m e) = V.int (shrI ks m e)), decide_eq_true hin.1, decide_eq_true hin.2] at hb
    exact nomatch hb
  · obtain ⟨kv, sv, cv, mv, tv, rfl, _⟩ := pv
    exact s_ret ev_c fun H5 e5 => q H5
end

theorem all_mk {P : Program} {w : World} {K : PySem.W.Frag} {h : Heap} {mg : Str → Option Value} {fa : Addr} (X : K.In h) (G : h.Ns mainGlobals mg) (hfa : mg "law" = some (.ref fa))
    {C_Known : Addr} (qC_Known : PySem.W.nsIn K mainGlobals "Known" = some (some (.ref C_Known))) (pgC_Known : PySem.W.plainGet K C_Known Str.empty = true) (hdC_Known : PySem.W.hasDictIn K C_Known = true) (poC_Known : PySem.W.plainOver K C_Known = true) (saC_Known : PySem.W.findIn K (.ref C_Known) "__setattr__" = some (some (.builtin "object.__setattr__"))) (mkC_Known : PySem.W.makesIn K C_Known = true) (kcC_Known : PySem.W.keepIn K (.ref C_Known) = true)
    (naC_Known_0 : PySem.W.findIn K (.ref C_Known) "nulls" = some none)
    (naC_Known_1 : PySem.W.findIn K (.ref C_Known) "different" = some none)
    (naC_Known_2 : PySem.W.findIn K (.ref C_Known) "first" = some none)
    (naC_Known_3 : PySem.W.findIn K (.ref C_Known) "last" = some none)
    (naC_Known_4 : PySem.W.findIn K (.ref C_Known) "marks" = some none)
    {f0 : Addr} {od0 an0 : Option Addr} {sl0 : Array (Option Value)} {oc0 kV0 dc0 pm0 cd0 ct0 : Value} (a0 : PySem.W.nsIn K mainGlobals "kind_rank" = some (some (.ref f0))) (l0 : K.lookup f0 = some ⟨oc0, od0, .func (PySem.W.fnOf "kind_rank" "kind_rank" (C8.fnArgs s_kind_rank) (C8.fnBody s_kind_rank) (C8.fnScope s_kind_rank) .none kV0 dc0 pm0 an0 cd0 ct0), sl0⟩) (b0 : PySem.W.codeIn K cd0 "kind_rank" = true) (k0 : PySem.W.keepIn K (.ref f0) = true)
    {f1 : Addr} {od1 an1 : Option Addr} {sl1 : Array (Option Value)} {oc1 kV1 dc1 pm1 cd1 ct1 : Value} (a1 : PySem.W.nsIn K mainGlobals "rank" = some (some (.ref f1))) (l1 : K.lookup f1 = some ⟨oc1, od1, .func (PySem.W.fnOf "rank" "rank" (C8.fnArgs s_rank) (C8.fnBody s_rank) (C8.fnScope s_rank) .none kV1 dc1 pm1 an1 cd1 ct1), sl1⟩) (b1 : PySem.W.codeIn K cd1 "rank" = true) (k1 : PySem.W.keepIn K (.ref f1) = true)
    {f2 : Addr} {od2 an2 : Option Addr} {sl2 : Array (Option Value)} {oc2 kV2 dc2 pm2 cd2 ct2 : Value} (a2 : PySem.W.nsIn K mainGlobals "same" = some (some (.ref f2))) (l2 : K.lookup f2 = some ⟨oc2, od2, .func (PySem.W.fnOf "same" "same" (C8.fnArgs s_same) (C8.fnBody s_same) (C8.fnScope s_same) .none kV2 dc2 pm2 an2 cd2 ct2), sl2⟩) (b2 : PySem.W.codeIn K cd2 "same" = true) (k2 : PySem.W.keepIn K (.ref f2) = true)
    {f3 : Addr} {od3 an3 : Option Addr} {sl3 : Array (Option Value)} {oc3 kV3 dc3 pm3 cd3 ct3 : Value} (a3 : PySem.W.nsIn K mainGlobals "before" = some (some (.ref f3))) (l3 : K.lookup f3 = some ⟨oc3, od3, .func (PySem.W.fnOf "before" "before" (C8.fnArgs s_before) (C8.fnBody s_before) (C8.fnScope s_before) .none kV3 dc3 pm3 an3 cd3 ct3), sl3⟩) (b3 : PySem.W.codeIn K cd3 "before" = true) (k3 : PySem.W.keepIn K (.ref f3) = true)
    {f4 : Addr} {od4 an4 : Option Addr} {sl4 : Array (Option Value)} {oc4 kV4 dc4 pm4 cd4 ct4 : Value}
    (a4 : PySem.W.findIn K (.ref C_Known) "__init__" = some (some (.ref f4))) (iF4 : PySem.W.isFn K (.ref f4) = true)
    (l4 : K.lookup f4 = some ⟨oc4, od4, .func (PySem.W.fnOf "__init__" "Known.__init__" (C8.fnArgs s_Known____init__) (C8.fnBody s_Known____init__) (C8.fnScope s_Known____init__) .none kV4 dc4 pm4 an4 cd4 ct4), sl4⟩) (b4 : PySem.W.codeIn K cd4 "Known.__init__" = true) (k4 : PySem.W.keepIn K (.ref f4) = true)
    {f5 : Addr} {od5 an5 : Option Addr} {sl5 : Array (Option Value)} {oc5 kV5 dc5 pm5 cd5 ct5 : Value} (a5 : PySem.W.nsIn K mainGlobals "known_of" = some (some (.ref f5))) (l5 : K.lookup f5 = some ⟨oc5, od5, .func (PySem.W.fnOf "known_of" "known_of" (C8.fnArgs s_known_of) (C8.fnBody s_known_of) (C8.fnScope s_known_of) .none kV5 dc5 pm5 an5 cd5 ct5), sl5⟩) (b5 : PySem.W.codeIn K cd5 "known_of" = true) (k5 : PySem.W.keepIn K (.ref f5) = true)
    {f6 : Addr} {od6 an6 : Option Addr} {sl6 : Array (Option Value)} {oc6 kV6 dc6 pm6 cd6 ct6 : Value} (a6 : PySem.W.nsIn K mainGlobals "rounded_up" = some (some (.ref f6))) (l6 : K.lookup f6 = some ⟨oc6, od6, .func (PySem.W.fnOf "rounded_up" "rounded_up" (C8.fnArgs s_rounded_up) (C8.fnBody s_rounded_up) (C8.fnScope s_rounded_up) .none kV6 dc6 pm6 an6 cd6 ct6), sl6⟩) (b6 : PySem.W.codeIn K cd6 "rounded_up" = true) (k6 : PySem.W.keepIn K (.ref f6) = true)
    {f7 : Addr} {od7 an7 : Option Addr} {sl7 : Array (Option Value)} {oc7 kV7 dc7 pm7 cd7 ct7 : Value} (a7 : PySem.W.nsIn K mainGlobals "unknown_column" = some (some (.ref f7))) (l7 : K.lookup f7 = some ⟨oc7, od7, .func (PySem.W.fnOf "unknown_column" "unknown_column" (C8.fnArgs s_unknown_column) (C8.fnBody s_unknown_column) (C8.fnScope s_unknown_column) .none kV7 dc7 pm7 an7 cd7 ct7), sl7⟩) (b7 : PySem.W.codeIn K cd7 "unknown_column" = true) (k7 : PySem.W.keepIn K (.ref f7) = true)
    {f8 : Addr} {od8 an8 : Option Addr} {sl8 : Array (Option Value)} {oc8 kV8 dc8 pm8 cd8 ct8 : Value} (a8 : PySem.W.nsIn K mainGlobals "column_at" = some (some (.ref f8))) (l8 : K.lookup f8 = some ⟨oc8, od8, .func (PySem.W.fnOf "column_at" "column_at" (C8.fnArgs s_column_at) (C8.fnBody s_column_at) (C8.fnScope s_column_at) .none kV8 dc8 pm8 an8 cd8 ct8), sl8⟩) (b8 : PySem.W.codeIn K cd8 "column_at" = true) (k8 : PySem.W.keepIn K (.ref f8) = true)
    {f9 : Addr} {od9 an9 : Option Addr} {sl9 : Array (Option Value)} {oc9 kV9 dc9 pm9 cd9 ct9 : Value} (a9 : PySem.W.nsIn K mainGlobals "_of_all_rows" = some (some (.ref f9))) (l9 : K.lookup f9 = some ⟨oc9, od9, .func (PySem.W.fnOf "_of_all_rows" "_of_all_rows" (C8.fnArgs s__of_all_rows) (C8.fnBody s__of_all_rows) (C8.fnScope s__of_all_rows) .none kV9 dc9 pm9 an9 cd9 ct9), sl9⟩) (b9 : PySem.W.codeIn K cd9 "_of_all_rows" = true) (k9 : PySem.W.keepIn K (.ref f9) = true)
    {f10 : Addr} {od10 an10 : Option Addr} {sl10 : Array (Option Value)} {oc10 kV10 dc10 pm10 cd10 ct10 : Value} (a10 : PySem.W.nsIn K mainGlobals "_between_marks" = some (some (.ref f10))) (l10 : K.lookup f10 = some ⟨oc10, od10, .func (PySem.W.fnOf "_between_marks" "_between_marks" (C8.fnArgs s__between_marks) (C8.fnBody s__between_marks) (C8.fnScope s__between_marks) .none kV10 dc10 pm10 an10 cd10 ct10), sl10⟩) (b10 : PySem.W.codeIn K cd10 "_between_marks" = true) (k10 : PySem.W.keepIn K (.ref f10) = true)
    {f11 : Addr} {od11 an11 : Option Addr} {sl11 : Array (Option Value)} {oc11 kV11 dc11 pm11 cd11 ct11 : Value} (a11 : PySem.W.nsIn K mainGlobals "_share_of_equal" = some (some (.ref f11))) (l11 : K.lookup f11 = some ⟨oc11, od11, .func (PySem.W.fnOf "_share_of_equal" "_share_of_equal" (C8.fnArgs s__share_of_equal) (C8.fnBody s__share_of_equal) (C8.fnScope s__share_of_equal) .none kV11 dc11 pm11 an11 cd11 ct11), sl11⟩) (b11 : PySem.W.codeIn K cd11 "_share_of_equal" = true) (k11 : PySem.W.keepIn K (.ref f11) = true)
    {f12 : Addr} {od12 an12 : Option Addr} {sl12 : Array (Option Value)} {oc12 kV12 dc12 pm12 cd12 ct12 : Value} (a12 : PySem.W.nsIn K mainGlobals "_share_of_less" = some (some (.ref f12))) (l12 : K.lookup f12 = some ⟨oc12, od12, .func (PySem.W.fnOf "_share_of_less" "_share_of_less" (C8.fnArgs s__share_of_less) (C8.fnBody s__share_of_less) (C8.fnScope s__share_of_less) .none kV12 dc12 pm12 an12 cd12 ct12), sl12⟩) (b12 : PySem.W.codeIn K cd12 "_share_of_less" = true) (k12 : PySem.W.keepIn K (.ref f12) = true)
    {f13 : Addr} {od13 an13 : Option Addr} {sl13 : Array (Option Value)} {oc13 kV13 dc13 pm13 cd13 ct13 : Value} (a13 : PySem.W.nsIn K mainGlobals "_share_of_at_most" = some (some (.ref f13))) (l13 : K.lookup f13 = some ⟨oc13, od13, .func (PySem.W.fnOf "_share_of_at_most" "_share_of_at_most" (C8.fnArgs s__share_of_at_most) (C8.fnBody s__share_of_at_most) (C8.fnScope s__share_of_at_most) .none kV13 dc13 pm13 an13 cd13 ct13), sl13⟩) (b13 : PySem.W.codeIn K cd13 "_share_of_at_most" = true) (k13 : PySem.W.keepIn K (.ref f13) = true)
    {f14 : Addr} {od14 an14 : Option Addr} {sl14 : Array (Option Value)} {oc14 kV14 dc14 pm14 cd14 ct14 : Value} (a14 : PySem.W.nsIn K mainGlobals "_beside_value" = some (some (.ref f14))) (l14 : K.lookup f14 = some ⟨oc14, od14, .func (PySem.W.fnOf "_beside_value" "_beside_value" (C8.fnArgs s__beside_value) (C8.fnBody s__beside_value) (C8.fnScope s__beside_value) .none kV14 dc14 pm14 an14 cd14 ct14), sl14⟩) (b14 : PySem.W.codeIn K cd14 "_beside_value" = true) (k14 : PySem.W.keepIn K (.ref f14) = true)
    {f15 : Addr} {od15 an15 : Option Addr} {sl15 : Array (Option Value)} {oc15 kV15 dc15 pm15 cd15 ct15 : Value} (a15 : PySem.W.nsIn K mainGlobals "_behind_value" = some (some (.ref f15))) (l15 : K.lookup f15 = some ⟨oc15, od15, .func (PySem.W.fnOf "_behind_value" "_behind_value" (C8.fnArgs s__behind_value) (C8.fnBody s__behind_value) (C8.fnScope s__behind_value) .none kV15 dc15 pm15 an15 cd15 ct15), sl15⟩) (b15 : PySem.W.codeIn K cd15 "_behind_value" = true) (k15 : PySem.W.keepIn K (.ref f15) = true)
    {f16 : Addr} {od16 an16 : Option Addr} {sl16 : Array (Option Value)} {oc16 kV16 dc16 pm16 cd16 ct16 : Value} (a16 : PySem.W.nsIn K mainGlobals "_share_of_columns" = some (some (.ref f16))) (l16 : K.lookup f16 = some ⟨oc16, od16, .func (PySem.W.fnOf "_share_of_columns" "_share_of_columns" (C8.fnArgs s__share_of_columns) (C8.fnBody s__share_of_columns) (C8.fnScope s__share_of_columns) .none kV16 dc16 pm16 an16 cd16 ct16), sl16⟩) (b16 : PySem.W.codeIn K cd16 "_share_of_columns" = true) (k16 : PySem.W.keepIn K (.ref f16) = true)
    {f17 : Addr} {od17 an17 : Option Addr} {sl17 : Array (Option Value)} {oc17 kV17 dc17 pm17 cd17 ct17 : Value} (a17 : PySem.W.nsIn K mainGlobals "_share_of_comparison" = some (some (.ref f17))) (l17 : K.lookup f17 = some ⟨oc17, od17, .func (PySem.W.fnOf "_share_of_comparison" "_share_of_comparison" (C8.fnArgs s__share_of_comparison) (C8.fnBody s__share_of_comparison) (C8.fnScope s__share_of_comparison) .none kV17 dc17 pm17 an17 cd17 ct17), sl17⟩) (b17 : PySem.W.codeIn K cd17 "_share_of_comparison" = true) (k17 : PySem.W.keepIn K (.ref f17) = true)
    {f18 : Addr} {od18 an18 : Option Addr} {sl18 : Array (Option Value)} {oc18 kV18 dc18 pm18 cd18 ct18 : Value} (a18 : PySem.W.nsIn K mainGlobals "_share_of_nulls" = some (some (.ref f18))) (l18 : K.lookup f18 = some ⟨oc18, od18, .func (PySem.W.fnOf "_share_of_nulls" "_share_of_nulls" (C8.fnArgs s__share_of_nulls) (C8.fnBody s__share_of_nulls) (C8.fnScope s__share_of_nulls) .none kV18 dc18 pm18 an18 cd18 ct18), sl18⟩) (b18 : PySem.W.codeIn K cd18 "_share_of_nulls" = true) (k18 : PySem.W.keepIn K (.ref f18) = true)
    {f19 : Addr} {od19 an19 : Option Addr} {sl19 : Array (Option Value)} {oc19 kV19 dc19 pm19 cd19 ct19 : Value} (a19 : PySem.W.nsIn K mainGlobals "share_in" = some (some (.ref f19))) (l19 : K.lookup f19 = some ⟨oc19, od19, .func (PySem.W.fnOf "share_in" "share_in" (C8.fnArgs s_share_in) (C8.fnBody s_share_in) (C8.fnScope s_share_in) .none kV19 dc19 pm19 an19 cd19 ct19), sl19⟩) (b19 : PySem.W.codeIn K cd19 "share_in" = true) (k19 : PySem.W.keepIn K (.ref f19) = true)
    {f20 : Addr} {od20 an20 : Option Addr} {sl20 : Array (Option Value)} {oc20 kV20 dc20 pm20 cd20 ct20 : Value} (a20 : PySem.W.nsIn K mainGlobals "share_of" = some (some (.ref f20))) (l20 : K.lookup f20 = some ⟨oc20, od20, .func (PySem.W.fnOf "share_of" "share_of" (C8.fnArgs s_share_of) (C8.fnBody s_share_of) (C8.fnScope s_share_of) .none kV20 dc20 pm20 an20 cd20 ct20), sl20⟩) (b20 : PySem.W.codeIn K cd20 "share_of" = true) (k20 : PySem.W.keepIn K (.ref f20) = true)
    {f21 : Addr} {od21 an21 : Option Addr} {sl21 : Array (Option Value)} {oc21 kV21 dc21 pm21 cd21 ct21 : Value} (a21 : PySem.W.nsIn K mainGlobals "_law_cell" = some (some (.ref f21))) (l21 : K.lookup f21 = some ⟨oc21, od21, .func (PySem.W.fnOf "_law_cell" "_law_cell" (C8.fnArgs s__law_cell) (C8.fnBody s__law_cell) (C8.fnScope s__law_cell) .none kV21 dc21 pm21 an21 cd21 ct21), sl21⟩) (b21 : PySem.W.codeIn K cd21 "_law_cell" = true) (k21 : PySem.W.keepIn K (.ref f21) = true)
    {f22 : Addr} {od22 an22 : Option Addr} {sl22 : Array (Option Value)} {oc22 kV22 dc22 pm22 cd22 ct22 : Value} (a22 : PySem.W.nsIn K mainGlobals "_law_state" = some (some (.ref f22))) (l22 : K.lookup f22 = some ⟨oc22, od22, .func (PySem.W.fnOf "_law_state" "_law_state" (C8.fnArgs s__law_state) (C8.fnBody s__law_state) (C8.fnScope s__law_state) .none kV22 dc22 pm22 an22 cd22 ct22), sl22⟩) (b22 : PySem.W.codeIn K cd22 "_law_state" = true) (k22 : PySem.W.keepIn K (.ref f22) = true)
    {f23 : Addr} {od23 an23 : Option Addr} {sl23 : Array (Option Value)} {oc23 kV23 dc23 pm23 cd23 ct23 : Value} (a23 : PySem.W.nsIn K mainGlobals "_law_digit" = some (some (.ref f23))) (l23 : K.lookup f23 = some ⟨oc23, od23, .func (PySem.W.fnOf "_law_digit" "_law_digit" (C8.fnArgs s__law_digit) (C8.fnBody s__law_digit) (C8.fnScope s__law_digit) .none kV23 dc23 pm23 an23 cd23 ct23), sl23⟩) (b23 : PySem.W.codeIn K cd23 "_law_digit" = true) (k23 : PySem.W.keepIn K (.ref f23) = true)
    {f24 : Addr} {od24 an24 : Option Addr} {sl24 : Array (Option Value)} {oc24 kV24 dc24 pm24 cd24 ct24 : Value} (a24 : PySem.W.nsIn K mainGlobals "_law_is_integer" = some (some (.ref f24))) (l24 : K.lookup f24 = some ⟨oc24, od24, .func (PySem.W.fnOf "_law_is_integer" "_law_is_integer" (C8.fnArgs s__law_is_integer) (C8.fnBody s__law_is_integer) (C8.fnScope s__law_is_integer) .none kV24 dc24 pm24 an24 cd24 ct24), sl24⟩) (b24 : PySem.W.codeIn K cd24 "_law_is_integer" = true) (k24 : PySem.W.keepIn K (.ref f24) = true)
    {f25 : Addr} {od25 an25 : Option Addr} {sl25 : Array (Option Value)} {oc25 kV25 dc25 pm25 cd25 ct25 : Value} (a25 : PySem.W.nsIn K mainGlobals "_law_rank" = some (some (.ref f25))) (l25 : K.lookup f25 = some ⟨oc25, od25, .func (PySem.W.fnOf "_law_rank" "_law_rank" (C8.fnArgs s__law_rank) (C8.fnBody s__law_rank) (C8.fnScope s__law_rank) .none kV25 dc25 pm25 an25 cd25 ct25), sl25⟩) (b25 : PySem.W.codeIn K cd25 "_law_rank" = true) (k25 : PySem.W.keepIn K (.ref f25) = true)
    {f26 : Addr} {od26 an26 : Option Addr} {sl26 : Array (Option Value)} {oc26 kV26 dc26 pm26 cd26 ct26 : Value} (a26 : PySem.W.nsIn K mainGlobals "_law_ranks" = some (some (.ref f26))) (l26 : K.lookup f26 = some ⟨oc26, od26, .func (PySem.W.fnOf "_law_ranks" "_law_ranks" (C8.fnArgs s__law_ranks) (C8.fnBody s__law_ranks) (C8.fnScope s__law_ranks) .none kV26 dc26 pm26 an26 cd26 ct26), sl26⟩) (b26 : PySem.W.codeIn K cd26 "_law_ranks" = true) (k26 : PySem.W.keepIn K (.ref f26) = true)
    {f27 : Addr} {od27 an27 : Option Addr} {sl27 : Array (Option Value)} {oc27 kV27 dc27 pm27 cd27 ct27 : Value} (a27 : PySem.W.nsIn K mainGlobals "_law_text" = some (some (.ref f27))) (l27 : K.lookup f27 = some ⟨oc27, od27, .func (PySem.W.fnOf "_law_text" "_law_text" (C8.fnArgs s__law_text) (C8.fnBody s__law_text) (C8.fnScope s__law_text) .none kV27 dc27 pm27 an27 cd27 ct27), sl27⟩) (b27 : PySem.W.codeIn K cd27 "_law_text" = true) (k27 : PySem.W.keepIn K (.ref f27) = true)
    {f28 : Addr} {od28 an28 : Option Addr} {sl28 : Array (Option Value)} {oc28 kV28 dc28 pm28 cd28 ct28 : Value} (a28 : PySem.W.nsIn K mainGlobals "_law_value" = some (some (.ref f28))) (l28 : K.lookup f28 = some ⟨oc28, od28, .func (PySem.W.fnOf "_law_value" "_law_value" (C8.fnArgs s__law_value) (C8.fnBody s__law_value) (C8.fnScope s__law_value) .none kV28 dc28 pm28 an28 cd28 ct28), sl28⟩) (b28 : PySem.W.codeIn K cd28 "_law_value" = true) (k28 : PySem.W.keepIn K (.ref f28) = true)
    {f29 : Addr} {od29 an29 : Option Addr} {sl29 : Array (Option Value)} {oc29 kV29 dc29 pm29 cd29 ct29 : Value} (a29 : PySem.W.nsIn K mainGlobals "_law_condition" = some (some (.ref f29))) (l29 : K.lookup f29 = some ⟨oc29, od29, .func (PySem.W.fnOf "_law_condition" "_law_condition" (C8.fnArgs s__law_condition) (C8.fnBody s__law_condition) (C8.fnScope s__law_condition) .none kV29 dc29 pm29 an29 cd29 ct29), sl29⟩) (b29 : PySem.W.codeIn K cd29 "_law_condition" = true) (k29 : PySem.W.keepIn K (.ref f29) = true)
    {f30 : Addr} {od30 an30 : Option Addr} {sl30 : Array (Option Value)} {oc30 kV30 dc30 pm30 cd30 ct30 : Value} (a30 : PySem.W.nsIn K mainGlobals "_law_up" = some (some (.ref f30))) (l30 : K.lookup f30 = some ⟨oc30, od30, .func (PySem.W.fnOf "_law_up" "_law_up" (C8.fnArgs s__law_up) (C8.fnBody s__law_up) (C8.fnScope s__law_up) .none kV30 dc30 pm30 an30 cd30 ct30), sl30⟩) (b30 : PySem.W.codeIn K cd30 "_law_up" = true) (k30 : PySem.W.keepIn K (.ref f30) = true)
    {f31 : Addr} {od31 an31 : Option Addr} {sl31 : Array (Option Value)} {oc31 kV31 dc31 pm31 cd31 ct31 : Value} (a31 : PySem.W.nsIn K mainGlobals "_law_all" = some (some (.ref f31))) (l31 : K.lookup f31 = some ⟨oc31, od31, .func (PySem.W.fnOf "_law_all" "_law_all" (C8.fnArgs s__law_all) (C8.fnBody s__law_all) (C8.fnScope s__law_all) .none kV31 dc31 pm31 an31 cd31 ct31), sl31⟩) (b31 : PySem.W.codeIn K cd31 "_law_all" = true) (k31 : PySem.W.keepIn K (.ref f31) = true)
    {f32 : Addr} {od32 an32 : Option Addr} {sl32 : Array (Option Value)} {oc32 kV32 dc32 pm32 cd32 ct32 : Value} (a32 : PySem.W.nsIn K mainGlobals "_law_beside" = some (some (.ref f32))) (l32 : K.lookup f32 = some ⟨oc32, od32, .func (PySem.W.fnOf "_law_beside" "_law_beside" (C8.fnArgs s__law_beside) (C8.fnBody s__law_beside) (C8.fnScope s__law_beside) .none kV32 dc32 pm32 an32 cd32 ct32), sl32⟩) (b32 : PySem.W.codeIn K cd32 "_law_beside" = true) (k32 : PySem.W.keepIn K (.ref f32) = true)
    {f33 : Addr} {od33 an33 : Option Addr} {sl33 : Array (Option Value)} {oc33 kV33 dc33 pm33 cd33 ct33 : Value} (a33 : PySem.W.nsIn K mainGlobals "_law_turned" = some (some (.ref f33))) (l33 : K.lookup f33 = some ⟨oc33, od33, .func (PySem.W.fnOf "_law_turned" "_law_turned" (C8.fnArgs s__law_turned) (C8.fnBody s__law_turned) (C8.fnScope s__law_turned) .none kV33 dc33 pm33 an33 cd33 ct33), sl33⟩) (b33 : PySem.W.codeIn K cd33 "_law_turned" = true) (k33 : PySem.W.keepIn K (.ref f33) = true)
    {f34 : Addr} {od34 an34 : Option Addr} {sl34 : Array (Option Value)} {oc34 kV34 dc34 pm34 cd34 ct34 : Value} (a34 : PySem.W.nsIn K mainGlobals "_law_known" = some (some (.ref f34))) (l34 : K.lookup f34 = some ⟨oc34, od34, .func (PySem.W.fnOf "_law_known" "_law_known" (C8.fnArgs s__law_known) (C8.fnBody s__law_known) (C8.fnScope s__law_known) .none kV34 dc34 pm34 an34 cd34 ct34), sl34⟩) (b34 : PySem.W.codeIn K cd34 "_law_known" = true) (k34 : PySem.W.keepIn K (.ref f34) = true)
    {f35 : Addr} {od35 an35 : Option Addr} {sl35 : Array (Option Value)} {oc35 kV35 dc35 pm35 cd35 ct35 : Value} (a35 : PySem.W.nsIn K mainGlobals "_law_compared" = some (some (.ref f35))) (l35 : K.lookup f35 = some ⟨oc35, od35, .func (PySem.W.fnOf "_law_compared" "_law_compared" (C8.fnArgs s__law_compared) (C8.fnBody s__law_compared) (C8.fnScope s__law_compared) .none kV35 dc35 pm35 an35 cd35 ct35), sl35⟩) (b35 : PySem.W.codeIn K cd35 "_law_compared" = true) (k35 : PySem.W.keepIn K (.ref f35) = true)
    {f36 : Addr} {od36 an36 : Option Addr} {sl36 : Array (Option Value)} {oc36 kV36 dc36 pm36 cd36 ct36 : Value} (a36 : PySem.W.nsIn K mainGlobals "_law_share" = some (some (.ref f36))) (l36 : K.lookup f36 = some ⟨oc36, od36, .func (PySem.W.fnOf "_law_share" "_law_share" (C8.fnArgs s__law_share) (C8.fnBody s__law_share) (C8.fnScope s__law_share) .none kV36 dc36 pm36 an36 cd36 ct36), sl36⟩) (b36 : PySem.W.codeIn K cd36 "_law_share" = true) (k36 : PySem.W.keepIn K (.ref f36) = true)
    {f37 : Addr} {od37 an37 : Option Addr} {sl37 : Array (Option Value)} {oc37 kV37 dc37 pm37 cd37 ct37 : Value} (a37 : PySem.W.nsIn K mainGlobals "_law_odd" = some (some (.ref f37))) (l37 : K.lookup f37 = some ⟨oc37, od37, .func (PySem.W.fnOf "_law_odd" "_law_odd" (C8.fnArgs s__law_odd) (C8.fnBody s__law_odd) (C8.fnScope s__law_odd) .none kV37 dc37 pm37 an37 cd37 ct37), sl37⟩) (b37 : PySem.W.codeIn K cd37 "_law_odd" = true) (k37 : PySem.W.keepIn K (.ref f37) = true)
    {f38 : Addr} {od38 an38 : Option Addr} {sl38 : Array (Option Value)} {oc38 kV38 dc38 pm38 cd38 ct38 : Value} (a38 : PySem.W.nsIn K mainGlobals "law" = some (some (.ref f38))) (l38 : K.lookup f38 = some ⟨oc38, od38, .func (PySem.W.fnOf "law" "law" (C8.fnArgs s_law) (C8.fnBody s_law) (C8.fnScope s_law) .none kV38 dc38 pm38 an38 cd38 ct38), sl38⟩) (b38 : PySem.W.codeIn K cd38 "law" = true) (k38 : PySem.W.keepIn K (.ref f38) = true)
    (z_bool : PySem.W.nsIn K mainGlobals "bool" = some none)
    (z_int : PySem.W.nsIn K mainGlobals "int" = some none)
    (z_isinstance : PySem.W.nsIn K mainGlobals "isinstance" = some none)
    (z_len : PySem.W.nsIn K mainGlobals "len" = some none)
    (z_list : PySem.W.nsIn K mainGlobals "list" = some none)
    (z_max : PySem.W.nsIn K mainGlobals "max" = some none)
    (z_min : PySem.W.nsIn K mainGlobals "min" = some none)
    (z_range : PySem.W.nsIn K mainGlobals "range" = some none)
    (z_sorted : PySem.W.nsIn K mainGlobals "sorted" = some none)
    {t_MARKS : Tok} (q_MARKS : PySem.W.nsIn K mainGlobals "MARKS" = some (some (.int (8) t_MARKS)))
    {t_WHOLE : Tok} (q_WHOLE : PySem.W.nsIn K mainGlobals "WHOLE" = some (some (.int (1000) t_WHOLE)))
    {t__DIFFERENT_OF_MISSING : Tok} (q__DIFFERENT_OF_MISSING : PySem.W.nsIn K mainGlobals "_DIFFERENT_OF_MISSING" = some (some (.int (3) t__DIFFERENT_OF_MISSING)))
    {t__UNKNOWN : Tok} (q__UNKNOWN : PySem.W.nsIn K mainGlobals "_UNKNOWN" = some (some (.int (333) t__UNKNOWN)))
    : ∃ fd : FuncData, (∀ (s : Shared) (v : Value), BindsTo s fd ⟨[v], []⟩ [("script", v)]) ∧ ∀ base : Heap, K.In base → base.Ns mainGlobals mg → FnOk P w K mg base C8.CX0 18 fa fd ["script"] (sp_law K) := by
  have D_kind_rank : Dn K mg "kind_rank" s_kind_rank ["value"] := dn_mk l0 b0 k0 (PySem.W.mg_of X G a0) (fun _ _ _ _ _ _ us hl => match us, hl with | [_], _ => rfl)
  have D_rank : Dn K mg "rank" s_rank ["value"] := dn_mk l1 b1 k1 (PySem.W.mg_of X G a1) (fun _ _ _ _ _ _ us hl => match us, hl with | [_], _ => rfl)
  have D_same : Dn K mg "same" s_same ["first", "second"] := dn_mk l2 b2 k2 (PySem.W.mg_of X G a2) (fun _ _ _ _ _ _ us hl => match us, hl with | [_, _], _ => rfl)
  have D_before : Dn K mg "before" s_before ["first", "second"] := dn_mk l3 b3 k3 (PySem.W.mg_of X G a3) (fun _ _ _ _ _ _ us hl => match us, hl with | [_, _], _ => rfl)
  have F_Known____init__ : C8.Fun K "__init__" "Known.__init__" s_Known____init__ f4 _ := ⟨_, _, _, _, _, _, _, _, _, _, rfl, l4, b4⟩
  have B_Known____init__ : Binds K _ ["self", "nulls", "different", "first", "last", "marks"] [] := C8.Fun.binds F_Known____init__ rfl (fun _ _ _ _ _ _ us hl => match us, hl with | [_, _, _, _, _, _], _ => rfl)
  have D_Known____init__ : MetD K "Known" "__init__" "Known.__init__" s_Known____init__ ["self", "nulls", "different", "first", "last", "marks"] := metD_mk qC_Known a4 iF4 k4 F_Known____init__ B_Known____init__
  have D_known_of : Dn K mg "known_of" s_known_of ["column"] := dn_mk l5 b5 k5 (PySem.W.mg_of X G a5) (fun _ _ _ _ _ _ us hl => match us, hl with | [_], _ => rfl)
  have D_rounded_up : Dn K mg "rounded_up" s_rounded_up ["number", "divisor"] := dn_mk l6 b6 k6 (PySem.W.mg_of X G a6) (fun _ _ _ _ _ _ us hl => match us, hl with | [_, _], _ => rfl)
  have D_unknown_column : Dn K mg "unknown_column" s_unknown_column ["different"] := dn_mk l7 b7 k7 (PySem.W.mg_of X G a7) (fun _ _ _ _ _ _ us hl => match us, hl with | [_], _ => rfl)
  have D_column_at : Dn K mg "column_at" s_column_at ["number", "columns"] := dn_mk l8 b8 k8 (PySem.W.mg_of X G a8) (fun _ _ _ _ _ _ us hl => match us, hl with | [_, _], _ => rfl)
  have D__of_all_rows : Dn K mg "_of_all_rows" s__of_all_rows ["share", "known", "many"] := dn_mk l9 b9 k9 (PySem.W.mg_of X G a9) (fun _ _ _ _ _ _ us hl => match us, hl with | [_, _, _], _ => rfl)
  have D__between_marks : Dn K mg "_between_marks" s__between_marks ["marks_before"] := dn_mk l10 b10 k10 (PySem.W.mg_of X G a10) (fun _ _ _ _ _ _ us hl => match us, hl with | [_], _ => rfl)
  have D__share_of_equal : Dn K mg "_share_of_equal" s__share_of_equal ["known", "value"] := dn_mk l11 b11 k11 (PySem.W.mg_of X G a11) (fun _ _ _ _ _ _ us hl => match us, hl with | [_, _], _ => rfl)
  have D__share_of_less : Dn K mg "_share_of_less" s__share_of_less ["known", "value"] := dn_mk l12 b12 k12 (PySem.W.mg_of X G a12) (fun _ _ _ _ _ _ us hl => match us, hl with | [_, _], _ => rfl)
  have D__share_of_at_most : Dn K mg "_share_of_at_most" s__share_of_at_most ["known", "value"] := dn_mk l13 b13 k13 (PySem.W.mg_of X G a13) (fun _ _ _ _ _ _ us hl => match us, hl with | [_, _], _ => rfl)
  have D__beside_value : Dn K mg "_beside_value" s__beside_value ["name", "known", "value", "many"] := dn_mk l14 b14 k14 (PySem.W.mg_of X G a14) (fun _ _ _ _ _ _ us hl => match us, hl with | [_, _, _, _], _ => rfl)
  have D__behind_value : Dn K mg "_behind_value" s__behind_value ["name", "known", "value", "many"] := dn_mk l15 b15 k15 (PySem.W.mg_of X G a15) (fun _ _ _ _ _ _ us hl => match us, hl with | [_, _, _, _], _ => rfl)
  have D__share_of_columns : Dn K mg "_share_of_columns" s__share_of_columns ["first", "second"] := dn_mk l16 b16 k16 (PySem.W.mg_of X G a16) (fun _ _ _ _ _ _ us hl => match us, hl with | [_, _], _ => rfl)
  have D__share_of_comparison : Dn K mg "_share_of_comparison" s__share_of_comparison ["condition", "many", "columns"] := dn_mk l17 b17 k17 (PySem.W.mg_of X G a17) (fun _ _ _ _ _ _ us hl => match us, hl with | [_, _, _], _ => rfl)
  have D__share_of_nulls : Dn K mg "_share_of_nulls" s__share_of_nulls ["known", "many"] := dn_mk l18 b18 k18 (PySem.W.mg_of X G a18) (fun _ _ _ _ _ _ us hl => match us, hl with | [_, _], _ => rfl)
  have D_share_in : Dn K mg "share_in" s_share_in ["condition", "many", "columns"] := dn_mk l19 b19 k19 (PySem.W.mg_of X G a19) (fun _ _ _ _ _ _ us hl => match us, hl with | [_, _, _], _ => rfl)
  have D_share_of : Dn K mg "share_of" s_share_of ["condition", "many", "columns"] := dn_mk l20 b20 k20 (PySem.W.mg_of X G a20) (fun _ _ _ _ _ _ us hl => match us, hl with | [_, _, _], _ => rfl)
  have D__law_cell : Dn K mg "_law_cell" s__law_cell ["script", "k"] := dn_mk l21 b21 k21 (PySem.W.mg_of X G a21) (fun _ _ _ _ _ _ us hl => match us, hl with | [_, _], _ => rfl)
  have D__law_state : Dn K mg "_law_state" s__law_state ["cell", "k"] := dn_mk l22 b22 k22 (PySem.W.mg_of X G a22) (fun _ _ _ _ _ _ us hl => match us, hl with | [_, _], _ => rfl)
  have D__law_digit : Dn K mg "_law_digit" s__law_digit ["state", "many"] := dn_mk l23 b23 k23 (PySem.W.mg_of X G a23) (fun _ _ _ _ _ _ us hl => match us, hl with | [_, _], _ => rfl)
  have D__law_is_integer : Dn K mg "_law_is_integer" s__law_is_integer ["told"] := dn_mk l24 b24 k24 (PySem.W.mg_of X G a24) (fun _ _ _ _ _ _ us hl => match us, hl with | [_], _ => rfl)
  have D__law_rank : Dn K mg "_law_rank" s__law_rank ["value"] := dn_mk l25 b25 k25 (PySem.W.mg_of X G a25) (fun _ _ _ _ _ _ us hl => match us, hl with | [_], _ => rfl)
  have D__law_ranks : Dn K mg "_law_ranks" s__law_ranks ["row"] := dn_mk l26 b26 k26 (PySem.W.mg_of X G a26) (fun _ _ _ _ _ _ us hl => match us, hl with | [_], _ => rfl)
  have D__law_text : Dn K mg "_law_text" s__law_text ["state"] := dn_mk l27 b27 k27 (PySem.W.mg_of X G a27) (fun _ _ _ _ _ _ us hl => match us, hl with | [_], _ => rfl)
  have D__law_value : Dn K mg "_law_value" s__law_value ["state"] := dn_mk l28 b28 k28 (PySem.W.mg_of X G a28) (fun _ _ _ _ _ _ us hl => match us, hl with | [_], _ => rfl)
  have D__law_condition : Dn K mg "_law_condition" s__law_condition ["state", "width", "depth"] := dn_mk l29 b29 k29 (PySem.W.mg_of X G a29) (fun _ _ _ _ _ _ us hl => match us, hl with | [_, _, _], _ => rfl)
  have D__law_up : Dn K mg "_law_up" s__law_up ["number", "divisor"] := dn_mk l30 b30 k30 (PySem.W.mg_of X G a30) (fun _ _ _ _ _ _ us hl => match us, hl with | [_, _], _ => rfl)
  have D__law_all : Dn K mg "_law_all" s__law_all ["many", "known", "share"] := dn_mk l31 b31 k31 (PySem.W.mg_of X G a31) (fun _ _ _ _ _ _ us hl => match us, hl with | [_, _, _], _ => rfl)
  have D__law_beside : Dn K mg "_law_beside" s__law_beside ["name", "many", "known", "value"] := dn_mk l32 b32 k32 (PySem.W.mg_of X G a32) (fun _ _ _ _ _ _ us hl => match us, hl with | [_, _, _, _], _ => rfl)
  have D__law_turned : Dn K mg "_law_turned" s__law_turned ["name", "many", "known", "value"] := dn_mk l33 b33 k33 (PySem.W.mg_of X G a33) (fun _ _ _ _ _ _ us hl => match us, hl with | [_, _, _, _], _ => rfl)
  have D__law_known : Dn K mg "_law_known" s__law_known ["columns", "number"] := dn_mk l34 b34 k34 (PySem.W.mg_of X G a34) (fun _ _ _ _ _ _ us hl => match us, hl with | [_, _], _ => rfl)
  have D__law_compared : Dn K mg "_law_compared" s__law_compared ["name", "first", "second", "many", "columns"] := dn_mk l35 b35 k35 (PySem.W.mg_of X G a35) (fun _ _ _ _ _ _ us hl => match us, hl with | [_, _, _, _, _], _ => rfl)
  have D__law_share : Dn K mg "_law_share" s__law_share ["condition", "many", "columns"] := dn_mk l36 b36 k36 (PySem.W.mg_of X G a36) (fun _ _ _ _ _ _ us hl => match us, hl with | [_, _, _], _ => rfl)
  have D__law_odd : Dn K mg "_law_odd" s__law_odd ["state"] := dn_mk l37 b37 k37 (PySem.W.mg_of X G a37) (fun _ _ _ _ _ _ us hl => match us, hl with | [_], _ => rfl)
  have C_Known : ClsD K mg "Known" ["nulls", "different", "first", "last", "marks"] := clsD_mk qC_Known (PySem.W.mg_of X G qC_Known) pgC_Known hdC_Known poC_Known saC_Known mkC_Known kcC_Known ⟨naC_Known_0, ⟨naC_Known_1, ⟨naC_Known_2, ⟨naC_Known_3, ⟨naC_Known_4, trivial⟩⟩⟩⟩⟩
  have y_bool : mg "bool" = none := PySem.W.mg_none_of X G z_bool
  have y_int : mg "int" = none := PySem.W.mg_none_of X G z_int
  have y_isinstance : mg "isinstance" = none := PySem.W.mg_none_of X G z_isinstance
  have y_len : mg "len" = none := PySem.W.mg_none_of X G z_len
  have y_list : mg "list" = none := PySem.W.mg_none_of X G z_list
  have y_max : mg "max" = none := PySem.W.mg_none_of X G z_max
  have y_min : mg "min" = none := PySem.W.mg_none_of X G z_min
  have y_range : mg "range" = none := PySem.W.mg_none_of X G z_range
  have y_sorted : mg "sorted" = none := PySem.W.mg_none_of X G z_sorted
  have v_MARKS : ∃ u, mg "MARKS" = some u ∧ RelV (.int (8)) u := ⟨_, PySem.W.mg_of X G q_MARKS, ⟨_, rfl⟩⟩
  have v_WHOLE : ∃ u, mg "WHOLE" = some u ∧ RelV (.int (1000)) u := ⟨_, PySem.W.mg_of X G q_WHOLE, ⟨_, rfl⟩⟩
  have v__DIFFERENT_OF_MISSING : ∃ u, mg "_DIFFERENT_OF_MISSING" = some u ∧ RelV (.int (3)) u := ⟨_, PySem.W.mg_of X G q__DIFFERENT_OF_MISSING, ⟨_, rfl⟩⟩
  have v__UNKNOWN : ∃ u, mg "_UNKNOWN" = some u ∧ RelV (.int (333)) u := ⟨_, PySem.W.mg_of X G q__UNKNOWN, ⟨_, rfl⟩⟩
  have e := hfa.symm.trans (PySem.W.mg_of X G a38)
  cases e
  have D_law := def_mk (x := "law") (st := s_law) l38 b38 k38 hfa
  refine ⟨PySem.W.fnOf "law" "law" (C8.fnArgs s_law) (C8.fnBody s_law) (C8.fnScope s_law) .none kV38 dc38 pm38 an38 cd38 ct38, fun s v => .of_eq rfl, fun base _ _ => ?_⟩
  have c_kind_rank := ok_kind_rank (P := P) (w := w) (base := base) D_kind_rank y_bool y_int y_isinstance 
  have c_rank := ok_rank (P := P) (w := w) (base := base) D_rank c_kind_rank y_int 
  have c_same := ok_same (P := P) (w := w) (base := base) D_same c_rank 
  have c_before := ok_before (P := P) (w := w) (base := base) D_before c_rank 
  have c_Known____init__ := ok_Known____init__ (P := P) (w := w) (base := base) D_Known____init__ C_Known y_list 
  have c_known_of := ok_known_of (P := P) (w := w) (base := base) D_known_of c_Known____init__ c_rank y_len y_range y_sorted v_MARKS 
  have c_rounded_up := ok_rounded_up (P := P) (w := w) (base := base) D_rounded_up 
  have c_unknown_column := ok_unknown_column (P := P) (w := w) (base := base) D_unknown_column c_Known____init__ 
  have c_column_at := ok_column_at (P := P) (w := w) (base := base) D_column_at c_unknown_column y_len v__DIFFERENT_OF_MISSING 
  have c__of_all_rows := ok__of_all_rows (P := P) (w := w) (base := base) D__of_all_rows C_Known c_rounded_up y_min 
  have c__between_marks := ok__between_marks (P := P) (w := w) (base := base) D__between_marks c_rounded_up v_MARKS v_WHOLE 
  have c__share_of_equal := ok__share_of_equal (P := P) (w := w) (base := base) D__share_of_equal C_Known c_before c_rounded_up c_same y_len y_max v_MARKS v_WHOLE 
  have c__share_of_less := ok__share_of_less (P := P) (w := w) (base := base) D__share_of_less C_Known c__between_marks c_before y_len v_WHOLE 
  have c__share_of_at_most := ok__share_of_at_most (P := P) (w := w) (base := base) D__share_of_at_most C_Known c__between_marks c_before y_len v_WHOLE 
  have c__beside_value := ok__beside_value (P := P) (w := w) (base := base) D__beside_value C_Known c__of_all_rows c__share_of_at_most c__share_of_equal c__share_of_less c_kind_rank c_rounded_up v_WHOLE v__UNKNOWN 
  have c__behind_value := ok__behind_value (P := P) (w := w) (base := base) D__behind_value C_Known c__beside_value c__of_all_rows y_max v_WHOLE v__UNKNOWN 
  have c__share_of_columns := ok__share_of_columns (P := P) (w := w) (base := base) D__share_of_columns C_Known c_rounded_up y_max v_WHOLE 
  have c__share_of_comparison := ok__share_of_comparison (P := P) (w := w) (base := base) D__share_of_comparison c__behind_value c__beside_value c__share_of_columns c_column_at v__UNKNOWN 
  have c__share_of_nulls := ok__share_of_nulls (P := P) (w := w) (base := base) D__share_of_nulls C_Known c_rounded_up y_min v_WHOLE 
  have c_share_in_0 : C8.Cal P w K mg base 8 "share_in" (spR_share_in 0 K) [] := cal_no D_share_in sc_share_in (fun _ _ _ _ h => h.elim)
  have c_share_in_1 := ok_share_in (P := P) (w := w) (base := base) (rn := 0) D_share_in c__share_of_comparison c__share_of_nulls c_column_at c_rounded_up y_min v_WHOLE v__UNKNOWN  c_share_in_0
  have c_share_in_2 := ok_share_in (P := P) (w := w) (base := base) (rn := 1) D_share_in c__share_of_comparison c__share_of_nulls c_column_at c_rounded_up y_min v_WHOLE v__UNKNOWN  c_share_in_1
  have c_share_in_3 := ok_share_in (P := P) (w := w) (base := base) (rn := 2) D_share_in c__share_of_comparison c__share_of_nulls c_column_at c_rounded_up y_min v_WHOLE v__UNKNOWN  c_share_in_2
  have c_share_in_4 := ok_share_in (P := P) (w := w) (base := base) (rn := 3) D_share_in c__share_of_comparison c__share_of_nulls c_column_at c_rounded_up y_min v_WHOLE v__UNKNOWN  c_share_in_3
  have c_share_in_5 := ok_share_in (P := P) (w := w) (base := base) (rn := 4) D_share_in c__share_of_comparison c__share_of_nulls c_column_at c_rounded_up y_min v_WHOLE v__UNKNOWN  c_share_in_4
  have c_share_in_6 := ok_share_in (P := P) (w := w) (base := base) (rn := 5) D_share_in c__share_of_comparison c__share_of_nulls c_column_at c_rounded_up y_min v_WHOLE v__UNKNOWN  c_share_in_5
  have c_share_in_7 := ok_share_in (P := P) (w := w) (base := base) (rn := 6) D_share_in c__share_of_comparison c__share_of_nulls c_column_at c_rounded_up y_min v_WHOLE v__UNKNOWN  c_share_in_6
  have c_share_in_8 := ok_share_in (P := P) (w := w) (base := base) (rn := 7) D_share_in c__share_of_comparison c__share_of_nulls c_column_at c_rounded_up y_min v_WHOLE v__UNKNOWN  c_share_in_7
  have c_share_in : C8.Cal P w K mg base 16 "share_in" (sp_share_in K) [] := c_share_in_8
  have c_share_of := ok_share_of (P := P) (w := w) (base := base) D_share_of c_share_in 
  have c__law_cell := ok__law_cell (P := P) (w := w) (base := base) D__law_cell y_len 
  have c__law_state := ok__law_state (P := P) (w := w) (base := base) D__law_state y_int 
  have c__law_digit := ok__law_digit (P := P) (w := w) (base := base) D__law_digit y_int 
  have c__law_is_integer := ok__law_is_integer (P := P) (w := w) (base := base) D__law_is_integer y_bool y_int y_isinstance 
  have c__law_rank := ok__law_rank (P := P) (w := w) (base := base) D__law_rank y_bool y_int y_isinstance 
  have c__law_ranks := ok__law_ranks (P := P) (w := w) (base := base) D__law_ranks c__law_rank 
  have c__law_text := ok__law_text (P := P) (w := w) (base := base) D__law_text c__law_digit y_range 
  have c__law_value := ok__law_value (P := P) (w := w) (base := base) D__law_value c__law_digit c__law_text 
  have c__law_condition_0 : C8.Cal P w K mg base 4 "_law_condition" (spR__law_condition 0 K) [] := cal_no D__law_condition sc__law_condition (fun _ _ _ _ h => h.elim)
  have c__law_condition_1 := ok__law_condition (P := P) (w := w) (base := base) (rn := 0) D__law_condition c__law_digit c__law_value  c__law_condition_0
  have c__law_condition_2 := ok__law_condition (P := P) (w := w) (base := base) (rn := 1) D__law_condition c__law_digit c__law_value  c__law_condition_1
  have c__law_condition_3 := ok__law_condition (P := P) (w := w) (base := base) (rn := 2) D__law_condition c__law_digit c__law_value  c__law_condition_2
  have c__law_condition_4 := ok__law_condition (P := P) (w := w) (base := base) (rn := 3) D__law_condition c__law_digit c__law_value  c__law_condition_3
  have c__law_condition : C8.Cal P w K mg base 8 "_law_condition" (sp__law_condition K) [] := c__law_condition_4
  have c__law_up := ok__law_up (P := P) (w := w) (base := base) D__law_up 
  have c__law_all := ok__law_all (P := P) (w := w) (base := base) D__law_all C_Known c__law_up y_min 
  have c__law_beside := ok__law_beside (P := P) (w := w) (base := base) D__law_beside C_Known c__law_all c__law_rank c__law_ranks c__law_up y_len y_max 
  have c__law_turned := ok__law_turned (P := P) (w := w) (base := base) D__law_turned C_Known c__law_all c__law_beside y_len y_max 
  have c__law_known := ok__law_known (P := P) (w := w) (base := base) D__law_known C_Known c_Known____init__ y_len 
  have c__law_compared := ok__law_compared (P := P) (w := w) (base := base) D__law_compared C_Known c__law_beside c__law_known c__law_turned c__law_up y_max 
  have c__law_share_0 : C8.Cal P w K mg base 6 "_law_share" (spR__law_share 0 K) [] := cal_no D__law_share sc__law_share (fun _ _ _ _ h => h.elim)
  have c__law_share_1 := ok__law_share (P := P) (w := w) (base := base) (rn := 0) D__law_share C_Known c__law_compared c__law_known c__law_up y_int y_min  c__law_share_0
  have c__law_share_2 := ok__law_share (P := P) (w := w) (base := base) (rn := 1) D__law_share C_Known c__law_compared c__law_known c__law_up y_int y_min  c__law_share_1
  have c__law_share_3 := ok__law_share (P := P) (w := w) (base := base) (rn := 2) D__law_share C_Known c__law_compared c__law_known c__law_up y_int y_min  c__law_share_2
  have c__law_share_4 := ok__law_share (P := P) (w := w) (base := base) (rn := 3) D__law_share C_Known c__law_compared c__law_known c__law_up y_int y_min  c__law_share_3
  have c__law_share_5 := ok__law_share (P := P) (w := w) (base := base) (rn := 4) D__law_share C_Known c__law_compared c__law_known c__law_up y_int y_min  c__law_share_4
  have c__law_share_6 := ok__law_share (P := P) (w := w) (base := base) (rn := 5) D__law_share C_Known c__law_compared c__law_known c__law_up y_int y_min  c__law_share_5
  have c__law_share_7 := ok__law_share (P := P) (w := w) (base := base) (rn := 6) D__law_share C_Known c__law_compared c__law_known c__law_up y_int y_min  c__law_share_6
  have c__law_share_8 := ok__law_share (P := P) (w := w) (base := base) (rn := 7) D__law_share C_Known c__law_compared c__law_known c__law_up y_int y_min  c__law_share_7
  have c__law_share : C8.Cal P w K mg base 14 "_law_share" (sp__law_share K) [] := c__law_share_8
  have c__law_odd := ok__law_odd (P := P) (w := w) (base := base) D__law_odd c__law_digit c__law_value 
  exact ok_law (P := P) (w := w) (base := base) D_law c__law_cell c__law_condition c__law_digit c__law_is_integer c__law_odd c__law_share c__law_state c__law_value c_known_of c_share_of y_len y_max y_min y_range 
end My
open PySem PySem.W PyProof.Rows
set_option maxHeartbeats 0 in
theorem PySem.Challenge.cw_stylobate_k70_shares_holds : PySem.Challenge.rw_stylobate_k70_shares.Holds := by
  w_on; o_law; k_head; (case hw => w_witness2)
  k_fill
  refine L2.walk_of (l := PySem.Challenge.rw_stylobate_k70_shares) (n := 63) (k := 18) (x := "script") (CX := fun _ => C8.CX0) (sp := fun w => My.sp_law _) rfl (by decide) rfl ⟨rfl, by decide, by decide⟩ (fun w h Y => PySem.W.kIn_of Y) ?F (fun _ _ a ns hl _ hS => My.sp_law_of hl hS) (fun _ _ _ _ _ h => h)
  case F =>
    intro w mg fa h KX G hmg
    refine' My.all_mk KX G hmg ?qC_Known ?pgC_Known ?hdC_Known ?poC_Known ?saC_Known ?mkC_Known ?kcC_Known ?naC_Known_0 ?naC_Known_1 ?naC_Known_2 ?naC_Known_3 ?naC_Known_4 ?a0 ?l0 ?b0 ?k0 ?a1 ?l1 ?b1 ?k1 ?a2 ?l2 ?b2 ?k2 ?a3 ?l3 ?b3 ?k3 ?a4 ?iF4 ?l4 ?b4 ?k4 ?a5 ?l5 ?b5 ?k5 ?a6 ?l6 ?b6 ?k6 ?a7 ?l7 ?b7 ?k7 ?a8 ?l8 ?b8 ?k8 ?a9 ?l9 ?b9 ?k9 ?a10 ?l10 ?b10 ?k10 ?a11 ?l11 ?b11 ?k11 ?a12 ?l12 ?b12 ?k12 ?a13 ?l13 ?b13 ?k13 ?a14 ?l14 ?b14 ?k14 ?a15 ?l15 ?b15 ?k15 ?a16 ?l16 ?b16 ?k16 ?a17 ?l17 ?b17 ?k17 ?a18 ?l18 ?b18 ?k18 ?a19 ?l19 ?b19 ?k19 ?a20 ?l20 ?b20 ?k20 ?a21 ?l21 ?b21 ?k21 ?a22 ?l22 ?b22 ?k22 ?a23 ?l23 ?b23 ?k23 ?a24 ?l24 ?b24 ?k24 ?a25 ?l25 ?b25 ?k25 ?a26 ?l26 ?b26 ?k26 ?a27 ?l27 ?b27 ?k27 ?a28 ?l28 ?b28 ?k28 ?a29 ?l29 ?b29 ?k29 ?a30 ?l30 ?b30 ?k30 ?a31 ?l31 ?b31 ?k31 ?a32 ?l32 ?b32 ?k32 ?a33 ?l33 ?b33 ?k33 ?a34 ?l34 ?b34 ?k34 ?a35 ?l35 ?b35 ?k35 ?a36 ?l36 ?b36 ?k36 ?a37 ?l37 ?b37 ?k37 ?a38 ?l38 ?b38 ?k38 ?z_bool ?z_int ?z_isinstance ?z_len ?z_list ?z_max ?z_min ?z_range ?z_sorted ?q_MARKS ?q_WHOLE ?q__DIFFERENT_OF_MISSING ?q__UNKNOWN
    (case qC_Known => k_is); (case pgC_Known => k_is); (case hdC_Known => k_is); (case poC_Known => k_is); (case saC_Known => k_is); (case mkC_Known => k_is); (case kcC_Known => k_is); (case naC_Known_0 => k_is); (case naC_Known_1 => k_is); (case naC_Known_2 => k_is); (case naC_Known_3 => k_is); (case naC_Known_4 => k_is); (case a0 => k_is); (case l0 => k_is); (case b0 => k_is); (case k0 => k_is); (case a1 => k_is); (case l1 => k_is); (case b1 => k_is); (case k1 => k_is); (case a2 => k_is); (case l2 => k_is); (case b2 => k_is); (case k2 => k_is); (case a3 => k_is); (case l3 => k_is); (case b3 => k_is); (case k3 => k_is); (case a4 => k_is); (case iF4 => k_is); (case l4 => k_is); (case b4 => k_is); (case k4 => k_is); (case a5 => k_is); (case l5 => k_is); (case b5 => k_is); (case k5 => k_is); (case a6 => k_is); (case l6 => k_is); (case b6 => k_is); (case k6 => k_is); (case a7 => k_is); (case l7 => k_is); (case b7 => k_is); (case k7 => k_is); (case a8 => k_is); (case l8 => k_is); (case b8 => k_is); (case k8 => k_is); (case a9 => k_is); (case l9 => k_is); (case b9 => k_is); (case k9 => k_is); (case a10 => k_is); (case l10 => k_is); (case b10 => k_is); (case k10 => k_is); (case a11 => k_is); (case l11 => k_is); (case b11 => k_is); (case k11 => k_is); (case a12 => k_is); (case l12 => k_is); (case b12 => k_is); (case k12 => k_is); (case a13 => k_is); (case l13 => k_is); (case b13 => k_is); (case k13 => k_is); (case a14 => k_is); (case l14 => k_is); (case b14 => k_is); (case k14 => k_is); (case a15 => k_is); (case l15 => k_is); (case b15 => k_is); (case k15 => k_is); (case a16 => k_is); (case l16 => k_is); (case b16 => k_is); (case k16 => k_is); (case a17 => k_is); (case l17 => k_is); (case b17 => k_is); (case k17 => k_is); (case a18 => k_is); (case l18 => k_is); (case b18 => k_is); (case k18 => k_is); (case a19 => k_is); (case l19 => k_is); (case b19 => k_is); (case k19 => k_is); (case a20 => k_is); (case l20 => k_is); (case b20 => k_is); (case k20 => k_is); (case a21 => k_is); (case l21 => k_is); (case b21 => k_is); (case k21 => k_is); (case a22 => k_is); (case l22 => k_is); (case b22 => k_is); (case k22 => k_is); (case a23 => k_is); (case l23 => k_is); (case b23 => k_is); (case k23 => k_is); (case a24 => k_is); (case l24 => k_is); (case b24 => k_is); (case k24 => k_is); (case a25 => k_is); (case l25 => k_is); (case b25 => k_is); (case k25 => k_is); (case a26 => k_is); (case l26 => k_is); (case b26 => k_is); (case k26 => k_is); (case a27 => k_is); (case l27 => k_is); (case b27 => k_is); (case k27 => k_is); (case a28 => k_is); (case l28 => k_is); (case b28 => k_is); (case k28 => k_is); (case a29 => k_is); (case l29 => k_is); (case b29 => k_is); (case k29 => k_is); (case a30 => k_is); (case l30 => k_is); (case b30 => k_is); (case k30 => k_is); (case a31 => k_is); (case l31 => k_is); (case b31 => k_is); (case k31 => k_is); (case a32 => k_is); (case l32 => k_is); (case b32 => k_is); (case k32 => k_is); (case a33 => k_is); (case l33 => k_is); (case b33 => k_is); (case k33 => k_is); (case a34 => k_is); (case l34 => k_is); (case b34 => k_is); (case k34 => k_is); (case a35 => k_is); (case l35 => k_is); (case b35 => k_is); (case k35 => k_is); (case a36 => k_is); (case l36 => k_is); (case b36 => k_is); (case k36 => k_is); (case a37 => k_is); (case l37 => k_is); (case b37 => k_is); (case k37 => k_is); (case a38 => k_is); (case l38 => k_is); (case b38 => k_is); (case k38 => k_is); (case z_bool => k_is); (case z_int => k_is); (case z_isinstance => k_is); (case z_len => k_is); (case z_list => k_is); (case z_max => k_is); (case z_min => k_is); (case z_range => k_is); (case z_sorted => k_is); (case q_MARKS => k_is); (case q_WHOLE => k_is); (case q__DIFFERENT_OF_MISSING => k_is); (case q__UNKNOWN => k_is)

