import PyProof.Rows.All
import Wide.All
import OpenK.AllK
import Wide.FinOn
import HandS.ForMost
import HandS.Codes
import HandS.Evl
import HandS.IsInst
import HandS.Wide
import HandS.Defaults
import HandS.Walk
import HandS.Flow
import HandS.TupAny
import HandS.Zip
import HandS.Property
import HandS.OwnEq
import HandS.Deep
import HandS.WideBits
import HandS.Iter
import HandS.Rev
import HandS.SortKw
import HandS.Keys
import HandS.TupLe
import HandS.Dict
import HandS.DictComp
import HandS.Text
import HandS.StrMore
import HandS.FStr
import HandS.Style
import HandS.More
import HandS.CallLocal
import HandS.Conv
import HandS.Flt
import KE.KEqSeq
import KE.KeyNested
import KE.KDictKeyed
import KE.DataEq
import KE.DataMinMax
import KE.DataMinKey
import PyProof.StrOps2
import PyProof.StrLawsFrom
import KE.RegKIsAll
import KE.SortKeyHeap
import KE.DataFind
import KE.KDictCopyH
import PySem.Challenge.RW_stylobate_k38_groups_of_rows
set_option Elab.async false
set_option linter.all false
set_option maxRecDepth 100000
set_option maxHeartbeats 4000000
namespace My
open PySem PySem.Spec PyProof.Rows L2 Evl
/-! ### defs of the text, promises, the end -/
def Dn (K : PySem.W.Frag) (mg : Str → Option Value) (x : Str) (st : Stmt) (ps : List Str) : Prop := ∃ f fd, C8.Def K mg x st f fd ∧ Binds K fd ps []
section
variable {P : Program} {w : World} {K : PySem.W.Frag} {mg : Str → Option Value} {base : Heap}
theorem cal_of {x : Str} {st : Stmt} {N ps : List Str} {k : Nat} {sp : Sp} (D : Dn K mg x st ps) (S : FnScope N ps (C8.fnScope st)) (len : ∀ vs H Q E, sp vs H Q E → vs.length = ps.length)
    (hbody : ∀ (f : Addr) (cdv : Value) (A : Around) (outer : List Env) (s : Shared) (H : Hp) (vs : List V) (Q : VK) (E : XK), Room k (A.deeper (envOfC x (C8.fnScope st) s.heap.objs.size f cdv)) → sp vs H Q E →
      ∃ t, PSs (cxOf C8.CX0 P w K mg base N x (C8.fnScope st) f cdv A outer s H E).nox (C8.fnBody st) t ∧ t { nx := fun _ H' => Q .non H', rt := Q } (start N vs) H) : C8.Cal P w K mg base (k + 1) x sp [] := by
  obtain ⟨f, fd, F, b⟩ := D
  exact C8.cal0 F b .nil S len (hbody f)
theorem def_mk {x : Str} {st : Stmt} {f : Addr} {oc : Value} {od an : Option Addr} {osl : Array (Option Value)} {kV doc pm cdv ct : Value}
    (l : K.lookup f = some ⟨oc, od, .func (PySem.W.fnOf x x (C8.fnArgs st) (C8.fnBody st) (C8.fnScope st) .none kV doc pm an cdv ct), osl⟩)
    (c : PySem.W.codeIn K cdv x = true) (k : PySem.W.keepIn K (.ref f) = true) (m : mg x = some (.ref f)) : C8.Def K mg x st f (PySem.W.fnOf x x (C8.fnArgs st) (C8.fnBody st) (C8.fnScope st) .none kV doc pm an cdv ct) :=
  ⟨⟨oc, od, .none, kV, doc, pm, an, cdv, ct, osl, rfl, l, c⟩, m, k⟩
theorem dn_mk {x : Str} {st : Stmt} {f : Addr} {oc : Value} {od an : Option Addr} {osl : Array (Option Value)} {kV doc pm cdv ct : Value} {ps : List Str}
    (l : K.lookup f = some ⟨oc, od, .func (PySem.W.fnOf x x (C8.fnArgs st) (C8.fnBody st) (C8.fnScope st) .none kV doc pm an cdv ct), osl⟩)
    (c : PySem.W.codeIn K cdv x = true) (k : PySem.W.keepIn K (.ref f) = true) (m : mg x = some (.ref f))
    (h : ∀ (kV doc pm : Value) (an : Option Addr) (cdv ct : Value) (us : List Value), us.length = ps.length → bindArgs (PySem.W.fnOf x x (C8.fnArgs st) (C8.fnBody st) (C8.fnScope st) .none kV doc pm an cdv ct) ⟨us, []⟩ = pure (ps.zip us)) : Dn K mg x st ps :=
  ⟨f, _, def_mk l c k m, C8.Fun.binds (def_mk l c k m).fn rfl h⟩
end
/-! ### x is True, x is False, of any value -/
def rIsT : R2 := fun x y H Q => ∃ b : Bool, y = .bl b ∧ Q (.bl (decide (x = .bl b))) H
def rNotT : R2 := fun x y H Q => ∃ b : Bool, y = .bl b ∧ Q (.bl (!decide (x = .bl b))) H
section
variable {X : Cx}
theorem rel_bl {x : V} {v : Value} {b : Bool} (rx : RelV x v) : PySem.plainIs v (.bool b) = true ∧ (v == .bool b) = decide (x = .bl b) ∨ ∃ n, v = .builtin n := by
  cases x with
  | non => cases (show v = Value.none from rx); exact .inl ⟨rfl, rfl⟩
  | bl c => cases (show v = Value.bool c from rx); exact .inl ⟨rfl, by cases b <;> cases c <;> rfl⟩
  | int i => obtain ⟨t, e⟩ := (show ∃ t, v = Value.int i t from rx); cases e; exact .inl ⟨rfl, rfl⟩
  | str i => obtain ⟨t, e⟩ := (show ∃ t, v = Value.str i t from rx); cases e; exact .inl ⟨rfl, rfl⟩
  | byt i => obtain ⟨t, e⟩ := (show ∃ t, v = Value.bytes i t from rx); cases e; exact .inl ⟨rfl, rfl⟩
  | flt i => obtain ⟨t, e⟩ := (show ∃ t, v = Value.float i t from rx); cases e; exact .inl ⟨rfl, rfl⟩
  | ref a => cases (show v = Value.ref a from rx); exact .inl ⟨rfl, rfl⟩
  | ty n => cases (show v = Value.type n from rx); exact .inl ⟨rfl, rfl⟩
theorem rel_bl' {x : V} {v : Value} {b : Bool} (rx : RelV x v) : PySem.plainIs v (.bool b) = true ∧ (v == .bool b) = decide (x = .bl b) := by
  rcases rel_bl (b := b) rx with h | ⟨n, rfl⟩
  · exact h
  · cases x <;> first | exact nomatch (rx : Value.builtin n = _) | (obtain ⟨t, e⟩ := rx; exact nomatch e)
theorem op_isTF : OpR X (compareOp .Is) rIsT := by
  intro pins s σ H x y v u Q I rx ry h
  obtain ⟨b, rfl, q⟩ := h
  cases (show u = Value.bool b from ry)
  obtain ⟨h1, h2⟩ := rel_bl' (b := b) rx
  exact wpAny_is_plain h1 ⟨.bl _, H, I, rfl, by rw [h2]; exact q⟩
theorem op_notTF : OpR X (compareOp .IsNot) rNotT := by
  intro pins s σ H x y v u Q I rx ry h
  obtain ⟨b, rfl, q⟩ := h
  cases (show u = Value.bool b from ry)
  obtain ⟨h1, h2⟩ := rel_bl' (b := b) rx
  exact wpAny_isNot_plain h1 ⟨.bl _, H, I, rfl, by rw [h2]; exact q⟩
end
/-! ### what evaluates to what: further -/
section
variable {K : PySem.W.Frag} {σ : L2.St} {H H' : Hp} {ta tb te tx : TE} {t u : TT} {x y z v : V} {r : R2}
theorem rv_isT {b : Bool} : RV rIsT x (.bl b) H (.bl (decide (x = .bl b))) := fun H1 _ _ q => ⟨b, rfl, q H1 (Ex.refl H1)⟩
theorem rv_notT {b : Bool} : RV rNotT x (.bl b) H (.bl (!decide (x = .bl b))) := fun H1 _ _ q => ⟨b, rfl, q H1 (Ex.refl H1)⟩
theorem rv_isN : RV (fun x y H Q => y = .non ∧ Q (.bl (decide (x = .non))) H) x .non H (.bl (decide (x = .non))) := fun H1 _ _ q => ⟨rfl, q H1 (Ex.refl H1)⟩
theorem rv_notN : RV (fun x y H Q => y = .non ∧ Q (.bl (!decide (x = .non))) H) x .non H (.bl (!decide (x = .non))) := fun H1 _ _ q => ⟨rfl, q H1 (Ex.refl H1)⟩
theorem ev_int {i : Int} (h : Ev ta σ H (.int i)) : Ev (tCB (fun xs H Q => (∃ i, xs = [.int i] ∧ Q (.int i) H) ∨ ∃ k, xs = [.bl k] ∧ Q (.int (if k then 1 else 0)) H) (tCons ta tNil)) σ H (.int i) :=
  fun H1 e Q q => h H1 e _ fun H2 e2 => .inl ⟨i, rfl, q H2 e2⟩
theorem ev_intB {b : Bool} (h : Ev ta σ H (.bl b)) : Ev (tCB (fun xs H Q => (∃ i, xs = [.int i] ∧ Q (.int i) H) ∨ ∃ k, xs = [.bl k] ∧ Q (.int (if k then 1 else 0)) H) (tCons ta tNil)) σ H (.int (if b then 1 else 0)) :=
  fun H1 e Q q => h H1 e _ fun H2 e2 => .inr ⟨b, rfl, q H2 e2⟩
theorem ev_abs {i : Int} (h : Ev ta σ H (.int i)) : Ev (tCB (fun xs H Q => ∃ i, xs = [.int i] ∧ Q (.int (if i < 0 then -i else i)) H) (tCons ta tNil)) σ H (.int (if i < 0 then -i else i)) :=
  fun H1 e Q q => h H1 e _ fun H2 e2 => ⟨i, rfl, q H2 e2⟩
theorem ev_min2 {i j : Int} (ha : Ev ta σ H (.int i)) (hb : Ev tb σ H (.int j)) : Ev (tCB (fun xs H Q => ∃ i j, xs = [.int i, .int j] ∧ Q (.int (if j < i then j else i)) H) (tCons ta (tCons tb tNil))) σ H (.int (if j < i then j else i)) := fun H1 e Q q =>
  ha H1 e _ fun H2 e2 => hb H2 (e.trans e2) _ fun H3 e3 => ⟨i, j, rfl, q H3 (e2.trans e3)⟩
theorem ev_lenS {s : Str} (h : Ev ta σ H (.str s)) (hz : s.length ≤ 100000) : Ev (tCB (fun xs H Q => ∃ z, xs = [.str z] ∧ z.length ≤ sizeLine ∧ Q (.int z.length) H) (tCons ta tNil)) σ H (.int s.length) :=
  fun H1 e Q q => h H1 e _ fun H2 e2 => ⟨s, rfl, sz_of hz, q H2 e2⟩
/-- isinstance(x, T) of a plain value -/
def tyOf : V → String
  | .non => "NoneType"
  | .bl _ => "bool"
  | .int _ => "int"
  | .str _ => "str"
  | .byt _ => "bytes"
  | .flt _ => "float"
  | _ => "?"
def isTy (x : V) (T : String) : Bool := ((kitB (tyOf x) T).getD false)
theorem ev_isi {T : String} {tn : String} {b : Bool} (ha : Ev ta σ H x) (ht : ∀ H1, TyX K H1 x (.type tn)) (hk : kitB tn T = some b) : Ev (tCB (rIsi K) (tCons ta (tCons (tC (.ty T)) tNil))) σ H (.bl b) :=
  fun H1 e Q q => ha H1 e _ fun H2 e2 => ⟨x, .ty T, .type tn, .type T, b, rfl, .ty T, ht H2, kit_ty hk, q H2 e2⟩
theorem tx_int (i : Int) (H1 : Hp) : TyX K H1 (.int i) (.type "int") := .base (.int i)
theorem tx_bl (i : Bool) (H1 : Hp) : TyX K H1 (.bl i) (.type "bool") := .base (.bl i)
theorem tx_str (i : Str) (H1 : Hp) : TyX K H1 (.str i) (.type "str") := .base (.str i)
theorem tx_non (H1 : Hp) : TyX K H1 .non (.type "NoneType") := .base .non
section
variable {D : Ends} {tz : TS}
/-- if c: x = e, an int: told by the value x has behind it -/
theorem q_ifI {b : Bool} {i : Nat} {p q : Int} (h : EvT t σ H b) (h1 : b = true → Ev te σ H (.int p)) (h0 : σ[i]? = some (some (.int q))) (k : ∀ H1, Ex H H1 → tz D (σ.set i (some (.int (if b = true then p else q)))) H1) : tSeq (tIfS t (tAsg te (gName i)) tNext) tz D σ H := by
  refine q_ifAsg h (fun hb => ?_) (fun hb => ?_) k
  · rw [if_pos hb]
    exact h1 hb
  · rw [hb]
    show σ.set i (some (V.int q)) = σ
    apply List.ext_getElem?
    intro j
    rw [List.getElem?_set]
    split
    · rename_i e
      subst e
      rw [h0]
      have := (List.getElem?_eq_some_iff.mp h0).1
      rw [if_pos this]
    · rfl
end
/-- a promise of one value, all else as it was -/
theorem spv {sp : Sp} {vs : List V} (h : ∀ H1, Ex H H1 → ∀ Q : VK, (∀ H2, Ex H1 H2 → Q z H2) → ∀ E : XK, sp vs H1 Q E) : SpV sp vs H z := h
end
local macro_rules | `(tactic| walk_at "side") => `(tactic| first
  | exact .inr ⟨by decide, by decide⟩
  | exact .inl ⟨by decide, by decide⟩
  | exact .inl ⟨by omega, by omega⟩
  | exact .inr ⟨by omega, by omega⟩
  | exact ⟨by decide, by decide⟩
  | exact ⟨by omega, by omega⟩
  | decide
  | (show (_ : Int) < _; omega)
  | omega)
local macro_rules | `(tactic| walk_at "rv") => `(tactic| first
  | exact rv_I0
  | ((refine' rv_I ?k1); (case k1 => walk_at "side"))
  | exact rv_isT
  | exact rv_notT
  | exact rv_isN
  | exact rv_notN
  | exact rv_eq rfl
  | exact rv_ne rfl)
local macro_rules | `(tactic| walk_at "sq") => `(tactic| first | assumption | exact ex_l (by assumption) (by assumption) | exact sq_of (by assumption))
/-- what a part gives, read off its form -/
local macro_rules | `(tactic| walk_at "ev") => `(tactic| first
  | exact ev_var rfl
  | exact ev_c
  | ((with_reducible refine' ev_op ?k1 ?k2 ?k3); (case k1 => walk_at "ev"); (case k2 => walk_at "ev"); (case k3 => walk_at "rv"))
  | ((with_reducible refine' ev_un ?k1 ?k2); (case k1 => walk_at "ev"); (case k2 => exact ru_neg))
  | ((with_reducible refine' ev_int ?k1); (case k1 => walk_at "ev"))
  | ((with_reducible refine' ev_abs ?k1); (case k1 => walk_at "ev"))
  | ((with_reducible refine' ev_andV ?k1 ?k2); (case k1 => walk_at "ev"); (case k2 => intro _; walk_at "ev"))
  | ((with_reducible refine' ev_orV ?k1 ?k2); (case k1 => walk_at "ev"); (case k2 => intro _; walk_at "ev"))
  | ((with_reducible refine' ev_notV ?k1); (case k1 => walk_at "ev"))
  | ((refine' ev_len ?k1 ?k2); (case k1 => walk_at "ev"); (case k2 => walk_at "sq")))
local macro_rules | `(tactic| walk_at "et") => `(tactic| first
  | ((with_reducible refine' et_or ?k1 ?k2); (case k1 => walk_at "et"); (case k2 => intro _; walk_at "et"))
  | ((with_reducible refine' et_and ?k1 ?k2); (case k1 => walk_at "et"); (case k2 => intro _; walk_at "et"))
  | ((with_reducible refine' et_not ?k1); (case k1 => walk_at "et"))
  | (refine' et_test ?k1; (case k1 => walk_at "ev"))
  | (refine' et_B ?k1; (case k1 => walk_at "ev")))

/-! ### tuples made, tuples read, data compared -/
def SpU (sp : Sp) (vs : List V) (H : Hp) (xs : List V) : Prop := ∀ H1, Ex H H1 → ∀ Q : VK, (∀ p H2, H1 p = none → Ex H1 H2 → H2 p = some (.tup xs) → Q (.ref p) H2) → ∀ E : XK, sp vs H1 Q E
section
variable {K : PySem.W.Frag} {σ : L2.St} {H H' : Hp} {ta tb te : TE} {x y z v : V}
theorem eu_call {sp : Sp} {dvs vs xs : List V} {E : XK} {ta : TA} (h : EvA ta σ H vs) (hs : SpU sp (vs ++ dvs) H xs) : EvU (tCall sp dvs E ta) σ H xs := fun H1 e Q q =>
  h H1 e _ fun H2 e2 => hs H2 (e.trans e2) Q (fun p H3 hp e3 h3 => q p H3 (fresh_back e2 hp) (e2.trans e3) h3) E
theorem ev_lenT {p : Addr} {xs : List V} (ha : Ev ta σ H (.ref p)) (h : SqT K H p xs) : Ev (tCB (fun xs H Q => ∃ p ys, xs = [.ref p] ∧ (SqL K H p ys ∨ SqT K H p ys) ∧ Q (.int ys.length) H) (tCons ta tNil)) σ H (.int (xs.length : Int)) := fun H1 e Q q =>
  ha H1 e _ fun H2 e2 => ⟨p, xs, rfl, Or.inr (ex_t (e.trans e2) h), q H2 e2⟩
theorem eu_divmod {i j : Int} (ha : Ev ta σ H (.int i)) (hb : Ev tb σ H (.int j)) (hc : CDiv i j) :
    EvU (tCB (fun xs H Q => ∃ i j, xs = [.int i, .int j] ∧ CDiv i j ∧ ∀ p, H p = none → Q (.ref p) (upd H p (.tup [.int (i / j), .int (i % j)]))) (tCons ta (tCons tb tNil))) σ H [.int (i / j), .int (i % j)] := fun H1 e Q q =>
  ha H1 e _ fun H2 e2 => hb H2 (e.trans e2) _ fun H3 e3 => ⟨i, j, rfl, hc, fun p hp => q p _ (fresh_back (e2.trans e3) hp) ((e2.trans e3).trans (Ex.new hp)) upd_same⟩
theorem dp_ints : ∀ ns : List Int, DpAll K H (ns.map V.int) (ns.map PyData.int)
  | [] => .nil
  | n :: r => .cons (.int n) (dp_ints r)
theorem eqv_ints : ∀ ns ms : List Int, PyData.eqv (.tuple (ns.map PyData.int)) (.tuple (ms.map PyData.int)) = decide (ns = ms)
  | [], [] => rfl
  | [], _ :: _ => rfl
  | _ :: _, [] => rfl
  | n :: r, m :: t => by
    have ih := eqv_ints r t
    show ((n == m) && PyData.eqv (.tuple (r.map PyData.int)) (.tuple (t.map PyData.int))) = _
    rw [ih, Bool.eq_iff_iff, Bool.and_eq_true, decide_eq_true_eq, decide_eq_true_eq, beq_iff_eq, List.cons.injEq]
theorem dp_tup {p : Addr} {ns : List Int} (h : SqT K H p (ns.map V.int)) : Dp K H (.ref p) (.tuple (ns.map PyData.int)) := .tup h (dp_ints ns)
def shI (n : Nat) : Bool := SeqAt.shaped (.tuple ((List.replicate n 0).map PyData.int))
theorem rv_neT {p q : Addr} {ns ms : List Int} (hp : SqT K H p (ns.map V.int)) (hq : SqT K H q (ms.map V.int)) (s1 : SeqAt.shaped (.tuple (ns.map PyData.int)) = true) (s2 : SeqAt.shaped (.tuple (ms.map PyData.int)) = true) : RV (rNeD K) (.ref p) (.ref q) H (.bl (!decide (ns = ms))) := fun H1 e Q k =>
  ⟨_, _, dp_tup (ex_t e hp), dp_tup (ex_t e hq), s1, s2, by rw [eqv_ints]; exact k H1 (Ex.refl H1)⟩
theorem tx_tup {a : Addr} {xs : List V} (h : H a = some (.tup xs)) : ∀ H1, Ex H H1 → TyX K H1 (.ref a) (.type "tuple") := fun H1 e => .base (.tup (e _ _ h))
theorem ev_isi' {T : String} {tn : String} {b : Bool} (ha : Ev ta σ H x) (ht : ∀ H1, Ex H H1 → TyX K H1 x (.type tn)) (hk : kitB tn T = some b) : Ev (tCB (rIsi K) (tCons ta (tCons (tC (.ty T)) tNil))) σ H (.bl b) :=
  fun H1 e Q q => ha H1 e _ fun H2 e2 => ⟨x, .ty T, .type tn, .type T, b, rfl, .ty T, ht H2 (e.trans e2), kit_ty hk, q H2 e2⟩
theorem ev_chain {r r' : R2} {tc : TE} {b c : Bool} (ha : Ev ta σ H x) (hb : Ev tb σ H y) (hr : RV r x y H (.bl b)) (hc : b = true → Ev tc σ H z) (hr' : b = true → RV r' y z H (.bl c)) : Ev (tChain r r' ta tb tc) σ H (.bl (b && c)) := fun H1 e Q q =>
  ha H1 e _ fun H2 e2 => hb H2 (e.trans e2) _ fun H3 e3 => hr H3 ((e.trans e2).trans e3) _ fun H4 e4 => ⟨b, rfl, by
    cases b with
    | true =>
      show tc σ H4 fun w' H5 => r' y w' H5 Q
      exact hc rfl H4 (((e.trans e2).trans e3).trans e4) _ fun H5 e5 => hr' rfl H5 ((((e.trans e2).trans e3).trans e4).trans e5) Q fun H6 e6 => q H6 ((((e2.trans e3).trans e4).trans e5).trans e6)
    | false =>
      show Q (.bl false) H4
      exact q H4 ((e2.trans e3).trans e4)⟩
/-- a, b = (..): a new tuple unpacked into names -/
theorem gt2 {p : Addr} {i j : Nat} (h : SqT K H p [x, y]) {Q : L2.St → Hp → Prop} (k : Q ((σ.set i (some x)).set j (some y)) H) : gTup K 2 (gCons (gName i) (gCons (gName j) gNil)) (.ref p) σ H Q :=
  ⟨p, [x, y], rfl, h, rfl, x, [y], rfl, y, [], rfl, rfl, k⟩
theorem gt3 {p : Addr} {i j l : Nat} (h : SqT K H p [x, y, z]) {Q : L2.St → Hp → Prop} (k : Q (((σ.set i (some x)).set j (some y)).set l (some z)) H) : gTup K 3 (gCons (gName i) (gCons (gName j) (gCons (gName l) gNil))) (.ref p) σ H Q :=
  ⟨p, [x, y, z], rfl, h, rfl, x, [y, z], rfl, y, [z], rfl, z, [], rfl, rfl, k⟩
end
theorem hu64 {A : Around} {k : Nat} (hr : Room k A) : A.units + 64 < cLine := by
  have := hr.un
  omega
section
variable {K : PySem.W.Frag} {σ : L2.St} {H : Hp} {te : TE} {D : Ends} {tz : TS} {g : TG} {xs : List V}
theorem q_asgG (h : EvU te σ H xs) (k : ∀ p H1, H p = none → Ex H H1 → H1 p = some (.tup xs) → g (.ref p) σ H1 (tz D)) : tSeq (tAsg te g) tz D σ H := h H (Ex.refl H) _ fun p H1 hp e h1 => k p H1 hp e h1
theorem q_asgV {v : V} (h : Ev te σ H v) (k : ∀ H1, Ex H H1 → g v σ H1 (tz D)) : tSeq (tAsg te g) tz D σ H := h H (Ex.refl H) _ fun H1 e => k H1 e
end
/-! ### plain values and their types -/
inductive Pl : V → Prop where
  | non : Pl .non
  | bl (b : Bool) : Pl (.bl b)
  | int (i : Int) : Pl (.int i)
  | str (s : Str) : Pl (.str s)
def tyN : V → String
  | .bl _ => "bool"
  | .int _ => "int"
  | .str _ => "str"
  | _ => "NoneType"
def isInt : V → Bool
  | .int _ => true
  | _ => false
theorem tx_pl {K : PySem.W.Frag} {x : V} (h : Pl x) (H1 : Hp) : TyX K H1 x (.type (tyN x)) := by
  cases h with
  | non => exact .base .non
  | bl b => exact .base (.bl b)
  | int i => exact .base (.int i)
  | str s => exact .base (.str s)
theorem ev_isiP {K : PySem.W.Frag} {σ : L2.St} {H : Hp} {ta : TE} {x : V} {T : String} {b : Bool} (ha : Ev ta σ H x) (hx : Pl x) (hk : kitB (tyN x) T = some b) : Ev (tCB (rIsi K) (tCons ta (tCons (tC (.ty T)) tNil))) σ H (.bl b) :=
  ev_isi ha (tx_pl hx) hk
/-- isinstance(x, int) and not isinstance(x, bool) -/
theorem ev_isInt {K : PySem.W.Frag} {σ : L2.St} {H : Hp} {ta tb : TE} {x : V} (ha : Ev ta σ H x) (hb : Ev tb σ H x) (hx : Pl x) :
    Ev (tAndV (tCB (rIsi K) (tCons ta (tCons (tC (.ty "int")) tNil))) (tNotV (tCB (rIsi K) (tCons tb (tCons (tC (.ty "bool")) tNil))))) σ H (.bl (isInt x)) := by
  cases hx with
  | non => exact ev_is (ev_andV (ev_isiP (b := false) ha .non (by decide +kernel)) fun z => nomatch z) (show V.bl (false && true) = _ from rfl)
  | bl b => exact ev_is (ev_andV (ev_isiP (b := true) ha (.bl b) (by show kitB "bool" "int" = some true; decide +kernel)) fun _ => ev_notV (ev_isiP (b := true) hb (.bl b) (by show kitB "bool" "bool" = some true; decide +kernel))) rfl
  | int i => exact ev_is (ev_andV (ev_isiP (b := true) ha (.int i) (by show kitB "int" "int" = some true; decide +kernel)) fun _ => ev_notV (ev_isiP (b := false) hb (.int i) (by show kitB "int" "bool" = some false; decide +kernel))) rfl
  | str s => exact ev_is (ev_andV (ev_isiP (b := false) ha (.str s) (by show kitB "str" "int" = some false; decide +kernel)) fun z => nomatch z) (show V.bl (false && true) = _ from rfl)

/-! ### the order of tuples that need not be alike behind the first difference -/
section
open PySem.SeqAt PySem.MeetsSeq PySem.MeetsSeq2 PySem.MeetsSeq3
open PySem.AutoSeq1 (wpAny_loadPart')
/-- pairs walked from the left: the first that differ decide; z where none do -/
inductive Lx (A : Around) (s : Shared) (z : Bool) : List (Value × Value) → Bool → Prop
  | nil : Lx A s z [] z
  | eq {y x : Value} {ps : List (Value × Value)} {c : Bool} : EqAt A s y x true → Lx A s z ps c → Lx A s z ((y, x) :: ps) c
  | lt {y x : Value} {ps : List (Value × Value)} {c : Bool} : EqAt A s y x false → Ob.RcOp .Lt A s y x c → Lx A s z ((y, x) :: ps) c
theorem lt_meets (l b : Addr) (us vs : Array Value) (n m : Nat) (dl db : Option Addr) (sl sb : Array (Option Value)) :
    Meets (Builtin.«tuple.__lt__» ⟨[.ref l, .ref b], []⟩)
      (fun A R s => s.heap.get? l = some { cls := .type "tuple", dict := dl, data := .seq us n, slots := sl } ∧ s.heap.get? b = some { cls := .type "tuple", dict := db, data := .seq vs m, slots := sb } ∧
        ∃ c, Lx A.in1 s (decide (us.size < vs.size)) (us.toList.zip vs.toList) c ∧ R (.ok (.ret (.bool c))) s) := by
  refine .of_wp fun prog w A R s h => ?_
  obtain ⟨hp, g, d, tk, os⟩ := s
  obtain ⟨hl, hb, c, hx, h⟩ := h
  have f2 := AutoSeq1.sub_tuple_tuple
  wp_walk using wpAny_loadPart' hl, wpAny_loadPart' hb, wpAny_forIn_list _ (fun ps b s' => b.1 = none ∧ s' = ⟨hp, g, d, tk, os⟩ ∧ ∃ c, Lx A.in1 ⟨hp, g, d, tk, os⟩ (decide (us.size < vs.size)) ps c ∧ R (.ok (.ret (.bool c))) ⟨hp, g, d, tk, os⟩) _
  case turn =>
    rintro ⟨y, x⟩ ps b s' ⟨hb', rfl, c, hz, hR⟩
    cases hz with
    | eq he ht =>
      refine wpAny_bind (he prog w _ _ ?_)
      wp_walk
      exact ⟨rfl, rfl, c, ht, hR⟩
    | lt he hr =>
      refine wpAny_bind (he prog w _ _ ?_)
      have hri := hr prog w
      wp_walk using hri
      exact ⟨_, rfl, hR⟩
  case fin =>
    rintro ⟨b1, b2⟩ s' ⟨hb', rfl, c, hz, hR⟩
    simp only at hb'
    subst hb'
    cases hz
    wp_walk
    exact ⟨_, rfl, by simpa [Builtin.Tuple.tupleCompareSizes] using hR⟩
  case h => exact ⟨rfl, rfl, c, hx, h⟩
theorem lt_tuples {A : Around} {s : Shared} {l b : Addr} {us vs : Array Value} {c : Bool} (hl : s.heap.IsTuple l us) (hb : s.heap.IsTuple b vs) (hu : A.units < cLine) (hx : Lx A.in1 s (decide (us.size < vs.size)) (us.toList.zip vs.toList) c) :
    Ob.RcOp .Lt A s (.ref l) (.ref b) c := by
  intro prog w E Q h
  obtain ⟨⟨k1, dl, da, sl⟩, ho, hc, n, hd⟩ := hl
  obtain ⟨⟨k2, db, da2, sb⟩, ho2, hc2, m, hd2⟩ := hb
  simp only at hc hd hc2 hd2
  subst hc hd hc2 hd2
  exact richCompare_meets_room (op := .Lt) ⟨_, ho, rfl⟩ ⟨_, ho2, rfl⟩ F.slot_tuple_lt F.entry_tuple_lt (F.args_tuple_lt_2 _ _) (lt_meets l b us vs n m dl db sl sb) ⟨ho, ho2, c, hx, ⟨(fun z => nomatch z), h⟩⟩ hu
end
mutual
/-- less, of data -/
def ltD : PyData → PyData → Bool
  | .int a, .int b => decide (a < b)
  | .str x, .str y => decide (x.cps.toList < y.cps.toList)
  | .tuple xs, .tuple ys => ltDs xs ys
  | _, _ => false
def ltDs : List PyData → List PyData → Bool
  | [], [] => false
  | [], _ :: _ => true
  | _ :: _, [] => false
  | x :: xs, y :: ys => if PyData.eqv x y then ltDs xs ys else ltD x y
end
mutual
/-- may be compared by less -/
def ordD : PyData → PyData → Bool
  | .int _, .int _ => true
  | .str _, .str _ => true
  | .tuple xs, .tuple ys => ordDs xs ys
  | _, _ => false
def ordDs : List PyData → List PyData → Bool
  | [], _ => true
  | _ :: _, [] => true
  | x :: xs, y :: ys => if PyData.eqv x y then ordDs xs ys else ordD x y
end
theorem reads_len {h : Heap} : ∀ {ds : List PyData} {us : List Value} {as : List Addr}, ReadsAll h us ds as → us.length = ds.length
  | [], _, _, r => by cases r; rfl
  | _ :: ds, _, _, r => by
    cases r with
    | cons r1 r2 => exact congrArg (· + 1) (reads_len r2)
theorem lt_list {n : Nat} (IH : ∀ (d e : PyData) (A : Around) (s : Shared) (u v : Value) (as bs : List Addr), d.depth ≤ n → Reads s.heap u d as → Reads s.heap v e bs → d.canLay0 = true → e.canLay0 = true → ordD d e = true →
    A.units + d.depth < cLine → Ob.RcOp .Lt A s u v (ltD d e)) (A : Around) (s : Shared) : ∀ (xs ys : List PyData) (us vs : List Value) (as bs : List Addr), PyData.depthAll xs ≤ n → ReadsAll s.heap us xs as → ReadsAll s.heap vs ys bs →
    PyData.canLayAll0 xs = true → PyData.canLayAll0 ys = true → ordDs xs ys = true → A.units + PyData.depthAll xs < cLine → Lx A s (decide (xs.length < ys.length)) (us.zip vs) (ltDs xs ys) := by
  intro xs
  induction xs with
  | nil =>
    intro ys us vs as bs hn r1 r2 c1 c2 ho hu
    cases r1
    cases ys with
    | nil => exact .nil
    | cons y ys =>
      rw [show decide (([] : List PyData).length < (y :: ys).length) = true from decide_eq_true (Nat.zero_lt_succ _)]
      show Lx A s true [] true
      exact .nil
  | cons x xs ih =>
    intro ys us vs as bs hn r1 r2 c1 c2 ho hu
    cases ys with
    | nil =>
      cases r2
      rw [show decide ((x :: xs).length < ([] : List PyData).length) = false from decide_eq_false (Nat.not_lt_zero _), List.zip_nil_right]
      exact .nil
    | cons y ys =>
      have a1 : x.canLay0 = true ∧ PyData.canLayAll0 xs = true := by simpa [PyData.canLayAll0] using c1
      have a2 : y.canLay0 = true ∧ PyData.canLayAll0 ys = true := by simpa [PyData.canLayAll0] using c2
      have hd : A.units + max x.depth (PyData.depthAll xs) < cLine := hu
      have hn' : max x.depth (PyData.depthAll xs) ≤ n := hn
      rw [show decide ((x :: xs).length < (y :: ys).length) = decide (xs.length < ys.length) by simp]
      cases r1 with
      | cons p1 q1 =>
        cases r2 with
        | cons p2 q2 =>
          have he := PySem.SeqAt.eqAt_reads x y A s _ _ _ _ p1 p2 a1.1 a2.1 (by omega)
          by_cases c : PyData.eqv x y = true
          · have o : ordDs xs ys = true := by rw [ordDs, if_pos c] at ho; exact ho
            rw [show ltDs (x :: xs) (y :: ys) = ltDs xs ys by rw [ltDs, if_pos c]]
            rw [c] at he
            exact .eq he (ih ys _ _ _ _ (by omega) q1 q2 a1.2 a2.2 o (by omega))
          · have o : ordD x y = true := by rw [ordDs, if_neg c] at ho; exact ho
            rw [show ltDs (x :: xs) (y :: ys) = ltD x y by rw [ltDs, if_neg c]]
            rw [Bool.not_eq_true] at c
            rw [c] at he
            exact .lt he (IH x y A s _ _ _ _ (by omega) p1 p2 a1.1 a2.1 o (by omega))
theorem lt_reads : ∀ (n : Nat) (d e : PyData) (A : Around) (s : Shared) (u v : Value) (as bs : List Addr), d.depth ≤ n → Reads s.heap u d as → Reads s.heap v e bs → d.canLay0 = true → e.canLay0 = true → ordD d e = true →
    A.units + d.depth < cLine → Ob.RcOp .Lt A s u v (ltD d e) := by
  intro n
  induction n with
  | zero =>
    intro d e A s u v as bs hn r1 r2 c1 c2 ho hu
    cases r1 with
    | int a t =>
      cases r2 with
      | int b t' => rw [ltD]; exact Ob.RcOp.lt_int _ _ _ _
      | _ => simp [ordD] at ho
    | str a t =>
      cases r2 with
      | str b t' => rw [ltD]; exact fun prog w E Q h => lt_str h
      | _ => simp [ordD] at ho
    | tuple => simp [PyData.depth] at hn
    | _ => simp [ordD] at ho
  | succ n ih =>
    intro d e A s u v as bs hn r1 r2 c1 c2 ho hu
    cases r1 with
    | int a t =>
      cases r2 with
      | int b t' => rw [ltD]; exact Ob.RcOp.lt_int _ _ _ _
      | _ => simp [ordD] at ho
    | str a t =>
      cases r2 with
      | str b t' => rw [ltD]; exact fun prog w E Q h => lt_str h
      | _ => simp [ordD] at ho
    | tuple h1 h2 h3 h4 =>
      cases r2 with
      | tuple k1 k2 k3 k4 =>
        rename_i xs _ _ _ _ _ ys
        simp only [PyData.depth] at hn hu
        have l1 := reads_len h4
        have l2 := reads_len k4
        rw [ltD]
        refine lt_tuples ⟨_, h1, h2, _, h3⟩ ⟨_, k1, k2, _, k3⟩ (by omega) ?_
        rw [← Array.length_toList, ← Array.length_toList, l1, l2]
        exact lt_list ih A.in1 s _ _ _ _ _ _ (by omega) h4 k4 (by simpa [PyData.canLay0] using c1) (by simpa [PyData.canLay0] using c2) (by simpa [ordD] using ho) (by show A.units + 1 + _ < _; omega)
      | _ => simp [ordD] at ho
    | _ => simp [ordD] at ho
def rLtD (K : PySem.W.Frag) : R2 := fun x y H Q => ∃ d e, Dp K H x d ∧ Dp K H y e ∧ d.canLay0 = true ∧ e.canLay0 = true ∧ ordD d e = true ∧ d.depth ≤ 60 ∧ Q (.bl (ltD d e)) H
theorem op_ltD {X : Cx} (hu : X.A.units + 64 < cLine) : OpR X (compareOp .Lt) (rLtD X.K) := by
  intro pins s σ H x y v u Q I rx ry h
  obtain ⟨d, e, hd, he, c1, c2, o, dp, q⟩ := h
  obtain ⟨as, r1⟩ := Dp.reads I d x v hd rx
  obtain ⟨bs, r2⟩ := Dp.reads I e y u he ry
  exact lt_reads _ d e X.A s v u as bs (Nat.le_refl _) r1 r2 c1 c2 o (by omega) X.prog X.w _ _ ⟨.bl _, H, I, rfl, q⟩

/-! ### parts that give data -/
section
variable {K : PySem.W.Frag}
mutual
theorem ex_dp {H H' : Hp} (e : Ex H H') : ∀ {v : V} {d : PyData}, Dp K H v d → Dp K H' v d
  | _, _, .non => .non
  | _, _, .bl b => .bl b
  | _, _, .int i => .int i
  | _, _, .str x => .str x
  | _, _, .lst h a => .lst (ex_l e h) (ex_dps e a)
  | _, _, .tup h a => .tup (ex_t e h) (ex_dps e a)
theorem ex_dps {H H' : Hp} (e : Ex H H') : ∀ {vs : List V} {ds : List PyData}, DpAll K H vs ds → DpAll K H' vs ds
  | _, _, .nil => .nil
  | _, _, .cons h t => .cons (ex_dp e h) (ex_dps e t)
end
def EvD (K : PySem.W.Frag) (te : TE) (σ : L2.St) (H : Hp) (d : PyData) : Prop := ∀ H1, Ex H H1 → ∀ Q : VK, (∀ v H2, Ex H1 H2 → Dp K H2 v d → Q v H2) → te σ H1 Q
/-- a new list, a new tuple of data -/
def EvLD (K : PySem.W.Frag) (te : TE) (σ : L2.St) (H : Hp) (ds : List PyData) : Prop := ∀ H1, Ex H H1 → ∀ Q : VK, (∀ p H2 ys, H1 p = none → Ex H1 H2 → H2 p = some (.lst ys) → DpAll K H2 ys ds → Q (.ref p) H2) → te σ H1 Q
def EvUD (K : PySem.W.Frag) (te : TE) (σ : L2.St) (H : Hp) (ds : List PyData) : Prop := ∀ H1, Ex H H1 → ∀ Q : VK, (∀ p H2 ys, H1 p = none → Ex H1 H2 → H2 p = some (.tup ys) → DpAll K H2 ys ds → Q (.ref p) H2) → te σ H1 Q
def EvAD (K : PySem.W.Frag) (ta : TA) (σ : L2.St) (H : Hp) (ds : List PyData) : Prop := ∀ H1, Ex H H1 → ∀ Q : List V → Hp → Prop, (∀ vs H2, Ex H1 H2 → DpAll K H2 vs ds → Q vs H2) → ta σ H1 Q
variable {σ : L2.St} {H H' : Hp} {ta tb te : TE} {tr : TA} {x y z v : V} {d e : PyData} {ds es : List PyData}
theorem ed_val (h : Ev te σ H v) (hd : Dp K H v d) : EvD K te σ H d := fun H1 e Q q => h H1 e _ fun H2 e2 => q v H2 e2 (ex_dp (e.trans e2) hd)
theorem ed_tupU (h : EvUD K te σ H ds) : EvD K te σ H (.tuple ds) := fun H1 e Q q => h H1 e _ fun p H2 ys _ e2 h2 hd => q _ H2 e2 (.tup (st_of h2) hd)
theorem ed_lst (h : EvLD K te σ H ds) : EvD K te σ H (.list ds) := fun H1 e Q q => h H1 e _ fun p H2 ys _ e2 h2 hd => q _ H2 e2 (.lst (sq_of h2) hd)
theorem ad_nil : EvAD K tNil σ H [] := fun H1 _ _ q => q [] H1 (Ex.refl H1) .nil
theorem ad_cons (h : EvD K te σ H d) (hr : EvAD K tr σ H ds) : EvAD K (tCons te tr) σ H (d :: ds) := fun H1 e Q q =>
  h H1 e _ fun v H2 e2 hd => hr H2 (e.trans e2) _ fun vs H3 e3 hds => q (v :: vs) H3 (e2.trans e3) (.cons (ex_dp e3 hd) hds)
theorem dps_len : ∀ {vs : List V} {ds : List PyData} {H : Hp}, DpAll K H vs ds → vs.length = ds.length
  | _, _, _, .nil => rfl
  | _, _, _, .cons _ t => congrArg (· + 1) (dps_len t)
theorem ud_tup (h : EvAD K tr σ H ds) (hl : ds.length ≤ 100000) : EvUD K (tTup tr) σ H ds := fun H1 e Q q =>
  h H1 e _ fun vs H2 e2 hd => ⟨sz_of (by rw [dps_len hd]; exact hl), fun p hp => q p _ vs (fresh_back e2 hp) (e2.trans (Ex.new hp)) upd_same (ex_dps (Ex.new hp) hd)⟩
theorem ld_lst (h : EvAD K tr σ H ds) (hl : ds.length ≤ 100000) : EvLD K (tLst tr) σ H ds := fun H1 e Q q =>
  h H1 e _ fun vs H2 e2 hd => ⟨sz_of (by rw [dps_len hd]; exact hl), fun p hp => q p _ vs (fresh_back e2 hp) (e2.trans (Ex.new hp)) upd_same (ex_dps (Ex.new hp) hd)⟩
def SpD (K : PySem.W.Frag) (sp : Sp) (vs : List V) (H : Hp) (d : PyData) : Prop := ∀ H1, Ex H H1 → ∀ Q : VK, (∀ v H2, Ex H1 H2 → Dp K H2 v d → Q v H2) → ∀ E : XK, sp vs H1 Q E
def SpUD (K : PySem.W.Frag) (sp : Sp) (vs : List V) (H : Hp) (ds : List PyData) : Prop := ∀ H1, Ex H H1 → ∀ Q : VK, (∀ p H2 ys, H1 p = none → Ex H1 H2 → H2 p = some (.tup ys) → DpAll K H2 ys ds → Q (.ref p) H2) → ∀ E : XK, sp vs H1 Q E
theorem ud_call {sp : Sp} {dvs vs : List V} {E : XK} {ta : TA} (h : EvA ta σ H vs) (hs : SpUD K sp (vs ++ dvs) H ds) : EvUD K (tCall sp dvs E ta) σ H ds := fun H1 e Q q =>
  h H1 e _ fun H2 e2 => hs H2 (e.trans e2) Q (fun p H3 ys hp e3 h3 hd => q p H3 ys (fresh_back e2 hp) (e2.trans e3) h3 hd) E
/-- == , != , < of data -/
theorem ev_eqD (ha : EvD K ta σ H d) (hb : EvD K tb σ H e) (s1 : SeqAt.shaped d = true) (s2 : SeqAt.shaped e = true) : Ev (tOp (rEqD K) ta tb) σ H (.bl (PyData.eqv d e)) := fun H1 ex Q q =>
  ha H1 ex _ fun x H2 e2 h2 => hb H2 (ex.trans e2) _ fun y H3 e3 h3 => ⟨d, e, ex_dp e3 h2, h3, s1, s2, q H3 (e2.trans e3)⟩
theorem ev_neD (ha : EvD K ta σ H d) (hb : EvD K tb σ H e) (s1 : SeqAt.shaped d = true) (s2 : SeqAt.shaped e = true) : Ev (tOp (rNeD K) ta tb) σ H (.bl (!PyData.eqv d e)) := fun H1 ex Q q =>
  ha H1 ex _ fun x H2 e2 h2 => hb H2 (ex.trans e2) _ fun y H3 e3 h3 => ⟨d, e, ex_dp e3 h2, h3, s1, s2, q H3 (e2.trans e3)⟩
theorem ev_ltD (ha : EvD K ta σ H d) (hb : EvD K tb σ H e) (s1 : SeqAt.shaped d = true) (s2 : SeqAt.shaped e = true) (o : ordD d e = true) (dp : d.depth ≤ 60) : Ev (tOp (rLtD K) ta tb) σ H (.bl (ltD d e)) := fun H1 ex Q q =>
  ha H1 ex _ fun x H2 e2 h2 => hb H2 (ex.trans e2) _ fun y H3 e3 h3 => ⟨d, e, ex_dp e3 h2, h3, SeqAt.canLay_of_shaped s1, SeqAt.canLay_of_shaped s2, o, dp, q H3 (e2.trans e3)⟩
/-- tuple(a new list) -/
theorem ud_tuple {tl : TE} (h : EvLD K tl σ H ds) : EvUD K (tCB (fun xs H Q => ∃ p ys, xs = [.ref p] ∧ ((SqL K H p ys ∧ ∀ l, H l = none → Q (.ref l) (upd H l (.tup ys))) ∨ (SqT K H p ys ∧ Q (.ref p) H))) (tCons tl tNil)) σ H ds := fun H1 e Q q =>
  h H1 e _ fun p H2 ys _ e2 h2 hd => ⟨p, ys, rfl, .inl ⟨sq_of h2, fun l hl => q l _ ys (fresh_back e2 hl) (e2.trans (Ex.new hl)) upd_same (ex_dps (Ex.new hl) hd)⟩⟩
mutual
/-- no list within -/
def noL : PyData → Bool
  | .list _ => false
  | .tuple xs => noLs xs
  | .dict _ => false
  | .none | .bool _ | .int _ | .str _ => true
def noLs : List PyData → Bool
  | [] => true
  | x :: xs => noL x && noLs xs
end
mutual
theorem dp_upd {H : Hp} {D : Addr} {ys zs : List V} (hD : H D = some (.lst ys)) : ∀ {v : V} {d : PyData}, noL d = true → Dp K H v d → Dp K (upd H D (.lst zs)) v d
  | _, _, _, .non => .non
  | _, _, _, .bl b => .bl b
  | _, _, _, .int i => .int i
  | _, _, _, .str x => .str x
  | _, _, n, .lst h a => by simp [noL] at n
  | _, _, n, .tup h a => by
    refine .tup ?_ (dps_upd hD (by simpa [noL] using n) a)
    rcases h with (h | ⟨o, h⟩) | h
    · exact .inl (.inl (by rw [upd_ne (by intro z; rw [z, hD] at h; cases h)]; exact h))
    · exact .inl (.inr ⟨o, by rw [upd_ne (by intro z; rw [z, hD] at h; cases h)]; exact h⟩)
    · exact .inr h
theorem dps_upd {H : Hp} {D : Addr} {ys zs : List V} (hD : H D = some (.lst ys)) : ∀ {vs : List V} {ds : List PyData}, noLs ds = true → DpAll K H vs ds → DpAll K (upd H D (.lst zs)) vs ds
  | _, _, _, .nil => .nil
  | _, _, n, .cons h t => by
    have n' : (noL _ && noLs _) = true := n
    rw [Bool.and_eq_true] at n'
    exact .cons (dp_upd hD n'.1 h) (dps_upd hD n'.2 t)
end
theorem noLs_map {f : Nat → PyData} (h : ∀ i, noL (f i) = true) : ∀ l : List Nat, noLs (l.map f) = true
  | [] => rfl
  | i :: l => by
    show (noL (f i) && noLs (l.map f)) = true
    rw [h i, noLs_map h l]
    rfl
/-- [f(x) for x in xs] -/
theorem dps_snoc : ∀ {vs : List V} {ds : List PyData} {H : Hp} {v : V} {d : PyData}, DpAll K H vs ds → Dp K H v d → DpAll K H (vs ++ [v]) (ds ++ [d])
  | _, _, _, _, _, .nil, h => .cons h .nil
  | _, _, _, _, _, .cons a t, h => .cons a (dps_snoc t h)
theorem ld_lcL {a : Addr} {xs : List V} {tl : TE} {j : Nat} {vs : List Nat} (f : Nat → PyData) (h : Ev tl σ H (.ref a)) (hx : SqL K H a xs) (hz : xs.length ≤ 40000) (hn : ∀ i, noL (f i) = true) (hw : ∀ x, wipe ((wipe σ vs).set j (some x)) vs = wipe σ vs)
    (he : ∀ (i : Nat) (x : V) H1, Ex H H1 → xs[i]? = some x → EvD K te ((wipe σ vs).set j (some x)) H1 (f i)) :
    EvLD K (tLc (iList K tl) (gName j) tYes te vs) σ H ((List.range xs.length).map f) := fun H0 e0 Q q => h H0 e0 _ fun H1 e1 => ⟨a, rfl, ⟨xs, ex_l (e0.trans e1) hx⟩, fun D hD =>
  lc_list (xs := xs) (fun i H' => H1 D = none ∧ Ex H1 H' ∧ ∃ ys, H' D = some (.lst ys) ∧ DpAll K H' ys ((List.range i).map f)) ⟨hD, Ex.new hD, [], upd_same, .nil⟩ (fun i H' _ p => ex_l ((e0.trans e1).trans p.2.1) hx)
    (fun i x H' hi p => by
      obtain ⟨p1, p2, ys, p3, p4⟩ := p
      refine ⟨hw x, ?_⟩
      show te ((wipe σ vs).set j (some x)) H' fun y H4 => ∃ acc, H4 D = some (.lst acc) ∧ acc.length < sizeLine ∧ _
      refine he i x H' ((e0.trans e1).trans p2) hi H' (Ex.refl H') _ fun y H4 e4 hy => ⟨ys, e4 _ _ p3, sz_lt ?_, p1, Ex.mut (p2.trans e4) p1, ys ++ [y], upd_same, ?_⟩
      · have := dps_len p4
        rw [List.length_map, List.length_range] at this
        have := (List.getElem?_eq_some_iff.mp hi).1
        omega
      · rw [List.range_succ, List.map_append]
        exact dps_snoc (dps_upd (e4 _ _ p3) (noLs_map hn _) (ex_dps e4 p4)) (dp_upd (e4 _ _ p3) (hn i) hy))
    (fun H' p => by
      obtain ⟨p1, p2, ys, p3, p4⟩ := p
      exact q D H' ys (fresh_back e1 p1) (e1.trans p2) p3 p4)⟩
end

/-! ### the law's own def, run where the caller stands: nothing is being shown there -/
section
variable {P : Program} {w : World} {K : PySem.W.Frag} {mg mb : Str → Option Value}
theorem run_here {x : Str} {st : Stmt} {N ps : List Str} {k : Nat} {f : Addr} {fd : FuncData} {A : Around} {outer : List Env} {s : Shared} {H : Hp} {args : Args} {us : List Value} {vs : List V} {Q : VK} {base : Heap}
    (D : C8.Def K mg x st f fd) (S : FnScope N ps (C8.fnScope st)) (room : Room (k + 1) A) (env : Env0 P w K mg base A outer s H) (bi : BindsTo s fd args (ps.zip us)) (rv : Vals vs us) (len : vs.length = ps.length)
    (body : ∀ cdv : Value, Room k (A.deeper (envOfC x (C8.fnScope st) s.heap.objs.size f cdv)) →
      ∃ t, PSs (cxOf C8.CX0 P w K mg base N x (C8.fnScope st) f cdv A outer s H C8.E0).nox (C8.fnBody st) t ∧ t { nx := fun _ H' => Q .non H', rt := Q } (start N vs) H) :
    codeAny (model P w) A (.call (.ref f) args) (CR C8.CX0 outer P w H s Q C8.E0) s := by
  obtain ⟨oc, od, dV, kV, doc, pm, an, cdv, ct, osl, rfl, look, code⟩ := D.fn.ex
  have sub : ∀ b o, base.get? b = some o → s.heap.get? b = some o := fun b o e => (env.bs b o e).1
  have inK := env.mod.kin.keeps sub
  have noLim := env.mod.nolimit.keeps sub
  apply codeAny_call_function room.depth (inK _ _ look) rfl S.co S.gen rfl (PySem.W.codeRec_of inK code)
  apply bi
  apply wpAny_newFunctionEnv_cells S.kind
  · rintro ⟨n, v⟩ hy
    have hp := S.par n (List.of_mem_zip hy).1
    exact hp.imp id fun c => ⟨c, PySem.W.cellsFrom_some _ _ _ (.inl c)⟩
  intro e he s1 made
  subst he
  obtain ⟨t, ht, hq⟩ := body cdv (room.deeper _)
  have inv := inv_start (CX := C8.CX0) (E := C8.E0) (N := N) S room.hd env len rv made
  refine ⟨noLim.keeps made.toInCall.keep, codeAny_func ?_⟩
  refine wpAny_mono (ht.nox.run [] s1 _ H _ inv hq) ?_ fun _ _ z => z
  intro fl s' z
  match fl, z with
  | .ret u, ⟨v, σ', H', J, r, q⟩ => exact ⟨v, H', J.os, J.bare, J.base, J.hok, r, q⟩
  | .next, ⟨σ', H', J, q⟩ => exact ⟨V.non, H', J.os, J.bare, J.base, J.hok, rfl, q⟩
  | .brk, ⟨_, _, _, q⟩ => exact q.elim
  | .cont, ⟨_, _, _, q⟩ => exact q.elim
/-- what the call of the law leaves -/
def Done (s₁ : Shared) (r : Result) (s' : Shared) : Prop := r = .ok (.ret (.bool true)) ∧ OldK s₁.heap s'.heap ∧ s'.os = s₁.os ∧ AllBare s'.gens
theorem here_core {fa a : Addr} {s₁ : Shared} {vs : List Value} (H : Hp) (KX : K.In s₁.heap) (hns : s₁.heap.Ns mainGlobals mg) (hb : s₁.heap.Ns builtinsNs mb) (hbb : ∀ x : Str, x ≠ "__name__" → mb x = bootBuiltins x) (hlim : s₁.heap.NoLimit) (hg : s₁.gens = #[])
    (ha : s₁.heap.get? a = some { cls := .type "list", data := .seq vs.toArray }) (hok : HOk P w H s₁.heap) (only : ∀ b u, H b = some u → b = a ∧ K.lookup a = none ∧ ∃ o ys, u = .frz o (.lst ys))
    (body : ∀ base : Heap, K.In base → base.Ns mainGlobals mg → Env0 P w K mg base callerA [] s₁ H → codeAny (model P w) callerA (.call (.ref fa) ⟨[.ref a], []⟩) (CR C8.CX0 [] P w H s₁ (fun v _ => v = .bl true) C8.E0) s₁) :
    codeAny (model P w) callerA (.call (.ref fa) ⟨[.ref a], []⟩) (Done s₁) s₁ := by
  have free : ∀ {b : Addr} {o : Obj}, s₁.heap.get? b = some o → (b = a → False) → (hidT s₁.heap H).get? b = some o := fun {b o} e n => hidT_get e (by
    cases q : H b with
    | none => rfl
    | some u => exact (n (only b u q).1).elim)
  have dictFree : ∀ {b : Addr} {o : Obj} {es : Array DictEntry} {ep : Nat}, s₁.heap.get? b = some o → o.data = .dict es ep → (hidT s₁.heap H).get? b = some o := fun {b o es ep} e d => free e fun z => by
    rw [z, ha] at e
    cases e
    exact nomatch d
  have ns : ∀ {b : Addr} {m : Str → Option Value}, s₁.heap.Ns b m → (hidT s₁.heap H).Ns b m := by
    rintro b m ⟨o, es, ep, e, d, r⟩
    exact ⟨o, es, ep, dictFree e d, d, r⟩
  have inK : K.In (hidT s₁.heap H) := fun b o e => hidT_get (KX b o e) (by
    cases q : H b with
    | none => rfl
    | some u =>
      obtain ⟨z1, z2, _⟩ := only b u q
      rw [z1, z2] at e
      cases e)
  obtain ⟨mc, l1, l2⟩ := hlim
  have env : Env0 P w K mg (hidT s₁.heap H) callerA [] s₁ H :=
    { frames := rfl, mod := ⟨inK, ns hns, ⟨mb, ns hb, hbb⟩, ⟨mc, ns l1, l2⟩⟩, bs := fun b o e => of_hidT e, bsz := Nat.le_of_eq (hidT_size _ _), funs := trivial, frf := fun b z => (List.not_mem_nil z).elim, hok := hok, bare := .of_eq hg }
  refine codeAny_mono (body _ inK (ns hns) env) ?_
  intro r s' z
  match r, z with
  | .error e, z => exact (show False from z).elim
  | .ok .next, z => exact (show False from z).elim
  | .ok .brk, z => exact (show False from z).elim
  | .ok .cont, z => exact (show False from z).elim
  | .ok (.ret u), ⟨v, H', os, bare, un, hok', rel, q⟩ =>
    have q' : v = .bl true := q
    subst q'
    have eu : u = Value.bool true := rel
    subst eu
    refine ⟨rfl, OldK.of_keep fun b o e => ?_, os, bare⟩
    cases hq : H b with
    | none => exact un.keep b o e hq (fun z => (List.not_mem_nil z).elim) List.not_mem_nil
    | some u =>
      obtain ⟨_, _, o2, ys, rfl⟩ := only b u hq
      obtain ⟨w1, _⟩ := hok b _ hq
      obtain ⟨w2, _⟩ := hok' b _ (un.frzs b o2 _ hq)
      rw [e] at w1
      cases w1
      exact w2
theorem here_call {fa a : Addr} {s₁ : Shared} {vs : List Value} {ns : List Int} (KX : K.In s₁.heap) (hns : s₁.heap.Ns mainGlobals mg) (hb : s₁.heap.Ns builtinsNs mb) (hbb : ∀ x : Str, x ≠ "__name__" → mb x = bootBuiltins x) (hlim : s₁.heap.NoLimit) (hg : s₁.gens = #[])
    (ha : s₁.heap.get? a = some { cls := .type "list", data := .seq vs.toArray }) (hi : IntsAre vs ns) (hl : ns.length ≤ sizeLine)
    (body : ∀ (H : Hp) (base : Heap), K.In base → base.Ns mainGlobals mg → SqL K H a (ns.map V.int) → Env0 P w K mg base callerA [] s₁ H → codeAny (model P w) callerA (.call (.ref fa) ⟨[.ref a], []⟩) (CR C8.CX0 [] P w H s₁ (fun v _ => v = .bl true) C8.E0) s₁) :
    codeAny (model P w) callerA (.call (.ref fa) ⟨[.ref a], []⟩) (Done s₁) s₁ := by
  have rv := vals_ints hi
  cases hk : K.lookup a with
  | some o =>
    have e := (KX a o hk).symm.trans ha
    cases e
    refine here_core (fun _ => none) KX hns hb hbb hlim hg ha (fun b u z => nomatch (z : (none : Option HO) = some u)) (fun b u z => nomatch (z : (none : Option HO) = some u)) fun base i1 i2 i3 => body _ base i1 i2 (.inr ⟨_, vs.toArray, _, hk, rfl, rfl, rfl, ?_, by simpa using rv⟩) i3
    rw [List.size_toArray, hi.length]
    exact hl
  | none =>
    refine here_core (upd (fun _ => none) a (.frz { cls := .type "list", data := .seq vs.toArray } (.lst (ns.map V.int)))) KX hns hb hbb hlim hg ha (fun b u z => ?_) (fun b u z => ?_) fun base i1 i2 i3 => body _ base i1 i2 (.inl (.inr ⟨_, upd_same⟩)) i3
    · by_cases e : b = a
      · subst e
        rw [upd_same] at z
        cases z
        exact ⟨ha, by rw [List.length_map]; exact hl, vs, _, rv, ha⟩
      · rw [upd_ne e] at z
        cases z
    · by_cases e : b = a
      · subst e
        rw [upd_same] at z
        cases z
        exact ⟨rfl, hk, _, _, rfl⟩
      · rw [upd_ne e] at z
        cases z
end
/-- the end of a law whose def shows things -/
theorem walk_here {l : PySem.W.OpenLaw} {n k : Nat} {q : Program} {loose : List Str} {XP : (Str → Option Value) → Heap → Prop} {YP : World → Heap → Prop} {d : DefRec} {K : Params → PySem.W.Frag} {st : Stmt} {N : List Str}
    (hn : l.most = some n) (hn2 : n ≤ sizeLine) (hdf : d.params.defaults = []) (hr : Room (k + 1) callerA) (hY : ∀ (w : World) (h : Heap), YP w h → (K w.params).In h) (S : FnScope N ["script"] (C8.fnScope st))
    (F : ∀ (w : World) (mg : Str → Option Value) (fa : Addr) (h : Heap), (K w.params).In h → h.Ns mainGlobals mg → mg d.name = some (.ref fa) →
      ∃ fd : FuncData, C8.Def (K w.params) mg "law" st fa fd ∧ (∀ (s : Shared) (u : Value), BindsTo s fd ⟨[u], []⟩ [("script", u)]) ∧
        ∀ (base : Heap) (s : Shared) (H : Hp) (a : Addr) (ns : List Int) (cdv : Value), (K w.params).In base → base.Ns mainGlobals mg → ns.length ≤ n → SqL (K w.params) H a (ns.map V.int) →
          Room k (callerA.deeper (envOfC "law" (C8.fnScope st) s.heap.objs.size fa cdv)) →
          ∃ t, PSs (cxOf C8.CX0 l.prog w (K w.params) mg base N "law" (C8.fnScope st) fa cdv callerA [] s H C8.E0).nox (C8.fnBody st) t ∧ t { nx := fun _ _ => V.non = .bl true, rt := fun v _ => v = .bl true } (start N [.ref a]) H) :
    PySem.W.WalkO q loose XP YP l.row.toRowW d [] (fun f vs => PySem.call f vs) := by
  apply Att.attach_call hn hdf
  intro w s₀ s₁ mg mb fa o pm cd doc a vs ns G Y ho hd hcd hmg hobj hints hlen hg
  obtain ⟨fd, D, bi, body⟩ := F w mg fa _ (hY w _ Y) G.T.g hmg
  apply here_call (hY w _ Y) G.T.g G.T.b G.T.builtins G.T.nolimit hg hobj hints (Nat.le_trans hlen hn2)
  intro H base i1 i2 hS env
  exact run_here (us := [.ref a]) (vs := [.ref a]) D S hr env (bi s₁ (.ref a)) (.cons rfl .nil) rfl fun cdv room => body base s₁ H a ns cdv i1 i2 hlen hS room
/-! ### repr -/
def rRepr (K : PySem.W.Frag) : List V → Hp → VK → Prop := fun xs H Q => ∃ a d, xs = [.ref a] ∧ Dp K H (.ref a) d ∧ d.showable = true ∧ d.hasDict = false ∧ d.depth ≤ 60 ∧ d.shown.length ≤ sizeLine ∧ Q (.str d.shown) H
theorem call_repr {X : Cx} (hg : X.A.guards = some []) (hu : X.A.units + 64 < cLine) : CallR X (.builtin "repr") (rRepr X.K) := by
  intro pins s σ H xs us Q I r h
  obtain ⟨a, d, rfl, hd, h1, h2, h3, h4, q⟩ := h
  obtain ⟨u, rfl, ru⟩ := vals1 r
  obtain ⟨as, rd⟩ := Dp.reads I d _ u hd ru
  cases (show u = Value.ref a from ru)
  exact repr_of_reads' rd h1 (fun z => by rw [h2] at z; cases z) hg (by omega) (fun _ _ e => e) (fun h' u tk hk => ⟨.str d.shown, H, I.kept hk, ⟨_, rfl⟩, q⟩) h4
theorem ev_repr {K : PySem.W.Frag} {σ : L2.St} {H : Hp} {ta : TE} {a : Addr} {d : PyData} (ha : Ev ta σ H (.ref a)) (hd : Dp K H (.ref a) d) (hx : ∀ H1, Ex H H1 → Dp K H1 (.ref a) d) (h1 : d.showable = true) (h2 : d.hasDict = false) (h3 : d.depth ≤ 60) (h4 : d.shown.length ≤ sizeLine) :
    Ev (tCB (rRepr K) (tCons ta tNil)) σ H (.str d.shown) := fun H1 e Q q =>
  ha H1 e _ fun H2 e2 => ⟨a, d, rfl, hx H2 (e.trans e2), h1, h2, h3, h4, q H2 e2⟩

/-! ### how long a text of data can be -/
theorem app_len (x y : Str) : (x ++ y).length = x.length + y.length := PySem.strLen_append x y
theorem textFrom_le : ∀ (ts : List Str) (k : Nat) (acc : Str), (textFrom k acc ts).length ≤ acc.length + (ts.map fun t => t.length + 2).sum
  | [], k, acc => Nat.le_refl _
  | t :: r, k, acc => by
    rw [textFrom]
    refine Nat.le_trans (textFrom_le r _ _) ?_
    rw [List.map_cons, List.sum_cons]
    split
    · rw [app_len, app_len, show (", " : Str).length = 2 from rfl]; omega
    · rw [app_len, app_len, show (Str.ofString "").length = 0 from rfl]; omega
theorem listText_le (ts : List Str) : (listText ts).length ≤ 2 + (ts.map fun t => t.length + 2).sum := by
  unfold listText
  rw [app_len]
  have := textFrom_le ts 0 "["
  rw [show ("[" : Str).length = 1 from rfl] at this
  rw [show ("]" : Str).length = 1 from rfl]
  omega
theorem join_le : ∀ ts : List Str, (Str.join ", " ts).length ≤ (ts.map fun t => t.length + 2).sum
  | [] => Nat.zero_le _
  | [x] => by show x.length ≤ _; rw [List.map_cons, List.sum_cons]; omega
  | x :: y :: r => by
    have ih := join_le (y :: r)
    have e : Str.join ", " (x :: y :: r) = x ++ ", " ++ Str.join ", " (y :: r) := rfl
    rw [e, app_len, app_len, List.map_cons, List.sum_cons, show (", " : Str).length = 2 from rfl]
    omega
theorem tupleText_le (ts : List Str) : (tupleText ts).length ≤ 4 + (ts.map fun t => t.length + 2).sum := by
  unfold tupleText
  rw [app_len, app_len]
  have := join_le ts
  rw [show ("(" : Str).length = 1 from rfl]
  split
  · rw [show ((",)" : String) : Str).length = 2 from rfl]; omega
  · rw [show ((")" : String) : Str).length = 1 from rfl]; omega
mutual
/-- a bound of its text -/
def shB : PyData → Nat
  | .str x => 10 * x.length + 2
  | .list xs => 4 + shBs xs
  | .tuple xs => 4 + shBs xs
  | .none | .bool _ | .int _ | .dict _ => 2000
def shBs : List PyData → Nat
  | [] => 0
  | x :: xs => shB x + 2 + shBs xs
/-- may be shown -/
def shOk : PyData → Bool
  | .str x => PyData.strOk x
  | .int i => decide (i.natAbs.log2 < 1920)
  | .list xs => shOks xs
  | .tuple xs => shOks xs
  | .none | .bool _ => true
  | .dict _ => false
def shOks : List PyData → Bool
  | [] => true
  | x :: xs => shOk x && shOks xs
end
mutual
theorem shown_le : ∀ d : PyData, shOk d = true → d.shown.length ≤ shB d ∧ d.showable = true ∧ d.hasDict = false
  | .none, _ => ⟨by show 4 ≤ 2000; decide, rfl, rfl⟩
  | .bool b, _ => ⟨by cases b <;> (show _ ≤ 2000; decide), rfl, rfl⟩
  | .int i, h => by
    have hl : i.natAbs.log2 < 1920 := of_decide_eq_true h
    refine ⟨?_, decide_eq_true hl, rfl⟩
    have e := int_text_length_le (k := 1920) (by decide) hl
    show (Str.ofString (toString i)).length ≤ 2000
    rw [PySem.ofString_length]
    omega
  | .str x, h => by
    refine ⟨?_, rfl, rfl⟩
    show (reprText x).length ≤ 10 * x.length + 2
    refine StrLaws.reprText_len x fun c hc => ?_
    have h' : x.cps.all (· < 0x110000) = true := h
    rw [Array.all_eq_true'] at h'
    have := of_decide_eq_true (h' c (by simpa using hc))
    exact Nat.lt_of_lt_of_le this (by decide)
  | .list xs, h => by
    obtain ⟨h1, h2, h3⟩ := shown_les xs h
    refine ⟨?_, h2, h3⟩
    have := listText_le (PyData.shownAll xs)
    show (listText (PyData.shownAll xs)).length ≤ 4 + shBs xs
    omega
  | .tuple xs, h => by
    obtain ⟨h1, h2, h3⟩ := shown_les xs h
    refine ⟨?_, h2, h3⟩
    have := tupleText_le (PyData.shownAll xs)
    show (tupleText (PyData.shownAll xs)).length ≤ 4 + shBs xs
    omega
theorem shown_les : ∀ ds : List PyData, shOks ds = true → ((PyData.shownAll ds).map fun t => t.length + 2).sum ≤ shBs ds ∧ PyData.showableAll ds = true ∧ PyData.hasDictAll ds = false
  | [], _ => ⟨Nat.le_refl _, rfl, rfl⟩
  | d :: ds, h => by
    have h' : (shOk d && shOks ds) = true := h
    rw [Bool.and_eq_true] at h'
    obtain ⟨a1, a2, a3⟩ := shown_le d h'.1
    obtain ⟨b1, b2, b3⟩ := shown_les ds h'.2
    refine ⟨?_, ?_, ?_⟩
    · rw [PyData.shownAll, List.map_cons, List.sum_cons]
      show _ ≤ shB d + 2 + shBs ds
      omega
    · show (d.showable && PyData.showableAll ds) = true
      rw [a2, b2]
      rfl
    · show (d.hasDict || PyData.hasDictAll ds) = false
      rw [a3, b3]
      rfl
end
theorem ev_shown {K : PySem.W.Frag} {σ : L2.St} {H : Hp} {ta : TE} {d : PyData} (ha : EvD K ta σ H d) (hr : ∀ v H1, Dp K H1 v d → ∃ a, v = .ref a) (h1 : shOk d = true) (h2 : shB d ≤ 1000000) (h3 : d.depth ≤ 60) : Ev (tCB (rRepr K) (tCons ta tNil)) σ H (.str d.shown) := fun H1 e Q q =>
  ha H1 e _ fun v H2 e2 hd => by
    obtain ⟨a, rfl⟩ := hr v H2 hd
    obtain ⟨a1, a2, a3⟩ := shown_le d h1
    exact ⟨a, d, rfl, hd, a2, a3, h3, Nat.le_trans a1 (Nat.le_trans h2 (by decide)), q H2 e2⟩
theorem ref_tup {K : PySem.W.Frag} {ds : List PyData} : ∀ v H1, Dp K H1 v (.tuple ds) → ∃ a, v = .ref a := fun v H1 h => by
  cases h
  exact ⟨_, rfl⟩
theorem ref_lst {K : PySem.W.Frag} {ds : List PyData} : ∀ v H1, Dp K H1 v (.list ds) → ∃ a, v = .ref a := fun v H1 h => by
  cases h
  exact ⟨_, rfl⟩

/-! ### a call of a local that holds a def -/
def tCallH (P : Program) (w : World) (K : PySem.W.Frag) (mg : Str → Option Value) (base : Heap) (i k : Nat) (t : TA) : TE := fun σ H Q => ∃ f sp, σ[i]? = some (some (.ref f)) ∧ L2.Held P w K mg base k f sp ∧ t σ H fun vs H1 => sp vs H1 Q (fun _ _ _ => False)
theorem pe_callH {X : Cx} {x : Str} {p pos : Pos} {e : Expr} {es : List Expr} {t : TA} {i k : Nat} (hr : Room k X.A) (hN : X.N[i]? = some x) (hv : Vis X.env.scope x) (ha : PA X (e :: es) t)
    (hdb : (x == ("__debug__" : Str)) = false := by decide) (hcd : (x == ("__classdict__" : Str)) = false := by decide)
    (he : starEach (e :: es) X.env = (false, eval e X.env) :: starEach es X.env := by rfl) (hpl : (backTo pos (starEach es X.env)).any (·.1) = false := by rfl) : PE X (.Call (.Name x p) (e :: es) [] pos) (tCallH X.prog X.w X.K X.mg X.base i k t) := by
  refine ⟨fun pins s σ H Q I h => ?_⟩
  obtain ⟨f, sp, hs, hH, ht⟩ := h
  refine (L2.pe_callA (S := fun g => if g = f then some sp else none) (fun g sq z => ?_) hr hN hv ha hdb hcd he hpl).run pins s σ H Q I ⟨f, sp, hs, if_pos rfl, ht⟩
  by_cases e : g = f
  · rw [if_pos e] at z
    cases z
    rw [e]
    exact hH
  · rw [if_neg e] at z
    cases z
theorem held_of {P : Program} {w : World} {K : PySem.W.Frag} {mg : Str → Option Value} {base : Heap} {j k : Nat} {x : Str} {sp : Sp} {f : Addr} (c : C8.Cal P w K mg base j x sp []) (m : mg x = some (.ref f)) (h : j ≤ k) : L2.Held P w K mg base k f sp := by
  obtain ⟨f', fd, ps, ds, F, hm, kp, b, v⟩ := c.ex
  rw [m] at hm
  cases hm
  cases v
  exact ⟨fd, ps, F.mono h, kp, b⟩
/-- a def of two values that gives a value -/
def spBin (pre : V → V → Prop) (op : V → V → V) : Sp := fun vs H Q _ => ∃ x y : V, vs = [x, y] ∧ pre x y ∧ ∀ H', Ex H H' → Q (op x y) H'
theorem ec_held {P : Program} {w : World} {K : PySem.W.Frag} {mg : Str → Option Value} {base : Heap} {i k : Nat} {σ : L2.St} {H : Hp} {ta tb : TE} {f : Addr} {pre : V → V → Prop} {op : V → V → V} {x y : V} (hσ : σ[i]? = some (some (.ref f))) (h : L2.Held P w K mg base k f (spBin pre op)) (hp : pre x y) (ha : Ev ta σ H x) (hb : Ev tb σ H y) :
    Ev (tCallH P w K mg base i k (tCons ta (tCons tb tNil))) σ H (op x y) := fun H1 e Q q => ⟨f, _, hσ, h, ha H1 e _ fun H2 e2 => hb H2 (e.trans e2) _ fun H3 e3 => ⟨x, y, rfl, hp, fun H' e' => q H' ((e2.trans e3).trans e')⟩⟩

/-! ### a def under another name: it is held by dicts alone -/
def DnA (K : PySem.W.Frag) (f : Addr) (x : Str) (st : Stmt) (ps : List Str) : Prop := ∃ fd, C8.Fun K x x st f fd ∧ Binds K fd ps [] ∧ PySem.W.keepIn K (.ref f) = true
theorem dnA_mk {K : PySem.W.Frag} {x : Str} {st : Stmt} {f : Addr} {oc : Value} {od an : Option Addr} {osl : Array (Option Value)} {kV doc pm cdv ct : Value} {ps : List Str}
    (l : K.lookup f = some ⟨oc, od, .func (PySem.W.fnOf x x (C8.fnArgs st) (C8.fnBody st) (C8.fnScope st) .none kV doc pm an cdv ct), osl⟩)
    (c : PySem.W.codeIn K cdv x = true) (k : PySem.W.keepIn K (.ref f) = true)
    (h : ∀ (kV doc pm : Value) (an : Option Addr) (cdv ct : Value) (us : List Value), us.length = ps.length → bindArgs (PySem.W.fnOf x x (C8.fnArgs st) (C8.fnBody st) (C8.fnScope st) .none kV doc pm an cdv ct) ⟨us, []⟩ = pure (ps.zip us)) : DnA K f x st ps := by
  have F : C8.Fun K x x st f (PySem.W.fnOf x x (C8.fnArgs st) (C8.fnBody st) (C8.fnScope st) .none kV doc pm an cdv ct) := ⟨oc, od, .none, kV, doc, pm, an, cdv, ct, osl, rfl, l, c⟩
  exact ⟨_, F, C8.Fun.binds F rfl h, k⟩
theorem heldA_of {P : Program} {w : World} {K : PySem.W.Frag} {mg : Str → Option Value} {base : Heap} {f : Addr} {x : Str} {st : Stmt} {N ps : List Str} {k : Nat} {sp : Sp} (D : DnA K f x st ps) (S : FnScope N ps (C8.fnScope st)) (len : ∀ vs H Q E, sp vs H Q E → vs.length = ps.length)
    (hbody : ∀ (f : Addr) (cdv : Value) (A : Around) (outer : List Env) (s : Shared) (H : Hp) (vs : List V) (Q : VK) (E : XK), Room k (A.deeper (envOfC x (C8.fnScope st) s.heap.objs.size f cdv)) → sp vs H Q E →
      ∃ t, PSs (cxOf C8.CX0 P w K mg base N x (C8.fnScope st) f cdv A outer s H E).nox (C8.fnBody st) t ∧ t { nx := fun _ H' => Q .non H', rt := Q } (start N vs) H) : L2.Held P w K mg base (k + 1) f sp := by
  obtain ⟨fd, F, b, kp⟩ := D
  exact ⟨fd, ps, C8.fn0 F S len (hbody f), kp, b⟩

/-! ### dicts whose keys are nested tuples -/
abbrev NK := PySem.NestedKey
mutual
inductive NKey (H : Hp) : NK → V → Prop where
  | non : NKey H .none .non
  | num (i : Int) : NKey H (.num i) (.int i)
  | text (x : Str) : NKey H (.text x) (.str x)
  | tup {a : Addr} {xs : List V} {ks : List NK} (h : H a = some (.tup xs)) (hs : NKeys H ks xs) : NKey H (.tup ks) (.ref a)
inductive NKeys (H : Hp) : List NK → List V → Prop where
  | nil : NKeys H [] []
  | cons {k : NK} {v : V} {ks : List NK} {vs : List V} (h : NKey H k v) (hs : NKeys H ks vs) : NKeys H (k :: ks) (v :: vs)
end
mutual
theorem NKey.mono {H H' : Hp} (t : ∀ b xs, H b = some (.tup xs) → H' b = some (.tup xs)) : ∀ {k : NK} {v : V}, NKey H k v → NKey H' k v
  | _, _, .non => .non
  | _, _, .num i => .num i
  | _, _, .text x => .text x
  | _, _, .tup h hs => .tup (t _ _ h) (NKeys.mono t hs)
theorem NKeys.mono {H H' : Hp} (t : ∀ b xs, H b = some (.tup xs) → H' b = some (.tup xs)) : ∀ {ks : List NK} {vs : List V}, NKeys H ks vs → NKeys H' ks vs
  | _, _, .nil => .nil
  | _, _, .cons h hs => .cons (NKey.mono t h) (NKeys.mono t hs)
end
theorem NKey.ex {H H' : Hp} {k : NK} {v : V} (h : NKey H k v) (e : Ex H H') : NKey H' k v := h.mono fun b xs q => e b _ q
mutual
theorem NKey.is {P : Program} {w : World} {H : Hp} {h : Heap} (ok : HOk P w H h) : ∀ {k : NK} {v : V} {u : Value}, NKey H k v → RelV v u → PySem.NestedIs h k u
  | _, _, u, .non, r => by cases (show u = Value.none from r); exact .none
  | _, _, u, .num i, r => by obtain ⟨t, rfl⟩ := (show ∃ t, u = Value.int i t from r); exact .int i t
  | _, _, u, .text x, r => by obtain ⟨t, rfl⟩ := (show ∃ t, u = Value.str x t from r); exact .text x t
  | _, _, u, .tup (a := a) e hs, r => by
    cases (show u = Value.ref a from r)
    obtain ⟨_, its, rr, o, h1, h2, n, h3⟩ := (show ObjOk P w H h a (.tup _) from ok a _ e)
    exact .tup h1 h2 h3 (by simpa using NKeys.is ok hs rr)
theorem NKeys.is {P : Program} {w : World} {H : Hp} {h : Heap} (ok : HOk P w H h) : ∀ {ks : List NK} {vs : List V} {us : List Value}, NKeys H ks vs → Vals vs us → PySem.NestedAll h ks us
  | _, _, _, .nil, r => by cases r; exact .nil
  | _, _, _, .cons k ks, r => by
    cases r with
    | cons r1 r2 => exact .cons (NKey.is ok k r1) (NKeys.is ok ks r2)
end
def nkd (P : Program) (w : World) : PySem.HeapKind P w NK := PySem.nestedKind P w
def NObj (P : Program) (w : World) (d : Addr) (xs : List (NK × Addr × Value)) : HO := .ext fun h => (d == sysModules) = false ∧ ∃ o es ep, h.get? d = some o ∧ o.ExactDict ∧ o.data = .dict es ep ∧ es.toList = xs.map (entryOfKey (nkd P w)) ∧ (xs.map (·.1)).Nodup
/-- at d stands a dict with the keys and values kvs, in the order of insertion -/
def NDict (P : Program) (w : World) (H : Hp) (d : Addr) (kvs : List (NK × V)) : Prop :=
  ∃ xs : List (NK × Addr × Value), H d = some (NObj P w d xs) ∧ (∀ x ∈ xs, NKey H x.1 (.ref x.2.1) ∧ x.1.depth ≤ 8) ∧ KV kvs (PySem.pairsH xs) ∧ kvs.length ≤ sizeLine
theorem NDict.ex {P : Program} {w : World} {H H' : Hp} {d : Addr} {kvs : List (NK × V)} (h : NDict P w H d kvs) (e : Ex H H') : NDict P w H' d kvs := by
  obtain ⟨xs, h1, h2, h3⟩ := h
  exact ⟨xs, e _ _ h1, fun x hx => ⟨(h2 x hx).1.ex e, (h2 x hx).2⟩, h3⟩
theorem NDict.upd {P : Program} {w : World} {H : Hp} {d p : Addr} {o u : HO} {kvs : List (NK × V)} (h : NDict P w H d kvs) (hp : H p = some u) (hu : ∀ xs, u ≠ .tup xs) (hd : d ≠ p) : NDict P w (upd H p o) d kvs := by
  obtain ⟨xs, h1, h2, h3⟩ := h
  refine ⟨xs, by rw [upd_ne hd]; exact h1, fun x hx => ⟨(h2 x hx).1.mono fun b ys q => ?_, (h2 x hx).2⟩, h3⟩
  rw [upd_ne fun z => ?_]
  · exact q
  · rw [z, hp] at q
    exact hu _ (Option.some.inj q)
theorem NDict.ne {P : Program} {w : World} {H : Hp} {d p : Addr} {o : HO} {kvs : List (NK × V)} (h : NDict P w H d kvs) (hp : H p = some o) (ho : ∀ φ, o ≠ .ext φ) : d ≠ p := fun z => by
  obtain ⟨xs, h1, _⟩ := h
  rw [z, hp] at h1
  exact ho _ (Option.some.inj h1)
theorem NDict.some {P : Program} {w : World} {H : Hp} {d : Addr} {kvs : List (NK × V)} (h : NDict P w H d kvs) : ∃ o, H d = some o := by
  obtain ⟨xs, h1, _⟩ := h
  exact ⟨_, h1⟩
section
variable {P : Program} {w : World} {H : Hp} {h : Heap} {d : Addr} {kvs : List (NK × V)}
theorem NDict.of (ok : HOk P w H h) (e : NDict P w H d kvs) : (d == sysModules) = false ∧ ∃ xs, H d = Option.some (NObj P w d xs) ∧ (∀ x ∈ xs, NKey H x.1 (.ref x.2.1) ∧ x.1.depth ≤ 8) ∧ KV kvs (PySem.pairsH xs) ∧ kvs.length ≤ sizeLine ∧ h.DictOfH (nkd P w) d xs := by
  obtain ⟨xs, h1, h2, h3, h4⟩ := e
  obtain ⟨⟨q1, o, es, ep, q2, q3, q4, q5, q6⟩, _⟩ := (show ObjOk P w H h d (NObj P w d xs) from ok d _ h1)
  exact ⟨q1, xs, h1, h2, h3, h4, o, es, ep, q2, q3, q4, q5, fun x hx => ⟨NKey.is ok (h2 x hx).1 (show RelV (.ref x.2.1) (.ref x.2.1) from rfl), (h2 x hx).2⟩, q6⟩
theorem nobj_ok {xs : List (NK × Addr × Value)} (hd : (d == sysModules) = false) (x : h.DictOfH (nkd P w) d xs) : ObjOk P w H h d (NObj P w d xs) := by
  obtain ⟨o, es, ep, q2, q3, q4, q5, _, q6⟩ := x
  refine ⟨⟨hd, o, es, ep, q2, q3, q4, q5, q6⟩, ⟨o, q2⟩, ?_⟩
  rintro h1 h2 ⟨w1, o, es, ep, w2, w3⟩ k
  exact ⟨w1, o, es, ep, k _ w2, w3⟩
end
/-! the operations -/
def rNIn (P : Program) (w : World) (neg : Bool) : R2 := fun y x H Q => ∃ d kvs k, x = .ref d ∧ NDict P w H d kvs ∧ NKey H k y ∧ (∃ b, y = .ref b) ∧ k.depth ≤ 8 ∧ Q (.bl (if neg then !(valV kvs k).isSome else (valV kvs k).isSome)) H
def tNGet (P : Program) (w : World) (td ty : TE) : TE := fun σ H Q => td σ H fun x H1 => ty σ H1 fun y H2 => ∃ d kvs k b v, x = .ref d ∧ y = .ref b ∧ NDict P w H2 d kvs ∧ NKey H2 k y ∧ k.depth ≤ 8 ∧ valV kvs k = some v ∧ Q v H2
def sNPut (P : Program) (w : World) (td ty tv : TE) : TS := fun D σ H => tv σ H fun v H1 => td σ H1 fun x H2 => ty σ H2 fun y H3 => ∃ d kvs k b, x = .ref d ∧ y = .ref b ∧ NDict P w H3 d kvs ∧ NKey H3 k y ∧ k.depth ≤ 8 ∧ kvs.length < sizeLine ∧
  ∀ xs, NDict P w (upd H3 d (NObj P w d xs)) d (putK kvs k v) → D.nx σ (upd H3 d (NObj P w d xs))
def rNGetOr (P : Program) (w : World) : V → List V → Hp → VK → Prop := fun x xs H Q => ∃ d kvs k b z, x = .ref d ∧ xs = [.ref b, z] ∧ NDict P w H d kvs ∧ NKey H k (.ref b) ∧ k.depth ≤ 8 ∧ Q ((valV kvs k).getD z) H
def tDNewN (P : Program) (w : World) : TE := fun _ H Q => ∀ d, H d = none → NDict P w (upd H d (NObj P w d [])) d [] → Q (.ref d) (upd H d (NObj P w d []))
theorem mem_storedH {xs : List (NK × Addr × Value)} {k : NK} {a : Addr} {v : Value} : ∀ x ∈ storedH xs k a v, (∃ y ∈ xs, x.1 = y.1 ∧ x.2.1 = y.2.1) ∨ (x.1 = k ∧ x.2.1 = a) := by
  intro x hx
  unfold storedH at hx
  split at hx
  · obtain ⟨y, hy, rfl⟩ := List.mem_map.mp hx
    refine .inl ⟨y, hy, ?_⟩
    unfold putAt
    split <;> exact ⟨rfl, rfl⟩
  · rcases List.mem_append.mp hx with q | q
    · exact .inl ⟨x, q, rfl, rfl⟩
    · rw [List.mem_singleton.mp q]
      exact .inr ⟨rfl, rfl⟩
section
variable {X : Cx} {o i e f value : Expr} {pos pos' tpos apos cpos : Pos} {td ty tv tx : TE}
theorem nroom {A : Around} (hu : A.units + 64 < cLine) (P : Program) (w : World) : (nkd P w).room A.in1 := by
  show A.in1.units + 8 < cLine
  rw [Around.in1_units]
  omega
theorem op_nin (hu : X.A.units + 64 < cLine) : OpR X (compareOp .In) (rNIn X.prog X.w false) := by
  intro pins s σ H x y v u Q I rx ry h
  obtain ⟨d, kvs, k, rfl, nd, nk, ⟨b, rfl⟩, kd, q⟩ := h
  obtain rfl : u = Value.ref d := ry
  obtain ⟨hd, xs, _, _, kv, _, dd⟩ := NDict.of I.hok nd
  have hk := NKey.is I.hok nk rx
  cases (show v = Value.ref b from rx)
  refine wpAny_in_heap (knd := nkd X.prog X.w) (nroom hu _ _) ⟨hk, kd⟩ hd dd ?_
  have e := (kv.val k).isSome_eq
  rw [PySem.valueAt_pairsH, Option.isSome_map] at e
  refine ⟨_, H, I.tok _, ?_, q⟩
  show Value.bool _ = Value.bool _
  rw [← e]
  rfl
theorem op_nnotin (hu : X.A.units + 64 < cLine) : OpR X (compareOp .NotIn) (rNIn X.prog X.w true) := by
  intro pins s σ H x y v u Q I rx ry h
  obtain ⟨d, kvs, k, rfl, nd, nk, ⟨b, rfl⟩, kd, q⟩ := h
  obtain rfl : u = Value.ref d := ry
  obtain ⟨hd, xs, _, _, kv, _, dd⟩ := NDict.of I.hok nd
  have hk := NKey.is I.hok nk rx
  cases (show v = Value.ref b from rx)
  refine PySem.notIn_keyed (knd := nkd X.prog X.w) (nroom hu _ _) ⟨hk, kd⟩ hd ⟨xs, dd, rfl⟩ ?_
  have e := (kv.val k).isSome_eq
  refine ⟨_, H, I.tok _, ?_, q⟩
  show Value.bool _ = Value.bool _
  rw [← e]
  rfl
theorem pe_nget (hu : X.A.units + 64 < cLine) (ho : PE X o td) (hi : PE X i ty) (hs : NoSl i) : PE X (.Subscript o i pos) (tNGet X.prog X.w td ty) := by
  refine ⟨fun pins s σ H Q I h => ?_⟩
  refine subD_of PySem.F.slot_dict_getitem.lookup hs (thn (ho.run pins s σ H _ I h) fun u s1 ⟨x, H1, I1, rx, q1⟩ => thn (hi.run pins s1 σ H1 _ I1 q1) fun iv s2 ⟨y, H2, I2, ry, d, kvs, k, b, v, ex, ey, nd, nk, kd, hv, q2⟩ => ?_)
  subst ex ey
  obtain rfl : u = Value.ref d := rx
  obtain ⟨hd, xs, _, _, kv, _, dd⟩ := NDict.of I2.hok nd
  have hk := NKey.is I2.hok nk ry
  obtain rfl : iv = Value.ref b := ry
  obtain ⟨w', hw, rw'⟩ := RelO.some_of (v := v) (o := valueAt (PySem.pairsH xs) k) (by rw [← hv]; exact kv.val k)
  refine ⟨dd.typeIs, PySem.getItem_keyed (knd := nkd X.prog X.w) (nroom hu _ _) ⟨hk, kd⟩ ⟨xs, dd, rfl⟩ hw ⟨v, H2, I2.tok _, rw', q2⟩⟩
theorem ps_nput (hu : X.A.units + 64 < cLine) (ho : PE X o td) (hi : PE X i ty) (hv : PE X value tv) (hs : swapsWith value (some (.Subscript o i pos')) pos.line X.env = pure false) :
    PS X (.Assign [.Subscript o i pos'] value pos) (sNPut X.prog X.w td ty tv) := by
  refine ⟨fun pins s σ H D I h => ?_⟩
  refine wpAny_Assign_Subscript (thn (hv.run pins s σ H _ I h) fun r s1 ⟨v, H1, I1, rv, q1⟩ => thn (ho.run pins s1 σ H1 _ I1 q1) fun u s2 ⟨x, H2, I2, rx, q2⟩ => thn (hi.run pins s2 σ H2 _ I2 q2) fun iv s3 ⟨y, H3, I3, ry, d, kvs, k, b, ex, ey, nd, nk, kd, hl, q3⟩ => ?_) hs
  subst ex ey
  obtain rfl : u = Value.ref d := rx
  obtain ⟨hd, xs, hH, hks, kv, hz, dd⟩ := NDict.of I3.hok nd
  have hk := NKey.is I3.hok nk ry
  obtain rfl : iv = Value.ref b := ry
  have hx : xs.length ≤ sizeLine := by
    have := kv.length
    rw [PySem.pairsH_length] at this
    omega
  refine wpAny_setItem_heap (knd := nkd X.prog X.w) (hsz := hx) (nroom hu _ _) ⟨hk, kd⟩ dd fun h' dd' hs' => ?_
  have he : ∃ q, h'.get? d = some q := let ⟨q, _, _, hq, _⟩ := dd'; ⟨q, hq⟩
  refine ⟨σ, _, d_write (ob := NObj X.prog X.w d (storedH xs k b r)) I3 (by rw [hH]; exact True.intro) hs' he (nobj_ok hd dd'), q3 _ ⟨_, upd_same, fun x hx' => ?_, ?_, ?_⟩⟩
  · have keep : ∀ b ys, H3 b = some (.tup ys) → upd H3 d (NObj X.prog X.w d (storedH xs k b r)) b = some (.tup ys) := fun b ys q => by
      rw [upd_ne fun z => ?_]
      · exact q
      · rw [z, hH] at q
        cases q
    have keep2 : ∀ c ys, H3 c = some (.tup ys) → upd H3 d (NObj X.prog X.w d (storedH xs k b r)) c = some (.tup ys) := fun c ys q => by
      rw [upd_ne fun z => ?_]
      · exact q
      · rw [z, hH] at q
        cases q
    rcases mem_storedH x hx' with ⟨z, hz1, e1, e2⟩ | ⟨e1, e2⟩
    · rw [e1, e2]
      exact ⟨(hks z hz1).1.mono keep2, (hks z hz1).2⟩
    · rw [e1, e2]
      exact ⟨nk.mono keep2, kd⟩
  · rw [PySem.pairsH_storedH]
    exact kv.put k rv
  · have := length_putK kvs k v
    omega
theorem mt_ngetOr (hu : X.A.units + 64 < cLine) : MtR X "dict.get" (rNGetOr X.prog X.w) := by
  intro pins s σ H x xs v us Q I rx rs h
  obtain ⟨d, kvs, k, b, z, rfl, rfl, nd, nk, kd, q⟩ := h
  obtain rfl : v = Value.ref d := rx
  cases rs with
  | cons r1 rs =>
    cases rs with
    | cons r2 rs =>
      cases rs
      obtain ⟨hd, xs, _, _, kv, _, dd⟩ := NDict.of I.hok nd
      have hk := NKey.is I.hok nk r1
      cases r1
      refine PySem.getOr_keyed (knd := nkd X.prog X.w) (nroom hu _ _) ⟨hk, kd⟩ hd ⟨xs, dd, rfl⟩ ⟨_, H, I.tok _, (kv.val k).getD r2, q⟩
theorem dn_empty {P : Program} {w : World} {H : Hp} (h : Heap) (hb : sysModules < h.objs.size) : ObjOk P w H (h.push { cls := .type "dict", data := .dict #[] }) h.objs.size (NObj P w h.objs.size []) :=
  nobj_ok (beq_eq_false_iff_ne.mpr (Ne.symm (Nat.ne_of_lt hb))) (Heap.DictOfH.new h)
theorem pe_dnewN : PE X (.Dict [] [] pos) (tDNewN X.prog X.w) := ⟨fun pins s σ H Q I h =>
  wpAny_Dict_empty ⟨.ref s.heap.objs.size, _, I.laid (a := s.heap.objs.size) (o := NObj X.prog X.w s.heap.objs.size []) (t' := s.toks) (fun _ _ q => Heap.get?_push_of_some _ q) (Nat.le_refl _) (dn_empty s.heap I.big), rfl, h _ (I.hok.fresh (Nat.le_refl _)) ⟨[], upd_same, fun x hx => (by cases hx), Paired.nil, Nat.zero_le _⟩⟩⟩
end
section
variable {P : Program} {w : World} {K : PySem.W.Frag} {σ : L2.St} {H : Hp} {ta tb te tl : TE} {D : Ends} {tz : TS} {d : Addr} {kvs : List (NK × V)} {k : NK} {v x : V}
theorem ev_nin {neg : Bool} {b : Addr} (ha : Ev ta σ H (.ref b)) (hb : Ev tb σ H (.ref d)) (nd : NDict P w H d kvs) (nk : NKey H k (.ref b)) (hd : k.depth ≤ 8) : Ev (tOp (rNIn P w neg) ta tb) σ H (.bl (if neg then !(valV kvs k).isSome else (valV kvs k).isSome)) := fun H1 e Q q =>
  ha H1 e _ fun H2 e2 => hb H2 (e.trans e2) _ fun H3 e3 => ⟨d, kvs, k, rfl, nd.ex ((e.trans e2).trans e3), nk.ex ((e.trans e2).trans e3), ⟨b, rfl⟩, hd, q H3 (e2.trans e3)⟩
theorem ev_nget {b : Addr} (hb : Ev tb σ H (.ref d)) (ha : Ev ta σ H (.ref b)) (nd : NDict P w H d kvs) (nk : NKey H k (.ref b)) (hd : k.depth ≤ 8) (hv : valV kvs k = some v) : Ev (tNGet P w tb ta) σ H v := fun H1 e Q q =>
  hb H1 e _ fun H2 e2 => ha H2 (e.trans e2) _ fun H3 e3 => ⟨d, kvs, k, b, v, rfl, rfl, nd.ex ((e.trans e2).trans e3), nk.ex ((e.trans e2).trans e3), hd, hv, q H3 (e2.trans e3)⟩
theorem s_nput {b : Addr} (hv : Ev te σ H v) (hb : Ev tb σ H (.ref d)) (ha : Ev ta σ H (.ref b)) (nd : NDict P w H d kvs) (nk : NKey H k (.ref b)) (hd : k.depth ≤ 8) (hz : kvs.length < 100000)
    (q : ∀ H1 xs, Ex H H1 → NDict P w (upd H1 d (NObj P w d xs)) d (putK kvs k v) → D.nx σ (upd H1 d (NObj P w d xs))) : sNPut P w tb ta te D σ H :=
  hv H (Ex.refl H) _ fun H1 e1 => hb H1 e1 _ fun H2 e2 => ha H2 (e1.trans e2) _ fun H3 e3 => ⟨d, kvs, k, b, rfl, rfl, nd.ex ((e1.trans e2).trans e3), nk.ex ((e1.trans e2).trans e3), hd, sz_lt hz, fun xs n => q H3 xs ((e1.trans e2).trans e3) n⟩
theorem q_nput {b : Addr} (hv : Ev te σ H v) (hb : Ev tb σ H (.ref d)) (ha : Ev ta σ H (.ref b)) (nd : NDict P w H d kvs) (nk : NKey H k (.ref b)) (hd : k.depth ≤ 8) (hz : kvs.length < 100000)
    (q : ∀ H1 xs, Ex H H1 → NDict P w (upd H1 d (NObj P w d xs)) d (putK kvs k v) → tz D σ (upd H1 d (NObj P w d xs))) : tSeq (sNPut P w tb ta te) tz D σ H := s_nput (D := { D with nx := tz D }) hv hb ha nd nk hd hz q
theorem q_dnewN {i : Nat} (q : ∀ d H1, H d = none → Ex H H1 → NDict P w H1 d [] → tz D (σ.set i (some (.ref d))) H1) : tSeq (tAsg (tDNewN P w) (gName i)) tz D σ H := fun d hd n => q d _ hd (Ex.new hd) n
end

def limV (n : Int) : V := if -1000000000000000 ≤ n ∧ n ≤ 1000000000000000 then .int n else .non
def topS (i : Nat) : Stmt := PySem.Challenge.pw_stylobate_k38_groups_of_rows.main.body.getD i (.Pass ⟨0, 0, 0, 0⟩)
abbrev s_is_digits : Stmt := topS 2
abbrev n_is_digits : List Str := ["text"]
theorem sc_is_digits : FnScope n_is_digits ["text"] (C8.fnScope s_is_digits) := C8.fnScope_by (by decide +kernel)
abbrev s__pattern_parts : Stmt := topS 3
abbrev n__pattern_parts : List Str := ["pattern", "signs", "stars", "at", "sign"]
theorem sc__pattern_parts : FnScope n__pattern_parts ["pattern"] (C8.fnScope s__pattern_parts) := C8.fnScope_by (by decide +kernel)
abbrev s__places_of : Stmt := topS 4
abbrev n__places_of : List Str := ["signs", "wanted", "bits", "at", "sign"]
theorem sc__places_of : FnScope n__places_of ["signs", "wanted"] (C8.fnScope s__places_of) := C8.fnScope_by (by decide +kernel)
abbrev s_is_like : Stmt := topS 5
abbrev n_is_like : List Str := ["text", "pattern", "signs", "stars", "loops", "at", "star", "takes", "reached", "sign"]
theorem sc_is_like : FnScope n_is_like ["text", "pattern"] (C8.fnScope s_is_like) := C8.fnScope_by (by decide +kernel)
abbrev s_pieces : Stmt := topS 6
abbrev n_pieces : List Str := ["text", "separator"]
theorem sc_pieces : FnScope n_pieces ["text", "separator"] (C8.fnScope s_pieces) := C8.fnScope_by (by decide +kernel)
abbrev s_lowered : Stmt := topS 7
abbrev n_lowered : List Str := ["text"]
theorem sc_lowered : FnScope n_lowered ["text"] (C8.fnScope s_lowered) := C8.fnScope_by (by decide +kernel)
abbrev s_raised : Stmt := topS 8
abbrev n_raised : List Str := ["text"]
theorem sc_raised : FnScope n_raised ["text"] (C8.fnScope s_raised) := C8.fnScope_by (by decide +kernel)
abbrev s_limited : Stmt := topS 13
abbrev n_limited : List Str := ["number"]
theorem sc_limited : FnScope n_limited ["number"] (C8.fnScope s_limited) := C8.fnScope_by (by decide +kernel)
abbrev s_rounded : Stmt := topS 14
abbrev n_rounded : List Str := ["number", "divisor", "size"]
theorem sc_rounded : FnScope n_rounded ["number", "divisor"] (C8.fnScope s_rounded) := C8.fnScope_by (by decide +kernel)
abbrev s_quotient : Stmt := topS 15
abbrev n_quotient : List Str := ["number", "divisor", "size"]
theorem sc_quotient : FnScope n_quotient ["number", "divisor"] (C8.fnScope s_quotient) := C8.fnScope_by (by decide +kernel)
abbrev s_decimal_text : Stmt := topS 16
abbrev n_decimal_text : List Str := ["number", "whole", "rest", "sign", "digits"]
theorem sc_decimal_text : FnScope n_decimal_text ["number"] (C8.fnScope s_decimal_text) := C8.fnScope_by (by decide +kernel)
abbrev s_read_digits : Stmt := topS 17
abbrev n_read_digits : List Str := ["digits", "needed"]
theorem sc_read_digits : FnScope n_read_digits ["digits"] (C8.fnScope s_read_digits) := C8.fnScope_by (by decide +kernel)
abbrev s__signed : Stmt := topS 18
abbrev n__signed : List Str := ["sign", "digits", "size"]
theorem sc__signed : FnScope n__signed ["sign", "digits"] (C8.fnScope s__signed) := C8.fnScope_by (by decide +kernel)
abbrev s_read_integer : Stmt := topS 19
abbrev n_read_integer : List Str := ["text", "sign", "digits"]
theorem sc_read_integer : FnScope n_read_integer ["text"] (C8.fnScope s_read_integer) := C8.fnScope_by (by decide +kernel)
abbrev s_read_decimal : Stmt := topS 20
abbrev n_read_decimal : List Str := ["text", "sign", "size", "whole", "dot", "part"]
theorem sc_read_decimal : FnScope n_read_decimal ["text"] (C8.fnScope s_read_decimal) := C8.fnScope_by (by decide +kernel)
abbrev s_kind_rank : Stmt := topS 22
abbrev n_kind_rank : List Str := ["value"]
theorem sc_kind_rank : FnScope n_kind_rank ["value"] (C8.fnScope s_kind_rank) := C8.fnScope_by (by decide +kernel)
abbrev s_is_integer : Stmt := topS 23
abbrev n_is_integer : List Str := ["value"]
theorem sc_is_integer : FnScope n_is_integer ["value"] (C8.fnScope s_is_integer) := C8.fnScope_by (by decide +kernel)
abbrev s_rank : Stmt := topS 24
abbrev n_rank : List Str := ["value", "kind"]
theorem sc_rank : FnScope n_rank ["value"] (C8.fnScope s_rank) := C8.fnScope_by (by decide +kernel)
abbrev s_row_rank : Stmt := topS 25
abbrev n_row_rank : List Str := ["row", "value"]
theorem sc_row_rank : FnScope n_row_rank ["row"] (C8.fnScope s_row_rank) := C8.fnScope_by (by decide +kernel)
abbrev s_same : Stmt := topS 26
abbrev n_same : List Str := ["first", "second"]
theorem sc_same : FnScope n_same ["first", "second"] (C8.fnScope s_same) := C8.fnScope_by (by decide +kernel)
abbrev s_before : Stmt := topS 27
abbrev n_before : List Str := ["first", "second"]
theorem sc_before : FnScope n_before ["first", "second"] (C8.fnScope s_before) := C8.fnScope_by (by decide +kernel)
abbrev s_is_day : Stmt := topS 37
abbrev n_is_day : List Str := ["value"]
theorem sc_is_day : FnScope n_is_day ["value"] (C8.fnScope s_is_day) := C8.fnScope_by (by decide +kernel)
abbrev s__is_leap : Stmt := topS 38
abbrev n__is_leap : List Str := ["year"]
theorem sc__is_leap : FnScope n__is_leap ["year"] (C8.fnScope s__is_leap) := C8.fnScope_by (by decide +kernel)
abbrev s_month_length : Stmt := topS 39
abbrev n_month_length : List Str := ["year", "month"]
theorem sc_month_length : FnScope n_month_length ["year", "month"] (C8.fnScope s_month_length) := C8.fnScope_by (by decide +kernel)
abbrev s_day_of : Stmt := topS 40
abbrev n_day_of : List Str := ["year", "month", "date", "gone", "days", "earlier"]
theorem sc_day_of : FnScope n_day_of ["year", "month", "date"] (C8.fnScope s_day_of) := C8.fnScope_by (by decide +kernel)
abbrev s_date_of : Stmt := topS 41
abbrev n_date_of : List Str := ["day", "cycles", "rest", "centuries", "fours", "years", "year", "month"]
theorem sc_date_of : FnScope n_date_of ["day"] (C8.fnScope s_date_of) := C8.fnScope_by (by decide +kernel)
abbrev s_date_text : Stmt := topS 42
abbrev n_date_text : List Str := ["day", "year", "month", "date"]
theorem sc_date_text : FnScope n_date_text ["day"] (C8.fnScope s_date_text) := C8.fnScope_by (by decide +kernel)
abbrev s_read_date : Stmt := topS 43
abbrev n_read_date : List Str := ["text", "year", "month", "date"]
theorem sc_read_date : FnScope n_read_date ["text"] (C8.fnScope s_read_date) := C8.fnScope_by (by decide +kernel)
abbrev s_negated : Stmt := topS 45
abbrev n_negated : List Str := ["value"]
theorem sc_negated : FnScope n_negated ["value"] (C8.fnScope s_negated) := C8.fnScope_by (by decide +kernel)
abbrev s_both : Stmt := topS 46
abbrev n_both : List Str := ["first", "second"]
theorem sc_both : FnScope n_both ["first", "second"] (C8.fnScope s_both) := C8.fnScope_by (by decide +kernel)
abbrev s_either : Stmt := topS 47
abbrev n_either : List Str := ["first", "second"]
theorem sc_either : FnScope n_either ["first", "second"] (C8.fnScope s_either) := C8.fnScope_by (by decide +kernel)
abbrev s__negate : Stmt := topS 49
abbrev n__negate : List Str := ["number"]
theorem sc__negate : FnScope n__negate ["number"] (C8.fnScope s__negate) := C8.fnScope_by (by decide +kernel)
abbrev s__size : Stmt := topS 50
abbrev n__size : List Str := ["number"]
theorem sc__size : FnScope n__size ["number"] (C8.fnScope s__size) := C8.fnScope_by (by decide +kernel)
abbrev s__sign : Stmt := topS 51
abbrev n__sign : List Str := ["number"]
theorem sc__sign : FnScope n__sign ["number"] (C8.fnScope s__sign) := C8.fnScope_by (by decide +kernel)
abbrev s__value : Stmt := topS 52
abbrev n__value : List Str := ["value"]
theorem sc__value : FnScope n__value ["value"] (C8.fnScope s__value) := C8.fnScope_by (by decide +kernel)
abbrev s__to_decimal : Stmt := topS 53
abbrev n__to_decimal : List Str := ["number"]
theorem sc__to_decimal : FnScope n__to_decimal ["number"] (C8.fnScope s__to_decimal) := C8.fnScope_by (by decide +kernel)
abbrev s__to_integer : Stmt := topS 54
abbrev n__to_integer : List Str := ["number"]
theorem sc__to_integer : FnScope n__to_integer ["number"] (C8.fnScope s__to_integer) := C8.fnScope_by (by decide +kernel)
abbrev s__integer_text : Stmt := topS 55
abbrev n__integer_text : List Str := ["number"]
theorem sc__integer_text : FnScope n__integer_text ["number"] (C8.fnScope s__integer_text) := C8.fnScope_by (by decide +kernel)
abbrev s__decimal_text : Stmt := topS 56
abbrev n__decimal_text : List Str := ["number"]
theorem sc__decimal_text : FnScope n__decimal_text ["number"] (C8.fnScope s__decimal_text) := C8.fnScope_by (by decide +kernel)
abbrev s__lower : Stmt := topS 57
abbrev n__lower : List Str := ["text"]
theorem sc__lower : FnScope n__lower ["text"] (C8.fnScope s__lower) := C8.fnScope_by (by decide +kernel)
abbrev s__upper : Stmt := topS 58
abbrev n__upper : List Str := ["text"]
theorem sc__upper : FnScope n__upper ["text"] (C8.fnScope s__upper) := C8.fnScope_by (by decide +kernel)
abbrev s__length : Stmt := topS 59
abbrev n__length : List Str := ["text"]
theorem sc__length : FnScope n__length ["text"] (C8.fnScope s__length) := C8.fnScope_by (by decide +kernel)
abbrev s__trim : Stmt := topS 60
abbrev n__trim : List Str := ["text"]
theorem sc__trim : FnScope n__trim ["text"] (C8.fnScope s__trim) := C8.fnScope_by (by decide +kernel)
abbrev s__read_integer : Stmt := topS 61
abbrev n__read_integer : List Str := ["text"]
theorem sc__read_integer : FnScope n__read_integer ["text"] (C8.fnScope s__read_integer) := C8.fnScope_by (by decide +kernel)
abbrev s__read_decimal : Stmt := topS 62
abbrev n__read_decimal : List Str := ["text"]
theorem sc__read_decimal : FnScope n__read_decimal ["text"] (C8.fnScope s__read_decimal) := C8.fnScope_by (by decide +kernel)
abbrev s__read_date : Stmt := topS 63
abbrev n__read_date : List Str := ["text"]
theorem sc__read_date : FnScope n__read_date ["text"] (C8.fnScope s__read_date) := C8.fnScope_by (by decide +kernel)
abbrev s__year : Stmt := topS 64
abbrev n__year : List Str := ["day"]
theorem sc__year : FnScope n__year ["day"] (C8.fnScope s__year) := C8.fnScope_by (by decide +kernel)
abbrev s__month : Stmt := topS 65
abbrev n__month : List Str := ["day"]
theorem sc__month : FnScope n__month ["day"] (C8.fnScope s__month) := C8.fnScope_by (by decide +kernel)
abbrev s__date : Stmt := topS 66
abbrev n__date : List Str := ["day"]
theorem sc__date : FnScope n__date ["day"] (C8.fnScope s__date) := C8.fnScope_by (by decide +kernel)
abbrev s__weekday : Stmt := topS 67
abbrev n__weekday : List Str := ["day"]
theorem sc__weekday : FnScope n__weekday ["day"] (C8.fnScope s__weekday) := C8.fnScope_by (by decide +kernel)
abbrev s__month_start : Stmt := topS 68
abbrev n__month_start : List Str := ["day", "year", "month", "_"]
theorem sc__month_start : FnScope n__month_start ["day"] (C8.fnScope s__month_start) := C8.fnScope_by (by decide +kernel)
abbrev s__year_start : Stmt := topS 69
abbrev n__year_start : List Str := ["day"]
theorem sc__year_start : FnScope n__year_start ["day"] (C8.fnScope s__year_start) := C8.fnScope_by (by decide +kernel)
abbrev s__week_start : Stmt := topS 70
abbrev n__week_start : List Str := ["day"]
theorem sc__week_start : FnScope n__week_start ["day"] (C8.fnScope s__week_start) := C8.fnScope_by (by decide +kernel)
abbrev s__date_text : Stmt := topS 71
abbrev n__date_text : List Str := ["day"]
theorem sc__date_text : FnScope n__date_text ["day"] (C8.fnScope s__date_text) := C8.fnScope_by (by decide +kernel)
abbrev s_value_of_one : Stmt := topS 75
abbrev n_value_of_one : List Str := ["name", "value", "action"]
theorem sc_value_of_one : FnScope n_value_of_one ["name", "value"] (C8.fnScope s_value_of_one) := C8.fnScope_by (by decide +kernel)
abbrev s__part : Stmt := topS 77
abbrev n__part : List Str := ["text", "start", "count", "first", "behind"]
theorem sc__part : FnScope n__part ["text", "start", "count"] (C8.fnScope s__part) := C8.fnScope_by (by decide +kernel)
abbrev s__split : Stmt := topS 78
abbrev n__split : List Str := ["text", "separator", "number", "found"]
theorem sc__split : FnScope n__split ["text", "separator", "number"] (C8.fnScope s__split) := C8.fnScope_by (by decide +kernel)
abbrev s__replace : Stmt := topS 79
abbrev n__replace : List Str := ["text", "old", "new", "found", "length", "piece"]
theorem sc__replace : FnScope n__replace ["text", "old", "new"] (C8.fnScope s__replace) := C8.fnScope_by (by decide +kernel)
abbrev s__pad : Stmt := topS 80
abbrev n__pad : List Str := ["text", "sign", "length"]
theorem sc__pad : FnScope n__pad ["text", "sign", "length"] (C8.fnScope s__pad) := C8.fnScope_by (by decide +kernel)
abbrev s_value_of_three : Stmt := topS 82
abbrev n_value_of_three : List Str := ["name", "first", "second", "third", "action"]
theorem sc_value_of_three : FnScope n_value_of_three ["name", "first", "second", "third"] (C8.fnScope s_value_of_three) := C8.fnScope_by (by decide +kernel)
abbrev s__both : Stmt := topS 84
abbrev n__both : List Str := ["first", "second"]
theorem sc__both : FnScope n__both ["first", "second"] (C8.fnScope s__both) := C8.fnScope_by (by decide +kernel)
abbrev s__either : Stmt := topS 85
abbrev n__either : List Str := ["first", "second"]
theorem sc__either : FnScope n__either ["first", "second"] (C8.fnScope s__either) := C8.fnScope_by (by decide +kernel)
abbrev s__same : Stmt := topS 86
abbrev n__same : List Str := ["first", "second"]
theorem sc__same : FnScope n__same ["first", "second"] (C8.fnScope s__same) := C8.fnScope_by (by decide +kernel)
abbrev s__first_known : Stmt := topS 87
abbrev n__first_known : List Str := ["first", "second"]
theorem sc__first_known : FnScope n__first_known ["first", "second"] (C8.fnScope s__first_known) := C8.fnScope_by (by decide +kernel)
abbrev s__equal : Stmt := topS 88
abbrev n__equal : List Str := ["first", "second"]
theorem sc__equal : FnScope n__equal ["first", "second"] (C8.fnScope s__equal) := C8.fnScope_by (by decide +kernel)
abbrev s__less : Stmt := topS 89
abbrev n__less : List Str := ["first", "second"]
theorem sc__less : FnScope n__less ["first", "second"] (C8.fnScope s__less) := C8.fnScope_by (by decide +kernel)
abbrev s__at_most : Stmt := topS 90
abbrev n__at_most : List Str := ["first", "second"]
theorem sc__at_most : FnScope n__at_most ["first", "second"] (C8.fnScope s__at_most) := C8.fnScope_by (by decide +kernel)
abbrev s_least_of_two : Stmt := topS 91
abbrev n_least_of_two : List Str := ["first", "second"]
theorem sc_least_of_two : FnScope n_least_of_two ["first", "second"] (C8.fnScope s_least_of_two) := C8.fnScope_by (by decide +kernel)
abbrev s_greatest_of_two : Stmt := topS 93
abbrev n_greatest_of_two : List Str := ["first", "second"]
theorem sc_greatest_of_two : FnScope n_greatest_of_two ["first", "second"] (C8.fnScope s_greatest_of_two) := C8.fnScope_by (by decide +kernel)
abbrev s__add : Stmt := topS 95
abbrev n__add : List Str := ["first", "second"]
theorem sc__add : FnScope n__add ["first", "second"] (C8.fnScope s__add) := C8.fnScope_by (by decide +kernel)
abbrev s__subtract : Stmt := topS 96
abbrev n__subtract : List Str := ["first", "second"]
theorem sc__subtract : FnScope n__subtract ["first", "second"] (C8.fnScope s__subtract) := C8.fnScope_by (by decide +kernel)
abbrev s__multiply : Stmt := topS 97
abbrev n__multiply : List Str := ["first", "second"]
theorem sc__multiply : FnScope n__multiply ["first", "second"] (C8.fnScope s__multiply) := C8.fnScope_by (by decide +kernel)
abbrev s__divide : Stmt := topS 98
abbrev n__divide : List Str := ["first", "second"]
theorem sc__divide : FnScope n__divide ["first", "second"] (C8.fnScope s__divide) := C8.fnScope_by (by decide +kernel)
abbrev s__rest : Stmt := topS 99
abbrev n__rest : List Str := ["first", "second"]
theorem sc__rest : FnScope n__rest ["first", "second"] (C8.fnScope s__rest) := C8.fnScope_by (by decide +kernel)
abbrev s__multiply_decimals : Stmt := topS 100
abbrev n__multiply_decimals : List Str := ["first", "second"]
theorem sc__multiply_decimals : FnScope n__multiply_decimals ["first", "second"] (C8.fnScope s__multiply_decimals) := C8.fnScope_by (by decide +kernel)
abbrev s__divide_decimals : Stmt := topS 101
abbrev n__divide_decimals : List Str := ["first", "second"]
theorem sc__divide_decimals : FnScope n__divide_decimals ["first", "second"] (C8.fnScope s__divide_decimals) := C8.fnScope_by (by decide +kernel)
abbrev s__join : Stmt := topS 102
abbrev n__join : List Str := ["first", "second"]
theorem sc__join : FnScope n__join ["first", "second"] (C8.fnScope s__join) := C8.fnScope_by (by decide +kernel)
abbrev s__like : Stmt := topS 103
abbrev n__like : List Str := ["first", "second"]
theorem sc__like : FnScope n__like ["first", "second"] (C8.fnScope s__like) := C8.fnScope_by (by decide +kernel)
abbrev s__position : Stmt := topS 104
abbrev n__position : List Str := ["first", "second"]
theorem sc__position : FnScope n__position ["first", "second"] (C8.fnScope s__position) := C8.fnScope_by (by decide +kernel)
abbrev s__add_days : Stmt := topS 105
abbrev n__add_days : List Str := ["day", "many", "later"]
theorem sc__add_days : FnScope n__add_days ["day", "many"] (C8.fnScope s__add_days) := C8.fnScope_by (by decide +kernel)
abbrev s__add_months : Stmt := topS 106
abbrev n__add_months : List Str := ["day", "many", "year", "month", "date", "years", "before_it"]
theorem sc__add_months : FnScope n__add_months ["day", "many"] (C8.fnScope s__add_months) := C8.fnScope_by (by decide +kernel)
abbrev s__are_alike : Stmt := topS 112
abbrev n__are_alike : List Str := ["first", "second"]
theorem sc__are_alike : FnScope n__are_alike ["first", "second"] (C8.fnScope s__are_alike) := C8.fnScope_by (by decide +kernel)
abbrev s_value_of_two : Stmt := topS 113
abbrev n_value_of_two : List Str := ["name", "first", "second", "action"]
theorem sc_value_of_two : FnScope n_value_of_two ["name", "first", "second"] (C8.fnScope s_value_of_two) := C8.fnScope_by (by decide +kernel)
abbrev s_unary : Stmt := topS 115
abbrev n_unary : List Str := ["name", "value"]
theorem sc_unary : FnScope n_unary ["name", "value"] (C8.fnScope s_unary) := C8.fnScope_by (by decide +kernel)
abbrev s_binary : Stmt := topS 116
abbrev n_binary : List Str := ["name", "first", "second"]
theorem sc_binary : FnScope n_binary ["name", "first", "second"] (C8.fnScope s_binary) := C8.fnScope_by (by decide +kernel)
abbrev s_ternary : Stmt := topS 117
abbrev n_ternary : List Str := ["name", "first", "second", "third"]
theorem sc_ternary : FnScope n_ternary ["name", "first", "second", "third"] (C8.fnScope s_ternary) := C8.fnScope_by (by decide +kernel)
abbrev s_evaluate : Stmt := topS 119
abbrev n_evaluate : List Str := ["expression", "row", "form", "number", "chosen", "first", "second", "third"]
theorem sc_evaluate : FnScope n_evaluate ["expression", "row"] (C8.fnScope s_evaluate) := C8.fnScope_by (by decide +kernel)
abbrev s_evaluate_all : Stmt := topS 120
abbrev n_evaluate_all : List Str := ["expressions", "row", "expression"]
theorem sc_evaluate_all : FnScope n_evaluate_all ["expressions", "row"] (C8.fnScope s_evaluate_all) := C8.fnScope_by (by decide +kernel)
abbrev s__known : Stmt := topS 123
abbrev n__known : List Str := ["values", "value"]
theorem sc__known : FnScope n__known ["values"] (C8.fnScope s__known) := C8.fnScope_by (by decide +kernel)
abbrev s__integers : Stmt := topS 124
abbrev n__integers : List Str := ["values", "value"]
theorem sc__integers : FnScope n__integers ["values"] (C8.fnScope s__integers) := C8.fnScope_by (by decide +kernel)
abbrev s__booleans : Stmt := topS 125
abbrev n__booleans : List Str := ["values", "value"]
theorem sc__booleans : FnScope n__booleans ["values"] (C8.fnScope s__booleans) := C8.fnScope_by (by decide +kernel)
abbrev s__count : Stmt := topS 126
abbrev n__count : List Str := ["values"]
theorem sc__count : FnScope n__count ["values"] (C8.fnScope s__count) := C8.fnScope_by (by decide +kernel)
abbrev s__distinct : Stmt := topS 127
abbrev n__distinct : List Str := ["values", "value"]
theorem sc__distinct : FnScope n__distinct ["values"] (C8.fnScope s__distinct) := C8.fnScope_by (by decide +kernel)
abbrev s__sum : Stmt := topS 128
abbrev n__sum : List Str := ["values", "integers"]
theorem sc__sum : FnScope n__sum ["values"] (C8.fnScope s__sum) := C8.fnScope_by (by decide +kernel)
abbrev s__least : Stmt := topS 129
abbrev n__least : List Str := ["values"]
theorem sc__least : FnScope n__least ["values"] (C8.fnScope s__least) := C8.fnScope_by (by decide +kernel)
abbrev s_least_aggregates : Stmt := topS 129
abbrev n_least_aggregates : List Str := ["values"]
theorem sc_least_aggregates : FnScope n_least_aggregates ["values"] (C8.fnScope s_least_aggregates) := C8.fnScope_by (by decide +kernel)
abbrev s__greatest : Stmt := topS 131
abbrev n__greatest : List Str := ["values"]
theorem sc__greatest : FnScope n__greatest ["values"] (C8.fnScope s__greatest) := C8.fnScope_by (by decide +kernel)
abbrev s_greatest_aggregates : Stmt := topS 131
abbrev n_greatest_aggregates : List Str := ["values"]
theorem sc_greatest_aggregates : FnScope n_greatest_aggregates ["values"] (C8.fnScope s_greatest_aggregates) := C8.fnScope_by (by decide +kernel)
abbrev s__average_decimal : Stmt := topS 133
abbrev n__average_decimal : List Str := ["values", "integers"]
theorem sc__average_decimal : FnScope n__average_decimal ["values"] (C8.fnScope s__average_decimal) := C8.fnScope_by (by decide +kernel)
abbrev s__average : Stmt := topS 134
abbrev n__average : List Str := ["values", "value"]
theorem sc__average : FnScope n__average ["values"] (C8.fnScope s__average) := C8.fnScope_by (by decide +kernel)
abbrev s__every : Stmt := topS 135
abbrev n__every : List Str := ["values", "booleans"]
theorem sc__every : FnScope n__every ["values"] (C8.fnScope s__every) := C8.fnScope_by (by decide +kernel)
abbrev s__some : Stmt := topS 136
abbrev n__some : List Str := ["values", "booleans"]
theorem sc__some : FnScope n__some ["values"] (C8.fnScope s__some) := C8.fnScope_by (by decide +kernel)
abbrev s__list : Stmt := topS 137
abbrev n__list : List Str := ["values", "strings", "length", "value", "string"]
theorem sc__list : FnScope n__list ["values"] (C8.fnScope s__list) := C8.fnScope_by (by decide +kernel)
abbrev s_aggregate : Stmt := topS 139
abbrev n_aggregate : List Str := ["value", "rows", "name", "expression", "action", "row"]
theorem sc_aggregate : FnScope n_aggregate ["value", "rows"] (C8.fnScope s_aggregate) := C8.fnScope_by (by decide +kernel)
abbrev s_rows_by_values : Stmt := topS 141
abbrev n_rows_by_values : List Str := ["expressions", "rows", "groups", "row", "values"]
theorem sc_rows_by_values : FnScope n_rows_by_values ["expressions", "rows"] (C8.fnScope s_rows_by_values) := C8.fnScope_by (by decide +kernel)
abbrev s_group_rows : Stmt := topS 142
abbrev n_group_rows : List Str := ["keys", "values", "rows", "groups", "found", "told", "members", "value"]
theorem sc_group_rows : FnScope n_group_rows ["keys", "values", "rows"] (C8.fnScope s_group_rows) := C8.fnScope_by (by decide +kernel)
abbrev s__law_numbers : Stmt := topS 144
abbrev n__law_numbers : List Str := ["script", "count", "numbers", "k", "cell"]
theorem sc__law_numbers : FnScope n__law_numbers ["script", "count"] (C8.fnScope s__law_numbers) := C8.fnScope_by (by decide +kernel)
abbrev s__law_rank : Stmt := topS 145
abbrev n__law_rank : List Str := ["value"]
theorem sc__law_rank : FnScope n__law_rank ["value"] (C8.fnScope s__law_rank) := C8.fnScope_by (by decide +kernel)
abbrev s__law_cells : Stmt := topS 146
abbrev n__law_cells : List Str := ["number", "width", "row", "k", "rest"]
theorem sc__law_cells : FnScope n__law_cells ["number", "width"] (C8.fnScope s__law_cells) := C8.fnScope_by (by decide +kernel)
abbrev s__law_rowlist : Stmt := topS 147
abbrev n__law_rowlist : List Str := ["numbers", "at", "count", "width", "rows", "k"]
theorem sc__law_rowlist : FnScope n__law_rowlist ["numbers", "at", "count", "width"] (C8.fnScope s__law_rowlist) := C8.fnScope_by (by decide +kernel)
abbrev s__law_ranks : Stmt := topS 148
abbrev n__law_ranks : List Str := ["row", "value"]
theorem sc__law_ranks : FnScope n__law_ranks ["row"] (C8.fnScope s__law_ranks) := C8.fnScope_by (by decide +kernel)
abbrev s__law_same_list : Stmt := topS 149
abbrev n__law_same_list : List Str := ["told", "due", "k"]
theorem sc__law_same_list : FnScope n__law_same_list ["told", "due"] (C8.fnScope s__law_same_list) := C8.fnScope_by (by decide +kernel)
abbrev s__law_simple : Stmt := topS 150
abbrev n__law_simple : List Str := ["number", "width", "rest", "one", "other", "choice"]
theorem sc__law_simple : FnScope n__law_simple ["number", "width"] (C8.fnScope s__law_simple) := C8.fnScope_by (by decide +kernel)
abbrev s_law : Stmt := topS 151
abbrev n_law : List Str := ["script", "numbers", "rows", "keys", "names", "values", "k", "name", "kept", "due", "seen", "members", "row", "found", "at", "told", "key", "value"]
theorem sc_law : FnScope n_law ["script"] (C8.fnScope s_law) := C8.fnScope_by (by decide +kernel)
--@SPLIT
/-! ### a list that is drawn from: its one object may change -/
def wo (p : Addr) (H : Hp) : Hp := fun a => if a = p then none else H a
theorem wo_self (p : Addr) (H : Hp) : wo p H p = none := if_pos rfl
theorem wo_ne {p a : Addr} {H : Hp} (h : a ≠ p) : wo p H a = H a := if_neg h
theorem wo_le (p : Addr) (H : Hp) : Ex (wo p H) H := fun a o h => by
  unfold wo at h
  split at h
  · cases h
  · exact h
theorem wx_of {p : Addr} {H H' : Hp} (e : Ex H H') : Ex (wo p H) H' := (wo_le p H).trans e
theorem wx_trans {p : Addr} {H1 H2 H3 : Hp} (a : Ex (wo p H1) H2) (b : Ex (wo p H2) H3) : Ex (wo p H1) H3 := fun x o h => b x o (by
  have hx : x ≠ p := fun z => by
    rw [z, wo_self] at h
    cases h
  rw [wo_ne hx]
  exact a x o h)
theorem wx_back {p : Addr} {H0 H1 H2 : Hp} (h : H0 p = none) (e : Ex H0 H1) (x : Ex (wo p H1) H2) : Ex H0 H2 := fun a o ha => x a o (by
  have hx : a ≠ p := fun z => by
    rw [z, h] at ha
    cases ha
  rw [wo_ne hx]
  exact e a o ha)
theorem wx_to {p : Addr} {H0 H1 : Hp} (h : H0 p = none) (e : Ex H0 H1) : Ex H0 (wo p H1) := wx_back h e (fun _ _ z => z)
theorem wx_mut {p : Addr} {H1 H2 : Hp} {o : HO} (e : Ex (wo p H1) H2) : Ex (wo p H1) (upd H2 p o) := Ex.mut e (wo_self p H1)
def Dr (p : Addr) (H : Hp) : Prop := ∃ s : Int, 0 ≤ s ∧ H p = some (.lst [.int s])
theorem Dr.ex {p : Addr} {H H' : Hp} (d : Dr p H) (e : Ex H H') : Dr p H' := by
  obtain ⟨s, h0, h⟩ := d
  exact ⟨s, h0, e _ _ h⟩
/-- a value that is drawn: one of those with the word P -/
def EvD1 (te : TE) (σ : L2.St) (p : Addr) (H : Hp) (P : V → Prop) : Prop := ∀ H1, Ex (wo p H) H1 → Dr p H1 → ∀ Q : VK, (∀ v H2, P v → Ex (wo p H1) H2 → Dr p H2 → Q v H2) → te σ H1 Q
def EvDT (tt : TT) (σ : L2.St) (p : Addr) (H : Hp) (P : Bool → Prop) : Prop := ∀ H1, Ex (wo p H) H1 → Dr p H1 → ∀ Q : Bool → Hp → Prop, (∀ b H2, P b → Ex (wo p H1) H2 → Dr p H2 → Q b H2) → tt σ H1 Q
def ZP (P : Int → Prop) : V → Prop := fun v => ∃ i, v = .int i ∧ P i
/-- a value of which a word alone is known, all else as it was -/
def EvN (te : TE) (σ : L2.St) (H : Hp) (P : V → Prop) : Prop := ∀ H1, Ex H H1 → ∀ Q : VK, (∀ v H2, P v → Ex H1 H2 → Q v H2) → te σ H1 Q
/-- a new list to draw from -/
def EvC (te : TE) (σ : L2.St) (H : Hp) : Prop := ∀ H1, Ex H H1 → ∀ Q : VK, (∀ p H2, H1 p = none → Ex H1 H2 → Dr p H2 → Q (.ref p) H2) → te σ H1 Q
def sp__law_cell (K : PySem.W.Frag) : Sp := fun vs H Q _ => ∃ (a : Addr) (ns : List Int) (k : Int), vs = [.ref a, .int k] ∧ SqL K H a (ns.map V.int) ∧ 0 ≤ k ∧ ∀ H', Ex H H' → Q (.int (ns.getD k.toNat 0)) H'
def sp__law_state (K : PySem.W.Frag) : Sp := fun vs H Q _ => ∃ c k : Int, vs = [.int c, .int k] ∧ ∀ p H', H p = none → Ex H H' → Dr p H' → Q (.ref p) H'
def sp__law_digit (K : PySem.W.Frag) : Sp := fun vs H Q _ => ∃ (p : Addr) (m : Int), vs = [.ref p, .int m] ∧ Dr p H ∧ 0 < m ∧ m < 2 ^ 400 ∧ ∀ d H', 0 ≤ d → d < m → Ex (wo p H) H' → Dr p H' → Q (.int d) H'
section
variable {K : PySem.W.Frag} {σ : L2.St} {H H' : Hp} {p : Addr} {ta tb te tx : TE} {t u : TT} {x y z v : V} {r : R2} {P R S : V → Prop} {PI RI SI : Int → Prop} {D : Ends} {tz tu tw : TS} {E : XK}
theorem e1_pure (h : Ev te σ (wo p H) v) (hv : P v) : EvD1 te σ p H P := fun H1 e d Q q => h H1 e Q fun H2 e2 => q v H2 hv (wx_of e2) (d.ex e2)
theorem e1_int {i : Int} (h : Ev te σ (wo p H) (.int i)) (hv : PI i) : EvD1 te σ p H (ZP PI) := e1_pure h ⟨i, rfl, hv⟩
theorem e1_mono (h : EvD1 te σ p H P) (k : ∀ v, P v → R v) : EvD1 te σ p H R := fun H1 e d Q q => h H1 e d Q fun v H2 hv e2 d2 => q v H2 (k v hv) e2 d2
theorem ez_mono (h : EvD1 te σ p H (ZP PI)) (k : ∀ i, PI i → RI i) : EvD1 te σ p H (ZP RI) := e1_mono h fun v ⟨i, e, hi⟩ => ⟨i, e, k i hi⟩
theorem ez_op {C : Int → Int → Prop} {g : Int → Int → Int} (ha : EvD1 ta σ p H (ZP PI)) (hb : EvD1 tb σ p H (ZP RI)) (hc : ∀ i j, PI i → RI j → C i j ∧ SI (g i j)) : EvD1 (tOp (rI C fun i j => .int (g i j)) ta tb) σ p H (ZP SI) := fun H1 e d Q q =>
  ha H1 e d _ fun v H2 ⟨i, ev, hi⟩ e2 d2 => hb H2 (wx_trans e e2) d2 _ fun w H3 ⟨j, ew, hj⟩ e3 d3 => ⟨i, j, ev, ew, (hc i j hi hj).1, q _ H3 ⟨_, rfl, (hc i j hi hj).2⟩ (wx_trans e2 e3) d3⟩
theorem ez_op0 {g : Int → Int → Int} (ha : EvD1 ta σ p H (ZP PI)) (hb : EvD1 tb σ p H (ZP RI)) (hc : ∀ i j, PI i → RI j → SI (g i j)) : EvD1 (tOp (rI0 fun i j => .int (g i j)) ta tb) σ p H (ZP SI) := fun H1 e d Q q =>
  ha H1 e d _ fun v H2 ⟨i, ev, hi⟩ e2 d2 => hb H2 (wx_trans e e2) d2 _ fun w H3 ⟨j, ew, hj⟩ e3 d3 => ⟨i, j, ev, ew, q _ H3 ⟨_, rfl, hc i j hi hj⟩ (wx_trans e2 e3) d3⟩
theorem ez_cmp {g : Int → Int → Bool} (ha : EvD1 ta σ p H (ZP PI)) (hb : EvD1 tb σ p H (ZP RI)) : EvD1 (tOp (rI0 fun i j => .bl (g i j)) ta tb) σ p H (fun v => ∃ b, v = .bl b) := fun H1 e d Q q =>
  ha H1 e d _ fun v H2 ⟨i, ev, hi⟩ e2 d2 => hb H2 (wx_trans e e2) d2 _ fun w H3 ⟨j, ew, hj⟩ e3 d3 => ⟨i, j, ev, ew, q _ H3 ⟨_, rfl⟩ (wx_trans e2 e3) d3⟩
theorem ez_eq (ha : EvD1 ta σ p H (ZP PI)) (hb : EvD1 tb σ p H (ZP RI)) : EvD1 (tOp rEq ta tb) σ p H (fun v => ∃ b, v = .bl b) := fun H1 e d Q q =>
  ha H1 e d _ fun v H2 ⟨i, ev, hi⟩ e2 d2 => hb H2 (wx_trans e e2) d2 _ fun w H3 ⟨j, ew, hj⟩ e3 d3 => by
    subst ev ew
    exact ⟨rfl, q _ H3 ⟨_, rfl⟩ (wx_trans e2 e3) d3⟩
theorem ez_int (h : EvD1 ta σ p H (ZP PI)) : EvD1 (tCB (fun xs H Q => (∃ i, xs = [.int i] ∧ Q (.int i) H) ∨ ∃ k, xs = [.bl k] ∧ Q (.int (if k then 1 else 0)) H) (tCons ta tNil)) σ p H (ZP PI) :=
  fun H1 e d Q q => h H1 e d _ fun v H2 ⟨i, ev, hi⟩ e2 d2 => .inl ⟨i, by rw [ev], q _ H2 ⟨i, rfl, hi⟩ e2 d2⟩
/-- _law_digit(state, m) -/
theorem ez_digit {m : Int} (ha : Ev ta σ (wo p H) (.ref p)) (hb : Ev tb σ (wo p H) (.int m)) (h0 : 0 < m) (h1 : m < 2 ^ 400) : EvD1 (tCall (sp__law_digit K) [] E (tCons ta (tCons tb tNil))) σ p H (ZP fun d => 0 ≤ d ∧ d < m) := fun H1 e d Q q =>
  ha H1 e _ fun H2 e2 => hb H2 (e.trans e2) _ fun H3 e3 => ⟨p, m, rfl, d.ex (e2.trans e3), h0, h1, fun d H4 a b e4 d4 => q _ H4 ⟨d, rfl, a, b⟩ (wx_trans (wx_of (e2.trans e3)) e4) d4⟩
theorem edt_test (h : EvD1 te σ p H (fun v => ∃ b, v = .bl b)) : EvDT (tTest te) σ p H (fun _ => True) := fun H1 e d Q q => h H1 e d _ fun v H2 ⟨b, ev⟩ e2 d2 => ⟨b, ev, q b H2 trivial e2 d2⟩
theorem q1_asg {i : Nat} (h : EvD1 te σ p H P) (d : Dr p H) (k : ∀ v H1, P v → Ex (wo p H) H1 → Dr p H1 → tz D (σ.set i (some v)) H1) : tSeq (tAsg te (gName i)) tz D σ H := h H (wo_le p H) d _ fun v H1 hv e1 d1 => k v H1 hv e1 d1
theorem qz_asg {i : Nat} (h : EvD1 te σ p H (ZP PI)) (d : Dr p H) (k : ∀ (n : Int) H1, PI n → Ex (wo p H) H1 → Dr p H1 → tz D (σ.set i (some (.int n))) H1) : tSeq (tAsg te (gName i)) tz D σ H := q1_asg h d fun v H1 ⟨n, ev, hn⟩ e1 d1 => by
  subst ev
  exact k n H1 hn e1 d1
theorem s1_ret (h : EvD1 te σ p H P) (d : Dr p H) (k : ∀ v H1, P v → Ex (wo p H) H1 → Dr p H1 → D.rt v H1) : tRet te D σ H := h H (wo_le p H) d _ fun v H1 hv e1 d1 => k v H1 hv e1 d1
theorem q1_when (h : EvDT t σ p H (fun _ => True)) (d : Dr p H) (h1 : ∀ H1, Ex (wo p H) H1 → Dr p H1 → tu { D with nx := tz D } σ H1) (h2 : ∀ H1, Ex (wo p H) H1 → Dr p H1 → tz D σ H1) : tSeq (tIfS t tu tNext) tz D σ H := h H (wo_le p H) d _ fun b H1 _ e1 d1 => by
  cases b with
  | true =>
    show tu { D with nx := tz D } σ H1
    exact h1 H1 e1 d1
  | false =>
    show tz D σ H1
    exact h2 H1 e1 d1
/-- _law_cell(script, i), _law_state(cell, k) -/
theorem ec_cell {a : Addr} {ns : List Int} {k : Int} (ha : Ev ta σ H (.ref a)) (hb : Ev tb σ H (.int k)) (hS : SqL K H a (ns.map V.int)) (h0 : 0 ≤ k) : Ev (tCall (sp__law_cell K) [] E (tCons ta (tCons tb tNil))) σ H (.int (ns.getD k.toNat 0)) :=
  ev_call (ea_cons ha (ea_cons hb ea_nil)) fun H1 e Q q E => ⟨a, ns, k, rfl, ex_l e hS, h0, q⟩
theorem ec_state {c k : Int} (ha : Ev ta σ H (.int c)) (hb : Ev tb σ H (.int k)) : EvC (tCall (sp__law_state K) [] E (tCons ta (tCons tb tNil))) σ H := fun H1 e Q q =>
  ha H1 e _ fun H2 e2 => hb H2 (e.trans e2) _ fun H3 e3 => ⟨c, k, rfl, fun p H4 hp e4 d => q p H4 (fresh_back (e2.trans e3) hp) ((e2.trans e3).trans e4) d⟩
theorem q_asgC {i : Nat} (h : EvC te σ H) (k : ∀ p H1, H p = none → Ex H H1 → Dr p H1 → tz D (σ.set i (some (.ref p))) H1) : tSeq (tAsg te (gName i)) tz D σ H := h H (Ex.refl H) _ fun p H1 hp e d => k p H1 hp e d
theorem EvN.mono (e : Ex H H') (h : EvN te σ H P) : EvN te σ H' P := fun H1 a Q q => h H1 (e.trans a) Q q
theorem q_asgN {i : Nat} (h : EvN te σ H P) (k : ∀ v H1, P v → Ex H H1 → tz D (σ.set i (some v)) H1) : tSeq (tAsg te (gName i)) tz D σ H := h H (Ex.refl H) _ fun v H1 hv e => k v H1 hv e
theorem s_appN {l : Addr} {xs : List V} (hl : H l = some (.lst xs)) (ha : Ev ta σ H (.ref l)) (h : EvN te σ H P) (hz : xs.length < 100000) (k : ∀ v H1, P v → Ex H H1 → D.nx σ (upd H1 l (.lst (xs ++ [v])))) :
    tDrop (tBM K "list" rAppend ta (tCons te tNil)) D σ H := ha H (Ex.refl H) _ fun H1 e1 =>
  ⟨Or.inl ⟨rfl, xs, sq_of (e1 l _ hl)⟩, h H1 e1 _ fun v H2 hv e2 => ⟨l, xs, v, rfl, rfl, e2 l _ (e1 l _ hl), sz_lt hz, k v H2 hv (e1.trans e2)⟩⟩
end
section
variable {P : Program} {w : World} {K : PySem.W.Frag} {mg : Str → Option Value} {base : Heap}
end
section
variable {K : PySem.W.Frag} {σ : L2.St} {H : Hp} {p : Addr} {ta tb te : TE} {P : V → Prop} {D : Ends} {tz : TS}
/-- xs[i] = what is drawn -/
theorem q1_setL {l : Addr} {xs : List V} {j : Nat} (hl : wo p H l = some (.lst xs)) (h : EvD1 te σ p H P) (d : Dr p H) (ho : Ev ta σ (wo p H) (.ref l)) (hi : Ev tb σ (wo p H) (.int (j : Int))) (hj : j < xs.length) (k : ∀ v H1, P v → Ex (wo p H) H1 → Dr p H1 → tz D σ (upd H1 l (.lst (xs.set j v)))) :
    tSeq (tAsg te (gSub ta tb rSetL)) tz D σ H := h H (wo_le p H) d _ fun v H1 hv e1 d1 => ho H1 e1 _ fun H2 e2 => hi H2 (e1.trans e2) _ fun H3 e3 =>
  ⟨l, xs, (j : Int), j, rfl, rfl, ((e1.trans e2).trans e3) l _ hl, ixN_nat hj, k v H3 hv ((e1.trans e2).trans e3) (d1.ex (e2.trans e3))⟩
/-- a digit of a list that is new -/
theorem en_digit {m : Int} {E : XK} (ha : EvC ta σ H) (hb : Ev tb σ H (.int m)) (h0 : 0 < m) (h1 : m < 2 ^ 400) : EvN (tCall (sp__law_digit K) [] E (tCons ta (tCons tb tNil))) σ H (ZP fun d => 0 ≤ d ∧ d < m) := fun H1 e Q q =>
  ha H1 e _ fun p H2 hp e2 d2 => hb H2 (e.trans e2) _ fun H3 e3 => ⟨p, m, rfl, d2.ex e3, h0, h1, fun d H4 a b e4 _ => q _ H4 ⟨d, rfl, a, b⟩ (wx_back hp (e2.trans e3) e4)⟩
end
section
variable {K : PySem.W.Frag} {σ : L2.St} {H : Hp} {p : Addr} {te : TE} {t : TT} {P : V → Prop} {D : Ends} {tu : TS}
theorem s1_asg {i : Nat} (h : EvD1 te σ p H P) (d : Dr p H) (k : ∀ v H1, P v → Ex (wo p H) H1 → Dr p H1 → D.nx (σ.set i (some v)) H1) : tAsg te (gName i) D σ H := h H (wo_le p H) d _ fun v H1 hv e1 d1 => k v H1 hv e1 d1
theorem s1_when (h : EvDT t σ p H (fun _ => True)) (d : Dr p H) (h1 : ∀ H1, Ex (wo p H) H1 → Dr p H1 → tu D σ H1) (h2 : ∀ H1, Ex (wo p H) H1 → Dr p H1 → D.nx σ H1) : tIfS t tu tNext D σ H := h H (wo_le p H) d _ fun b H1 _ e1 d1 => by
  cases b with
  | true =>
    show tu D σ H1
    exact h1 H1 e1 d1
  | false =>
    show D.nx σ H1
    exact h2 H1 e1 d1
end

/-! ### lists compared, cut; list as a type -/
theorem cut_take {xs : List V} {m : Nat} (h : m ≤ xs.length) : cutV xs none (some (m : Int)) = xs.take m := by
  unfold cutV
  rw [HT.sIx_none, HT.sIx_nat, List.drop_zero, Nat.sub_zero, Nat.min_eq_left h]
theorem eqv_intsL : ∀ ns ms : List Int, PyData.eqv (.list (ns.map PyData.int)) (.list (ms.map PyData.int)) = decide (ns = ms)
  | [], [] => rfl
  | [], _ :: _ => rfl
  | _ :: _, [] => rfl
  | n :: r, m :: t => by
    have ih := eqv_intsL r t
    show ((n == m) && PyData.eqv (.list (r.map PyData.int)) (.list (t.map PyData.int))) = _
    rw [ih, Bool.eq_iff_iff, Bool.and_eq_true, decide_eq_true_eq, decide_eq_true_eq, beq_iff_eq, List.cons.injEq]
theorem rv_neL {K : PySem.W.Frag} {H : Hp} {p q : Addr} {ns ms : List Int} (hp : SqL K H p (ns.map V.int)) (hq : SqL K H q (ms.map V.int)) : RV (rNeD K) (.ref p) (.ref q) H (.bl (!decide (ns = ms))) := fun H1 e Q k =>
  ⟨_, _, .lst (ex_l e hp) (dp_ints ns), .lst (ex_l e hq) (dp_ints ms), PySem.W.ke_shaped_ints _, PySem.W.ke_shaped_ints _, by rw [eqv_intsL]; exact k H1 (Ex.refl H1)⟩
theorem tx_lst {K : PySem.W.Frag} {H : Hp} {a : Addr} {xs : List V} (h : H a = some (.lst xs)) : ∀ H1, Ex H H1 → TyX K H1 (.ref a) (.type "list") := fun H1 e => .base (.lst (e _ _ h))
theorem given_all (n : Nat) (v : Nat → V) : given n (fun _ => true) v = (List.range n).map v := by
  unfold given
  rw [List.filter_eq_self.mpr (fun _ _ => rfl)]
theorem foldl_take {α β : Type} {f : β → α → β} {l : List α} {i : Nat} {x : α} {b : β} (h : l[i]? = some x) : (l.take (i + 1)).foldl f b = f ((l.take i).foldl f b) x := by
  rw [List.take_add_one, h, List.foldl_append]
  rfl
theorem ix_listK {X : Cx} {K : PySem.W.Frag} (h : X.K = K) : IxR X (rIxL K) := h ▸ ix_list
theorem call_len_seqK {X : Cx} {K : PySem.W.Frag} (h : X.K = K) : CallR X (.builtin "len") (fun xs H Q => ∃ p ys, xs = [V.ref p] ∧ (SqL K H p ys ∨ SqT K H p ys) ∧ Q (V.int ys.length) H) := h ▸ call_len_seq
theorem ix_tupK {X : Cx} {K : PySem.W.Frag} (h : X.K = K) : IxR X (rIxT K) := h ▸ ix_tup

/-! ### lists of objects, each with a word of its own -/
def Al2 {α : Type} (R : Hp → Addr → α → Prop) (H : Hp) (qs : List Addr) (L : List α) : Prop := qs.length = L.length ∧ ∀ (i : Nat) q l, qs[i]? = some q → L[i]? = some l → R H q l
def Lst2 {α : Type} (R : Hp → Addr → α → Prop) (H : Hp) (p : Addr) (L : List α) : Prop := ∃ qs, H p = some (.lst (qs.map V.ref)) ∧ Al2 R H qs L
section
variable {α : Type} {R S : Hp → Addr → α → Prop} {H H' : Hp} {qs : List Addr} {L : List α}
theorem Al2.nil : Al2 R H [] [] := ⟨rfl, fun i q l h => by simp at h⟩
theorem Al2.mono (h : Al2 R H qs L) (k : ∀ q l, l ∈ L → R H q l → S H' q l) : Al2 S H' qs L := ⟨h.1, fun i q l a b => k q l (List.mem_of_getElem? b) (h.2 i q l a b)⟩
theorem Al2.snoc {q : Addr} {l : α} (h : Al2 R H qs L) (hr : R H q l) : Al2 R H (qs ++ [q]) (L ++ [l]) := by
  refine ⟨by rw [List.length_append, List.length_append, h.1, List.length_cons, List.length_cons]; rfl, fun i q' l' a b => ?_⟩
  by_cases hi : i < qs.length
  · rw [List.getElem?_append_left hi] at a
    rw [List.getElem?_append_left (by rw [← h.1]; exact hi)] at b
    exact h.2 i q' l' a b
  · rw [List.getElem?_append_right (by omega)] at a
    rw [List.getElem?_append_right (by rw [← h.1]; omega)] at b
    have e : i - qs.length = 0 := by
      by_cases z : i - qs.length = 0
      · exact z
      · rw [List.getElem?_eq_none (by show 1 ≤ _; omega)] at a; cases a
    rw [e] at a
    rw [← h.1, e] at b
    cases a
    cases b
    exact hr
theorem Al2.get (h : Al2 R H qs L) {i : Nat} (hi : i < L.length) : ∃ q, qs[i]? = some q ∧ R H q L[i] := by
  have hq : i < qs.length := by rw [h.1]; exact hi
  exact ⟨qs[i], List.getElem?_eq_getElem hq, h.2 i _ _ (List.getElem?_eq_getElem hq) (List.getElem?_eq_getElem hi)⟩
end
/-- an object that is new -/
def EvR (R : Hp → Addr → Prop) (te : TE) (σ : L2.St) (H : Hp) : Prop := ∀ H1, Ex H H1 → ∀ Q : VK, (∀ p H2, H1 p = none → Ex H1 H2 → R H2 p → Q (.ref p) H2) → te σ H1 Q
theorem slice_any {a : List Nat} {i j : Nat} : Txt.slice (SX.S a) (some (i : Int)) (some (j : Int)) = SX.S ((a.take j).drop i) := by
  rw [← C8.cutS_slice]
  unfold cutS
  rw [SX.S_len, HT.sIx_nat, HT.sIx_nat]
  refine congrArg SX.S ?_
  show (a.drop (min i a.length)).take (min j a.length - min i a.length) = (a.take j).drop i
  rw [List.drop_take]
  by_cases hi : i ≤ a.length
  · rw [Nat.min_eq_left hi]
    by_cases hj : j ≤ a.length
    · rw [Nat.min_eq_left hj]
    · rw [Nat.min_eq_right (show a.length ≤ j by omega), List.take_of_length_le (by rw [List.length_drop]; omega), List.take_of_length_le (by rw [List.length_drop]; omega)]
  · rw [Nat.min_eq_right (show a.length ≤ i by omega), List.drop_eq_nil_of_le (Nat.le_refl _), List.drop_eq_nil_of_le (by omega)]
    simp
theorem ev_slA {σ : L2.St} {H : Hp} {ta tl th : TE} {l : List Nat} {i j : Nat} (ha : Ev ta σ H (.str (SX.S l))) (hl : Ev tl σ H (.int (i : Int))) (hh : Ev th σ H (.int (j : Int))) (hz : l.length ≤ 100000) : Ev (tSl C8.rSlX ta (tPart tl) (tPart th)) σ H (.str (SX.S ((l.take j).drop i))) := fun H1 e Q q =>
  ha H1 e _ fun H2 e2 => hl H2 (e.trans e2) _ fun H3 e3 => ⟨_, rfl, hh H3 ((e.trans e2).trans e3) _ fun H4 e4 => ⟨_, rfl, SX.S l, rfl, by rw [SX.S_len]; exact sz_of hz, by rw [slice_any]; exact q H4 ((e2.trans e3).trans e4)⟩⟩
theorem getD_S (t : List Nat) (v : Nat) : (SX.S t).cps.getD v 0 = t.getD v 0 := by
  show t.toArray.getD v 0 = t.getD v 0
  rw [Array.getD_eq_getD_getElem?, List.getD_eq_getElem?_getD, List.getElem?_toArray]
/-- the first c at or behind i -/
theorem find3_at {t a m : List Nat} {c i : Nat} (h : t.drop i = a ++ c :: m) (ha : c ∉ a) : Txt.find3 (SX.S t) (SX.S [c]) (i : Int) = ((i + a.length : Nat) : Int) := by
  have hlen : i + (a.length + (m.length + 1)) = t.length := by
    have := congrArg List.length h
    rw [List.length_drop, List.length_append, List.length_cons] at this
    omega
  have hf : fromIndex (SX.S t).length (i : Int) = i := by
    unfold fromIndex
    rw [if_neg (by omega)]
    omega
  have at_ : ∀ v, i ≤ v → t.getD v 0 = (a ++ c :: m).getD (v - i) 0 := fun v hv => by
    rw [← h, List.getD_eq_getElem?_getD, List.getD_eq_getElem?_getD, List.getElem?_drop, show i + (v - i) = v by omega]
  have hc : t.getD (i + a.length) 0 = c := by
    rw [at_ _ (by omega), show i + a.length - i = a.length by omega, List.getD_eq_getElem?_getD, List.getElem?_append_right (Nat.le_refl _), Nat.sub_self]
    rfl
  rcases StrLaws.find3_spec (SX.S t) c (i : Int) with ⟨_, h2⟩ | ⟨k, h1, h2, h3, h4, h5⟩
  · have := h2 (i + a.length) (by rw [hf]; omega) (by rw [SX.S_len]; omega)
    rw [getD_S, hc] at this
    exact absurd rfl this
  · rw [hf] at h2 h5
    rw [getD_S] at h4
    have e1 : ¬ i + a.length < k := fun z => by
      have := h5 (i + a.length) (by omega) z
      rw [getD_S, hc] at this
      exact this rfl
    have e2 : ¬ k < i + a.length := fun z => by
      rw [at_ k h2, List.getD_eq_getElem?_getD, List.getElem?_append_left (by omega), List.getElem?_eq_getElem (by omega)] at h4
      exact ha (by rw [← h4]; exact List.getElem_mem _)
    rw [show k = i + a.length by omega] at h1
    exact h1
theorem at_drop {t r : List Nat} {i : Nat} {c : Nat} (h : t.drop i = c :: r) : t[i]? = some c ∧ i < t.length ∧ t.drop (i + 1) = r := by
  have hi : i < t.length := by
    have := congrArg List.length h
    rw [List.length_drop, List.length_cons] at this
    omega
  rw [List.drop_eq_getElem_cons hi] at h
  have h2 := List.cons.inj h
  exact ⟨by rw [List.getElem?_eq_getElem hi, h2.1], hi, h2.2⟩
theorem drop_nil {t : List Nat} {i : Nat} (h : t.drop i = []) : t.length ≤ i := by
  have := congrArg List.length h
  rw [List.length_drop] at this
  simp at this
  omega
theorem drop_app {t a b : List Nat} {i : Nat} (h : t.drop i = a ++ b) : t.drop (i + a.length) = b := by
  rw [← List.drop_drop, h, List.drop_left]
theorem take1 {t : List Nat} {i : Nat} : (t.take (i + 1)).drop i = (t.drop i).take 1 := by rw [List.drop_take, show i + 1 - i = 1 by omega]
theorem joinL_len (w : List Nat) : ∀ ps : List (List Nat), (ps.map (·.length)).sum ≤ (TL.joinL w ps).length
  | [] => Nat.le_refl _
  | [p] => by
    show p.length + 0 ≤ p.length
    omega
  | p :: q :: r => by
    have := joinL_len w (q :: r)
    show p.length + ((q :: r).map (·.length)).sum ≤ (p ++ (w ++ TL.joinL w (q :: r))).length
    rw [List.length_append, List.length_append]
    omega
theorem ev_joinL {K : PySem.W.Frag} {σ : L2.St} {H : Hp} {ta tb : TE} {w : List Nat} {pcs : List (List Nat)} {p : Addr} (ha : Ev ta σ H (.str (SX.S w))) (hb : Ev tb σ H (.ref p)) (hp : SqL K H p ((pcs.map SX.S).map V.str)) (h1 : (TL.joinL w pcs).length ≤ 100000) (h2 : pcs.length ≤ 100000) (h3 : w.length ≤ 10) :
    Ev (tM1 (fun x xs H Q => ∃ a p, ∃ ys : List Str, x = .str a ∧ xs = [.ref p] ∧ (SqL K H p (ys.map V.str) ∨ SqT K H p (ys.map V.str)) ∧
      (ys.map (·.length)).sum + ys.length * a.length ≤ 16777216 ∧ Q (.str (Txt.join a ys)) H) ta tb) σ H (.str (SX.S (TL.joinL w pcs))) := fun H1 e Q q =>
  ha H1 e _ fun H2 e2 => ⟨⟨_, rfl⟩, hb H2 (e.trans e2) _ fun H3 e3 => ⟨SX.S w, p, pcs.map SX.S, rfl, rfl, .inl (ex_l ((e.trans e2).trans e3) hp), by
    rw [SX.lens, SX.S_len, List.length_map]
    have := joinL_len w pcs
    have : pcs.length * w.length ≤ 100000 * 10 := Nat.mul_le_mul h2 h3
    omega, by rw [SX.join_S]; exact q H3 (e2.trans e3)⟩⟩
/-- return (a new object, ..) -/
theorem s_retUR {R : Hp → Addr → Prop} {te : TE} {tr : TA} {σ : L2.St} {H : Hp} {D : Ends} {vs : List V} (hm : ∀ H H' p, Ex H H' → R H p → R H' p) (h : EvR R te σ H) (hr : ∀ H1, Ex H H1 → EvA tr σ H1 vs) (hl : vs.length ≤ 1000)
    (k : ∀ q p H1, H q = none → Ex H H1 → R H1 p → H1 q = some (.tup (.ref p :: vs)) → D.rt (.ref q) H1) : tRet (tTup (tCons te tr)) D σ H :=
  h H (Ex.refl H) _ fun p H1 hp e1 hR => hr H1 e1 H1 (Ex.refl H1) _ fun H2 e2 => ⟨by rw [List.length_cons]; exact sz_of (by omega), fun q hq => k q p _ (fresh_back (e1.trans e2) hq) ((e1.trans e2).trans (Ex.new hq)) (hm _ _ _ (e2.trans (Ex.new hq)) hR) upd_same⟩
theorem wo_upd (p : Addr) (H : Hp) (o : HO) : wo p (upd H p o) = wo p H := by
  funext a
  unfold wo
  split
  · rfl
  · rename_i h
    exact upd_ne h
theorem wo_mono {p : Addr} {H H' : Hp} (e : Ex H H') : Ex (wo p H) (wo p H') := fun a o h => by
  have hx : a ≠ p := fun z => by rw [z, wo_self] at h; cases h
  rw [wo_ne hx] at h ⊢
  exact e a o h
theorem Lst2.mono {α : Type} {R : Hp → Addr → α → Prop} {H H' : Hp} {p : Addr} {L : List α} (h : Lst2 R H p L) (e : Ex H H') (k : ∀ q l, R H q l → R H' q l) : Lst2 R H' p L := by
  obtain ⟨qs, h1, h2⟩ := h
  exact ⟨qs, e _ _ h1, h2.mono fun q l _ => k q l⟩
/-- [a new object] -/
theorem er_one {R : Hp → Addr → Prop} {te : TE} {σ : L2.St} {H : Hp} (hm : ∀ H H' p, Ex H H' → R H p → R H' p) (h : EvR R te σ H) : EvR (fun H p => ∃ t, H p = some (.lst [.ref t]) ∧ R H t) (tLst (tCons te tNil)) σ H := fun H1 e Q q =>
  h H1 e _ fun t H2 ht e2 hR => ⟨sz_of (by show 1 ≤ 100000; decide), fun p hp => q p _ (fresh_back e2 hp) (e2.trans (Ex.new hp)) ⟨t, upd_same, hm _ _ _ (Ex.new hp) hR⟩⟩

/-! ### the law's numbers -/
def cell0 (ns : List Int) (k : Nat) : Int := if 0 < ns.length then ns.getD (k - k / ns.length * ns.length) 0 else 0
def cell1 (ns : List Int) (k : Nat) : Int := if cell0 ns k < 0 then 1 - 2 * cell0 ns k else cell0 ns k
def cellM (c : Int) (k : Nat) : Int := (((c + 101 * (k : Int) + 13) * 40692 + (k : Int) * (k : Int) * 6271) % 2147483399 + 29 * (k : Int) + 5) * 3935559000370003845 % 18446744073709551533
def cellN (ns : List Int) (k : Nat) : Int := if (ns.length : Int) ≤ (k : Int) ∨ cell1 ns k < 1000000000 then cellM (cell1 ns k) k else cell1 ns k
def lawN (ns : List Int) (c : Nat) : List Int := (List.range c).map (cellN ns)
theorem cell1_nn (ns : List Int) (k : Nat) : 0 ≤ cell1 ns k := by
  unfold cell1
  split <;> omega
theorem cellN_nn (ns : List Int) (k : Nat) : 0 ≤ cellN ns k := by
  unfold cellN
  split
  · unfold cellM
    exact Int.emod_nonneg _ (by decide)
  · exact cell1_nn ns k
theorem lawN_len (ns : List Int) (c : Nat) : (lawN ns c).length = c := by
  unfold lawN
  rw [List.length_map, List.length_range]
theorem lawN_nn {ns : List Int} {c : Nat} : ∀ n ∈ lawN ns c, 0 ≤ n := by
  intro n h
  unfold lawN at h
  obtain ⟨k, _, e⟩ := List.mem_map.mp h
  rw [← e]
  exact cellN_nn ns k
theorem lawN_get {ns : List Int} {c i : Nat} (h : i < c) : (lawN ns c)[i]? = some (cellN ns i) := by
  unfold lawN
  rw [List.getElem?_map, List.getElem?_range h] <;> rfl
/-- the k-th of them, as the law's list of values -/
theorem lawN_at {ns : List Int} {c i : Nat} (h : i < c) : atI ((lawN ns c).map V.int) (i : Int) = some (.int (cellN ns i)) := atI_nat (by
  rw [List.getElem?_map, lawN_get h] <;> rfl)
def sp__law_numbers (K : PySem.W.Frag) : Sp := fun vs H Q _ => ∃ (a : Addr) (ns : List Int) (c : Nat), vs = [.ref a, .int (c : Int)] ∧ SqL K H a (ns.map V.int) ∧ ns.length ≤ 63 ∧ c ≤ 1000 ∧
  ∀ p H', H p = none → Ex H H' → H' p = some (.lst ((lawN ns c).map V.int)) → Q (.ref p) H'
section
variable {P : Program} {w : World} {K : PySem.W.Frag} {mg : Str → Option Value} {base : Heap}
theorem ok__law_numbers (D : Dn K mg "_law_numbers" s__law_numbers ["script", "count"]) (z_int : mg "int" = none) (z_len : mg "len" = none) (z_range : mg "range" = none) :
    C8.Cal P w K mg base 1 "_law_numbers" (sp__law_numbers K) [] := by
  refine cal_of D sc__law_numbers (fun vs H Q E h => ?_) (fun f cdv A outer s H vs Q E hr h => ?_)
  · obtain ⟨_, _, _, rfl, _⟩ := h
    rfl
  refine ⟨_, (pss_cons (ps_set (i := 2) sc__law_numbers.nd rfl (.inl rfl) (pe_lst pa_nil))
    (pss_cons (ps_for PassesOwn.never rfl (pi_range1 rfl z_range (pa_cons (pv 1) pa_nil)) (pg_name (i := 3) sc__law_numbers.nd rfl (.inl rfl))
      (pss_cons (ps_set (i := 4) sc__law_numbers.nd rfl (.inl rfl) pe_int)
    (pss_cons (ps_if (pt_cmpR op_gt (pe_callB call_len_seq (by rfl) z_len PySem.boot_len (pa_cons (pv 0) pa_nil)) pe_int (nomark _))
      (pss_one (ps_set (i := 4) sc__law_numbers.nd rfl (.inl rfl) (pe_callTy call_int1 (by rfl) z_int (by decide +kernel) (pa_cons (pe_ix ix_list (pv 0) (pe_op op_sub (pv 3) (pe_op op_mul (pe_op op_fdiv (pv 3) (pe_callB call_len_seq (by rfl) z_len PySem.boot_len (pa_cons (pv 0) pa_nil))) (pe_callB call_len_seq (by rfl) z_len PySem.boot_len (pa_cons (pv 0) pa_nil)))) (fun _ _ => rfl)) pa_nil))))
      pss_nil)
    (pss_cons (ps_if (pt_cmpR op_lt (pv 4) pe_int (nomark _))
      (pss_one (ps_set (i := 4) sc__law_numbers.nd rfl (.inl rfl) (pe_op op_sub pe_int (pe_op op_mul pe_int (pv 4)))))
      pss_nil)
    (Evl.pss_cut (ps_if (PW.pt (pw_or (pt_cmpR op_ge (pv 3) (pe_callB call_len_seq (by rfl) z_len PySem.boot_len (pa_cons (pv 0) pa_nil)) (nomark _)) (pw_or1 (pt_cmpR op_lt (pv 4) pe_int (nomark _)))))
      (pss_cons (ps_set (i := 4) sc__law_numbers.nd rfl (.inl rfl) (pe_op op_mod (pe_callTy call_int1 (by rfl) z_int (by decide +kernel) (pa_cons (pe_op op_add (pe_op op_mul (pe_op op_add (pe_op op_add (pv 4) (pe_op op_mul pe_int (pv 3))) pe_int) pe_int) (pe_op op_mul (pe_op op_mul (pv 3) (pv 3)) pe_int)) pa_nil)) pe_int))
    (pss_one (ps_set (i := 4) sc__law_numbers.nd rfl (.inl rfl) (pe_op op_mod (pe_callTy call_int1 (by rfl) z_int (by decide +kernel) (pa_cons (pe_op op_mul (pe_op op_add (pe_op op_add (pv 4) (pe_op op_mul pe_int (pv 3))) pe_int) pe_int) pa_nil)) pe_int))))
      pss_nil)
    (pss_one (ps_expr (pe_bm PySem.F.plainAttrs_list PySem.F.slot_list_append PySem.F.type_list_append mt_append (pv 2) (pa_cons (pv 4) pa_nil)))))))))
    (pss_one (ps_ret (pv 2))))), ?_⟩
  obtain ⟨a, ns, c, rfl, hS, h63, hc, q⟩ := h
  have hl : (ns.map V.int).length = ns.length := List.length_map _
  refine q_asgL (el_lst ea_nil (by decide)) fun p H1 hp e1 h1 => ?_
  refine q_forR1 (n := (c : Int)) (ea_cons (ev_var rfl) ea_nil) ⟨by omega, by omega⟩
    (fun i σ H' => ∃ y3 y4, σ = [some (.ref a), some (.int (c : Int)), some (.ref p), y3, y4] ∧ Ex H H' ∧ H' p = some (.lst ((lawN ns i).map V.int)))
    (fun H2 e2 => ⟨none, none, rfl, e1.trans e2, e2 _ _ h1⟩) (fun i σ H2 hi hw => ?_) (fun σ H2 hw => ?_)
  · obtain ⟨y3, y4, rfl, e2, h2⟩ := hw
    have hS2 : SqL K H2 a (ns.map V.int) := ex_l e2 hS
    refine q_asg ev_c fun H3 e3 => ?_
    have hS3 : SqL K H3 a (ns.map V.int) := ex_l e3 hS2
    -- the cell as the script has it
    refine q_ifAsg (v := .int (cell0 ns i)) (b := decide ((0 : Int) < ((ns.map V.int).length : Int))) ?_ (fun hb => ?_) (fun hb => ?_) fun H4 e4 => ?_
    · walk_at "et"
    · have h0 : 0 < ns.length := by
        have := of_decide_eq_true hb
        rw [hl] at this
        omega
      have em : i / ns.length * ns.length ≤ i := Nat.div_mul_le_self i ns.length
      have hlt : i - i / ns.length * ns.length < ns.length := by
        have := Nat.mod_lt i h0
        have := Nat.div_add_mod i ns.length
        rw [Nat.mul_comm] at this
        omega
      have ea : atI (ns.map V.int) ((i : Int) - (i : Int) / ((ns.map V.int).length : Int) * ((ns.map V.int).length : Int)) = some (.int (cell0 ns i)) := by
        rw [hl]
        have e5 : (i : Int) - (i : Int) / (ns.length : Int) * (ns.length : Int) = ((i - i / ns.length * ns.length : Nat) : Int) := by
          rw [Int.ofNat_sub em, Int.natCast_mul, Int.natCast_ediv]
        rw [e5]
        refine atI_nat ?_
        unfold cell0
        rw [if_pos h0, List.getElem?_map, List.getElem?_eq_getElem hlt, List.getD_eq_getElem?_getD, List.getElem?_eq_getElem hlt] <;> rfl
      refine ev_int (ev_op (ev_var rfl) (ev_op (ev_var rfl) (ev_op (ev_op (ev_var rfl) (ev_len (ev_var rfl) hS3) (rv_I ⟨?_, ?_⟩)) (ev_len (ev_var rfl) hS3) (rv_I ?_)) rv_I0) (rv_ixL hS3 ea))
      · rw [hl]; omega
      · rw [hl]; omega
      · rw [hl]; exact .inr ⟨by omega, by omega⟩
    · have h0 : ¬ 0 < ns.length := by
        have := of_decide_eq_false hb
        rw [hl] at this
        omega
      unfold cell0
      rw [if_neg h0]
      rfl
    have hS4 : SqL K H4 a (ns.map V.int) := ex_l e4 hS3
    refine q_ifAsg (v := .int (cell1 ns i)) (b := decide (cell0 ns i < 0)) (by walk_at "et") (fun hb => ?_) (fun hb => ?_) fun H5 e5 => ?_
    · refine ev_is (v := .int (1 - 2 * cell0 ns i)) (by walk_at "ev") ?_
      unfold cell1
      rw [if_pos (of_decide_eq_true hb)]
    · unfold cell1
      rw [if_neg (of_decide_eq_false hb)]
      rfl
    have hS5 : SqL K H5 a (ns.map V.int) := ex_l e5 hS4
    have h5 : H5 p = some (.lst ((lawN ns i).map V.int)) := e5 _ _ (e4 _ _ (e3 _ _ h2))
    have x5 : Ex H H5 := ((e2.trans e3).trans e4).trans e5
    -- the cell mixed
    refine q_cut (M := fun σ H' => σ = [some (.ref a), some (.int (c : Int)), some (.ref p), some (.int (i : Int)), some (.int (cellN ns i))] ∧ Ex H5 H') ?_ ?_
    · refine s_if (b := decide ((((ns.map V.int).length : Nat) : Int) ≤ (i : Int)) || decide (cell1 ns i < 1000000000)) ?_ (fun hb H6 e6 => ?_) (fun hb H6 e6 => ?_)
      · exact et_or (et_test (ev_op (ev_var rfl) (ev_len (ev_var rfl) hS5) rv_I0)) fun _ => et_test (ev_op (ev_var rfl) ev_c rv_I0)
      · have hb' : (ns.length : Int) ≤ (i : Int) ∨ cell1 ns i < 1000000000 := by
          rw [Bool.or_eq_true, decide_eq_true_eq, decide_eq_true_eq, hl] at hb
          exact hb
        refine q_asg (v := .int (((cell1 ns i + 101 * (i : Int) + 13) * 40692 + (i : Int) * (i : Int) * 6271) % 2147483399)) ?_ fun H7 e7 => ?_
        · refine ev_op (ev_int (ev_op (ev_op (ev_op (ev_op (ev_var rfl) (ev_op ev_c (ev_var rfl) (rv_I (.inl ⟨by decide, by decide⟩))) rv_I0) ev_c rv_I0) ev_c (rv_I (.inr ⟨by decide, by decide⟩))) (ev_op (ev_op (ev_var rfl) (ev_var rfl) (rv_I (.inl ⟨by omega, by omega⟩))) ev_c (rv_I (.inr ⟨by decide, by decide⟩))) rv_I0)) ev_c (rv_I (by decide))
        refine s_asg (v := .int (cellN ns i)) ?_ fun H8 e8 => ⟨rfl, (e6.trans e7).trans e8⟩
        refine ev_is (ev_op (ev_int (ev_op (ev_op (ev_op (ev_var rfl) (ev_op ev_c (ev_var rfl) (rv_I (.inl ⟨by decide, by decide⟩))) rv_I0) ev_c rv_I0) ev_c (rv_I (.inr ⟨by decide, by decide⟩)))) ev_c (rv_I (by decide))) ?_
        unfold cellN
        rw [if_pos hb']
        rfl
      · have hb' : ¬ ((ns.length : Int) ≤ (i : Int) ∨ cell1 ns i < 1000000000) := by
          intro z
          rw [Bool.or_eq_false_iff, decide_eq_false_iff_not, decide_eq_false_iff_not, hl] at hb
          rcases z with z | z
          · exact hb.1 z
          · exact hb.2 z
        refine ⟨?_, e6⟩
        unfold cellN
        rw [if_neg hb']
        rfl
    · intro σ' H' hm
      obtain ⟨rfl, x6⟩ := hm
      refine s_app (x6 _ _ h5) (ev_var rfl) (ev_var rfl) (by rw [List.length_map, lawN_len]; omega) fun H7 e7 => ?_
      refine ⟨_, _, rfl, Ex.mut ((x5.trans x6).trans e7) hp, ?_⟩
      rw [upd_same]
      unfold lawN
      rw [List.range_succ, List.map_append, List.map_append]
      rfl
  · obtain ⟨y3, y4, rfl, e2, h2⟩ := hw
    have ec : ((c : Int)).toNat = c := by omega
    rw [ec] at h2
    exact s_ret (ev_var rfl) fun H3 e3 => q p H3 hp (e2.trans e3) (e3 _ _ h2)
end

/-! ### ranks -/
def kr : V → Int
  | .non => 0
  | .bl _ => 1
  | .int _ => 2
  | _ => 3
def payV : V → V
  | .non => .int 0
  | .bl b => .int (if b then 1 else 0)
  | x => x
def rkL (x : V) : List V := [.int (kr x), payV x]
def payD : V → PyData
  | .non => .int 0
  | .bl b => .int (if b then 1 else 0)
  | .int i => .int i
  | .str s => .str s
  | _ => .none
def rkDs (x : V) : List PyData := [.int (kr x), payD x]
def rkD (x : V) : PyData := .tuple (rkDs x)
/-- plain, and its signs are signs -/
inductive Ok : V → Prop where
  | non : Ok .non
  | bl (b : Bool) : Ok (.bl b)
  | int (i : Int) : Ok (.int i)
  | str (s : Str) (h : PyData.strOk s = true ∧ s.length ≤ 10000) : Ok (.str s)
theorem Ok.pl {x : V} (h : Ok x) : Pl x := by cases h <;> constructor
theorem strOk_S {l : List Nat} (h : ∀ c ∈ l, 32 ≤ c ∧ c ≤ 126) : PyData.strOk (SX.S l) = true := by
  unfold PyData.strOk
  rw [Array.all_eq_true']
  intro c hc
  have := h c (by simpa using hc)
  exact decide_eq_true (by omega)
theorem dp_pay {K : PySem.W.Frag} {H : Hp} {x : V} (h : Ok x) : Dp K H (payV x) (payD x) := by
  cases h with
  | non => exact .int 0
  | bl b => exact .int _
  | int i => exact .int i
  | str s _ => exact .str s
theorem dp_rks {K : PySem.W.Frag} {H : Hp} {x : V} (h : Ok x) : DpAll K H (rkL x) (rkDs x) := .cons (.int _) (.cons (dp_pay h) .nil)
theorem dp_rk {K : PySem.W.Frag} {H : Hp} {x : V} {p : Addr} (h : Ok x) (hp : H p = some (.tup (rkL x))) : Dp K H (.ref p) (rkD x) := .tup (st_of hp) (dp_rks h)
theorem lay_rk {x : V} (h : Ok x) : (rkD x).canLay0 = true := by
  cases h with
  | non => rfl
  | bl b => rfl
  | int i => rfl
  | str s hs =>
    show (true && (PyData.strOk s && true)) = true
    rw [hs.1]
    rfl
theorem dep_rk {x : V} (h : Ok x) : (rkD x).depth = 1 := by cases h <;> rfl
theorem shaped_rk {x : V} (h : Ok x) : SeqAt.shaped (rkD x) = true := by
  unfold SeqAt.shaped
  rw [lay_rk h, dep_rk h]
  rfl
theorem noL_rk {x : V} (h : Ok x) : noL (rkD x) = true := by cases h <;> rfl
theorem ord_rk {x y : V} (hx : Ok x) (hy : Ok y) : ordD (rkD x) (rkD y) = true := by
  have step : ∀ (a b : Int) (p q : PyData), (a = b → ordD p q = true) → ordD (.tuple [.int a, p]) (.tuple [.int b, q]) = true := by
    intro a b p q h
    rw [ordD, ordDs]
    split
    · rename_i e
      rw [ordDs]
      split
      · rfl
      · exact h (beq_iff_eq.mp (show (a == b) = true from e))
    · rfl
  refine step _ _ _ _ fun e => ?_
  cases hx <;> cases hy <;> first | rfl | (simp [kr] at e)
theorem lays_rk : ∀ {xs : List V}, (∀ x ∈ xs, Ok x) → PyData.canLayAll0 (xs.map rkD) = true
  | [], _ => rfl
  | x :: xs, h => by
    show ((rkD x).canLay0 && PyData.canLayAll0 (xs.map rkD)) = true
    rw [lay_rk (h x (List.mem_cons_self ..)), lays_rk fun y hy => h y (List.mem_cons_of_mem _ hy)]
    rfl
theorem deps_rk : ∀ {xs : List V}, (∀ x ∈ xs, Ok x) → PyData.depthAll (xs.map rkD) ≤ 1
  | [], _ => by show 0 ≤ 1; decide
  | x :: xs, h => by
    show max (rkD x).depth (PyData.depthAll (xs.map rkD)) ≤ 1
    rw [dep_rk (h x (List.mem_cons_self ..))]
    have := deps_rk fun y hy => h y (List.mem_cons_of_mem _ hy)
    omega
theorem shaped_row {xs : List V} (h : ∀ x ∈ xs, Ok x) : SeqAt.shaped (.tuple (xs.map rkD)) = true := by
  have hd := deps_rk h
  show (PyData.canLayAll0 (xs.map rkD) && decide (PyData.depthAll (xs.map rkD) + 1 ≤ 64)) = true
  rw [lays_rk h, decide_eq_true (by omega)]
  rfl
theorem ords_rk : ∀ {xs ys : List V}, (∀ x ∈ xs, Ok x) → (∀ y ∈ ys, Ok y) → ordDs (xs.map rkD) (ys.map rkD) = true
  | [], _, _, _ => by rw [List.map_nil, ordDs]
  | _ :: _, [], _, _ => rfl
  | x :: xs, y :: ys, h1, h2 => by
    rw [List.map_cons, List.map_cons, ordDs]
    split
    · exact ords_rk (fun z hz => h1 z (List.mem_cons_of_mem _ hz)) (fun z hz => h2 z (List.mem_cons_of_mem _ hz))
    · exact ord_rk (h1 x (List.mem_cons_self ..)) (h2 y (List.mem_cons_self ..))
def sp_kind_rank (K : PySem.W.Frag) : Sp := fun vs H Q _ => ∃ x : V, vs = [x] ∧ Ok x ∧ ∀ H', Ex H H' → Q (.int (kr x)) H'
def sp_is_integer (K : PySem.W.Frag) : Sp := fun vs H Q _ => ∃ x : V, vs = [x] ∧ Pl x ∧ ∀ H', Ex H H' → Q (.bl (isInt x)) H'
def sp__law_is_integer (K : PySem.W.Frag) : Sp := fun vs H Q _ => ∃ x : V, vs = [x] ∧ Pl x ∧ ∀ H', Ex H H' → Q (.bl (isInt x)) H'
def sp_same (K : PySem.W.Frag) : Sp := fun vs H Q _ => ∃ x y : V, vs = [x, y] ∧ Ok x ∧ Ok y ∧ ∀ H', Ex H H' → Q (.bl (PyData.eqv (rkD x) (rkD y))) H'
def sp_before (K : PySem.W.Frag) : Sp := fun vs H Q _ => ∃ x y : V, vs = [x, y] ∧ Ok x ∧ Ok y ∧ ∀ H', Ex H H' → Q (.bl (ltD (rkD x) (rkD y))) H'
def sp_rank (K : PySem.W.Frag) : Sp := fun vs H Q _ => ∃ x : V, vs = [x] ∧ Ok x ∧ ∀ p H', H p = none → Ex H H' → H' p = some (.tup (rkL x)) → Q (.ref p) H'
def sp__law_rank (K : PySem.W.Frag) : Sp := fun vs H Q _ => ∃ x : V, vs = [x] ∧ Ok x ∧ ∀ p H', H p = none → Ex H H' → H' p = some (.tup (rkL x)) → Q (.ref p) H'
section
variable {P : Program} {w : World} {K : PySem.W.Frag} {mg : Str → Option Value} {base : Heap}
section
variable {σ : L2.St} {H : Hp} {ta tb tc : TE} {E : XK} {x y : V}
theorem ec_isint0 (ha : Ev ta σ H x) (h : Pl x) : Ev (tCall (sp_is_integer K) [] E (tCons ta tNil)) σ H (.bl (isInt x)) := ev_call (ea_cons ha ea_nil) fun H1 e Q q E => ⟨x, rfl, h, q⟩
theorem ec_isint (ha : Ev ta σ H x) (h : Pl x) : Ev (tCall (sp__law_is_integer K) [] E (tCons ta tNil)) σ H (.bl (isInt x)) := ev_call (ea_cons ha ea_nil) fun H1 e Q q E => ⟨x, rfl, h, q⟩
theorem ec_same (ha : Ev ta σ H x) (hb : Ev tb σ H y) (h1 : Ok x) (h2 : Ok y) : Ev (tCall (sp_same K) [] E (tCons ta (tCons tb tNil))) σ H (.bl (PyData.eqv (rkD x) (rkD y))) := ev_call (ea_cons ha (ea_cons hb ea_nil)) fun H1 e Q q E => ⟨x, y, rfl, h1, h2, q⟩
theorem ec_before (ha : Ev ta σ H x) (hb : Ev tb σ H y) (h1 : Ok x) (h2 : Ok y) : Ev (tCall (sp_before K) [] E (tCons ta (tCons tb tNil))) σ H (.bl (ltD (rkD x) (rkD y))) := ev_call (ea_cons ha (ea_cons hb ea_nil)) fun H1 e Q q E => ⟨x, y, rfl, h1, h2, q⟩
theorem ec_kr (ha : Ev ta σ H x) (h : Ok x) : Ev (tCall (sp_kind_rank K) [] E (tCons ta tNil)) σ H (.int (kr x)) := ev_call (ea_cons ha ea_nil) fun H1 e Q q E => ⟨x, rfl, h, q⟩
theorem ec_rank (ha : Ev ta σ H x) (h : Ok x) : EvU (tCall (sp_rank K) [] E (tCons ta tNil)) σ H (rkL x) := eu_call (ea_cons ha ea_nil) fun H1 e Q q E => ⟨x, rfl, h, q⟩
theorem ec_lrank (ha : Ev ta σ H x) (h : Ok x) : EvU (tCall (sp__law_rank K) [] E (tCons ta tNil)) σ H (rkL x) := eu_call (ea_cons ha ea_nil) fun H1 e Q q E => ⟨x, rfl, h, q⟩
theorem ud_rk (h : EvU ta σ H (rkL x)) (hx : Ok x) : EvUD K ta σ H (rkDs x) := fun H1 e Q q => h H1 e _ fun p H2 hp e2 h2 => q p H2 _ hp e2 h2 (dp_rks hx)
theorem ed_rk (h : EvU ta σ H (rkL x)) (hx : Ok x) : EvD K ta σ H (rkD x) := ed_tupU (ud_rk h hx)
end
theorem ok_kind_rank (D : Dn K mg "kind_rank" s_kind_rank ["value"]) (z_bool : mg "bool" = none) (z_int : mg "int" = none) (z_isinstance : mg "isinstance" = none) :
    C8.Cal P w K mg base 1 "kind_rank" (sp_kind_rank K) [] := by
  refine cal_of D sc_kind_rank (fun vs H Q E h => ?_) (fun f cdv A outer s H vs Q E hr h => ?_)
  · obtain ⟨_, rfl, _⟩ := h
    rfl
  refine ⟨_, (pss_cons (ps_if (pt_cmpR op_isN (pv 0) pe_non (nomark _))
      (pss_one (ps_ret pe_int))
      pss_nil)
    (pss_cons (ps_if (pt_val (pe_callB call_isi (by rfl) z_isinstance (by decide +kernel) (pa_cons (pv 0) (pa_cons (pe_bltn (v := .ty "bool") (u := .type "bool") rfl z_bool (by decide +kernel) rfl) pa_nil))))
      (pss_one (ps_ret pe_int))
      pss_nil)
    (pss_cons (ps_if (pt_val (pe_callB call_isi (by rfl) z_isinstance (by decide +kernel) (pa_cons (pv 0) (pa_cons (pe_bltn (v := .ty "int") (u := .type "int") rfl z_int (by decide +kernel) rfl) pa_nil))))
      (pss_one (ps_ret pe_int))
      pss_nil)
    (pss_one (ps_ret pe_int))))), ?_⟩
  obtain ⟨x, rfl, hx, q⟩ := h
  refine q_when (b := decide (x = .non)) (by walk_at "et") (fun hb H1 e1 => s_ret (v := .int (kr x)) ?_ fun H2 e2 => q _ (e1.trans e2)) fun hb H1 e1 => ?_
  · rw [of_decide_eq_true hb]
    exact ev_c
  cases hx with
  | non => exact absurd hb (by decide)
  | bl b => exact q_when (b := true) (et_B (ev_isiP (ev_var rfl) (.bl b) (by show kitB "bool" "bool" = some true; decide +kernel))) (fun _ H2 e2 => s_ret ev_c fun H3 e3 => q _ ((e1.trans e2).trans e3)) fun hb => nomatch hb
  | int i => exact q_when (b := false) (et_B (ev_isiP (ev_var rfl) (.int i) (by show kitB "int" "bool" = some false; decide +kernel))) (fun hb => nomatch hb) fun _ H2 e2 => q_when (b := true) (et_B (ev_isiP (ev_var rfl) (.int i) (by show kitB "int" "int" = some true; decide +kernel))) (fun _ H3 e3 => s_ret ev_c fun H4 e4 => q _ (((e1.trans e2).trans e3).trans e4)) fun hb => nomatch hb
  | str s hs => exact q_when (b := false) (et_B (ev_isiP (ev_var rfl) (.str s) (by show kitB "str" "bool" = some false; decide +kernel))) (fun hb => nomatch hb) fun _ H2 e2 => q_when (b := false) (et_B (ev_isiP (ev_var rfl) (.str s) (by show kitB "str" "int" = some false; decide +kernel))) (fun hb => nomatch hb) fun _ H3 e3 => s_ret ev_c fun H4 e4 => q _ (((e1.trans e2).trans e3).trans e4)
theorem ok_rank (D : Dn K mg "rank" s_rank ["value"]) (c_kind_rank : C8.Cal P w K mg base 1 "kind_rank" (sp_kind_rank K) []) (z_int : mg "int" = none) :
    C8.Cal P w K mg base 2 "rank" (sp_rank K) [] := by
  refine cal_of D sc_rank (fun vs H Q E h => ?_) (fun f cdv A outer s H vs Q E hr h => ?_)
  · obtain ⟨_, rfl, _⟩ := h
    rfl
  refine ⟨_, (pss_cons (ps_set (i := 1) sc_rank.nd rfl (.inl rfl) (C8.pe_c c_kind_rank hr (by decide) (by rfl) (pa_cons (pv 0) pa_nil)))
    (pss_cons (ps_if (pt_cmpR op_eq (pv 1) pe_int (nomark _))
      (pss_one (ps_ret (pe_tup (pa_cons pe_int (pa_cons pe_int pa_nil)))))
      pss_nil)
    (pss_cons (ps_if (pt_cmpR op_eq (pv 1) pe_int (nomark _))
      (pss_one (ps_ret (pe_tup (pa_cons pe_int (pa_cons (pe_callTy call_int1 (by rfl) z_int (by decide +kernel) (pa_cons (pv 0) pa_nil)) pa_nil)))))
      pss_nil)
    (pss_one (ps_ret (pe_tup (pa_cons (pv 1) (pa_cons (pv 0) pa_nil)))))))), ?_⟩
  obtain ⟨x, rfl, hx, q⟩ := h
  refine q_asg (ec_kr (ev_var rfl) hx) fun H1 e1 => ?_
  refine q_when (b := decide (V.int (kr x) = V.int 0)) (by walk_at "et") (fun hb H2 e2 => s_retU (xs := rkL x) ?_ fun p H3 hp e3 h3 => q p H3 (fresh_back (e1.trans e2) hp) ((e1.trans e2).trans e3) h3) fun hb H2 e2 => ?_
  · cases hx with
    | non => exact eu_tup (ea_cons ev_c (ea_cons ev_c ea_nil)) (by show 2 ≤ 100000; decide)
    | _ => simp [kr] at hb
  refine q_when (b := decide (V.int (kr x) = V.int 1)) (by walk_at "et") (fun hb H3 e3 => s_retU (xs := rkL x) ?_ fun p H4 hp e4 h4 => q p H4 (fresh_back ((e1.trans e2).trans e3) hp) (((e1.trans e2).trans e3).trans e4) h4) fun hb H3 e3 => s_retU (xs := rkL x) ?_ fun p H4 hp e4 h4 => q p H4 (fresh_back ((e1.trans e2).trans e3) hp) (((e1.trans e2).trans e3).trans e4) h4
  · cases hx with
    | bl b => exact eu_tup (ea_cons ev_c (ea_cons (ev_intB (ev_var rfl)) ea_nil)) (by show 2 ≤ 100000; decide)
    | _ => simp [kr] at hb
  · cases hx with
    | non => exact absurd ‹decide (V.int (kr .non) = V.int 0) = false› (by decide)
    | bl b => exact absurd ‹decide (V.int (kr (.bl b)) = V.int 1) = false› (by show ¬ decide (V.int 1 = V.int 1) = false; decide)
    | int i => exact eu_tup (ea_cons (ev_var rfl) (ea_cons (ev_var rfl) ea_nil)) (by show 2 ≤ 100000; decide)
    | str s hs => exact eu_tup (ea_cons (ev_var rfl) (ea_cons (ev_var rfl) ea_nil)) (by show 2 ≤ 100000; decide)
theorem ok__law_rank (D : Dn K mg "_law_rank" s__law_rank ["value"]) (z_isinstance : mg "isinstance" = none) (z_str : mg "str" = none) :
    C8.Cal P w K mg base 1 "_law_rank" (sp__law_rank K) [] := by
  refine cal_of D sc__law_rank (fun vs H Q E h => ?_) (fun f cdv A outer s H vs Q E hr h => ?_)
  · obtain ⟨_, rfl, _⟩ := h
    rfl
  refine ⟨_, (pss_cons (ps_if (pt_cmpR op_isN (pv 0) pe_non (nomark _))
      (pss_one (ps_ret (pe_tup (pa_cons pe_int (pa_cons pe_int pa_nil)))))
      pss_nil)
    (pss_cons (ps_if (pt_cmpR op_isTF (pv 0) pe_bl (nomark _))
      (pss_one (ps_ret (pe_tup (pa_cons pe_int (pa_cons pe_int pa_nil)))))
      pss_nil)
    (pss_cons (ps_if (pt_cmpR op_isTF (pv 0) pe_bl (nomark _))
      (pss_one (ps_ret (pe_tup (pa_cons pe_int (pa_cons pe_int pa_nil)))))
      pss_nil)
    (pss_cons (ps_if (pt_val (pe_callB call_isi (by rfl) z_isinstance (by decide +kernel) (pa_cons (pv 0) (pa_cons (pe_bltn (v := .ty "str") (u := .type "str") rfl z_str (by decide +kernel) rfl) pa_nil))))
      (pss_one (ps_ret (pe_tup (pa_cons pe_int (pa_cons (pv 0) pa_nil)))))
      pss_nil)
    (pss_one (ps_ret (pe_tup (pa_cons pe_int (pa_cons (pv 0) pa_nil))))))))), ?_⟩
  obtain ⟨x, rfl, hx, q⟩ := h
  have one : ∀ {H0 H1 : Hp} {σ : L2.St} {ta tb : TE}, Ex H H0 → Ev ta σ H0 (.int (kr x)) → Ev tb σ H0 (payV x) → tRet (tTup (tCons ta (tCons tb tNil))) { nx := fun _ H' => Q .non H', rt := Q } σ H0 := fun {H0 H1 σ ta tb} e0 ha hb =>
    s_retU (xs := rkL x) (eu_tup (ea_cons ha (ea_cons hb ea_nil)) (by show 2 ≤ 100000; decide)) fun p H3 hp e3 h3 => q p H3 (fresh_back e0 hp) (e0.trans e3) h3
  cases hx with
  | non => exact q_when (b := true) (et_test (ev_op (ev_var rfl) ev_c rv_isN)) (fun _ H1 e1 => one (H1 := H) e1 ev_c ev_c) fun hb => nomatch hb
  | bl b =>
    refine q_when (b := false) (et_test (ev_op (ev_var rfl) ev_c rv_isN)) (fun hb => nomatch hb) fun _ H1 e1 => ?_
    refine q_when (b := decide (V.bl b = V.bl true)) (et_test (ev_op (ev_var rfl) ev_c rv_isT)) (fun hb H2 e2 => one (H1 := H) (e1.trans e2) ev_c ?_) fun hb H2 e2 => ?_
    · rw [V.bl.inj (of_decide_eq_true hb)]
      exact ev_c
    have hf : b = false := by
      cases b with
      | true => exact absurd hb (by decide)
      | false => rfl
    subst hf
    exact q_when (b := true) (et_test (ev_op (ev_var rfl) ev_c rv_isT)) (fun _ H3 e3 => one (H1 := H) ((e1.trans e2).trans e3) ev_c ev_c) fun hb => nomatch hb
  | int i =>
    refine q_when (b := false) (et_test (ev_op (ev_var rfl) ev_c rv_isN)) (fun hb => nomatch hb) fun _ H1 e1 => ?_
    refine q_when (b := false) (et_test (ev_op (ev_var rfl) ev_c rv_isT)) (fun hb => nomatch hb) fun _ H2 e2 => ?_
    refine q_when (b := false) (et_test (ev_op (ev_var rfl) ev_c rv_isT)) (fun hb => nomatch hb) fun _ H3 e3 => ?_
    refine q_when (b := false) (et_B (ev_isiP (ev_var rfl) (.int i) (by show kitB "int" "str" = some false; decide +kernel))) (fun hb => nomatch hb) fun _ H4 e4 => one (H1 := H) (((e1.trans e2).trans e3).trans e4) ev_c (ev_var rfl)
  | str s hs =>
    refine q_when (b := false) (et_test (ev_op (ev_var rfl) ev_c rv_isN)) (fun hb => nomatch hb) fun _ H1 e1 => ?_
    refine q_when (b := false) (et_test (ev_op (ev_var rfl) ev_c rv_isT)) (fun hb => nomatch hb) fun _ H2 e2 => ?_
    refine q_when (b := false) (et_test (ev_op (ev_var rfl) ev_c rv_isT)) (fun hb => nomatch hb) fun _ H3 e3 => ?_
    refine q_when (b := true) (et_B (ev_isiP (ev_var rfl) (.str s) (by show kitB "str" "str" = some true; decide +kernel))) (fun _ H4 e4 => one (H1 := H) (((e1.trans e2).trans e3).trans e4) ev_c (ev_var rfl)) fun hb => nomatch hb
theorem ok_is_integer (D : Dn K mg "is_integer" s_is_integer ["value"]) (z_bool : mg "bool" = none) (z_int : mg "int" = none) (z_isinstance : mg "isinstance" = none) :
    C8.Cal P w K mg base 1 "is_integer" (sp_is_integer K) [] := by
  refine cal_of D sc_is_integer (fun vs H Q E h => ?_) (fun f cdv A outer s H vs Q E hr h => ?_)
  · obtain ⟨_, rfl, _⟩ := h
    rfl
  refine ⟨_, (pss_one (ps_ret (pe_and (pe_callB call_isi (by rfl) z_isinstance (by decide +kernel) (pa_cons (pv 0) (pa_cons (pe_bltn (v := .ty "int") (u := .type "int") rfl z_int (by decide +kernel) rfl) pa_nil))) (pe_one (pe_not (pe_callB call_isi (by rfl) z_isinstance (by decide +kernel) (pa_cons (pv 0) (pa_cons (pe_bltn (v := .ty "bool") (u := .type "bool") rfl z_bool (by decide +kernel) rfl) pa_nil)))))))), ?_⟩
  obtain ⟨x, rfl, hx, q⟩ := h
  exact s_ret (ev_isInt (ev_var rfl) (ev_var rfl) hx) fun H2 e2 => q _ e2
theorem ok_same (D : Dn K mg "same" s_same ["first", "second"]) (c_rank : C8.Cal P w K mg base 2 "rank" (sp_rank K) []) :
    C8.Cal P w K mg base 3 "same" (sp_same K) [] := by
  refine cal_of D sc_same (fun vs H Q E h => ?_) (fun f cdv A outer s H vs Q E hr h => ?_)
  · obtain ⟨_, _, rfl, _⟩ := h
    rfl
  refine ⟨_, (pss_one (ps_ret (pe_cmpR (op_eqD (hu64 hr)) (C8.pe_c c_rank hr (by decide) (by rfl) (pa_cons (pv 0) pa_nil)) (C8.pe_c c_rank hr (by decide) (by rfl) (pa_cons (pv 1) pa_nil)) (nomark _)))), ?_⟩
  obtain ⟨x, y, rfl, hx, hy, q⟩ := h
  exact s_ret (ev_eqD (ed_rk (ec_rank (ev_var rfl) hx) hx) (ed_rk (ec_rank (ev_var rfl) hy) hy) (shaped_rk hx) (shaped_rk hy)) fun H2 e2 => q _ e2
theorem ok_before (D : Dn K mg "before" s_before ["first", "second"]) (c_rank : C8.Cal P w K mg base 2 "rank" (sp_rank K) []) :
    C8.Cal P w K mg base 3 "before" (sp_before K) [] := by
  refine cal_of D sc_before (fun vs H Q E h => ?_) (fun f cdv A outer s H vs Q E hr h => ?_)
  · obtain ⟨_, _, rfl, _⟩ := h
    rfl
  refine ⟨_, (pss_one (ps_ret (pe_cmpR (op_ltD (hu64 hr)) (C8.pe_c c_rank hr (by decide) (by rfl) (pa_cons (pv 0) pa_nil)) (C8.pe_c c_rank hr (by decide) (by rfl) (pa_cons (pv 1) pa_nil)) (nomark _)))), ?_⟩
  obtain ⟨x, y, rfl, hx, hy, q⟩ := h
  exact s_ret (ev_ltD (ed_rk (ec_rank (ev_var rfl) hx) hx) (ed_rk (ec_rank (ev_var rfl) hy) hy) (shaped_rk hx) (shaped_rk hy) (ord_rk hx hy) (by rw [dep_rk hx]; decide)) fun H2 e2 => q _ e2
end

--@SPLIT
def unNames : List Str := ["not", "is null", "negate", "length"]
def binNames : List Str := ["and", "or", "equal", "less", "at most", "same", "coalesce", "add", "join", "least"]
def bdV : V → Prop
  | .int i => -1152921504606846976 ≤ i ∧ i ≤ 1152921504606846976
  | _ => True

theorem cal_no {P : Program} {w : World} {K : PySem.W.Frag} {mg : Str → Option Value} {base : Heap} {x : Str} {st : Stmt} {N ps : List Str} {k : Nat} {sp : Sp} (D : Dn K mg x st ps) (S : FnScope N ps (C8.fnScope st)) (no : ∀ vs H Q E, sp vs H Q E → False) : C8.Cal P w K mg base (k + 1) x sp [] :=
  cal_of D S (fun vs H Q E h => (no vs H Q E h).elim) fun f cdv A outer s H vs Q E hr h => (no vs H Q E h).elim
/-! ### conditions: what they are as data -/
inductive Cnd where
  | col (n : Nat)
  | cst (v : V)
  | un (nm : Str) (a : Cnd)
  | bin (nm : Str) (a b : Cnd)
def vDc : V → PyData
  | .bl b => .bool b
  | .int i => .int i
  | .str s => .str s
  | _ => .none
theorem dp_vDc {K : PySem.W.Frag} {H : Hp} {x : V} (h : Pl x) : Dp K H x (vDc x) := by
  cases h with
  | non => exact .non
  | bl b => exact .bl b
  | int i => exact .int i
  | str s => exact .str s
theorem vDc_is {K : PySem.W.Frag} {H : Hp} {v x : V} (h : Pl x) (hd : Dp K H v (vDc x)) : v = x := by cases h <;> cases hd <;> rfl
def Cnd.d : Cnd → PyData
  | .col n => .tuple [.str "column", .int (n : Int)]
  | .cst v => .tuple [.str "constant", vDc v]
  | .un nm a => .tuple [.str "unary", .str nm, a.d]
  | .bin nm a b => .tuple [.str "binary", .str nm, a.d, b.d]
def Cnd.dep : Cnd → Nat
  | .col _ => 1
  | .cst _ => 1
  | .un _ a => a.dep + 1
  | .bin _ a b => max a.dep b.dep + 1
/-- over w columns, of these names -/
inductive Cnd.ok (w : Nat) : Cnd → Prop where
  | col (n : Nat) (h : n < w) : Cnd.ok w (.col n)
  | cst (v : V) (h : Ok v ∧ bdV v) : Cnd.ok w (.cst v)
  | un (nm : Str) (a : Cnd) (h : nm ∈ unNames) (ha : a.ok w) : Cnd.ok w (.un nm a)
  | bin (nm : Str) (a b : Cnd) (h : nm ∈ binNames) (ha : a.ok w) (hb : b.ok w) : Cnd.ok w (.bin nm a b)
theorem noL_vDc (v : V) : noL (vDc v) = true := by cases v <;> rfl
theorem noL_cx : ∀ e : Cnd, noL e.d = true
  | .col _ => rfl
  | .cst v => by
    show (true && (noL (vDc v) && true)) = true
    rw [noL_vDc]
    rfl
  | .un _ a => by
    show (true && (true && (noL a.d && true))) = true
    rw [noL_cx a]
    rfl
  | .bin _ a b => by
    show (true && (true && (noL a.d && (noL b.d && true)))) = true
    rw [noL_cx a, noL_cx b]
    rfl

/-! ### the three tables -/
def neg3 (x : V) : V := if x = .bl true then .bl false else if x = .bl false then .bl true else .non
def and3 (x y : V) : V := if x = .bl false ∨ y = .bl false then .bl false else if x = .bl true ∧ y = .bl true then .bl true else .non
def or3 (x y : V) : V := if x = .bl true ∨ y = .bl true then .bl true else if x = .bl false ∧ y = .bl false then .bl false else .non
def sp_negated (K : PySem.W.Frag) : Sp := fun vs H Q _ => ∃ x : V, vs = [x] ∧ ∀ H', Ex H H' → Q (neg3 x) H'
def sp_both (K : PySem.W.Frag) : Sp := fun vs H Q _ => ∃ x y : V, vs = [x, y] ∧ ∀ H', Ex H H' → Q (and3 x y) H'
def sp_either (K : PySem.W.Frag) : Sp := fun vs H Q _ => ∃ x y : V, vs = [x, y] ∧ ∀ H', Ex H H' → Q (or3 x y) H'
section
variable {P : Program} {w : World} {K : PySem.W.Frag} {mg : Str → Option Value} {base : Heap}
theorem ok_both (D : Dn K mg "both" s_both ["first", "second"]) :
    C8.Cal P w K mg base 1 "both" (sp_both K) [] := by
  refine cal_of D sc_both (fun vs H Q E h => ?_) (fun f cdv A outer s H vs Q E hr h => ?_)
  · obtain ⟨_, _, rfl, _⟩ := h
    rfl
  refine ⟨_, (pss_cons (ps_if (PW.pt (pw_or (pt_cmpR op_isTF (pv 0) pe_bl (nomark _)) (pw_or1 (pt_cmpR op_isTF (pv 1) pe_bl (nomark _)))))
      (pss_one (ps_ret pe_bl))
      pss_nil)
    (pss_cons (ps_if (PW.pt (pw_and (pt_cmpR op_isTF (pv 0) pe_bl (nomark _)) (pw_and1 (pt_cmpR op_isTF (pv 1) pe_bl (nomark _)))))
      (pss_one (ps_ret pe_bl))
      pss_nil)
    (pss_one (ps_ret pe_non)))), ?_⟩
  obtain ⟨x, y, rfl, q⟩ := h
  refine q_when (b := decide (x = .bl false) || decide (y = .bl false)) (by walk_at "et") (fun hb H1 e1 => s_ret (v := and3 x y) ?_ fun H2 e2 => q _ (e1.trans e2)) fun hb H1 e1 => ?_
  · refine ev_is ev_c ?_
    unfold and3
    rw [if_pos (by rw [Bool.or_eq_true, decide_eq_true_eq, decide_eq_true_eq] at hb; exact hb)]
  have nb : ¬ (x = .bl false ∨ y = .bl false) := by
    intro z
    rw [Bool.or_eq_false_iff, decide_eq_false_iff_not, decide_eq_false_iff_not] at hb
    exact z.elim hb.1 hb.2
  refine q_when (b := decide (x = .bl true) && decide (y = .bl true)) (by walk_at "et") (fun hc H2 e2 => s_ret (v := and3 x y) ?_ fun H3 e3 => q _ ((e1.trans e2).trans e3)) fun hc H2 e2 => s_ret (v := and3 x y) ?_ fun H3 e3 => q _ ((e1.trans e2).trans e3)
  · refine ev_is ev_c ?_
    unfold and3
    rw [if_neg nb, if_pos (by rw [Bool.and_eq_true, decide_eq_true_eq, decide_eq_true_eq] at hc; exact hc)]
  · refine ev_is ev_c ?_
    unfold and3
    rw [if_neg nb, if_neg (fun z => by rw [decide_eq_true z.1, decide_eq_true z.2] at hc; cases hc)]
theorem ok_either (D : Dn K mg "either" s_either ["first", "second"]) :
    C8.Cal P w K mg base 1 "either" (sp_either K) [] := by
  refine cal_of D sc_either (fun vs H Q E h => ?_) (fun f cdv A outer s H vs Q E hr h => ?_)
  · obtain ⟨_, _, rfl, _⟩ := h
    rfl
  refine ⟨_, (pss_cons (ps_if (PW.pt (pw_or (pt_cmpR op_isTF (pv 0) pe_bl (nomark _)) (pw_or1 (pt_cmpR op_isTF (pv 1) pe_bl (nomark _)))))
      (pss_one (ps_ret pe_bl))
      pss_nil)
    (pss_cons (ps_if (PW.pt (pw_and (pt_cmpR op_isTF (pv 0) pe_bl (nomark _)) (pw_and1 (pt_cmpR op_isTF (pv 1) pe_bl (nomark _)))))
      (pss_one (ps_ret pe_bl))
      pss_nil)
    (pss_one (ps_ret pe_non)))), ?_⟩
  obtain ⟨x, y, rfl, q⟩ := h
  refine q_when (b := decide (x = .bl true) || decide (y = .bl true)) (by walk_at "et") (fun hb H1 e1 => s_ret (v := or3 x y) ?_ fun H2 e2 => q _ (e1.trans e2)) fun hb H1 e1 => ?_
  · refine ev_is ev_c ?_
    unfold or3
    rw [if_pos (by rw [Bool.or_eq_true, decide_eq_true_eq, decide_eq_true_eq] at hb; exact hb)]
  have nb : ¬ (x = .bl true ∨ y = .bl true) := by
    intro z
    rw [Bool.or_eq_false_iff, decide_eq_false_iff_not, decide_eq_false_iff_not] at hb
    exact z.elim hb.1 hb.2
  refine q_when (b := decide (x = .bl false) && decide (y = .bl false)) (by walk_at "et") (fun hc H2 e2 => s_ret (v := or3 x y) ?_ fun H3 e3 => q _ ((e1.trans e2).trans e3)) fun hc H2 e2 => s_ret (v := or3 x y) ?_ fun H3 e3 => q _ ((e1.trans e2).trans e3)
  · refine ev_is ev_c ?_
    unfold or3
    rw [if_neg nb, if_pos (by rw [Bool.and_eq_true, decide_eq_true_eq, decide_eq_true_eq] at hc; exact hc)]
  · refine ev_is ev_c ?_
    unfold or3
    rw [if_neg nb, if_neg (fun z => by rw [decide_eq_true z.1, decide_eq_true z.2] at hc; cases hc)]
section
variable {σ : L2.St} {H : Hp} {ta tb : TE} {E : XK} {x y : V}
theorem ec_both (ha : Ev ta σ H x) (hb : Ev tb σ H y) : Ev (tCall (sp_both K) [] E (tCons ta (tCons tb tNil))) σ H (and3 x y) := ev_call (ea_cons ha (ea_cons hb ea_nil)) fun H1 e Q q E => ⟨x, y, rfl, q⟩
theorem ec_either (ha : Ev ta σ H x) (hb : Ev tb σ H y) : Ev (tCall (sp_either K) [] E (tCons ta (tCons tb tNil))) σ H (or3 x y) := ev_call (ea_cons ha (ea_cons hb ea_nil)) fun H1 e Q q E => ⟨x, y, rfl, q⟩
end
end

section
variable {P : Program} {w : World} {K : PySem.W.Frag} {mg : Str → Option Value} {base : Heap}
theorem ok_negated (D : Dn K mg "negated" s_negated ["value"]) :
    C8.Cal P w K mg base 1 "negated" (sp_negated K) [] := by
  refine cal_of D sc_negated (fun vs H Q E h => ?_) (fun f cdv A outer s H vs Q E hr h => ?_)
  · obtain ⟨_, rfl, _⟩ := h
    rfl
  refine ⟨_, (pss_cons (ps_if (pt_cmpR op_isTF (pv 0) pe_bl (nomark _))
      (pss_one (ps_ret pe_bl))
      pss_nil)
    (pss_cons (ps_if (pt_cmpR op_isTF (pv 0) pe_bl (nomark _))
      (pss_one (ps_ret pe_bl))
      pss_nil)
    (pss_one (ps_ret pe_non)))), ?_⟩
  obtain ⟨x, rfl, q⟩ := h
  refine q_when (b := decide (x = .bl true)) (by walk_at "et") (fun hb H1 e1 => s_ret (v := neg3 x) ?_ fun H2 e2 => q _ (e1.trans e2)) fun hb H1 e1 => ?_
  · refine ev_is ev_c ?_
    unfold neg3
    rw [if_pos (of_decide_eq_true hb)]
  refine q_when (b := decide (x = .bl false)) (by walk_at "et") (fun hc H2 e2 => s_ret (v := neg3 x) ?_ fun H3 e3 => q _ ((e1.trans e2).trans e3)) fun hc H2 e2 => s_ret (v := neg3 x) ?_ fun H3 e3 => q _ ((e1.trans e2).trans e3)
  · refine ev_is ev_c ?_
    unfold neg3
    rw [if_neg (of_decide_eq_false hb), if_pos (of_decide_eq_true hc)]
  · refine ev_is ev_c ?_
    unfold neg3
    rw [if_neg (of_decide_eq_false hb), if_neg (of_decide_eq_false hc)]

end
--@SPLIT
/-! ### what an expression is worth in a row -/
def bothOk (x y : V) : Prop := Ok x ∧ Ok y
def anyV (_ _ : V) : Prop := True
def twoI (x y : V) : Prop := ∃ a b : Int, x = .int a ∧ y = .int b
def twoS (x y : V) : Prop := ∃ a b : Str, x = .str a ∧ y = .str b ∧ a.length ≤ 10000 ∧ b.length ≤ 10000
def sameV (x y : V) : V := .bl (PyData.eqv (rkD x) (rkD y))
def lessV (x y : V) : V := .bl (ltD (rkD x) (rkD y))
def mostV (x y : V) : V := .bl (!ltD (rkD y) (rkD x))
def leastV (x y : V) : V := if ltD (rkD y) (rkD x) = true then y else x
def coalV (x y : V) : V := if x = .non then y else x
def addV : V → V → V
  | .int i, .int j => limV (i + j)
  | _, _ => .non
def joinV : V → V → V
  | .str a, .str b => if 10000 < a.length + b.length then .non else .str (a ++ b)
  | _, _ => .non
def isStr : V → Bool
  | .str _ => true
  | _ => false
def negV : V → V
  | .int i => .int (-i)
  | _ => .non
def lenV : V → V
  | .str s => .int (s.length : Int)
  | _ => .non
def alike (x y : V) : Bool := (!decide (x = .non)) && decide (V.int (kr x) = V.int (kr y))
def binV (nm : Str) (x y : V) : V :=
  if nm = "and" then and3 x y else if nm = "or" then or3 x y else if nm = "same" then sameV x y else if nm = "coalesce" then coalV x y
  else if nm = "add" then addV x y else if nm = "join" then joinV x y
  else if alike x y = true then (if nm = "equal" then sameV x y else if nm = "less" then lessV x y else if nm = "at most" then mostV x y else leastV x y) else .non
def unV (nm : Str) (x : V) : V := if nm = "not" then neg3 x else if nm = "is null" then .bl (decide (x = .non)) else if nm = "negate" then negV x else lenV x
def evE (xs : List V) : Cnd → V
  | .col n => xs.getD n .non
  | .cst v => v
  | .un nm a => unV nm (evE xs a)
  | .bin nm a b => binV nm (evE xs a) (evE xs b)
theorem lim_ok (n : Int) : Ok (limV n) := by unfold limV; split; exact .int _; exact .non
theorem strOk_app {a b : Str} (ha : PyData.strOk a = true) (hb : PyData.strOk b = true) : PyData.strOk (a ++ b) = true := by
  unfold PyData.strOk at ha hb ⊢
  show ((a.cps ++ b.cps).all _) = true
  rw [Array.all_append, ha, hb]
  rfl
theorem len_app (a b : Str) : (a ++ b).length = a.length + b.length := Array.size_append
theorem neg_ok (x : V) : Ok (neg3 x) := by unfold neg3; split; exact .bl _; split; exact .bl _; exact .non
theorem and_ok (x y : V) : Ok (and3 x y) := by unfold and3; split; exact .bl _; split; exact .bl _; exact .non
theorem or_ok (x y : V) : Ok (or3 x y) := by unfold or3; split; exact .bl _; split; exact .bl _; exact .non
theorem un_ok (nm : Str) {x : V} (h : Ok x) : Ok (unV nm x) := by
  unfold unV
  split
  · exact neg_ok x
  split
  · exact .bl _
  split
  · cases h <;> first | exact .non | exact .int _
  · cases h <;> first | exact .non | exact .int _
theorem add_ok (x y : V) : Ok (addV x y) := by
  unfold addV
  split
  · exact lim_ok _
  · exact .non
theorem join_ok {x y : V} (hx : Ok x) (hy : Ok y) : Ok (joinV x y) := by
  cases hx with
  | str a ha =>
    cases hy with
    | str b hb =>
      show Ok (if 10000 < a.length + b.length then .non else .str (a ++ b))
      split
      · exact .non
      · exact .str _ ⟨strOk_app ha.1 hb.1, by rw [len_app]; omega⟩
    | _ => exact .non
  | _ => exact .non
theorem bin_ok (nm : Str) {x y : V} (hx : Ok x) (hy : Ok y) : Ok (binV nm x y) := by
  unfold binV
  split
  · exact and_ok x y
  split
  · exact or_ok x y
  split
  · exact .bl _
  split
  · unfold coalV; split <;> assumption
  split
  · exact add_ok x y
  split
  · exact join_ok hx hy
  split
  · split
    · exact .bl _
    split
    · exact .bl _
    split
    · exact .bl _
    · unfold leastV; split <;> assumption
  · exact .non
theorem row_ok {xs : List V} (h : ∀ x ∈ xs, Ok x) (n : Nat) : Ok (xs.getD n .non) := by
  rw [List.getD_eq_getElem?_getD]
  cases e : xs[n]? with
  | none => exact .non
  | some x => exact h x (List.mem_of_getElem? e)
theorem ev_ok {w : Nat} {xs : List V} (h : ∀ x ∈ xs, Ok x) : ∀ {e : Cnd}, e.ok w → Ok (evE xs e)
  | .col n, _ => row_ok h n
  | .cst v, .cst _ hv => hv.1
  | .un nm a, .un _ _ _ ha => un_ok nm (ev_ok h ha)
  | .bin nm a b, .bin _ _ _ _ ha hb => bin_ok nm (ev_ok h ha) (ev_ok h hb)
theorem bd_lim (n : Int) : bdV (limV n) := by
  unfold limV
  split
  · rename_i h
    exact ⟨by omega, by omega⟩
  · trivial
theorem bd_bl (b : Bool) : bdV (.bl b) := trivial
theorem bd_neg (x : V) : bdV (neg3 x) := by unfold neg3; split; trivial; split <;> trivial
theorem bd_and (x y : V) : bdV (and3 x y) := by unfold and3; split; trivial; split <;> trivial
theorem bd_or (x y : V) : bdV (or3 x y) := by unfold or3; split; trivial; split <;> trivial
theorem bd_un (nm : Str) {x : V} (hx : Ok x) (h : bdV x) : bdV (unV nm x) := by
  unfold unV
  split
  · exact bd_neg x
  split
  · trivial
  split
  · cases hx with
    | int i => exact ⟨by have := h.2; omega, by have := h.1; omega⟩
    | _ => trivial
  · cases hx with
    | str s hs => exact ⟨by omega, by have := hs.2; omega⟩
    | _ => trivial
theorem bd_add (x y : V) : bdV (addV x y) := by
  unfold addV
  split
  · exact bd_lim _
  · trivial
theorem bd_join (x y : V) : bdV (joinV x y) := by
  unfold joinV
  split
  · split <;> trivial
  · trivial
theorem bd_bin (nm : Str) {x y : V} (hx : bdV x) (hy : bdV y) : bdV (binV nm x y) := by
  unfold binV
  split
  · exact bd_and x y
  split
  · exact bd_or x y
  split
  · trivial
  split
  · unfold coalV; split <;> assumption
  split
  · exact bd_add x y
  split
  · exact bd_join x y
  split
  · split
    · trivial
    split
    · trivial
    split
    · trivial
    · unfold leastV; split <;> assumption
  · trivial
theorem bd_ev {w : Nat} {xs : List V} (h : ∀ x ∈ xs, Ok x) (hb : ∀ x ∈ xs, bdV x) : ∀ {e : Cnd}, e.ok w → bdV (evE xs e)
  | .col n, _ => by
    show bdV (xs.getD n .non)
    rw [List.getD_eq_getElem?_getD]
    cases e : xs[n]? with
    | none => trivial
    | some x => exact hb x (List.mem_of_getElem? e)
  | .cst v, .cst _ hv => hv.2
  | .un nm a, .un _ _ _ ha => bd_un nm (ev_ok h ha) (bd_ev h hb ha)
  | .bin nm a b, .bin _ _ _ _ ha hb2 => bd_bin nm (bd_ev h hb ha) (bd_ev h hb hb2)
theorem Ok.pl0 {x : V} (h : Ok x) : Pl x := by cases h <;> constructor
inductive Opr2 (P : Program) (w : World) (K : PySem.W.Frag) (mg : Str → Option Value) (base : Heap) (dA dL dI dT : Addr) : Str → V → V → V → Prop
  | any {nm : Str} {x y : V} {f : Addr} {pre : V → V → Prop} {op : V → V → V} : PySem.W.nsIn K dA nm = some (some (.ref f)) → L2.Held P w K mg base 4 f (spBin pre op) → pre x y → Opr2 P w K mg base dA dL dI dT nm x y (op x y)
  | alike {nm : Str} {x y : V} {f : Addr} {op : V → V → V} : PySem.W.nsIn K dA nm = some none → PySem.W.nsIn K dL nm = some (some (.ref f)) → L2.Held P w K mg base 4 f (spBin bothOk op) → Opr2 P w K mg base dA dL dI dT nm x y (if alike x y = true then op x y else .non)
  | nums {nm : Str} {x y : V} {f : Addr} : PySem.W.nsIn K dA nm = some none → PySem.W.nsIn K dL nm = some none → PySem.W.nsIn K dI nm = some (some (.ref f)) → L2.Held P w K mg base 4 f (spBin twoI addV) → Opr2 P w K mg base dA dL dI dT nm x y (addV x y)
  | wrds {nm : Str} {x y : V} {f : Addr} : PySem.W.nsIn K dA nm = some none → PySem.W.nsIn K dL nm = some none → PySem.W.nsIn K dI nm = some none → PySem.W.nsIn K dT nm = some (some (.ref f)) → L2.Held P w K mg base 4 f (spBin twoS joinV) → Opr2 P w K mg base dA dL dI dT nm x y (joinV x y)
theorem rv_inKD {K : PySem.W.Frag} {d : Addr} {z : Str} {r : Option Value} {H : Hp} (e : PySem.W.nsIn K d z = some r) : RV (fun x y H Q => ∃ (z : Str) (r : Option Value), x = .str z ∧ y = .ref d ∧ PySem.W.nsIn K d z = some r ∧ Q (.bl r.isSome) H) (.str z) (.ref d) H (.bl r.isSome) :=
  fun H1 _ _ q => ⟨z, r, rfl, rfl, e, q H1 (Ex.refl H1)⟩
theorem rv_ixKD {K : PySem.W.Frag} {w : World} {d : Addr} {es : Array DictEntry} {n : Nat} {z : Str} {u : Value} {v : V} {H : Hp} (D : KDict K w d es n) (e : PySem.W.nsIn K d z = some (some u)) (r : RelV v u) : RV (rIxD K w) (.ref d) (.str z) H v :=
  fun H1 _ _ q => ⟨d, z, v, rfl, rfl, ⟨es, n, u, D.at_, D.lit, e, r⟩, q H1 (Ex.refl H1)⟩
theorem dp_tupD {K : PySem.W.Frag} {H : Hp} {v : V} {ds : List PyData} (h : Dp K H v (.tuple ds)) : ∃ b ys, v = .ref b ∧ SqT K H b ys ∧ DpAll K H ys ds := by
  cases h with
  | tup hS hd => exact ⟨_, _, rfl, hS, hd⟩
theorem dp_strD {K : PySem.W.Frag} {H : Hp} {v : V} {s : Str} (h : Dp K H v (.str s)) : v = .str s := by cases h; rfl
theorem dp_intD {K : PySem.W.Frag} {H : Hp} {v : V} {n : Int} (h : Dp K H v (.int n)) : v = .int n := by cases h; rfl
def sp__both (K : PySem.W.Frag) : Sp := spBin anyV and3
def sp__either (K : PySem.W.Frag) : Sp := spBin anyV or3
def sp__same (K : PySem.W.Frag) : Sp := spBin bothOk sameV
def sp__equal (K : PySem.W.Frag) : Sp := spBin bothOk sameV
def sp__less (K : PySem.W.Frag) : Sp := spBin bothOk lessV
def sp__at_most (K : PySem.W.Frag) : Sp := spBin bothOk mostV
def sp_least_of_two (K : PySem.W.Frag) : Sp := spBin bothOk leastV
def sp__first_known (K : PySem.W.Frag) : Sp := spBin anyV coalV
def sp__add (K : PySem.W.Frag) : Sp := spBin twoI addV
def sp__join (K : PySem.W.Frag) : Sp := spBin twoS joinV
def sp_limited (K : PySem.W.Frag) : Sp := fun vs H Q _ => ∃ n : Int, vs = [.int n] ∧ ∀ H', Ex H H' → Q (limV n) H'
def sp__are_alike (K : PySem.W.Frag) : Sp := fun vs H Q _ => ∃ x y : V, vs = [x, y] ∧ Ok x ∧ Ok y ∧ ∀ H', Ex H H' → Q (.bl (alike x y)) H'
def sp_value_of_two (K : PySem.W.Frag) : Sp := fun vs H Q _ => ∃ (nm : Str) (x y : V), vs = [.str nm, x, y] ∧ nm ∈ binNames ∧ Ok x ∧ Ok y ∧ ∀ H', Ex H H' → Q (binV nm x y) H'
abbrev sp_binary (K : PySem.W.Frag) : Sp := sp_value_of_two K
def sp__negate (K : PySem.W.Frag) : Sp := fun vs H Q _ => ∃ i : Int, vs = [.int i] ∧ ∀ H', Ex H H' → Q (.int (-i)) H'
def sp__length (K : PySem.W.Frag) : Sp := fun vs H Q _ => ∃ s : Str, vs = [.str s] ∧ s.length ≤ 10000 ∧ ∀ H', Ex H H' → Q (.int (s.length : Int)) H'
def sp_value_of_one (K : PySem.W.Frag) : Sp := fun vs H Q _ => ∃ (nm : Str) (x : V), vs = [.str nm, x] ∧ nm ∈ unNames ∧ Ok x ∧ ∀ H', Ex H H' → Q (unV nm x) H'
abbrev sp_unary (K : PySem.W.Frag) : Sp := sp_value_of_one K
/-- a condition as data, of names that are known, n deep at most -/
def CxAt (K : PySem.W.Frag) (H : Hp) (v : V) (e : Cnd) (n : Nat) : Prop := Dp K H v e.d ∧ e.dep ≤ n ∧ ∃ w, e.ok w
theorem CxAt.ex {K : PySem.W.Frag} {H H' : Hp} {v : V} {e : Cnd} {n : Nat} (h : CxAt K H v e n) (x : Ex H H') : CxAt K H' v e n := ⟨ex_dp x h.1, h.2⟩
def spR_evaluate : Nat → PySem.W.Frag → Sp
  | 0, _ => fun _ _ _ _ => False
  | n + 1, K => fun vs H Q _ => ∃ (v : V) (e : Cnd) (a : Addr) (xs : List V), vs = [v, .ref a] ∧ CxAt K H v e (n + 1) ∧ SqL K H a xs ∧ (∀ x ∈ xs, Ok x) ∧ xs.length ≤ 1000 ∧ ∀ H', Ex H H' → Q (evE xs e) H'
def sp_evaluate (K : PySem.W.Frag) : Sp := spR_evaluate 8 K
def sp_holds (K : PySem.W.Frag) : Sp := fun vs H Q _ => ∃ (v : V) (e : Cnd) (a : Addr) (xs : List V), vs = [v, .ref a] ∧ CxAt K H v e 8 ∧ SqL K H a xs ∧ (∀ x ∈ xs, Ok x) ∧ xs.length ≤ 1000 ∧ ∀ H', Ex H H' → Q (.bl (decide (evE xs e = .bl true))) H'
section
variable {P : Program} {w : World} {K : PySem.W.Frag} {mg : Str → Option Value} {base : Heap}
section
variable {σ : L2.St} {H : Hp} {ta tb tc : TE} {E : XK} {x y v : V} {nm : Str} {e : Cnd} {n : Nat} {a : Addr} {xs : List V}
theorem ev_isStr (ha : Ev ta σ H x) (h : Ok x) : Ev (tCB (rIsi K) (tCons ta (tCons (tC (.ty "str")) tNil))) σ H (.bl (isStr x)) := by
  cases h with
  | non => exact ev_isiP (b := false) ha .non (by show kitB "NoneType" "str" = some false; decide +kernel)
  | bl b => exact ev_isiP (b := false) ha (.bl b) (by show kitB "bool" "str" = some false; decide +kernel)
  | int i => exact ev_isiP (b := false) ha (.int i) (by show kitB "int" "str" = some false; decide +kernel)
  | str s _ => exact ev_isiP (b := true) ha (.str s) (by show kitB "str" "str" = some true; decide +kernel)
theorem ec_alike (ha : Ev ta σ H x) (hb : Ev tb σ H y) (h1 : Ok x) (h2 : Ok y) : Ev (tCall (sp__are_alike K) [] E (tCons ta (tCons tb tNil))) σ H (.bl (alike x y)) := ev_call (ea_cons ha (ea_cons hb ea_nil)) fun H1 e Q q E => ⟨x, y, rfl, h1, h2, q⟩
theorem ec_neg3 (ha : Ev ta σ H x) : Ev (tCall (sp_negated K) [] E (tCons ta tNil)) σ H (neg3 x) := ev_call (ea_cons ha ea_nil) fun H1 e Q q E => ⟨x, rfl, q⟩
theorem ec_two (h : nm ∈ binNames) (h1 : Ok x) (h2 : Ok y) (ha : Ev ta σ H (.str nm)) (hb : Ev tb σ H x) (hc : Ev tc σ H y) : Ev (tCall (sp_value_of_two K) [] E (tCons ta (tCons tb (tCons tc tNil)))) σ H (binV nm x y) := ev_call (ea_cons ha (ea_cons hb (ea_cons hc ea_nil))) fun H1 e Q q E => ⟨nm, x, y, rfl, h, h1, h2, q⟩
theorem ec_one (h : nm ∈ unNames) (h1 : Ok x) (ha : Ev ta σ H (.str nm)) (hb : Ev tb σ H x) : Ev (tCall (sp_value_of_one K) [] E (tCons ta (tCons tb tNil))) σ H (unV nm x) := ev_call (ea_cons ha (ea_cons hb ea_nil)) fun H1 e Q q E => ⟨nm, x, rfl, h, h1, q⟩
theorem ec_evalR (ha : Ev ta σ H v) (hb : Ev tb σ H (.ref a)) (he : CxAt K H v e (n + 1)) (hS : SqL K H a xs) (hx : ∀ x ∈ xs, Ok x) (hl : xs.length ≤ 1000) : Ev (tCall (spR_evaluate (n + 1) K) [] E (tCons ta (tCons tb tNil))) σ H (evE xs e) := ev_call (ea_cons ha (ea_cons hb ea_nil)) fun H1 e1 Q q E => ⟨v, e, a, xs, rfl, he.ex e1, ex_l e1 hS, hx, hl, q⟩
theorem ec_eval (ha : Ev ta σ H v) (hb : Ev tb σ H (.ref a)) (he : CxAt K H v e 8) (hS : SqL K H a xs) (hx : ∀ x ∈ xs, Ok x) (hl : xs.length ≤ 1000) : Ev (tCall (sp_evaluate K) [] E (tCons ta (tCons tb tNil))) σ H (evE xs e) := ec_evalR ha hb he hS hx hl
theorem ec_holds (ha : Ev ta σ H v) (hb : Ev tb σ H (.ref a)) (he : CxAt K H v e 8) (hS : SqL K H a xs) (hx : ∀ x ∈ xs, Ok x) (hl : xs.length ≤ 1000) : Ev (tCall (sp_holds K) [] E (tCons ta (tCons tb tNil))) σ H (.bl (decide (evE xs e = .bl true))) := ev_call (ea_cons ha (ea_cons hb ea_nil)) fun H1 e1 Q q E => ⟨v, e, a, xs, rfl, he.ex e1, ex_l e1 hS, hx, hl, q⟩
end
theorem ok__both (D : Dn K mg "_both" s__both ["first", "second"]) (c_both : C8.Cal P w K mg base 1 "both" (sp_both K) []) :
    C8.Cal P w K mg base 2 "_both" (sp__both K) [] := by
  refine cal_of D sc__both (fun vs H Q E h => ?_) (fun f cdv A outer s H vs Q E hr h => ?_)
  · obtain ⟨_, _, rfl, _⟩ := h
    rfl
  refine ⟨_, (pss_one (ps_ret (C8.pe_c c_both hr (by decide) (by rfl) (pa_cons (pv 0) (pa_cons (pv 1) pa_nil))))), ?_⟩
  obtain ⟨x, y, rfl, _, q⟩ := h
  exact s_ret (ec_both (ev_var rfl) (ev_var rfl)) fun H2 e2 => q _ e2
theorem ok__either (D : Dn K mg "_either" s__either ["first", "second"]) (c_either : C8.Cal P w K mg base 1 "either" (sp_either K) []) :
    C8.Cal P w K mg base 2 "_either" (sp__either K) [] := by
  refine cal_of D sc__either (fun vs H Q E h => ?_) (fun f cdv A outer s H vs Q E hr h => ?_)
  · obtain ⟨_, _, rfl, _⟩ := h
    rfl
  refine ⟨_, (pss_one (ps_ret (C8.pe_c c_either hr (by decide) (by rfl) (pa_cons (pv 0) (pa_cons (pv 1) pa_nil))))), ?_⟩
  obtain ⟨x, y, rfl, _, q⟩ := h
  exact s_ret (ec_either (ev_var rfl) (ev_var rfl)) fun H2 e2 => q _ e2
theorem ok__same (D : Dn K mg "_same" s__same ["first", "second"]) (c_same : C8.Cal P w K mg base 3 "same" (sp_same K) []) :
    C8.Cal P w K mg base 4 "_same" (sp__same K) [] := by
  refine cal_of D sc__same (fun vs H Q E h => ?_) (fun f cdv A outer s H vs Q E hr h => ?_)
  · obtain ⟨_, _, rfl, _⟩ := h
    rfl
  refine ⟨_, (pss_one (ps_ret (C8.pe_c c_same hr (by decide) (by rfl) (pa_cons (pv 0) (pa_cons (pv 1) pa_nil))))), ?_⟩
  obtain ⟨x, y, rfl, ⟨hx, hy⟩, q⟩ := h
  exact s_ret (ec_same (ev_var rfl) (ev_var rfl) hx hy) fun H2 e2 => q _ e2
theorem ok__equal (D : Dn K mg "_equal" s__equal ["first", "second"]) (c_same : C8.Cal P w K mg base 3 "same" (sp_same K) []) :
    C8.Cal P w K mg base 4 "_equal" (sp__equal K) [] := by
  refine cal_of D sc__equal (fun vs H Q E h => ?_) (fun f cdv A outer s H vs Q E hr h => ?_)
  · obtain ⟨_, _, rfl, _⟩ := h
    rfl
  refine ⟨_, (pss_one (ps_ret (C8.pe_c c_same hr (by decide) (by rfl) (pa_cons (pv 0) (pa_cons (pv 1) pa_nil))))), ?_⟩
  obtain ⟨x, y, rfl, ⟨hx, hy⟩, q⟩ := h
  exact s_ret (ec_same (ev_var rfl) (ev_var rfl) hx hy) fun H2 e2 => q _ e2
theorem ok__less (D : Dn K mg "_less" s__less ["first", "second"]) (c_before : C8.Cal P w K mg base 3 "before" (sp_before K) []) :
    C8.Cal P w K mg base 4 "_less" (sp__less K) [] := by
  refine cal_of D sc__less (fun vs H Q E h => ?_) (fun f cdv A outer s H vs Q E hr h => ?_)
  · obtain ⟨_, _, rfl, _⟩ := h
    rfl
  refine ⟨_, (pss_one (ps_ret (C8.pe_c c_before hr (by decide) (by rfl) (pa_cons (pv 0) (pa_cons (pv 1) pa_nil))))), ?_⟩
  obtain ⟨x, y, rfl, ⟨hx, hy⟩, q⟩ := h
  exact s_ret (ec_before (ev_var rfl) (ev_var rfl) hx hy) fun H2 e2 => q _ e2
theorem ok__at_most (D : Dn K mg "_at_most" s__at_most ["first", "second"]) (c_before : C8.Cal P w K mg base 3 "before" (sp_before K) []) :
    C8.Cal P w K mg base 4 "_at_most" (sp__at_most K) [] := by
  refine cal_of D sc__at_most (fun vs H Q E h => ?_) (fun f cdv A outer s H vs Q E hr h => ?_)
  · obtain ⟨_, _, rfl, _⟩ := h
    rfl
  refine ⟨_, (pss_one (ps_ret (pe_not (C8.pe_c c_before hr (by decide) (by rfl) (pa_cons (pv 1) (pa_cons (pv 0) pa_nil)))))), ?_⟩
  obtain ⟨x, y, rfl, ⟨hx, hy⟩, q⟩ := h
  exact s_ret (ev_notV (ec_before (ev_var rfl) (ev_var rfl) hy hx)) fun H2 e2 => q _ e2
theorem ok__are_alike (D : Dn K mg "_are_alike" s__are_alike ["first", "second"]) (c_kind_rank : C8.Cal P w K mg base 1 "kind_rank" (sp_kind_rank K) []) :
    C8.Cal P w K mg base 2 "_are_alike" (sp__are_alike K) [] := by
  refine cal_of D sc__are_alike (fun vs H Q E h => ?_) (fun f cdv A outer s H vs Q E hr h => ?_)
  · obtain ⟨_, _, rfl, _⟩ := h
    rfl
  refine ⟨_, (pss_one (ps_ret (pe_and (pe_cmpR op_notN (pv 0) pe_non (nomark _)) (pe_one (pe_cmpR op_eq (C8.pe_c c_kind_rank hr (by decide) (by rfl) (pa_cons (pv 0) pa_nil)) (C8.pe_c c_kind_rank hr (by decide) (by rfl) (pa_cons (pv 1) pa_nil)) (nomark _)))))), ?_⟩
  obtain ⟨x, y, rfl, hx, hy, q⟩ := h
  exact s_ret (ev_andV (ev_op (ev_var rfl) ev_c rv_notN) fun _ => ev_op (ec_kr (ev_var rfl) hx) (ec_kr (ev_var rfl) hy) (rv_eq rfl)) fun H2 e2 => q _ e2
theorem ok__first_known (D : Dn K mg "_first_known" s__first_known ["first", "second"]) :
    C8.Cal P w K mg base 1 "_first_known" (sp__first_known K) [] := by
  refine cal_of D sc__first_known (fun vs H Q E h => ?_) (fun f cdv A outer s H vs Q E hr h => ?_)
  · obtain ⟨_, _, rfl, _⟩ := h
    rfl
  refine ⟨_, (pss_one (ps_ret (pe_ifExp (pt_cmpR op_isN (pv 0) pe_non (nomark _)) (pv 1) (pv 0)))), ?_⟩
  obtain ⟨x, y, rfl, _, q⟩ := h
  refine s_ret (v := coalV x y) (ev_if (b := decide (x = .non)) (et_test (ev_op (ev_var rfl) ev_c rv_isN)) (fun hb => ev_is (ev_var rfl) ?_) fun hb => ev_is (ev_var rfl) ?_) fun H2 e2 => q _ e2
  · unfold coalV; rw [if_pos (of_decide_eq_true hb)]
  · unfold coalV; rw [if_neg (of_decide_eq_false hb)]
theorem ok_least_of_two {fal : Addr} (D : DnA K fal "_least" s_least_of_two ["first", "second"]) (c_before : C8.Cal P w K mg base 3 "before" (sp_before K) []) :
    L2.Held P w K mg base 4 fal (sp_least_of_two K) := by
  refine heldA_of D sc_least_of_two (fun vs H Q E h => ?_) (fun f cdv A outer s H vs Q E hr h => ?_)
  · obtain ⟨_, _, rfl, _⟩ := h
    rfl
  refine ⟨_, (pss_one (ps_ret (pe_ifExp (pt_val (C8.pe_c c_before hr (by decide) (by rfl) (pa_cons (pv 1) (pa_cons (pv 0) pa_nil)))) (pv 1) (pv 0)))), ?_⟩
  obtain ⟨x, y, rfl, ⟨hx, hy⟩, q⟩ := h
  refine s_ret (v := leastV x y) (ev_if (et_B (ec_before (ev_var rfl) (ev_var rfl) hy hx)) (fun hb => ev_is (ev_var rfl) ?_) fun hb => ev_is (ev_var rfl) ?_) fun H2 e2 => q _ e2
  · unfold leastV; rw [if_pos hb]
  · unfold leastV; rw [if_neg (by rw [hb]; decide)]
theorem ok_limited (D : Dn K mg "limited" s_limited ["number"]) (g_GREATEST : ∃ u, mg "GREATEST" = some u ∧ RelV (.int (1000000000000000)) u) :
    C8.Cal P w K mg base 1 "limited" (sp_limited K) [] := by
  refine cal_of D sc_limited (fun vs H Q E h => ?_) (fun f cdv A outer s H vs Q E hr h => ?_)
  · obtain ⟨_, rfl, _⟩ := h
    rfl
  refine ⟨_, (pss_cons (ps_if (pt_chain op_le op_le (pe_un un_neg (C8.pe_gc rfl g_GREATEST)) (pv 0) (C8.pe_gc rfl g_GREATEST))
      (pss_one (ps_ret (pv 0)))
      pss_nil)
    (pss_one (ps_ret pe_non))), ?_⟩
  obtain ⟨n, rfl, q⟩ := h
  refine q_when (b := decide (-1000000000000000 ≤ n) && decide (n ≤ 1000000000000000)) (et_test (ev_chain (ev_un ev_c ru_neg) (ev_var rfl) rv_I0 (fun _ => ev_c) (fun _ => rv_I0))) (fun hb H1 e1 => s_ret (v := limV n) ?_ fun H2 e2 => q _ (e1.trans e2)) fun hb H1 e1 => s_ret (v := limV n) ?_ fun H2 e2 => q _ (e1.trans e2)
  · rw [Bool.and_eq_true, decide_eq_true_eq, decide_eq_true_eq] at hb
    refine ev_is (ev_var rfl) ?_
    unfold limV
    rw [if_pos hb]
  · refine ev_is ev_c ?_
    unfold limV
    rw [if_neg]
    intro z
    rw [decide_eq_true z.1, decide_eq_true z.2] at hb
    cases hb
theorem ec_lim {σ : L2.St} {H : Hp} {ta : TE} {E : XK} {n : Int} (ha : Ev ta σ H (.int n)) : Ev (tCall (sp_limited K) [] E (tCons ta tNil)) σ H (limV n) := ev_call (ea_cons ha ea_nil) fun H1 e Q q E => ⟨n, rfl, q⟩
theorem ok__add (D : Dn K mg "_add" s__add ["first", "second"]) (c_limited : C8.Cal P w K mg base 1 "limited" (sp_limited K) []) :
    C8.Cal P w K mg base 2 "_add" (sp__add K) [] := by
  refine cal_of D sc__add (fun vs H Q E h => ?_) (fun f cdv A outer s H vs Q E hr h => ?_)
  · obtain ⟨_, _, rfl, _⟩ := h
    rfl
  refine ⟨_, (pss_one (ps_ret (C8.pe_c c_limited hr (by decide) (by rfl) (pa_cons (pe_op op_add (pv 0) (pv 1)) pa_nil)))), ?_⟩
  obtain ⟨x, y, rfl, ⟨a, b, rfl, rfl⟩, q⟩ := h
  exact s_ret (ec_lim (ev_op (ev_var rfl) (ev_var rfl) rv_I0)) fun H2 e2 => q _ e2
theorem ok__join (D : Dn K mg "_join" s__join ["first", "second"]) (z_len : mg "len" = none) (g_MOST : ∃ u, mg "MOST" = some u ∧ RelV (.int (10000)) u) :
    C8.Cal P w K mg base 1 "_join" (sp__join K) [] := by
  refine cal_of D sc__join (fun vs H Q E h => ?_) (fun f cdv A outer s H vs Q E hr h => ?_)
  · obtain ⟨_, _, rfl, _⟩ := h
    rfl
  refine ⟨_, (pss_one (ps_ret (pe_ifExp (pt_cmpR op_gt (pe_op op_add (pe_callB call_len_str (by rfl) z_len PySem.boot_len (pa_cons (pv 0) pa_nil)) (pe_callB call_len_str (by rfl) z_len PySem.boot_len (pa_cons (pv 1) pa_nil))) (C8.pe_gc rfl g_MOST) (nomark _)) pe_non (pe_op op_add_str (pv 0) (pv 1))))), ?_⟩
  obtain ⟨x, y, rfl, ⟨a, b, rfl, rfl, la, lb⟩, q⟩ := h
  refine s_ret (v := joinV (.str a) (.str b)) (ev_if (b := decide ((a.length : Int) + (b.length : Int) > 10000)) (et_test (ev_op (ev_op (ev_lenS (ev_var rfl) (by omega)) (ev_lenS (ev_var rfl) (by omega)) rv_I0) ev_c rv_I0)) (fun hb => ev_is ev_c ?_) fun hb => ?_) fun H2 e2 => q _ e2
  · have := of_decide_eq_true hb
    show _ = if 10000 < a.length + b.length then _ else _
    rw [if_pos (by omega)]
  · have := of_decide_eq_false hb
    have e9 : joinV (.str a) (.str b) = .str (a ++ b) := by
      show (if 10000 < a.length + b.length then _ else _) = _
      rw [if_neg (by omega)]
    rw [e9]
    exact fun H1 e1 Q k => (ev_var rfl) H1 e1 _ fun H2 e2 => (ev_var rfl) H2 (e1.trans e2) _ fun H3 e3 => ⟨a, b, rfl, rfl, sz_of (by omega), k H3 (e2.trans e3)⟩
theorem ok_value_of_two (D : Dn K mg "value_of_two" s_value_of_two ["name", "first", "second"]) (c__are_alike : C8.Cal P w K mg base 2 "_are_alike" (sp__are_alike K) []) (c_is_integer : C8.Cal P w K mg base 1 "is_integer" (sp_is_integer K) []) (z_isinstance : mg "isinstance" = none) (z_str : mg "str" = none) {p_OF_INTEGERS_of_two : Addr} {es_OF_INTEGERS_of_two : Array DictEntry} {n_OF_INTEGERS_of_two : Nat} (g_OF_INTEGERS_of_two : ∃ u, mg "OF_INTEGERS_of_two" = some u ∧ RelV (.ref p_OF_INTEGERS_of_two) u) (h_OF_INTEGERS_of_two : KDict K w p_OF_INTEGERS_of_two es_OF_INTEGERS_of_two n_OF_INTEGERS_of_two) {p_OF_TEXTS_of_two : Addr} {es_OF_TEXTS_of_two : Array DictEntry} {n_OF_TEXTS_of_two : Nat} (g_OF_TEXTS_of_two : ∃ u, mg "OF_TEXTS_of_two" = some u ∧ RelV (.ref p_OF_TEXTS_of_two) u) (h_OF_TEXTS_of_two : KDict K w p_OF_TEXTS_of_two es_OF_TEXTS_of_two n_OF_TEXTS_of_two) {p__OF_ALIKE : Addr} {es__OF_ALIKE : Array DictEntry} {n__OF_ALIKE : Nat} (g__OF_ALIKE : ∃ u, mg "_OF_ALIKE" = some u ∧ RelV (.ref p__OF_ALIKE) u) (h__OF_ALIKE : KDict K w p__OF_ALIKE es__OF_ALIKE n__OF_ALIKE) {p__OF_ANY : Addr} {es__OF_ANY : Array DictEntry} {n__OF_ANY : Nat} (g__OF_ANY : ∃ u, mg "_OF_ANY" = some u ∧ RelV (.ref p__OF_ANY) u) (h__OF_ANY : KDict K w p__OF_ANY es__OF_ANY n__OF_ANY) (tab : ∀ nm x y, nm ∈ binNames → Ok x → Ok y → Opr2 P w K mg base p__OF_ANY p__OF_ALIKE p_OF_INTEGERS_of_two p_OF_TEXTS_of_two nm x y (binV nm x y)) :
    C8.Cal P w K mg base 5 "value_of_two" (sp_value_of_two K) [] := by
  refine cal_of D sc_value_of_two (fun vs H Q E h => ?_) (fun f cdv A outer s H vs Q E hr h => ?_)
  · obtain ⟨_, _, _, rfl, _⟩ := h
    rfl
  refine ⟨_, (pss_cons (ps_if (pt_cmpR (op_in_kd h__OF_ANY) (pv 0) (C8.pe_gc rfl g__OF_ANY) (by with_unfolding_all rfl))
      (pss_cons (ps_set (i := 3) sc_value_of_two.nd rfl (.inl rfl) (pe_ix ix_kdict (C8.pe_gc rfl g__OF_ANY) (pv 0) (fun _ _ => rfl)))
    (pss_one (ps_ret (pe_callH (i := 3) hr rfl (Or.inl rfl) (pa_cons (pv 1) (pa_cons (pv 2) pa_nil))))))
      pss_nil)
    (pss_cons (ps_if (pt_cmpR (op_in_kd h__OF_ALIKE) (pv 0) (C8.pe_gc rfl g__OF_ALIKE) (by with_unfolding_all rfl))
      (pss_cons (ps_set (i := 3) sc_value_of_two.nd rfl (.inl rfl) (pe_ix ix_kdict (C8.pe_gc rfl g__OF_ALIKE) (pv 0) (fun _ _ => rfl)))
    (pss_one (ps_ret (pe_ifExp (pt_val (C8.pe_c c__are_alike hr (by decide) (by rfl) (pa_cons (pv 1) (pa_cons (pv 2) pa_nil)))) (pe_callH (i := 3) hr rfl (Or.inl rfl) (pa_cons (pv 1) (pa_cons (pv 2) pa_nil))) pe_non))))
      pss_nil)
    (pss_cons (ps_if (pt_cmpR (op_in_kd h_OF_INTEGERS_of_two) (pv 0) (C8.pe_gc rfl g_OF_INTEGERS_of_two) (by with_unfolding_all rfl))
      (pss_cons (ps_set (i := 3) sc_value_of_two.nd rfl (.inl rfl) (pe_ix ix_kdict (C8.pe_gc rfl g_OF_INTEGERS_of_two) (pv 0) (fun _ _ => rfl)))
    (pss_one (ps_ret (pe_ifExp (PW.pt (pw_and (pt_val (C8.pe_c c_is_integer hr (by decide) (by rfl) (pa_cons (pv 1) pa_nil))) (pw_and1 (pt_val (C8.pe_c c_is_integer hr (by decide) (by rfl) (pa_cons (pv 2) pa_nil)))))) (pe_callH (i := 3) hr rfl (Or.inl rfl) (pa_cons (pv 1) (pa_cons (pv 2) pa_nil))) pe_non))))
      pss_nil)
    (pss_cons (ps_if (pt_cmpR (op_in_kd h_OF_TEXTS_of_two) (pv 0) (C8.pe_gc rfl g_OF_TEXTS_of_two) (by with_unfolding_all rfl))
      (pss_cons (ps_set (i := 3) sc_value_of_two.nd rfl (.inl rfl) (pe_ix ix_kdict (C8.pe_gc rfl g_OF_TEXTS_of_two) (pv 0) (fun _ _ => rfl)))
    (pss_one (ps_ret (pe_ifExp (PW.pt (pw_and (pt_val (pe_callB call_isi (by rfl) z_isinstance (by decide +kernel) (pa_cons (pv 1) (pa_cons (pe_bltn (v := .ty "str") (u := .type "str") rfl z_str (by decide +kernel) rfl) pa_nil)))) (pw_and1 (pt_val (pe_callB call_isi (by rfl) z_isinstance (by decide +kernel) (pa_cons (pv 2) (pa_cons (pe_bltn (v := .ty "str") (u := .type "str") rfl z_str (by decide +kernel) rfl) pa_nil))))))) (pe_callH (i := 3) hr rfl (Or.inl rfl) (pa_cons (pv 1) (pa_cons (pv 2) pa_nil))) pe_non))))
      pss_nil)
    (pss_cons ps_never
    (pss_one ps_never)))))), ?_⟩
  obtain ⟨nm, x, y, rfl, hnm, hx, hy, q⟩ := h
  have T := tab nm x y hnm hx hy
  have no : ∀ {d : Addr} {H0 : Hp}, PySem.W.nsIn K d nm = some none → EvT (tTest (tOp (fun x y H Q => ∃ (z : Str) (r : Option Value), x = .str z ∧ y = .ref d ∧ PySem.W.nsIn K d z = some r ∧ Q (.bl r.isSome) H) (tVar 0) (tC (.ref d)))) (start n_value_of_two [.str nm, x, y]) H0 false := fun e => et_test (ev_op (ev_var rfl) ev_c (rv_inKD e))
  have yes : ∀ {d f : Addr} {H0 : Hp}, PySem.W.nsIn K d nm = some (some (.ref f)) → EvT (tTest (tOp (fun x y H Q => ∃ (z : Str) (r : Option Value), x = .str z ∧ y = .ref d ∧ PySem.W.nsIn K d z = some r ∧ Q (.bl r.isSome) H) (tVar 0) (tC (.ref d)))) (start n_value_of_two [.str nm, x, y]) H0 true := fun e => et_test (ev_op (ev_var rfl) ev_c (rv_inKD e))
  generalize binV nm x y = z at T q
  cases T with
  | any e1 hh hp =>
    refine q_when (yes e1) (fun _ H1 x1 => ?_) fun hb => nomatch hb
    refine q_asg (ev_op ev_c (ev_var rfl) (rv_ixKD (v := .ref _) h__OF_ANY e1 rfl)) fun H2 x2 => ?_
    exact s_ret (ec_held rfl hh hp (ev_var rfl) (ev_var rfl)) fun H3 x3 => q _ ((x1.trans x2).trans x3)
  | alike e1 e2 hh =>
    refine q_when (no e1) (fun hb => nomatch hb) fun _ H1 x1 => ?_
    refine q_when (yes e2) (fun _ H2 x2 => ?_) fun hb => nomatch hb
    refine q_asg (ev_op ev_c (ev_var rfl) (rv_ixKD (v := .ref _) h__OF_ALIKE e2 rfl)) fun H3 x3 => ?_
    refine s_ret (ev_if (et_B (ec_alike (ev_var rfl) (ev_var rfl) hx hy)) (fun hb => ?_) fun hb => ?_) fun H4 x4 => q _ (((x1.trans x2).trans x3).trans x4)
    · exact ev_is (ec_held rfl hh ⟨hx, hy⟩ (ev_var rfl) (ev_var rfl)) (by rw [if_pos hb])
    · exact ev_is ev_c (by rw [if_neg (by rw [hb]; decide)])
  | nums e1 e2 e3 hh =>
    refine q_when (no e1) (fun hb => nomatch hb) fun _ H1 x1 => ?_
    refine q_when (no e2) (fun hb => nomatch hb) fun _ H2 x2 => ?_
    refine q_when (yes e3) (fun _ H3 x3 => ?_) fun hb => nomatch hb
    refine q_asg (ev_op ev_c (ev_var rfl) (rv_ixKD (v := .ref _) h_OF_INTEGERS_of_two e3 rfl)) fun H4 x4 => ?_
    refine s_ret (ev_if (b := isInt x && isInt y) (et_and (et_B (ec_isint0 (ev_var rfl) hx.pl)) fun _ => et_B (ec_isint0 (ev_var rfl) hy.pl)) (fun hb => ?_) fun hb => ?_) fun H5 x5 => q _ ((((x1.trans x2).trans x3).trans x4).trans x5)
    · cases hx <;> cases hy <;> first | (simp [isInt] at hb; done) | exact ec_held rfl hh ⟨_, _, rfl, rfl⟩ (ev_var rfl) (ev_var rfl)
    · cases hx <;> cases hy <;> first | (simp [isInt] at hb; done) | exact ev_c
  | wrds e1 e2 e3 e4 hh =>
    refine q_when (no e1) (fun hb => nomatch hb) fun _ H1 x1 => ?_
    refine q_when (no e2) (fun hb => nomatch hb) fun _ H2 x2 => ?_
    refine q_when (no e3) (fun hb => nomatch hb) fun _ H3 x3 => ?_
    refine q_when (yes e4) (fun _ H4 x4 => ?_) fun hb => nomatch hb
    refine q_asg (ev_op ev_c (ev_var rfl) (rv_ixKD (v := .ref _) h_OF_TEXTS_of_two e4 rfl)) fun H5 x5 => ?_
    refine s_ret (ev_if (b := isStr x && isStr y) (et_and (et_B (ev_isStr (ev_var rfl) hx)) fun _ => et_B (ev_isStr (ev_var rfl) hy)) (fun hb => ?_) fun hb => ?_) fun H6 x6 => q _ (((((x1.trans x2).trans x3).trans x4).trans x5).trans x6)
    · cases hx with
      | str a ha =>
        cases hy with
        | str b hb2 => exact ec_held rfl hh ⟨_, _, rfl, rfl, ha.2, hb2.2⟩ (ev_var rfl) (ev_var rfl)
        | _ => simp [isStr] at hb
      | _ => simp [isStr] at hb
    · cases hx <;> cases hy <;> first | (simp [isStr] at hb; done) | exact ev_c
theorem ok_binary (D : Dn K mg "binary" s_binary ["name", "first", "second"]) (c_value_of_two : C8.Cal P w K mg base 5 "value_of_two" (sp_value_of_two K) []) :
    C8.Cal P w K mg base 6 "binary" (sp_binary K) [] := by
  refine cal_of D sc_binary (fun vs H Q E h => ?_) (fun f cdv A outer s H vs Q E hr h => ?_)
  · obtain ⟨_, _, _, rfl, _⟩ := h
    rfl
  refine ⟨_, (pss_one (ps_ret (C8.pe_c c_value_of_two hr (by decide) (by rfl) (pa_cons (pv 0) (pa_cons (pv 1) (pa_cons (pv 2) pa_nil)))))), ?_⟩
  obtain ⟨nm, x, y, rfl, hnm, hx, hy, q⟩ := h
  exact s_ret (ec_two hnm hx hy (ev_var rfl) (ev_var rfl) (ev_var rfl)) fun H2 e2 => q _ e2
theorem ok__negate (D : Dn K mg "_negate" s__negate ["number"]) :
    C8.Cal P w K mg base 1 "_negate" (sp__negate K) [] := by
  refine cal_of D sc__negate (fun vs H Q E h => ?_) (fun f cdv A outer s H vs Q E hr h => ?_)
  · obtain ⟨_, rfl, _⟩ := h
    rfl
  refine ⟨_, (pss_one (ps_ret (pe_un un_neg (pv 0)))), ?_⟩
  obtain ⟨i, rfl, q⟩ := h
  exact s_ret (ev_un (ev_var rfl) ru_neg) fun H1 e1 => q H1 e1
theorem ok__length (D : Dn K mg "_length" s__length ["text"]) (z_len : mg "len" = none) :
    C8.Cal P w K mg base 1 "_length" (sp__length K) [] := by
  refine cal_of D sc__length (fun vs H Q E h => ?_) (fun f cdv A outer s H vs Q E hr h => ?_)
  · obtain ⟨_, rfl, _⟩ := h
    rfl
  refine ⟨_, (pss_one (ps_ret (pe_callB call_len_str (by rfl) z_len PySem.boot_len (pa_cons (pv 0) pa_nil)))), ?_⟩
  obtain ⟨s, rfl, hs, q⟩ := h
  exact s_ret (ev_lenS (ev_var rfl) (by omega)) fun H1 e1 => q H1 e1
theorem ok_value_of_one (D : Dn K mg "value_of_one" s_value_of_one ["name", "value"]) (c_is_integer : C8.Cal P w K mg base 1 "is_integer" (sp_is_integer K) []) (c_negated : C8.Cal P w K mg base 1 "negated" (sp_negated K) []) (z_isinstance : mg "isinstance" = none) (z_str : mg "str" = none) {p_OF_INTEGERS_of_one : Addr} {es_OF_INTEGERS_of_one : Array DictEntry} {n_OF_INTEGERS_of_one : Nat} (g_OF_INTEGERS_of_one : ∃ u, mg "OF_INTEGERS_of_one" = some u ∧ RelV (.ref p_OF_INTEGERS_of_one) u) (h_OF_INTEGERS_of_one : KDict K w p_OF_INTEGERS_of_one es_OF_INTEGERS_of_one n_OF_INTEGERS_of_one) {p_OF_TEXTS_of_one : Addr} {es_OF_TEXTS_of_one : Array DictEntry} {n_OF_TEXTS_of_one : Nat} (g_OF_TEXTS_of_one : ∃ u, mg "OF_TEXTS_of_one" = some u ∧ RelV (.ref p_OF_TEXTS_of_one) u) (h_OF_TEXTS_of_one : KDict K w p_OF_TEXTS_of_one es_OF_TEXTS_of_one n_OF_TEXTS_of_one) {fS fT : Addr} (eS : PySem.W.nsIn K p_OF_INTEGERS_of_one "negate" = some (some (.ref fS))) (hS : L2.Held P w K mg base 4 fS (sp__negate K)) (eN : PySem.W.nsIn K p_OF_INTEGERS_of_one "length" = some none) (eT : PySem.W.nsIn K p_OF_TEXTS_of_one "length" = some (some (.ref fT))) (hT : L2.Held P w K mg base 4 fT (sp__length K)) :
    C8.Cal P w K mg base 5 "value_of_one" (sp_value_of_one K) [] := by
  refine cal_of D sc_value_of_one (fun vs H Q E h => ?_) (fun f cdv A outer s H vs Q E hr h => ?_)
  · obtain ⟨_, _, rfl, _⟩ := h
    rfl
  refine ⟨_, (pss_cons (ps_if (pt_cmpR op_eq (pv 0) pe_str (nomark _))
      (pss_one (ps_ret (C8.pe_c c_negated hr (by decide) (by rfl) (pa_cons (pv 1) pa_nil))))
      pss_nil)
    (pss_cons (ps_if (pt_cmpR op_eq (pv 0) pe_str (nomark _))
      (pss_one (ps_ret (pe_cmpR op_isN (pv 1) pe_non (nomark _))))
      pss_nil)
    (pss_cons (ps_if (pt_cmpR (op_in_kd h_OF_INTEGERS_of_one) (pv 0) (C8.pe_gc rfl g_OF_INTEGERS_of_one) (by with_unfolding_all rfl))
      (pss_cons (ps_set (i := 2) sc_value_of_one.nd rfl (.inl rfl) (pe_ix ix_kdict (C8.pe_gc rfl g_OF_INTEGERS_of_one) (pv 0) (fun _ _ => rfl)))
    (pss_one (ps_ret (pe_ifExp (pt_val (C8.pe_c c_is_integer hr (by decide) (by rfl) (pa_cons (pv 1) pa_nil))) (pe_callH (i := 2) hr rfl (Or.inl rfl) (pa_cons (pv 1) pa_nil)) pe_non))))
      pss_nil)
    (pss_cons (ps_if (pt_cmpR (op_in_kd h_OF_TEXTS_of_one) (pv 0) (C8.pe_gc rfl g_OF_TEXTS_of_one) (by with_unfolding_all rfl))
      (pss_cons (ps_set (i := 2) sc_value_of_one.nd rfl (.inl rfl) (pe_ix ix_kdict (C8.pe_gc rfl g_OF_TEXTS_of_one) (pv 0) (fun _ _ => rfl)))
    (pss_one (ps_ret (pe_ifExp (pt_val (pe_callB call_isi (by rfl) z_isinstance (by decide +kernel) (pa_cons (pv 1) (pa_cons (pe_bltn (v := .ty "str") (u := .type "str") rfl z_str (by decide +kernel) rfl) pa_nil)))) (pe_callH (i := 2) hr rfl (Or.inl rfl) (pa_cons (pv 1) pa_nil)) pe_non))))
      pss_nil)
    (pss_cons ps_never
    (pss_one ps_never)))))), ?_⟩
  obtain ⟨nm, x, rfl, hnm, hx, q⟩ := h
  simp only [unNames, List.mem_cons, List.not_mem_nil, or_false] at hnm
  rcases hnm with rfl | rfl | rfl | rfl
  · exact q_when (b := true) (et_test (ev_is (ev_op (ev_var rfl) ev_c (rv_eq rfl)) (by decide +kernel))) (fun _ H1 e1 => s_ret (v := unV "not" x) (ec_neg3 (ev_var rfl)) fun H2 e2 => q H2 (e1.trans e2)) fun h => nomatch h
  · refine q_when (b := false) (et_test (ev_is (ev_op (ev_var rfl) ev_c (rv_eq rfl)) (by decide +kernel))) (fun h => nomatch h) fun _ H1 e1 => ?_
    exact q_when (b := true) (et_test (ev_is (ev_op (ev_var rfl) ev_c (rv_eq rfl)) (by decide +kernel))) (fun _ H2 e2 => s_ret (v := unV "is null" x) (ev_is (ev_op (ev_var rfl) ev_c rv_isN) rfl) fun H3 e3 => q H3 ((e1.trans e2).trans e3)) fun h => nomatch h
  · refine q_when (b := false) (et_test (ev_is (ev_op (ev_var rfl) ev_c (rv_eq rfl)) (by decide +kernel))) (fun h => nomatch h) fun _ H1 e1 => ?_
    refine q_when (b := false) (et_test (ev_is (ev_op (ev_var rfl) ev_c (rv_eq rfl)) (by decide +kernel))) (fun h => nomatch h) fun _ H2 e2 => ?_
    refine q_when (b := true) (et_test (ev_op (ev_var rfl) ev_c (rv_inKD eS))) (fun _ H3 e3 => ?_) fun h => nomatch h
    refine q_asg (ev_op ev_c (ev_var rfl) (rv_ixKD (v := .ref fS) h_OF_INTEGERS_of_one eS rfl)) fun H4 e4 => ?_
    have hv : unV "negate" x = negV x := by unfold unV; rw [if_neg (by decide +kernel), if_neg (by decide +kernel), if_pos (by decide +kernel)]
    refine s_ret (v := unV "negate" x) (ev_if (et_B (ec_isint0 (ev_var rfl) hx.pl)) (fun hb => ?_) fun hb => ?_) fun H5 e5 => q H5 ((e1.trans e2).trans ((e3.trans e4).trans e5))
    · rw [hv]
      cases hx with
      | int i => exact fun H6 e6 Q q => ⟨fS, _, rfl, hS, .int i, rfl, i, rfl, fun H7 e7 => q H7 e7⟩
      | _ => simp [isInt] at hb
    · rw [hv]
      cases hx with
      | int i => simp [isInt] at hb
      | _ => exact ev_c
  · refine q_when (b := false) (et_test (ev_is (ev_op (ev_var rfl) ev_c (rv_eq rfl)) (by decide +kernel))) (fun h => nomatch h) fun _ H1 e1 => ?_
    refine q_when (b := false) (et_test (ev_is (ev_op (ev_var rfl) ev_c (rv_eq rfl)) (by decide +kernel))) (fun h => nomatch h) fun _ H2 e2 => ?_
    refine q_when (b := false) (et_test (ev_op (ev_var rfl) ev_c (rv_inKD eN))) (fun h => nomatch h) fun _ H3 e3 => ?_
    refine q_when (b := true) (et_test (ev_op (ev_var rfl) ev_c (rv_inKD eT))) (fun _ H4 e4 => ?_) fun h => nomatch h
    refine q_asg (ev_op ev_c (ev_var rfl) (rv_ixKD (v := .ref fT) h_OF_TEXTS_of_one eT rfl)) fun H5 e5 => ?_
    have hv : unV "length" x = lenV x := by unfold unV; rw [if_neg (by decide +kernel), if_neg (by decide +kernel), if_neg (by decide +kernel)]
    refine s_ret (v := unV "length" x) (ev_if (et_B (ev_isStr (ev_var rfl) hx)) (fun hb => ?_) fun hb => ?_) fun H6 e6 => q H6 ((e1.trans e2).trans ((e3.trans e4).trans (e5.trans e6)))
    · rw [hv]
      cases hx with
      | str s hs => exact fun H6 e6 Q q => ⟨fT, _, rfl, hT, .str s, rfl, s, rfl, hs.2, fun H7 e7 => q H7 e7⟩
      | _ => simp [isStr] at hb
    · rw [hv]
      cases hx with
      | str s hs => simp [isStr] at hb
      | _ => exact ev_c
theorem ok_unary (D : Dn K mg "unary" s_unary ["name", "value"]) (c_value_of_one : C8.Cal P w K mg base 5 "value_of_one" (sp_value_of_one K) []) :
    C8.Cal P w K mg base 6 "unary" (sp_unary K) [] := by
  refine cal_of D sc_unary (fun vs H Q E h => ?_) (fun f cdv A outer s H vs Q E hr h => ?_)
  · obtain ⟨_, _, rfl, _⟩ := h
    rfl
  refine ⟨_, (pss_one (ps_ret (C8.pe_c c_value_of_one hr (by decide) (by rfl) (pa_cons (pv 0) (pa_cons (pv 1) pa_nil))))), ?_⟩
  obtain ⟨nm, x, rfl, hnm, hx, q⟩ := h
  exact s_ret (ec_one hnm hx (ev_var rfl) (ev_var rfl)) fun H2 e2 => q _ e2
theorem ok_evaluate {rn : Nat} (D : Dn K mg "evaluate" s_evaluate ["expression", "row"]) (c_binary : C8.Cal P w K mg base 6 "binary" (sp_binary K) []) (c_unary : C8.Cal P w K mg base 6 "unary" (sp_unary K) []) (z_len : mg "len" = none) (c_evaluate : C8.Cal P w K mg base (7 + rn) "evaluate" (spR_evaluate rn K) []) :
    C8.Cal P w K mg base (7 + rn + 1) "evaluate" (spR_evaluate (rn + 1) K) [] := by
  refine cal_of D sc_evaluate (fun vs H Q E h => ?_) (fun f cdv A outer s H vs Q E hr h => ?_)
  · obtain ⟨_, _, _, _, rfl, _⟩ := h
    rfl
  refine ⟨_, (pss_cons (ps_set (i := 2) sc_evaluate.nd rfl (.inl rfl) (pe_ix ix_tup (pv 0) pe_int (fun _ _ => rfl)))
    (pss_cons (ps_if (pt_cmpR op_eq (pv 2) pe_str (nomark _))
      (pss_one (ps_ret (pe_ix ix_tup (pv 0) pe_int (fun _ _ => rfl))))
      pss_nil)
    (pss_cons (ps_if (pt_cmpR op_eq (pv 2) pe_str (nomark _))
      (pss_cons (ps_set (i := 3) sc_evaluate.nd rfl (.inl rfl) (pe_ix ix_tup (pv 0) pe_int (fun _ _ => rfl)))
    (pss_one (ps_ret (pe_ifExp (pt_cmpR op_lt (pv 3) (pe_callB call_len_seq (by rfl) z_len PySem.boot_len (pa_cons (pv 1) pa_nil)) (nomark _)) (pe_ix ix_list (pv 1) (pv 3) (fun _ _ => rfl)) pe_non))))
      pss_nil)
    (pss_cons (ps_if (pt_cmpR op_eq (pv 2) pe_str (nomark _))
      (pss_one (ps_ret (C8.pe_c c_unary hr (by omega) (by rfl) (pa_cons (pe_ix ix_tup (pv 0) pe_int (fun _ _ => rfl)) (pa_cons (C8.pe_c c_evaluate hr (Nat.le_refl _) (by rfl) (pa_cons (pe_ix ix_tup (pv 0) pe_int (fun _ _ => rfl)) (pa_cons (pv 1) pa_nil))) pa_nil)))))
      pss_nil)
    (pss_cons (ps_if (pt_cmpR op_eq (pv 2) pe_str (nomark _))
      (pss_one (ps_ret (C8.pe_c c_binary hr (by omega) (by rfl) (pa_cons (pe_ix ix_tup (pv 0) pe_int (fun _ _ => rfl)) (pa_cons (C8.pe_c c_evaluate hr (Nat.le_refl _) (by rfl) (pa_cons (pe_ix ix_tup (pv 0) pe_int (fun _ _ => rfl)) (pa_cons (pv 1) pa_nil))) (pa_cons (C8.pe_c c_evaluate hr (Nat.le_refl _) (by rfl) (pa_cons (pe_ix ix_tup (pv 0) pe_int (fun _ _ => rfl)) (pa_cons (pv 1) pa_nil))) pa_nil))))))
      pss_nil)
    (pss_cons ps_never
    (pss_cons ps_never
    (pss_one ps_never)))))))), ?_⟩
  obtain ⟨v, e, a, xs, rfl, ⟨hd, hdep, wd, hok⟩, hS, hx, hl, q⟩ := h
  have form : ∀ {σ : L2.St} {H0 : Hp} {s t : Str} {b : Bool}, σ[2]? = some (some (.str s)) → decide (V.str s = V.str t) = b → EvT (tTest (tOp rEq (tVar 2) (tC (.str t)))) σ H0 b := fun h0 hb => et_test (ev_is (ev_op (ev_var h0) ev_c (rv_eq rfl)) (by rw [hb]))
  cases hok with
  | col n hn =>
    obtain ⟨b, ys, rfl, hT, hds⟩ := dp_tupD hd
    cases hds with | cons h1 hds =>
    cases hds with | cons h2 hds =>
    cases hds
    cases h1
    cases h2
    have ix : ∀ {σ : L2.St} {H0 : Hp} {i : Nat} {x : V}, σ[0]? = some (some (.ref b)) → Ex H H0 → ([V.str "column", .int (n : Int)] : List V)[i]? = some x → Ev (tOp (rIxT K) (tVar 0) (tC (.int (i : Int)))) σ H0 x := fun h0 e0 hi => ev_op (ev_var h0) ev_c (rv_ixT (ex_t e0 hT) (atI_nat hi))
    refine q_asg (ix (i := 0) rfl (Ex.refl H) rfl) fun H1 e1 => ?_
    refine q_when (form rfl (show decide (V.str "column" = V.str "constant") = false by decide +kernel)) (fun h => nomatch h) fun _ H2 e2 => ?_
    refine q_when (form rfl (show decide (V.str "column" = V.str "column") = true by decide +kernel)) (fun _ H3 e3 => ?_) fun h => nomatch h
    refine q_asg (ix (i := 1) rfl ((e1.trans e2).trans e3) rfl) fun H4 e4 => ?_
    have x4 := ((e1.trans e2).trans e3).trans e4
    refine s_ret (v := evE xs (.col n)) (ev_if (b := decide ((n : Int) < (xs.length : Int))) (et_test (ev_op (ev_var rfl) (ev_len (ev_var rfl) (ex_l x4 hS)) rv_I0)) (fun hb => ?_) fun hb => ?_) fun H5 e5 => q H5 (x4.trans e5)
    · have hlt : n < xs.length := by have := of_decide_eq_true hb; omega
      exact ev_op (ev_var rfl) (ev_var rfl) (rv_ixL (ex_l x4 hS) (atI_nat (by rw [List.getElem?_eq_getElem hlt]; show some xs[n] = some (xs.getD n .non); rw [List.getD_eq_getElem?_getD, List.getElem?_eq_getElem hlt]; rfl)))
    · have hlt : ¬ n < xs.length := by have := of_decide_eq_false hb; omega
      refine ev_is ev_c ?_
      show V.non = xs.getD n .non
      rw [List.getD_eq_getElem?_getD, List.getElem?_eq_none (by omega)]
      rfl
  | cst c hc =>
    obtain ⟨b, ys, rfl, hT, hds⟩ := dp_tupD hd
    cases hds with | cons h1 hds =>
    cases hds with | cons h2 hds =>
    cases hds
    cases h1
    obtain rfl := vDc_is hc.1.pl h2
    refine q_asg (v := .str "constant") (ev_op (ev_var rfl) ev_c (rv_ixT hT (atI_nat (j := 0) rfl))) fun H1 e1 => ?_
    refine q_when (form rfl (show decide (V.str "constant" = V.str "constant") = true by decide +kernel)) (fun _ H2 e2 => ?_) fun h => nomatch h
    exact s_ret (ev_op (ev_var rfl) ev_c (rv_ixT (ex_t (e1.trans e2) hT) (atI_nat (j := 1) rfl))) fun H3 e3 => q H3 ((e1.trans e2).trans e3)
  | un nm x hnm hok1 =>
    obtain ⟨b, ys, rfl, hT, hds⟩ := dp_tupD hd
    cases hds with | cons h1 hds =>
    cases hds with | cons h2 hds =>
    cases hds with | cons h3 hds =>
    cases hds
    cases h1
    cases h2
    refine q_asg (v := .str "unary") (ev_op (ev_var rfl) ev_c (rv_ixT hT (atI_nat (j := 0) rfl))) fun H1 e1 => ?_
    refine q_when (form rfl (show decide (V.str "unary" = V.str "constant") = false by decide +kernel)) (fun h => nomatch h) fun _ H2 e2 => ?_
    refine q_when (form rfl (show decide (V.str "unary" = V.str "column") = false by decide +kernel)) (fun h => nomatch h) fun _ H3 e3 => ?_
    refine q_when (form rfl (show decide (V.str "unary" = V.str "unary") = true by decide +kernel)) (fun _ H4 e4 => ?_) fun h => nomatch h
    have x4 := ((e1.trans e2).trans e3).trans e4
    have hdx : x.dep + 1 ≤ rn + 1 := hdep
    cases rn with
    | zero => cases x <;> simp [Cnd.dep] at hdx
    | succ m =>
    exact s_ret (ec_one hnm (ev_ok hx hok1) (ev_op (ev_var rfl) ev_c (rv_ixT (ex_t x4 hT) (atI_nat (j := 1) rfl))) (ec_evalR (n := m) (e := x) (ev_op (ev_var rfl) ev_c (rv_ixT (ex_t x4 hT) (atI_nat (j := 2) rfl))) (ev_var rfl) ⟨ex_dp x4 h3, by omega, wd, hok1⟩ (ex_l x4 hS) hx hl)) fun H5 e5 => q H5 (x4.trans e5)
  | bin nm x y hnm hok1 hok2 =>
    obtain ⟨b, ys, rfl, hT, hds⟩ := dp_tupD hd
    cases hds with | cons h1 hds =>
    cases hds with | cons h2 hds =>
    cases hds with | cons h3 hds =>
    cases hds with | cons h4 hds =>
    cases hds
    cases h1
    cases h2
    refine q_asg (v := .str "binary") (ev_op (ev_var rfl) ev_c (rv_ixT hT (atI_nat (j := 0) rfl))) fun H1 e1 => ?_
    refine q_when (form rfl (show decide (V.str "binary" = V.str "constant") = false by decide +kernel)) (fun h => nomatch h) fun _ H2 e2 => ?_
    refine q_when (form rfl (show decide (V.str "binary" = V.str "column") = false by decide +kernel)) (fun h => nomatch h) fun _ H3 e3 => ?_
    refine q_when (form rfl (show decide (V.str "binary" = V.str "unary") = false by decide +kernel)) (fun h => nomatch h) fun _ H4 e4 => ?_
    refine q_when (form rfl (show decide (V.str "binary" = V.str "binary") = true by decide +kernel)) (fun _ H5 e5 => ?_) fun h => nomatch h
    have x5 := (((e1.trans e2).trans e3).trans e4).trans e5
    have hdx : max x.dep y.dep + 1 ≤ rn + 1 := hdep
    have hpos : 0 < max x.dep y.dep := by cases x <;> simp [Cnd.dep] <;> omega
    cases rn with
    | zero => omega
    | succ m =>
    exact s_ret (ec_two hnm (ev_ok hx hok1) (ev_ok hx hok2) (ev_op (ev_var rfl) ev_c (rv_ixT (ex_t x5 hT) (atI_nat (j := 1) rfl))) (ec_evalR (n := m) (e := x) (ev_op (ev_var rfl) ev_c (rv_ixT (ex_t x5 hT) (atI_nat (j := 2) rfl))) (ev_var rfl) ⟨ex_dp x5 h3, by omega, wd, hok1⟩ (ex_l x5 hS) hx hl) (ec_evalR (n := m) (e := y) (ev_op (ev_var rfl) ev_c (rv_ixT (ex_t x5 hT) (atI_nat (j := 3) rfl))) (ev_var rfl) ⟨ex_dp x5 h4, by omega, wd, hok2⟩ (ex_l x5 hS) hx hl)) fun H6 e6 => q H6 (x5.trans e6)
end

--@SPLIT
/-! ### <= of two pairs (an int and an int or a text) -/
section
open PySem.SeqAt PySem.MeetsSeq PySem.MeetsSeq2 PySem.MeetsSeq3
open PySem.AutoSeq1 (wpAny_loadPart')
/-- the same of <=: z where none differ -/
inductive Lxe (A : Around) (s : Shared) (z : Bool) : List (Value × Value) → Bool → Prop
  | nil : Lxe A s z [] z
  | eq {y x : Value} {ps : List (Value × Value)} {c : Bool} : EqAt A s y x true → Lxe A s z ps c → Lxe A s z ((y, x) :: ps) c
  | le {y x : Value} {ps : List (Value × Value)} {c : Bool} : EqAt A s y x false → Ob.RcOp .LtE A s y x c → Lxe A s z ((y, x) :: ps) c
theorem le_meets (l b : Addr) (us vs : Array Value) (n m : Nat) (dl db : Option Addr) (sl sb : Array (Option Value)) :
    Meets (Builtin.«tuple.__le__» ⟨[.ref l, .ref b], []⟩)
      (fun A R s => s.heap.get? l = some { cls := .type "tuple", dict := dl, data := .seq us n, slots := sl } ∧ s.heap.get? b = some { cls := .type "tuple", dict := db, data := .seq vs m, slots := sb } ∧
        ∃ c, Lxe A.in1 s (decide (us.size ≤ vs.size)) (us.toList.zip vs.toList) c ∧ R (.ok (.ret (.bool c))) s) := by
  refine .of_wp fun prog w A R s h => ?_
  obtain ⟨hp, g, d, tk, os⟩ := s
  obtain ⟨hl, hb, c, hx, h⟩ := h
  have f2 := AutoSeq1.sub_tuple_tuple
  wp_walk using wpAny_loadPart' hl, wpAny_loadPart' hb, wpAny_forIn_list _ (fun ps b s' => b.1 = none ∧ s' = ⟨hp, g, d, tk, os⟩ ∧ ∃ c, Lxe A.in1 ⟨hp, g, d, tk, os⟩ (decide (us.size ≤ vs.size)) ps c ∧ R (.ok (.ret (.bool c))) ⟨hp, g, d, tk, os⟩) _
  case turn =>
    rintro ⟨y, x⟩ ps b s' ⟨hb', rfl, c, hz, hR⟩
    cases hz with
    | eq he ht =>
      refine wpAny_bind (he prog w _ _ ?_)
      wp_walk
      exact ⟨rfl, rfl, c, ht, hR⟩
    | le he hr =>
      refine wpAny_bind (he prog w _ _ ?_)
      have hri := hr prog w
      wp_walk using hri
      exact ⟨_, rfl, hR⟩
  case fin =>
    rintro ⟨b1, b2⟩ s' ⟨hb', rfl, c, hz, hR⟩
    simp only at hb'
    subst hb'
    cases hz
    wp_walk
    exact ⟨_, rfl, by simpa [Builtin.Tuple.tupleCompareSizes] using hR⟩
  case h => exact ⟨rfl, rfl, c, hx, h⟩
theorem le_tuples {A : Around} {s : Shared} {l b : Addr} {us vs : Array Value} {c : Bool} (hl : s.heap.IsTuple l us) (hb : s.heap.IsTuple b vs) (hu : A.units < cLine) (hx : Lxe A.in1 s (decide (us.size ≤ vs.size)) (us.toList.zip vs.toList) c) :
    Ob.RcOp .LtE A s (.ref l) (.ref b) c := by
  intro prog w E Q h
  obtain ⟨⟨k1, dl, da, sl⟩, ho, hc, n, hd⟩ := hl
  obtain ⟨⟨k2, db, da2, sb⟩, ho2, hc2, m, hd2⟩ := hb
  simp only at hc hd hc2 hd2
  subst hc hd hc2 hd2
  exact richCompare_meets_room (op := .LtE) ⟨_, ho, rfl⟩ ⟨_, ho2, rfl⟩ F.slot_tuple_le F.entry_tuple_le (F.args_tuple_le_2 _ _) (le_meets l b us vs n m dl db sl sb) ⟨ho, ho2, c, hx, ⟨(fun z => nomatch z), h⟩⟩ hu
end
/-- of two plain items of one kind -/
def leI : V → V → Bool
  | .int a, .int b => decide (a ≤ b)
  | .str x, .str y => !decide (y.cps.toList < x.cps.toList)
  | _, _ => false
def okI : V → V → Bool
  | .int _, .int _ => true
  | .str _, .str _ => true
  | _, _ => false
def rLe2 (K : PySem.W.Frag) : R2 := fun x y H Q => ∃ (a b : Addr) (i j : Int) (p q : V), x = .ref a ∧ y = .ref b ∧ SqT K H a [.int i, p] ∧ SqT K H b [.int j, q] ∧ flatV p = true ∧ flatV q = true ∧ (i = j → eqV p q = false → okI p q = true) ∧
  Q (.bl (if i = j then (if eqV p q = true then true else leI p q) else decide (i ≤ j))) H
theorem op_le2 {X : Cx} (hu : X.A.units + 64 < cLine) : OpR X (compareOp .LtE) (rLe2 X.K) := by
  intro pins s σ H x y v u Q I rx ry h
  obtain ⟨a, b, i, j, p, q, rfl, rfl, ha, hb, fp, fq, ho, k⟩ := h
  cases rx
  cases ry
  obtain ⟨us, r1, t1, _⟩ := I.tuple ha
  obtain ⟨vs, r2, t2, _⟩ := I.tuple hb
  cases r1 with
  | cons q1 w1 =>
    cases w1 with
    | cons q2 w2 =>
      cases w2
      cases r2 with
      | cons z1 y1 =>
        cases y1 with
        | cons z2 y2 =>
          cases y2
          obtain ⟨t, rfl⟩ := q1
          obtain ⟨t', rfl⟩ := z1
          refine le_tuples t1 t2 (by omega) (c := if i = j then (if eqV p q = true then true else leI p q) else decide (i ≤ j)) ?_ X.prog X.w _ _ ⟨.bl _, H, I, rfl, k⟩
          show Lxe X.A.in1 s true [_, _] _
          have e1 := SeqAt.EqAt.int_int (A := X.A.in1) (s := s) i t j t'
          by_cases e : i = j
          · rw [if_pos e]
            rw [show (i == j) = true from beq_iff_eq.mpr e] at e1
            refine .eq e1 ?_
            have e2 := eqAt_V (A := X.A.in1) (s := s) q2 z2 fp fq
            cases c : eqV p q with
            | true =>
              rw [c] at e2
              rw [if_pos rfl]
              exact .eq e2 .nil
            | false =>
              rw [c] at e2
              rw [if_neg (by decide)]
              refine .le e2 ?_
              have o := ho e c
              cases p <;> cases q <;> first | (simp [okI] at o; done) | skip
              · obtain ⟨_, rfl⟩ := q2
                obtain ⟨_, rfl⟩ := z2
                exact Ob.RcOp.le_int _ _ _ _
              · obtain ⟨_, rfl⟩ := q2
                obtain ⟨_, rfl⟩ := z2
                exact fun prog w E Q h => PySem.P.le_str h
          · rw [if_neg e]
            rw [show (i == j) = false from beq_eq_false_iff_ne.mpr e] at e1
            exact .le e1 (Ob.RcOp.le_int _ _ _ _)

/-! ### > and >= of two pairs -/
section
open PySem.SeqAt PySem.MeetsSeq PySem.MeetsSeq2 PySem.MeetsSeq3
open PySem.AutoSeq1 (wpAny_loadPart')
inductive Lxg (A : Around) (s : Shared) (z : Bool) : List (Value × Value) → Bool → Prop
  | nil : Lxg A s z [] z
  | eq {y x : Value} {ps : List (Value × Value)} {c : Bool} : EqAt A s y x true → Lxg A s z ps c → Lxg A s z ((y, x) :: ps) c
  | gt {y x : Value} {ps : List (Value × Value)} {c : Bool} : EqAt A s y x false → Ob.RcOp .Gt A s y x c → Lxg A s z ((y, x) :: ps) c
theorem gt_meets (l b : Addr) (us vs : Array Value) (n m : Nat) (dl db : Option Addr) (sl sb : Array (Option Value)) :
    Meets (Builtin.«tuple.__gt__» ⟨[.ref l, .ref b], []⟩)
      (fun A R s => s.heap.get? l = some { cls := .type "tuple", dict := dl, data := .seq us n, slots := sl } ∧ s.heap.get? b = some { cls := .type "tuple", dict := db, data := .seq vs m, slots := sb } ∧
        ∃ c, Lxg A.in1 s (decide (us.size > vs.size)) (us.toList.zip vs.toList) c ∧ R (.ok (.ret (.bool c))) s) := by
  refine .of_wp fun prog w A R s h => ?_
  obtain ⟨hp, g, d, tk, os⟩ := s
  obtain ⟨hl, hb, c, hx, h⟩ := h
  have f2 := AutoSeq1.sub_tuple_tuple
  wp_walk using wpAny_loadPart' hl, wpAny_loadPart' hb, wpAny_forIn_list _ (fun ps b s' => b.1 = none ∧ s' = ⟨hp, g, d, tk, os⟩ ∧ ∃ c, Lxg A.in1 ⟨hp, g, d, tk, os⟩ (decide (us.size > vs.size)) ps c ∧ R (.ok (.ret (.bool c))) ⟨hp, g, d, tk, os⟩) _
  case turn =>
    rintro ⟨y, x⟩ ps b s' ⟨hb', rfl, c, hz, hR⟩
    cases hz with
    | eq he ht =>
      refine wpAny_bind (he prog w _ _ ?_)
      wp_walk
      exact ⟨rfl, rfl, c, ht, hR⟩
    | gt he hr =>
      refine wpAny_bind (he prog w _ _ ?_)
      have hri := hr prog w
      wp_walk using hri
      exact ⟨_, rfl, hR⟩
  case fin =>
    rintro ⟨b1, b2⟩ s' ⟨hb', rfl, c, hz, hR⟩
    simp only at hb'
    subst hb'
    cases hz
    wp_walk
    exact ⟨_, rfl, by simpa [Builtin.Tuple.tupleCompareSizes] using hR⟩
  case h => exact ⟨rfl, rfl, c, hx, h⟩
theorem gt_tuples {A : Around} {s : Shared} {l b : Addr} {us vs : Array Value} {c : Bool} (hl : s.heap.IsTuple l us) (hb : s.heap.IsTuple b vs) (hu : A.units < cLine) (hx : Lxg A.in1 s (decide (us.size > vs.size)) (us.toList.zip vs.toList) c) :
    Ob.RcOp .Gt A s (.ref l) (.ref b) c := by
  intro prog w E Q h
  obtain ⟨⟨k1, dl, da, sl⟩, ho, hc, n, hd⟩ := hl
  obtain ⟨⟨k2, db, da2, sb⟩, ho2, hc2, m, hd2⟩ := hb
  simp only at hc hd hc2 hd2
  subst hc hd hc2 hd2
  exact richCompare_meets_room (op := .Gt) ⟨_, ho, rfl⟩ ⟨_, ho2, rfl⟩ F.slot_tuple_gt F.entry_tuple_gt (F.args_tuple_gt_2 _ _) (gt_meets l b us vs n m dl db sl sb) ⟨ho, ho2, c, hx, ⟨(fun z => nomatch z), h⟩⟩ hu
end
def gtI : V → V → Bool
  | .int a, .int b => decide (b < a)
  | .str x, .str y => decide (y.cps.toList < x.cps.toList)
  | _, _ => false
def rGt2 (K : PySem.W.Frag) : R2 := fun x y H Q => ∃ (a b : Addr) (i j : Int) (p q : V), x = .ref a ∧ y = .ref b ∧ SqT K H a [.int i, p] ∧ SqT K H b [.int j, q] ∧ flatV p = true ∧ flatV q = true ∧ (i = j → eqV p q = false → okI p q = true) ∧
  Q (.bl (if i = j then (if eqV p q = true then false else gtI p q) else decide (j < i))) H
theorem op_gt2 {X : Cx} (hu : X.A.units + 64 < cLine) : OpR X (compareOp .Gt) (rGt2 X.K) := by
  intro pins s σ H x y v u Q I rx ry h
  obtain ⟨a, b, i, j, p, q, rfl, rfl, ha, hb, fp, fq, ho, k⟩ := h
  cases rx
  cases ry
  obtain ⟨us, r1, t1, _⟩ := I.tuple ha
  obtain ⟨vs, r2, t2, _⟩ := I.tuple hb
  cases r1 with
  | cons q1 w1 =>
    cases w1 with
    | cons q2 w2 =>
      cases w2
      cases r2 with
      | cons z1 y1 =>
        cases y1 with
        | cons z2 y2 =>
          cases y2
          obtain ⟨t, rfl⟩ := q1
          obtain ⟨t', rfl⟩ := z1
          refine gt_tuples t1 t2 (by omega) (c := if i = j then (if eqV p q = true then false else gtI p q) else decide (j < i)) ?_ X.prog X.w _ _ ⟨.bl _, H, I, rfl, k⟩
          show Lxg X.A.in1 s false [_, _] _
          have e1 := SeqAt.EqAt.int_int (A := X.A.in1) (s := s) i t j t'
          by_cases e : i = j
          · rw [if_pos e]
            rw [show (i == j) = true from beq_iff_eq.mpr e] at e1
            refine .eq e1 ?_
            have e2 := eqAt_V (A := X.A.in1) (s := s) q2 z2 fp fq
            cases c : eqV p q with
            | true =>
              rw [c] at e2
              rw [if_pos rfl]
              exact .eq e2 .nil
            | false =>
              rw [c] at e2
              rw [if_neg (by decide)]
              refine .gt e2 ?_
              have o := ho e c
              cases p <;> cases q <;> first | (simp [okI] at o; done) | skip
              · obtain ⟨_, rfl⟩ := q2
                obtain ⟨_, rfl⟩ := z2
                exact Ob.RcOp.gt_int _ _ _ _
              · obtain ⟨_, rfl⟩ := q2
                obtain ⟨_, rfl⟩ := z2
                exact fun prog w E Q h => PySem.P.gt_str h
          · rw [if_neg e]
            rw [show (i == j) = false from beq_eq_false_iff_ne.mpr e] at e1
            exact .gt e1 (Ob.RcOp.gt_int _ _ _ _)
section
open PySem.SeqAt PySem.MeetsSeq PySem.MeetsSeq2 PySem.MeetsSeq3
open PySem.AutoSeq1 (wpAny_loadPart')
inductive Lxh (A : Around) (s : Shared) (z : Bool) : List (Value × Value) → Bool → Prop
  | nil : Lxh A s z [] z
  | eq {y x : Value} {ps : List (Value × Value)} {c : Bool} : EqAt A s y x true → Lxh A s z ps c → Lxh A s z ((y, x) :: ps) c
  | ge {y x : Value} {ps : List (Value × Value)} {c : Bool} : EqAt A s y x false → Ob.RcOp .GtE A s y x c → Lxh A s z ((y, x) :: ps) c
theorem ge_meets (l b : Addr) (us vs : Array Value) (n m : Nat) (dl db : Option Addr) (sl sb : Array (Option Value)) :
    Meets (Builtin.«tuple.__ge__» ⟨[.ref l, .ref b], []⟩)
      (fun A R s => s.heap.get? l = some { cls := .type "tuple", dict := dl, data := .seq us n, slots := sl } ∧ s.heap.get? b = some { cls := .type "tuple", dict := db, data := .seq vs m, slots := sb } ∧
        ∃ c, Lxh A.in1 s (decide (us.size ≥ vs.size)) (us.toList.zip vs.toList) c ∧ R (.ok (.ret (.bool c))) s) := by
  refine .of_wp fun prog w A R s h => ?_
  obtain ⟨hp, g, d, tk, os⟩ := s
  obtain ⟨hl, hb, c, hx, h⟩ := h
  have f2 := AutoSeq1.sub_tuple_tuple
  wp_walk using wpAny_loadPart' hl, wpAny_loadPart' hb, wpAny_forIn_list _ (fun ps b s' => b.1 = none ∧ s' = ⟨hp, g, d, tk, os⟩ ∧ ∃ c, Lxh A.in1 ⟨hp, g, d, tk, os⟩ (decide (us.size ≥ vs.size)) ps c ∧ R (.ok (.ret (.bool c))) ⟨hp, g, d, tk, os⟩) _
  case turn =>
    rintro ⟨y, x⟩ ps b s' ⟨hb', rfl, c, hz, hR⟩
    cases hz with
    | eq he ht =>
      refine wpAny_bind (he prog w _ _ ?_)
      wp_walk
      exact ⟨rfl, rfl, c, ht, hR⟩
    | ge he hr =>
      refine wpAny_bind (he prog w _ _ ?_)
      have hri := hr prog w
      wp_walk using hri
      exact ⟨_, rfl, hR⟩
  case fin =>
    rintro ⟨b1, b2⟩ s' ⟨hb', rfl, c, hz, hR⟩
    simp only at hb'
    subst hb'
    cases hz
    wp_walk
    exact ⟨_, rfl, by simpa [Builtin.Tuple.tupleCompareSizes] using hR⟩
  case h => exact ⟨rfl, rfl, c, hx, h⟩
theorem ge_tuples {A : Around} {s : Shared} {l b : Addr} {us vs : Array Value} {c : Bool} (hl : s.heap.IsTuple l us) (hb : s.heap.IsTuple b vs) (hu : A.units < cLine) (hx : Lxh A.in1 s (decide (us.size ≥ vs.size)) (us.toList.zip vs.toList) c) :
    Ob.RcOp .GtE A s (.ref l) (.ref b) c := by
  intro prog w E Q h
  obtain ⟨⟨k1, dl, da, sl⟩, ho, hc, n, hd⟩ := hl
  obtain ⟨⟨k2, db, da2, sb⟩, ho2, hc2, m, hd2⟩ := hb
  simp only at hc hd hc2 hd2
  subst hc hd hc2 hd2
  exact richCompare_meets_room (op := .GtE) ⟨_, ho, rfl⟩ ⟨_, ho2, rfl⟩ F.slot_tuple_ge F.entry_tuple_ge (F.args_tuple_ge_2 _ _) (ge_meets l b us vs n m dl db sl sb) ⟨ho, ho2, c, hx, ⟨(fun z => nomatch z), h⟩⟩ hu
end
def geI : V → V → Bool
  | .int a, .int b => decide (b ≤ a)
  | .str x, .str y => !decide (x.cps.toList < y.cps.toList)
  | _, _ => false
def rGe2 (K : PySem.W.Frag) : R2 := fun x y H Q => ∃ (a b : Addr) (i j : Int) (p q : V), x = .ref a ∧ y = .ref b ∧ SqT K H a [.int i, p] ∧ SqT K H b [.int j, q] ∧ flatV p = true ∧ flatV q = true ∧ (i = j → eqV p q = false → okI p q = true) ∧
  Q (.bl (if i = j then (if eqV p q = true then true else geI p q) else decide (j ≤ i))) H
theorem op_ge2 {X : Cx} (hu : X.A.units + 64 < cLine) : OpR X (compareOp .GtE) (rGe2 X.K) := by
  intro pins s σ H x y v u Q I rx ry h
  obtain ⟨a, b, i, j, p, q, rfl, rfl, ha, hb, fp, fq, ho, k⟩ := h
  cases rx
  cases ry
  obtain ⟨us, r1, t1, _⟩ := I.tuple ha
  obtain ⟨vs, r2, t2, _⟩ := I.tuple hb
  cases r1 with
  | cons q1 w1 =>
    cases w1 with
    | cons q2 w2 =>
      cases w2
      cases r2 with
      | cons z1 y1 =>
        cases y1 with
        | cons z2 y2 =>
          cases y2
          obtain ⟨t, rfl⟩ := q1
          obtain ⟨t', rfl⟩ := z1
          refine ge_tuples t1 t2 (by omega) (c := if i = j then (if eqV p q = true then true else geI p q) else decide (j ≤ i)) ?_ X.prog X.w _ _ ⟨.bl _, H, I, rfl, k⟩
          show Lxh X.A.in1 s true [_, _] _
          have e1 := SeqAt.EqAt.int_int (A := X.A.in1) (s := s) i t j t'
          by_cases e : i = j
          · rw [if_pos e]
            rw [show (i == j) = true from beq_iff_eq.mpr e] at e1
            refine .eq e1 ?_
            have e2 := eqAt_V (A := X.A.in1) (s := s) q2 z2 fp fq
            cases c : eqV p q with
            | true =>
              rw [c] at e2
              rw [if_pos rfl]
              exact .eq e2 .nil
            | false =>
              rw [c] at e2
              rw [if_neg (by decide)]
              refine .ge e2 ?_
              have o := ho e c
              cases p <;> cases q <;> first | (simp [okI] at o; done) | skip
              · obtain ⟨_, rfl⟩ := q2
                obtain ⟨_, rfl⟩ := z2
                exact Ob.RcOp.ge_int _ _ _ _
              · obtain ⟨_, rfl⟩ := q2
                obtain ⟨_, rfl⟩ := z2
                exact fun prog w E Q h => PySem.P.ge_str h
          · rw [if_neg e]
            rw [show (i == j) = false from beq_eq_false_iff_ne.mpr e] at e1
            exact .ge e1 (Ob.RcOp.ge_int _ _ _ _)


--@SPLIT
/-! ### sorting by keys that compare two by two: ranks, rows of ranks -/
mutual
theorem rd_det {h : Heap} : ∀ {d e : PyData} {v : Value} {as bs : List Addr}, noL d = true → Reads h v d as → Reads h v e bs → d = e
  | .none, _, _, _, _, _, .none, r => by cases r; rfl
  | .bool _, _, _, _, _, _, .bool _, r => by cases r; rfl
  | .int _, _, _, _, _, _, .int _ _, r => by cases r; rfl
  | .str _, _, _, _, _, _, .str _ _, r => by cases r; rfl
  | .tuple xs, _, _, _, _, n, .tuple h1 h2 h3 h4, r => by
    cases r with
    | list k1 k2 _ _ => rw [h1] at k1; cases k1; rw [h2] at k2; exact absurd (Value.type.inj k2) (by decide)
    | dict k1 k2 _ _ _ => rw [h1] at k1; cases k1; rw [h2] at k2; exact absurd (Value.type.inj k2) (by decide)
    | tuple k1 k2 k3 k4 =>
      rw [h1] at k1
      cases k1
      rw [h3] at k3
      cases k3
      rw [rd_dets (by simpa [noL] using n) h4 k4]
  | .list _, _, _, _, _, n, _, _ => by simp [noL] at n
  | .dict _, _, _, _, _, n, _, _ => by simp [noL] at n
theorem rd_dets {h : Heap} : ∀ {ds es : List PyData} {vs : List Value} {as bs : List Addr}, noLs ds = true → ReadsAll h vs ds as → ReadsAll h vs es bs → ds = es
  | [], _, _, _, _, _, .nil, r => by cases r; rfl
  | d :: ds, _, _, _, _, n, .cons h1 h2, r => by
    cases r with
    | cons k1 k2 =>
      have n' : (noL d && noLs ds) = true := n
      rw [Bool.and_eq_true] at n'
      rw [rd_det n'.1 h1 k1, rd_dets n'.2 h2 k2]
end
abbrev Tks := List (Int ⊕ List Nat)
abbrev tkLt (a b : Tks) : Bool := PyProof.Rows.lexLt PyProof.Rows.itemOrd a b
structure KFam {β : Type} (k : β → List PyData) (t : β → Tks) (fst : Bool) (P : β → Prop) : Prop where
  lt : ∀ x y, P x → P y → ltDs (k x) (k y) = tkLt (t x) (t y)
  ord : ∀ x y, P x → P y → ordDs (k x) (k y) = true
  lay : ∀ x, P x → PyData.canLayAll0 (k x) = true
  dep : ∀ x, P x → PyData.depthAll (k x) ≤ 50
  nol : ∀ x, P x → noLs (k x) = true
  head : ∀ x, P x → ∃ d r, k x = d :: r ∧ if fst = true then ∃ n, d = .int n else ∃ ys, d = .tuple ys
section
variable {β : Type} {k : β → List PyData} {t : β → Tks} {fst : Bool} {Pr : β → Prop}
theorem KFam.uniq (F : KFam k t fst Pr) {h : Heap} {v : Value} {x y : β} {as bs : List Addr} (hx : Pr x) (hy : Pr y) (r : Reads h v (.tuple (k x)) as) (r2 : Reads h v (.tuple (k y)) bs) : t x = t y := by
  have e : k x = k y := PyData.tuple.inj (rd_det (d := .tuple (k x)) (by simpa [noL] using F.nol x hx) r r2)
  have h1 : tkLt (t x) (t y) = false := by rw [← F.lt x y hx hy, ← e, F.lt x x hx hx]; exact PyProof.Rows.lex_irrefl _
  have h2 : tkLt (t y) (t x) = false := by rw [← F.lt y x hy hx, ← e, F.lt x x hx hx]; exact PyProof.Rows.lex_irrefl _
  exact (PyProof.Rows.listOrd PyProof.Rows.itemOrd).total _ _ h1 h2
noncomputable def ownKind (h : Heap) (k : β → List PyData) (t : β → Tks) (Pr : β → Prop) : PyProof.Rows.KeyKind where
  toKeyOrd := PyProof.Rows.listOrd PyProof.Rows.itemOrd
  keyOf v := open Classical in if q : ∃ x, Pr x ∧ ∃ as, Reads h v (.tuple (k x)) as then some (t q.choose) else none
  dflt := ([] : Tks)
theorem own_some (F : KFam k t fst Pr) {h : Heap} {v : Value} {x : β} {as : List Addr} (hx : Pr x) (r : Reads h v (.tuple (k x)) as) : (ownKind h k t Pr).keyOf v = some (t x) := by
  have q : ∃ x, Pr x ∧ ∃ as, Reads h v (.tuple (k x)) as := ⟨x, hx, as, r⟩
  have e : (ownKind h k t Pr).keyOf v = some (t q.choose) := by
    show (open Classical in if q : ∃ x, Pr x ∧ ∃ as, Reads h v (.tuple (k x)) as then some (t q.choose) else none) = _
    exact dif_pos q
  obtain ⟨h1, bs, h2⟩ := q.choose_spec
  rw [e, F.uniq h1 hx h2 r]
theorem own_inv {h : Heap} {v : Value} {c : Tks} (e : (ownKind h k t Pr).keyOf v = some c) : ∃ x as, Pr x ∧ Reads h v (.tuple (k x)) as ∧ c = t x := by
  by_cases q : ∃ x, Pr x ∧ ∃ as, Reads h v (.tuple (k x)) as
  · have e2 : (ownKind h k t Pr).keyOf v = some (t q.choose) := by
      show (open Classical in if q : ∃ x, Pr x ∧ ∃ as, Reads h v (.tuple (k x)) as then some (t q.choose) else none) = _
      exact dif_pos q
    obtain ⟨h1, bs, h2⟩ := q.choose_spec
    rw [e2] at e
    exact ⟨_, bs, h1, h2, (Option.some.inj e).symm⟩
  · have e2 : (ownKind h k t Pr).keyOf v = none := by
      show (open Classical in if q : ∃ x, Pr x ∧ ∃ as, Reads h v (.tuple (k x)) as then some (t q.choose) else none) = _
      exact dif_neg q
    rw [e2] at e
    cases e
end
section
open PySem.W PySem.Calls PySem.SeqAt
variable {prog : Program} {w : World} {A : Around} {s : Shared}
theorem kat_ord {b : Bool} {Q : Bool → Shared → Prop} : ∀ (xs ys : List PyData) (i : Nat) (us vs : List Value) (as bs : List Addr), ReadsAll s.heap us xs as → ReadsAll s.heap vs ys bs → PyData.canLayAll0 xs = true → PyData.canLayAll0 ys = true → ordDs xs ys = true →
    (b = true → i = 0 → ∀ x r y r', xs = x :: r → ys = y :: r' → ∃ m n, x = .int m ∧ y = .int n) → A.units + PyData.depthAll xs < cLine → Q (ltDs xs ys) s → KatLex prog w A b (decide (xs.length < ys.length)) Q (us.zip vs) i s
  | [], [], i, _, _, _, _, r1, r2, _, _, _, _, _, hq => by
    cases r1
    exact kat_nil hq
  | [], y :: ys, i, _, _, _, _, r1, r2, _, _, _, _, _, hq => by
    cases r1
    exact kat_nil (by rw [show decide (([] : List PyData).length < (y :: ys).length) = true from decide_eq_true (Nat.zero_lt_succ _)]; exact hq)
  | x :: xs, [], i, _, _, _, _, r1, r2, _, _, _, _, _, hq => by
    cases r2
    rw [List.zip_nil_right]
    exact kat_nil (by rw [show decide ((x :: xs).length < ([] : List PyData).length) = false from decide_eq_false (Nat.not_lt_zero _)]; exact hq)
  | x :: xs, y :: ys, i, _, _, _, _, r1, r2, c1, c2, o, hb, hu, hq => by
    have a1 : x.canLay0 = true ∧ PyData.canLayAll0 xs = true := by simpa [PyData.canLayAll0] using c1
    have a2 : y.canLay0 = true ∧ PyData.canLayAll0 ys = true := by simpa [PyData.canLayAll0] using c2
    have hd : A.units + max x.depth (PyData.depthAll xs) < cLine := hu
    cases r1 with
    | cons p1 q1 =>
      cases r2 with
      | cons p2 q2 =>
        rw [show decide ((x :: xs).length < (y :: ys).length) = decide (xs.length < ys.length) by simp, List.zip_cons_cons]
        have he := PySem.SeqAt.eqAt_reads x y A s _ _ _ _ p1 p2 a1.1 a2.1 (by omega)
        refine kat_cons (he prog w _ _ ?_)
        by_cases c : PyData.eqv x y = true
        · rw [c]
          refine kat_yes (kat_ord xs ys (i + 1) _ _ _ _ q1 q2 a1.2 a2.2 (by rw [ordDs, if_pos c] at o; exact o) (fun _ z => absurd z (Nat.succ_ne_zero i)) (by omega) ?_)
          rw [ltDs, if_pos c] at hq
          exact hq
        · rw [Bool.not_eq_true] at c
          rw [c]
          refine kat_no ?_
          rw [ordDs, if_neg (by rw [c]; decide)] at o
          rw [ltDs, if_neg (by rw [c]; decide)] at hq
          cases hf : (b && i == 0) with
          | false =>
            rw [oneLt'_eq]
            simp only [Bool.false_eq_true, if_false]
            exact wpAny_bind (lt_reads _ x y A s _ _ _ _ (Nat.le_refl _) p1 p2 a1.1 a2.1 o (by omega) prog w _ _ (wpAny_truthy_bool hq))
          | true =>
            have hf2 : b = true ∧ i = 0 := by simpa using hf
            obtain ⟨m, n, rfl, rfl⟩ := hb hf2.1 hf2.2 x xs y ys rfl rfl
            cases p1
            cases p2
            exact oneLt_int hq
theorem own_tups {β : Type} {k : β → List PyData} {t : β → Tks} {fst : Bool} {Pr : β → Prop} (F : KFam k t fst Pr) : ∀ {vs : List Value} {xs : List β}, EachIs (fun v x => ∃ as, Reads s.heap v (.tuple (k x)) as) vs xs → (∀ x ∈ xs, Pr x) → ∃ fs, KatTups s.heap vs fs ∧ fs.length = vs.length ∧ ∀ f ∈ fs, ∃ d as, (if fst = true then ∃ n, d = PyData.int n else ∃ ys, d = PyData.tuple ys) ∧ Reads s.heap f d as
  | _, _, .nil, _ => ⟨[], KatTups.nil, rfl, fun f hf => nomatch hf⟩
  | _, _, .cons (b := x) ⟨as, r⟩ rest, hp => by
    obtain ⟨fs, h1, h2, h3⟩ := own_tups F rest fun y hy => hp y (List.mem_cons_of_mem _ hy)
    obtain ⟨d, l, hk, hd⟩ := F.head x (hp x (List.mem_cons_self ..))
    rw [hk] at r
    cases r with
    | @tuple a o us n _ _ g1 g2 g3 g4 =>
      cases hu : us.toList with
      | nil => rw [hu] at g4; cases g4
      | cons f fr =>
        rw [hu] at g4
        cases g4 with
        | cons p1 p2 =>
          have at0 : us[0]? = some f := by rw [← Array.getElem?_toList, hu]; rfl
          refine ⟨f :: fs, KatTups.cons g1 g2 g3 at0 h1, by rw [List.length_cons, List.length_cons, h2], fun g hg => ?_⟩
          rcases List.mem_cons.mp hg with z | z
          · rw [z]; exact ⟨d, _, hd, p1⟩
          · exact h3 g z
/-- such values can be sorted -/
theorem own_sorts {β : Type} {k : β → List PyData} {t : β → Tks} {fst : Bool} {Pr : β → Prop} (F : KFam k t fst Pr) {vs : List Value} {xs : List β} (e : EachIs (fun v x => ∃ as, Reads s.heap v (.tuple (k x)) as) vs xs) (hp : ∀ x ∈ xs, Pr x) (hu : A.units + 60 < cLine) : SortsAt prog w A s (ownKind s.heap k t Pr) vs := by
  refine ⟨fun v hv => ?_, tuples' fst, ?_, fun h2 E Q hq => ?_⟩
  · obtain ⟨x, hx, as, r⟩ := e.left v hv
    exact ⟨_, own_some F (hp x hx) r⟩
  · intro E u v a b Q ha hb hq
    obtain ⟨x, as, hx, ra, rfl⟩ := own_inv ha
    obtain ⟨y, bs, hy, rb, rfl⟩ := own_inv hb
    have hq2 : Q (ltDs (k x) (k y)) s := by rw [F.lt x y hx hy]; exact hq
    have hdx := F.dep x hx
    cases ra with
    | @tuple l o us n _ _ h1 h2 h3 h4 =>
      cases rb with
      | @tuple l' o' us' n' _ _ k1 k2 k3 k4 =>
        have l1 : us.size = (k x).length := by simpa using reads_len h4
        have l2 : us'.size = (k y).length := by simpa using reads_len k4
        refine kat_lt h1 h3 k1 k3 ?_
        rw [l1, l2]
        refine kat_ord (k x) (k y) 0 _ _ _ _ h4 k4 (F.lay x hx) (F.lay y hy) (F.ord x y hx hy) (fun hb _ x' r y' r' ex ey => ?_) (by omega) hq2
        obtain ⟨d, l, e1, g1⟩ := F.head x hx
        obtain ⟨d', l', e2, g2⟩ := F.head y hy
        rw [if_pos hb] at g1 g2
        rw [e1] at ex
        rw [e2] at ey
        cases ex
        cases ey
        obtain ⟨m, rfl⟩ := g1
        obtain ⟨n, rfl⟩ := g2
        exact ⟨m, n, rfl, rfl⟩
  · obtain ⟨fs, t1, t2, t3⟩ := own_tups F e hp
    have hT : ∀ T : Value, (∀ d, (if fst = true then ∃ n, d = PyData.int n else ∃ ys, d = PyData.tuple ys) → dataType d = T) → (T == T) = true → (T != Value.type "tuple") = fst → wpAny (model prog w) A (keyKind' vs.toArray) Q E s := fun T hd hT2 hf => by
      refine kat_kind (T := T) t1 (by omega) (fun f hf2 => ?_) hT2 (by rw [hf]; exact hq)
      obtain ⟨d, as, g1, g2⟩ := t3 f hf2
      rw [← hd d g1]
      exact looks_reads g2
    cases fst with
    | true => exact hT (.type "int") (fun d ⟨n, hn⟩ => by rw [hn]; rfl) (by decide) (by decide)
    | false => exact hT (.type "tuple") (fun d ⟨n, hn⟩ => by rw [hn]; rfl) (by decide) (by decide)
end

--@SPLIT
/-! ### sorted(xs, key=f) -/
theorem freed_at (h : Heap) (a : Addr) : (h.update a fun o => { o with data := .freed }).get? a = none := by
  obtain ⟨objs, l⟩ := h
  unfold Heap.update Heap.get?
  simp only [Array.getElem?_modify, if_true]
  cases objs[a]? <;> rfl
def sortT {β : Type} (t : β → Tks) (rev : Bool) (xs : List β) : List β := xs.mergeSort (PySem.W.sortLe (PyProof.Rows.listOrd PyProof.Rows.itemOrd) rev t)
theorem sortT_perm {β : Type} (t : β → Tks) (rev : Bool) (xs : List β) : (sortT t rev xs).Perm xs := List.mergeSort_perm _ _
def SpDat (K : PySem.W.Frag) (sp : Sp) (vs : List V) (H : Hp) (d : PyData) : Prop := ∀ H1, Ex H H1 → ∀ Q : VK, (∀ v H2, Ex H1 H2 → Dp K H2 v d → Q v H2) → ∀ E : XK, sp vs H1 Q E
def rSortedF (P : Program) (w : World) (K : PySem.W.Frag) (mg : Str → Option Value) (base : Heap) (lv : Nat) (rev : Bool) (zs0 : Addr → List V) : List V → List V → Hp → VK → Prop := fun vs zs H Q => ∃ (a f : Addr) (sp : Sp) (β : Type) (bs : List β) (it : β → V) (k : β → List PyData) (t : β → Tks) (fst : Bool) (Pr : β → Prop),
  vs = [.ref a] ∧ zs = zs0 f ∧ SqL K H a (bs.map it) ∧ L2.Held P w K mg base lv f sp ∧ KFam k t fst Pr ∧ (∀ x ∈ bs, Pr x) ∧ (∀ x ∈ bs, SpDat K sp [it x] H (.tuple (k x))) ∧ ∀ p H', H p = none → Ex H H' → H' p = some (.lst ((sortT t rev bs).map it)) → Q (.ref p) H'
theorem vals_each {β : Type} {it : β → V} : ∀ {bs : List β} {us : List Value}, Vals (bs.map it) us → PySem.W.EachIs (fun u b => RelV (it b) u) us bs
  | [], _, .nil => .nil
  | _ :: _, _, .cons r t => .cons r (vals_each t)
theorem each_vals {β : Type} {it : β → V} : ∀ {bs : List β} {us : List Value}, PySem.W.EachIs (fun u b => RelV (it b) u) us bs → Vals (bs.map it) us
  | _, _, .nil => .nil
  | _, _, .cons r t => .cons r (each_vals t)
section
open PySem.W PySem.Calls
variable {X : Cx}
theorem vals_len {xs : List V} {us : List Value} (r : Vals xs us) : us.length = xs.length := r.length.symm
theorem each_reads {β : Type} {k : β → List PyData} {pins : List (Addr × Obj)} {σ : L2.St} {H : Hp} {s : Shared} (I : Inv X pins σ H s) : ∀ {bs : List β} {ys : List V} {us : List Value}, Vals ys us → DpAll X.K H ys (bs.map fun x => .tuple (k x)) → EachIs (fun v x => ∃ as, Reads s.heap v (.tuple (k x)) as) us bs
  | [], _, _, r, d => by
    cases d
    cases r
    exact .nil
  | x :: bs, _, _, r, d => by
    cases d with
    | cons d1 d2 =>
      cases r with
      | cons r1 r2 =>
        obtain ⟨as, g⟩ := Dp.reads I _ _ _ d1 r1
        exact .cons ⟨as, g⟩ (each_reads I r2 d2)
theorem sorted_runF {lv : Nat} {rev : Bool} {kw : List (Str × Value)} (hr : Room (lv + 2) X.A) {pins : List (Addr × Obj)} {s : Shared} {σ : L2.St} {H : Hp} {Q : VK} {a f : Addr} {sp : Sp} {β : Type} {bs : List β} {it : β → V} {k : β → List PyData} {t : β → Tks} {fst : Bool} {Pr : β → Prop} (I : Inv X pins σ H s)
    (hkw : ∀ x : Addr, Builtin.«list.sort» ⟨[.ref x], kw⟩ = ksk_tree x (.ref f) rev) (ha1 : argsOk "sorted" ⟨[.ref a], kw⟩) (ha2 : ∀ x : Addr, argsOk "list.sort" ⟨[.ref x], kw⟩)
    (hs : SqL X.K H a (bs.map it)) (hH : L2.Held X.prog X.w X.K X.mg X.base lv f sp) (F : KFam k t fst Pr) (hp : ∀ x ∈ bs, Pr x) (hsp : ∀ x ∈ bs, SpDat X.K sp [it x] H (.tuple (k x)))
    (q : ∀ p H', H p = none → Ex H H' → H' p = some (.lst ((sortT t rev bs).map it)) → Q (.ref p) H') : wpAny (model X.prog X.w) X.A (call (.builtin "sorted") [.ref a] kw) (EP X pins σ Q) X.xe s := by
  obtain ⟨its, rv, hl, hz⟩ := I.list hs
  have hilen : its.length = bs.length := by rw [vals_len rv, List.length_map]
  have hZ : its.length ≤ sizeLine := by rw [vals_len rv]; exact hz
  refine sorted_of_sort hl.isList hZ ha1 ha2 fun E' => ?_
  rw [hkw]
  have hc0 : s.heap.get? (s.heap.objs.size + 1) = none := Heap.get?_none_of_le (Nat.le_succ _)
  have ho := copyHeap_at s.heap its
  have hcopy : ∀ b o, s.heap.get? b = some o → (copyHeap s.heap its).get? b = some o := fun b o => copyHeap_old
  generalize hcdef : s.heap.objs.size + 1 = c at ho hc0 ⊢
  have hcge : s.heap.objs.size ≤ c := by rw [← hcdef]; exact Nat.le_succ _
  generalize copyHeap s.heap its = h1 at ho hcopy ⊢
  have hclt : c < h1.objs.size := Heap.lt_size ho
  obtain ⟨e1, ho1⟩ : ∃ e1, (h1.update c (Obj.mapSeq fun _ => (#[] : Array Value))).get? c = some (seqObj "list" #[] e1) := ⟨_, get?_update_seq ho fun _ => #[]⟩
  unfold ksk_tree
  refine wpAny_bind (listItems_at ho rfl (wpAny_bind (listUpdate_at ho rfl ?_ (by rw [List.size_toArray]; exact hZ) (Nat.zero_le _))))
  refine wpAny_bind (seqEpoch_at ho1 rfl (wpAny_bind (wpAny_newTuple ?_ (by show its.length ≤ _; exact hZ))))
  refine wpAny_bind (wpAny_newList (wpAny_holding ?_) (Nat.zero_le _))
  have hmid : ∀ b o, b ≠ c → h1.get? b = some o → (((h1.update c (Obj.mapSeq fun _ => (#[] : Array Value))).push (seqObj "tuple" its.toArray 0)).push (seqObj "list" #[] 0)).get? b = some o := fun b o hb e => sortingHeap_old hb e
  have hms : ((h1.update c (Obj.mapSeq fun _ => (#[] : Array Value))).push (seqObj "tuple" its.toArray 0)).objs.size = h1.objs.size + 1 := by rw [size_push', Heap.size_update]
  have hmS : (((h1.update c (Obj.mapSeq fun _ => (#[] : Array Value))).push (seqObj "tuple" its.toArray 0)).push (seqObj "list" #[] 0)).get? ((h1.update c (Obj.mapSeq fun _ => (#[] : Array Value))).push (seqObj "tuple" its.toArray 0)).objs.size = some (seqObj "list" #[] 0) := Heap.get?_push_size _ rfl
  have hmc : (((h1.update c (Obj.mapSeq fun _ => (#[] : Array Value))).push (seqObj "tuple" its.toArray 0)).push (seqObj "list" #[] 0)).get? c = some (seqObj "list" #[] e1) := Heap.get?_push_of_some _ (Heap.get?_push_of_some _ ho1)
  have hSc : ((h1.update c (Obj.mapSeq fun _ => (#[] : Array Value))).push (seqObj "tuple" its.toArray 0)).objs.size ≠ c := by
    rw [hms]
    exact Nat.ne_of_gt (Nat.lt_succ_of_lt hclt)
  have hSge : s.heap.objs.size ≤ ((h1.update c (Obj.mapSeq fun _ => (#[] : Array Value))).push (seqObj "tuple" its.toArray 0)).objs.size := by
    rw [hms]
    exact Nat.le_trans hcge (Nat.le_of_lt (Nat.lt_succ_of_lt hclt))
  generalize ((h1.update c (Obj.mapSeq fun _ => (#[] : Array Value))).push (seqObj "tuple" its.toArray 0)).objs.size = kS at hmS hSc hSge ⊢
  generalize (((h1.update c (Obj.mapSeq fun _ => (#[] : Array Value))).push (seqObj "tuple" its.toArray 0)).push (seqObj "list" #[] 0)) = h2 at hmid hmS hmc ⊢
  have hold : ∀ b o, s.heap.get? b = some o → h2.get? b = some o := fun b o e => hmid b o (fun z => by rw [z, hc0] at e; cases e) (hcopy b o e)
  have I2 : Inv X pins σ H { s with heap := h2 } := I.kept (t' := s.toks) hold
  have fpS := I.fpOk hSge (I.hok.fresh hSge)
  have fpC := I.fpOk hcge (I.hok.fresh hcge)
  have roomI : Room lv X.A.in1.in1 := (hr.in1).in1
  unfold ksk_rest
  refine wpAny_bind (wpAny_rule ?_)
  rw [List.forIn_toArray]
  refine wpAny_bind (ksk_fold (fun i s' => ∃ (H' : Hp) (kA : Array Value) (e : Nat) (ys : List V), Inv X pins σ H' s' ∧ Ex H H' ∧ s'.heap.get? kS = some (seqObj "list" kA e) ∧ s'.heap.get? c = some (seqObj "list" #[] e1) ∧ H' kS = none ∧ H' c = none ∧ Vals ys kA.toList ∧ DpAll X.K H' ys ((bs.take i).map fun x => .tuple (k x))) its 0 _
    ⟨H, #[], 0, [], I2, Ex.refl H, hmS, hmc, fpS.1, fpC.1, .nil, .nil⟩ (fun j u s' hu hw => ?_) fun s' hw => ?_)
  · obtain ⟨H', kA, e, ys, I', x', nS, nC, hS, hC, hv, hd⟩ := hw
    rw [Nat.zero_add] at hd ⊢
    have hj : j < bs.length := by rw [← hilen]; exact (List.getElem?_eq_some_iff.mp hu).1
    have hb := List.getElem?_eq_getElem hj
    have hmem := List.getElem_mem hj
    generalize bs[j] = x at hb hmem
    obtain ⟨u2, hu2, ru⟩ := rv.get (i := j) (x := it x) (by rw [List.getElem?_map, hb]; rfl)
    rw [hu] at hu2
    cases hu2
    obtain ⟨fd, ps, Fn, hk, hbd⟩ := hH.ex
    have rS : FpOk X pins H' kS := ⟨hS, fpS.2⟩
    have rC : FpOk X pins H' c := ⟨hC, fpC.2⟩
    have Ip := I'.pinned (fp := [kS, c]) (fun b hb => by
      rcases (show b = kS ∨ b = c by simpa using hb) with z | z <;> rw [z] <;> assumption) (fun b hb => by
      rcases (show b = kS ∨ b = c by simpa using hb) with z | z <;> rw [z]
      · exact ⟨_, nS, fun v z => nomatch z⟩
      · exact ⟨_, nC, fun v z => nomatch z⟩)
    have hlen1 : [u].length = ps.length := by
      have := Fn.len [it x] H' (fun _ _ => True) (fun _ _ _ => True) (hsp x hmem H' x' _ (fun _ _ _ _ => trivial) _)
      exact this
    have env1 : Env0 X.prog X.w X.K X.mg X.base X.A.in1.in1 X.stack s' H' := (Ip.env0.in1).in1
    refine wpAny_bind (wpAny_attempt (wpAny_call (codeAny_mono (Fn.run X.A.in1.in1 X.stack s' H' ⟨[u], []⟩ [u] [it x] (fun v H2 => Ex H' H2 ∧ Dp X.K H2 v (.tuple (k x))) (fun _ _ _ => False) roomI env1 ?_ (.cons ru .nil) (hsp x hmem H' x' _ (fun v H2 e2 hv2 => ⟨e2, hv2⟩) _)) fun r s2 hq => ?_)))
    · have := hbd s' [u] I'.kIn (by simpa using hlen1)
      simpa using this
    cases r with
    | error er => exact hq.elim
    | ok fl =>
      cases fl with
      | next => exact hq.elim
      | brk => exact hq.elim
      | cont => exact hq.elim
      | ret u3 =>
        obtain ⟨v, H2, J2, rvv, ex2, hdv⟩ := Ip.after hq
        have pn : ∀ b ∈ [kS, c], ∀ o, s'.heap.get? b = some o → s2.heap.get? b = some o ∧ H2 b = none := fun b hb o ho => by
          have := J2.pin (b, o) (List.mem_append_right _ (List.mem_append_right _ (mem_pinsAt hb ho)))
          exact ⟨this.1, this.2.1⟩
        have nS2 := pn kS (by simp) _ nS
        have nC2 := pn c (by simp) _ nC
        have J := J2.unpinned
        have hkA : kA.size ≤ its.length := by
          have h5 := dps_len hd
          have h6 := vals_len hv
          rw [List.length_map, List.length_take] at h5
          rw [Array.length_toList] at h6
          omega
        show wpAny _ _ (do Builtin.List.listUpdate (Value.ref kS) fun x => x.push u3; pure (ForInStep.yield PUnit.unit)) _ _ s2
        have szp : (kA.push u3).size ≤ sizeLine + 1 := by
          rw [Array.size_push]
          omega
        refine wpAny_bind (listUpdate_at nS2.1 rfl ?_ (Nat.le_trans hkA hZ) szp)
        obtain ⟨c2, hc2⟩ : ∃ c2, (s2.heap.update kS (Obj.mapSeq (·.push u3))).get? kS = some (seqObj "list" (kA.push u3) c2) := ⟨_, get?_update_seq nS2.1 (·.push u3)⟩
        have ne_ : ∀ b, b ≠ kS → (s2.heap.update kS (Obj.mapSeq (·.push u3))).get? b = s2.heap.get? b := fun b hb => Heap.get?_update_ne _ _ _ _ hb
        have J3 : Inv X pins σ H2 { s2 with heap := s2.heap.update kS (Obj.mapSeq (·.push u3)) } := J.turnedL (t' := s2.toks) (ch := [kS]) (fun b o hb e => (ne_ b (fun z => hb (by simp [z]))).trans e) (fun b hb => by
          rw [show b = kS by simpa using hb]
          exact ⟨nS2.2, fpS.2⟩)
        refine wpAny_pure ⟨rfl, H2, kA.push u3, c2, ys ++ [v], J3, x'.trans ex2, hc2, (ne_ c (Ne.symm hSc)).trans nC2.1, nS2.2, nC2.2, ?_, ?_⟩
        · rw [Array.toList_push]
          exact hv.append (.cons rvv .nil)
        · have ht : bs.take (j + 1) = bs.take j ++ [x] := by rw [List.take_add_one, hb]; rfl
          rw [ht, List.map_append]
          exact dps_snoc (ex_dps ex2 hd) hdv
  · obtain ⟨H', kA, e, ys, I', x', nS, nC, hS, hC, hv, hd⟩ := hw
    rw [Nat.zero_add, hilen, List.take_length] at hd
    have hkl : kA.toList.length = bs.length := by
      have h5 := dps_len hd
      rw [List.length_map] at h5
      rw [vals_len hv, h5]
    have hks : kA.size = its.length := by rw [← Array.length_toList, hkl, hilen]
    have rS : FpOk X pins H' kS := ⟨hS, fpS.2⟩
    have rC : FpOk X pins H' c := ⟨hC, fpC.2⟩
    have hE := each_reads (k := k) I' hv hd
    refine wpAny_bind (listItems_at nS rfl ?_)
    have hu60 : X.A.in1.in1.units + 60 < cLine := by
      have := roomI.un
      omega
    refine keyH_end (κ := ownKind s'.heap k t Pr) (h₁ := s'.heap.update kS fun o => { o with data := .freed }) (fun b o hb e => ?_) (freed_at _ _) nS nC hSc (own_sorts F hE hp hu60) hks hZ fun h' tk c3 kp hD => ⟨rfl, ?_⟩
    · have hbk : b ≠ kS := fun z => by rw [z, freed_at] at e; cases e
      rw [Heap.get?_update_ne _ _ _ _ hbk] at e
      exact e
    · have kept : ∀ b o, b ∉ [kS, c] → s'.heap.get? b = some o → h'.get? b = some o := fun b o hb e => by
        refine kp b o (fun z => hb (by simp [z])) ?_
        rw [Heap.get?_update_ne _ _ _ _ (fun z => hb (by simp [z]))]
        exact e
      have I3 : Inv X pins σ H' { s' with heap := h', toks := tk } := I'.turnedL (t' := tk) (ch := [kS, c]) kept fun b hb => by
        rcases (show b = kS ∨ b = c by simpa using hb) with z | z <;> rw [z] <;> assumption
      have hout : Vals ((sortT t rev bs).map it) (sortVals (ownKind s'.heap k t Pr) rev kA.toList its) := each_vals (sortVals_each (κ := ownKind s'.heap k t Pr) t (vals_each rv) ((each_mem hE).mono fun v b ⟨⟨as, g⟩, hb⟩ => own_some F (hp b hb) g))
      have hlen3 : ((sortT t rev bs).map it).length ≤ sizeLine := by
        rw [List.length_map, (sortT_perm t rev bs).length_eq, ← hilen]
        exact hZ
      exact ⟨.ref c, upd H' c (.lst ((sortT t rev bs).map it)), Inv.take (s := { s' with heap := h', toks := tk }) (h' := h') (t' := tk) I3 (fun b ob _ e => e) rC ⟨hlen3, _, c3, hout, hD⟩, rfl, q c _ fpC.1 (Ex.mut x' fpC.1) upd_same⟩
/-- sorted(xs, key=f) -/
theorem cr_sortedF {lv : Nat} (hr : Room (lv + 2) X.A) : CallRK X (.builtin "sorted") [Str.ofString "key"] (rSortedF X.prog X.w X.K X.mg X.base lv false fun f => [.ref f]) := by
  intro pins s σ H vs zs us ws Q I r rz h
  obtain ⟨a, f, sp, β, bs, it, k, t, fst, Pr, rfl, rfl, hs, hH, F, hp, hsp, q⟩ := h
  obtain rfl := Vals.ref1 r
  obtain ⟨w1, rfl, e1⟩ := vals1 rz
  obtain rfl : w1 = Value.ref f := e1
  exact sorted_runF hr I (fun x => ksk_t1 f x) (PyProof.Rows.ksk_s1 _ _) (fun x => PyProof.Rows.ksk_l1 _ _) hs hH F hp hsp q
end

--@SPLIT
/-! ### the four comparisons of two ranks -/
def vlt (x y : V) : Bool := ltD (rkD x) (rkD y)
def veq (x y : V) : Bool := PyData.eqv (rkD x) (rkD y)
theorem vlt_two {x y : V} : vlt x y = (if kr x = kr y then (if PyData.eqv (payD x) (payD y) = true then false else ltD (payD x) (payD y)) else decide (kr x < kr y)) := by
  show ltD (.tuple [.int (kr x), payD x]) (.tuple [.int (kr y), payD y]) = _
  rw [ltD, ltDs]
  by_cases h : kr x = kr y
  · rw [if_pos (show PyData.eqv (.int (kr x)) (.int (kr y)) = true from beq_iff_eq.mpr h), if_pos h, ltDs]
    rfl
  · rw [if_neg (show ¬ PyData.eqv (.int (kr x)) (.int (kr y)) = true from fun z => h (beq_iff_eq.mp z)), if_neg h, ltD]
theorem flat_pay {x : V} (h : Ok x) : flatV (payV x) = true := by cases h <;> rfl
theorem okI_pay {x y : V} (hx : Ok x) (hy : Ok y) (h : kr x = kr y) : okI (payV x) (payV y) = true := by
  cases hx <;> cases hy <;> first | rfl | exact absurd h (by decide) | (simp [kr] at h)
theorem dle (a b : Int) : decide (a ≤ b) = !decide (b < a) := by
  by_cases h : a ≤ b
  · rw [decide_eq_true h, decide_eq_false (show ¬ b < a by omega)]
    rfl
  · rw [decide_eq_false h, decide_eq_true (show b < a by omega)]
    rfl
/-- of one kind: two ints or two texts -/
inductive Two : V → V → PyData → PyData → Prop where
  | int (a b : Int) : Two (.int a) (.int b) (.int a) (.int b)
  | str (a b : Str) : Two (.str a) (.str b) (.str a) (.str b)
theorem two_pay {x y : V} (hx : Ok x) (hy : Ok y) (h : kr x = kr y) : Two (payV x) (payV y) (payD x) (payD y) := by
  cases hx <;> cases hy <;> first | exact .int _ _ | exact .str _ _ | exact absurd h (by decide) | (simp [kr] at h)
theorem le_res {x y : V} (hx : Ok x) (hy : Ok y) : (if kr x = kr y then (if eqV (payV x) (payV y) = true then true else leI (payV x) (payV y)) else decide (kr x ≤ kr y)) = !vlt y x := by
  rw [vlt_two]
  by_cases h : kr x = kr y
  · rw [if_pos h, if_pos h.symm]
    have t := two_pay hx hy h
    generalize payV x = p at t ⊢
    generalize payV y = q at t ⊢
    generalize payD x = d at t ⊢
    generalize payD y = e at t ⊢
    cases t with
    | int a b =>
      show (if (a == b) = true then true else decide (a ≤ b)) = !(if (b == a) = true then false else ltD (.int b) (.int a))
      rw [ltD]
      by_cases z : a = b
      · subst z; simp
      · have z' : ¬ b = a := fun w => z w.symm
        simp [z, z', dle a b]
    | str a b =>
      show (if (a == b) = true then true else !decide (b.cps.toList < a.cps.toList)) = !(if (b == a) = true then false else ltD (.str b) (.str a))
      rw [ltD]
      by_cases z : a = b
      · subst z; simp
      · have z' : ¬ b = a := fun w => z w.symm
        simp [z, z']
  · have h' : ¬ kr y = kr x := fun z => h z.symm
    rw [if_neg h, if_neg h']
    exact dle _ _
theorem gt_res {x y : V} (hx : Ok x) (hy : Ok y) : (if kr x = kr y then (if eqV (payV x) (payV y) = true then false else gtI (payV x) (payV y)) else decide (kr y < kr x)) = vlt y x := by
  rw [vlt_two]
  by_cases h : kr x = kr y
  · rw [if_pos h, if_pos h.symm]
    have t := two_pay hx hy h
    generalize payV x = p at t ⊢
    generalize payV y = q at t ⊢
    generalize payD x = d at t ⊢
    generalize payD y = e at t ⊢
    cases t with
    | int a b =>
      show (if (a == b) = true then false else decide (b < a)) = (if (b == a) = true then false else ltD (.int b) (.int a))
      rw [ltD]
      by_cases z : a = b
      · subst z; simp
      · have z' : ¬ b = a := fun w => z w.symm
        simp [z, z']
    | str a b =>
      show (if (a == b) = true then false else decide (b.cps.toList < a.cps.toList)) = (if (b == a) = true then false else ltD (.str b) (.str a))
      rw [ltD]
      by_cases z : a = b
      · subst z; simp
      · have z' : ¬ b = a := fun w => z w.symm
        simp [z, z']
  · have h' : ¬ kr y = kr x := fun z => h z.symm
    rw [if_neg h, if_neg h']
theorem ge_res {x y : V} (hx : Ok x) (hy : Ok y) : (if kr x = kr y then (if eqV (payV x) (payV y) = true then true else geI (payV x) (payV y)) else decide (kr y ≤ kr x)) = !vlt x y := by
  rw [vlt_two]
  by_cases h : kr x = kr y
  · rw [if_pos h, if_pos h]
    have t := two_pay hx hy h
    generalize payV x = p at t ⊢
    generalize payV y = q at t ⊢
    generalize payD x = d at t ⊢
    generalize payD y = e at t ⊢
    cases t with
    | int a b =>
      show (if (a == b) = true then true else decide (b ≤ a)) = !(if (a == b) = true then false else ltD (.int a) (.int b))
      rw [ltD]
      by_cases z : a = b
      · subst z; simp
      · simp [z, dle b a]
    | str a b =>
      show (if (a == b) = true then true else !decide (a.cps.toList < b.cps.toList)) = !(if (a == b) = true then false else ltD (.str a) (.str b))
      rw [ltD]
      by_cases z : a = b
      · subst z; simp
      · simp [z]
  · rw [if_neg h, if_neg h]
    exact dle _ _
section
variable {K : PySem.W.Frag} {H : Hp} {x y : V} {a b : Addr}
theorem rv_leR (ha : H a = some (.tup (rkL x))) (hb : H b = some (.tup (rkL y))) (hx : Ok x) (hy : Ok y) : RV (rLe2 K) (.ref a) (.ref b) H (.bl (!vlt y x)) := fun H1 e Q q =>
  ⟨a, b, kr x, kr y, payV x, payV y, rfl, rfl, st_of (e _ _ ha), st_of (e _ _ hb), flat_pay hx, flat_pay hy, fun h _ => okI_pay hx hy h, by rw [le_res hx hy]; exact q H1 (Ex.refl H1)⟩
theorem rv_gtR (ha : H a = some (.tup (rkL x))) (hb : H b = some (.tup (rkL y))) (hx : Ok x) (hy : Ok y) : RV (rGt2 K) (.ref a) (.ref b) H (.bl (vlt y x)) := fun H1 e Q q =>
  ⟨a, b, kr x, kr y, payV x, payV y, rfl, rfl, st_of (e _ _ ha), st_of (e _ _ hb), flat_pay hx, flat_pay hy, fun h _ => okI_pay hx hy h, by rw [gt_res hx hy]; exact q H1 (Ex.refl H1)⟩
theorem rv_geR (ha : H a = some (.tup (rkL x))) (hb : H b = some (.tup (rkL y))) (hx : Ok x) (hy : Ok y) : RV (rGe2 K) (.ref a) (.ref b) H (.bl (!vlt x y)) := fun H1 e Q q =>
  ⟨a, b, kr x, kr y, payV x, payV y, rfl, rfl, st_of (e _ _ ha), st_of (e _ _ hb), flat_pay hx, flat_pay hy, fun h _ => okI_pay hx hy h, by rw [ge_res hx hy]; exact q H1 (Ex.refl H1)⟩
theorem rv_ltR (ha : H a = some (.tup (rkL x))) (hb : H b = some (.tup (rkL y))) (hx : Ok x) (hy : Ok y) : RV (rLtD K) (.ref a) (.ref b) H (.bl (vlt x y)) := fun H1 e Q q =>
  ⟨rkD x, rkD y, dp_rk hx (e _ _ ha), dp_rk hy (e _ _ hb), lay_rk hx, lay_rk hy, ord_rk hx hy, by rw [dep_rk hx]; decide, q H1 (Ex.refl H1)⟩
theorem rv_eqR (ha : H a = some (.tup (rkL x))) (hb : H b = some (.tup (rkL y))) (hx : Ok x) (hy : Ok y) : RV (rEqD K) (.ref a) (.ref b) H (.bl (veq x y)) := fun H1 e Q q =>
  ⟨rkD x, rkD y, dp_rk hx (e _ _ ha), dp_rk hy (e _ _ hb), shaped_rk hx, shaped_rk hy, q H1 (Ex.refl H1)⟩
end

/-! ### defs as values -/
section
variable {P : Program} {w : World} {K : PySem.W.Frag} {mg : Str → Option Value} {base : Heap}
noncomputable def calA {k : Nat} {x : Str} {sp : Sp} (c : C8.Cal P w K mg base k x sp []) : Addr := Classical.choose c.ex
theorem calA_mg {k : Nat} {x : Str} {sp : Sp} (c : C8.Cal P w K mg base k x sp []) : mg x = some (.ref (calA c)) := by
  obtain ⟨fd, ps, ds, F, hm, kp, b, v⟩ := Classical.choose_spec c.ex
  exact hm
theorem gdef {k : Nat} {x : Str} {sp : Sp} (c : C8.Cal P w K mg base k x sp []) : ∃ u, mg x = some u ∧ RelV (.ref (calA c)) u := ⟨_, calA_mg c, rfl⟩
theorem heldI {k : Nat} {f : Addr} {sp sp' : Sp} (h : L2.Held P w K mg base k f sp) (i : ∀ vs H Q E, sp' vs H Q E → sp vs H Q E) : L2.Held P w K mg base k f sp' := by
  obtain ⟨fd, ps, F, hk, hb⟩ := h.ex
  exact ⟨fd, ps, F.imp i, hk, hb⟩
end

/-! ### ranks as keys to sort by -/
def payT : V → Int ⊕ List Nat
  | .bl b => .inl (if b = true then 1 else 0)
  | .int i => .inl i
  | .str s => .inr s.cps.toList
  | _ => .inl 0
def tkR (x : V) : Tks := [.inl (kr x), payT x]
theorem lex_two (m n : Int) (a b : Int ⊕ List Nat) : tkLt [.inl m, a] [.inl n, b] = if m = n then PyProof.Rows.itemLt a b else decide (m < n) := by
  by_cases h : m = n
  · subst h
    rw [if_pos rfl]
    show PyProof.Rows.lexLt PyProof.Rows.itemOrd (Sum.inl m :: [a]) (Sum.inl m :: [b]) = _
    rw [PyProof.Rows.lex_self, PyProof.Rows.lex_cons]
    show (PyProof.Rows.itemLt a b || (!PyProof.Rows.itemLt b a && false)) = _
    rw [Bool.and_false, Bool.or_false]
  · rw [if_neg h]
    exact PyProof.Rows.lex_diff (O := PyProof.Rows.itemOrd) (x := Sum.inl m) (y := Sum.inl n) fun z => h (Sum.inl.inj z)
theorem kf_rank : KFam rkDs tkR true Ok where
  lt x y hx hy := by
    have e : ltDs (rkDs x) (rkDs y) = vlt x y := by
      show _ = ltD (.tuple (rkDs x)) (.tuple (rkDs y))
      rw [ltD]
    rw [e, vlt_two]
    have same : ∀ a b : Int, (if PyData.eqv (.int a) (.int b) = true then false else ltD (.int a) (.int b)) = decide (a < b) := fun a b => by
      show (if (a == b) = true then false else ltD (.int a) (.int b)) = _
      rw [ltD]
      by_cases z : a = b
      · subst z; simp
      · simp [z]
    rw [show tkLt (tkR x) (tkR y) = _ from lex_two _ _ _ _]
    by_cases h : kr x = kr y
    · rw [if_pos h, if_pos h]
      cases hx <;> cases hy <;> first | exact same _ _ | exact absurd h (by decide) | (simp [kr] at h; done) | skip
      rename_i a _ b _
      show (if (a == b) = true then false else ltD (.str a) (.str b)) = decide (a.cps.toList < b.cps.toList)
      rw [ltD]
      by_cases z : a = b
      · subst z; simp
      · simp [z]
    · rw [if_neg h, if_neg h]
  ord x y hx hy := by
    have := ord_rk hx hy
    rw [rkD, rkD, ordD] at this
    exact this
  lay x hx := by have := lay_rk hx; simpa [rkD, PyData.canLay0] using this
  dep x hx := by
    have := dep_rk hx
    have h2 : (rkD x).depth = PyData.depthAll (rkDs x) + 1 := rfl
    omega
  nol x hx := by have := noL_rk hx; simpa [rkD, noL] using this
  head x hx := ⟨_, _, rfl, by rw [if_pos rfl]; exact ⟨_, rfl⟩⟩

--@SPLIT
/-! ### min(xs, key=f, default=d), max: the def known by its heap words alone -/
section
open PySem PySem.W
variable {prog : Program} {w : World} {A : Around} {R : Result → Shared → Prop} {I : Addr} {fp wr : List Addr} {G : Array GenState → Array GenState → Prop} {n : Nat} {P : Nat → Value → Prop} {St : Nat → Shared → Prop} {bt : Nat → Nat → Bool} {q : Addr}
/-- what the key asks: J0 ahead of the first, J b k with item b the best, its key k -/
structure KRun (prog : Program) (w : World) (A : Around) (q : Value) (op : CmpOp) (S : Addr) (wr : List Addr) (G : Array GenState → Array GenState → Prop) (n : Nat) (P : Nat → Value → Prop) (St : Nat → Shared → Prop) (J0 : Shared → Prop) (J : Nat → Value → Shared → Prop) (bt : Nat → Nat → Bool) : Prop where
  keep0 : ∀ s s', J0 s → Moved (S :: wr) G s s' → J0 s'
  keep : ∀ b k s s', J b k s → Moved (S :: wr) G s s' → J b k s'
  first : ∀ v (s : Shared) (it : Array Value) (c : Nat) (Q E : Value → Shared → Prop), 0 < n → P 0 v → J0 s → St 1 s → s.heap.get? S = some { cls := .type "list", dict := none, data := .seq it c, slots := #[] } → (∀ k s', J 0 k s' → St 1 s' → s'.heap.get? S = some { cls := .type "list", dict := none, data := .seq it c, slots := #[] } → Q k s') → wpAny (model prog w) A (call q [v]) Q E s
  turn : ∀ i b kb v (s : Shared) (it : Array Value) (c : Nat) (Q E : Value → Shared → Prop), i < n → b < n → P i v → J b kb s → St (i + 1) s → s.heap.get? S = some { cls := .type "list", dict := none, data := .seq it c, slots := #[] } →
    (∀ k s', J b kb s' → J i k s' → (∀ Q E : Value → Shared → Prop, Q (.bool (bt i b)) s' → wpAny (model prog w) A (richCompare op k kb) Q E s') → St (i + 1) s' → s'.heap.get? S = some { cls := .type "list", dict := none, data := .seq it c, slots := #[] } → Q k s') → wpAny (model prog w) A (call q [v]) Q E s
variable {J0 : Shared → Prop} {J : Nat → Value → Shared → Prop}
theorem best_lt (bt : Nat → Nat → Bool) : ∀ j, argBest bt j ≤ j
  | 0 => Nat.le_refl _
  | j + 1 => by
    have := best_lt bt j
    unfold argBest
    split <;> omega
theorem min_turns (W : WalksS prog w A.in1 I fp wr G n P St) (S : Addr) (hSf : S ∉ fp) (K : KRun prog w A.in1 (.ref q) .Lt S wr G n P St J0 J bt) (kw : List (Str × Value)) :
    ∀ (k j : Nat) (s : Shared) (vb kb : Value) (c : Nat), n - (j + 1) = k → j + 1 ≤ n → J (argBest bt j) kb s → St (j + 1) s → P (argBest bt j) vb →
    s.heap.get? S = some { cls := .type "list", dict := none, data := .seq #[vb, kb] c, slots := #[] } →
    (∀ v kb s', P (argBest bt (n - 1)) v → J (argBest bt (n - 1)) kb s' → R (.ok (.ret v)) s') → codeAny (model prog w) A (.builtin "min.loop" ⟨[.ref I, (.ref q), .ref S], kw⟩) R s := by
  have hSw : S ∉ wr := fun h => hSf (W.sub _ h)
  have hsub : ∀ b ∈ wr, b ∈ S :: wr := fun b hb => List.mem_cons_of_mem _ hb
  have nS : ∀ {b : Addr}, b ∉ S :: wr → S ≠ b := fun hb h => hb (by rw [h]; exact List.mem_cons_self)
  have own : ∀ (s : Shared) (f : Array Value → Array Value), Moved (S :: wr) G s { s with heap := s.heap.update S (Obj.mapSeq f), toks := s.toks } := fun s f => (Moved.refl W.grefl).then_heap (tk := s.toks) (Nat.le_refl _) fun b o hb e => (Heap.get?_update_other _ _ (nS hb)).trans e
  intro k
  induction k with
  | zero =>
    intro j s vb kb c hk hj hJ hst hPb hS hR
    have hin : j + 1 = n := by omega
    refine codeAny_builtin F.entry_min_loop ?_
    rw [Around.under_plainId F.plain_min_loop _]
    refine wpAny_bind (m := seqItems? (.ref S)) (wpAny_seqItems hS rfl ?_)
    refine wpAny_bind (m := tryCatch (pyNext (.ref I)) _) (wpAny_tryCatch (W.done s _ _ (hin ▸ hst) fun s' hm => ?_))
    have hS' := hm.heap S _ hSw hS
    refine wpAny_bind (m := updateSeq S (fun _ => #[])) (wpAny_updateSeq hS' rfl (wpAny_bind (wpAny_letGo (wpAny_pure ?_))))
    exact hR vb kb _ (by rw [← hin]; exact hPb) (by rw [← hin]; exact K.keep _ _ _ _ (K.keep _ _ _ _ hJ (hm.mono hsub)) (own s' _))
  | succ k ih =>
    intro j s vb kb c hk hj hJ hst hPb hS hR
    have hlt : j + 1 < n := by omega
    have hbn : argBest bt j < n := by have := best_lt bt j; omega
    refine codeAny_builtin F.entry_min_loop ?_
    rw [Around.under_plainId F.plain_min_loop _]
    refine wpAny_bind (m := seqItems? (.ref S)) (wpAny_seqItems hS rfl ?_)
    refine wpAny_bind (m := tryCatch (pyNext (.ref I)) _) (wpAny_tryCatch (W.item (j + 1) s _ _ hlt hst fun v s' hP hst' hm => ?_))
    have hS' := hm.heap S _ hSw hS
    refine wpAny_bind (m := tryCatch (holding [v] (call (.ref q) [v])) _) (wpAny_tryCatch (wpAny_holding (K.turn (j + 1) _ kb v s' _ _ _ _ hlt hbn hP (K.keep _ _ _ _ hJ (hm.mono hsub)) hst' hS' fun kx s2 hJb hJx hcmp hst2 hS2 => ?_)))
    refine wpAny_bind (m := tryCatch (holding [v, kx] (richCompare .Lt kx kb >>= _)) _) (wpAny_tryCatch (wpAny_holding (wpAny_bind (hcmp _ _ ?_))))
    refine wpAny_bind (wpAny_holding (wpAny_truthy_bool ?_))
    refine wpAny_bind (wpAny_letGo (wpAny_pure ?_))
    cases hb : bt (j + 1) (argBest bt j) with
    | true =>
      simp only [if_true]
      refine wpAny_bind ?_
      refine wpAny_updateSeq hS2 rfl (wpAny_bind (wpAny_letGo ?_))
      rw [show (toString "min" ++ toString ".loop" : String) = "min.loop" by decide]
      refine wpAny_pure ⟨plainId_quiet F.plain_min_loop _, ih (j + 1) _ v kx _ (by omega) hlt ?_ (W.frame _ s2 _ s2.toks hst2 (Nat.le_refl _) fun b hbf o e => (Heap.get?_update_other _ _ (fun h : S = b => hSf (by rw [h]; exact hbf))).trans e) (by simp only [argBest, hb, if_true]; exact hP) (Heap.get?_update_self _ hS2 rfl) hR⟩
      simp only [argBest, hb, if_true]
      exact K.keep _ _ _ _ hJx (own s2 _)
    | false =>
      simp only [Bool.false_eq_true, if_false]
      refine wpAny_bind (wpAny_letGo ?_)
      rw [show (toString "min" ++ toString ".loop" : String) = "min.loop" by decide]
      exact wpAny_pure ⟨plainId_quiet F.plain_min_loop _, ih (j + 1) _ vb kb c (by omega) hlt (by simp only [argBest, hb, Bool.false_eq_true, if_false]; exact hJb) hst2 (by simp only [argBest, hb, Bool.false_eq_true, if_false]; exact hPb) hS2 hR⟩
theorem min_all (W : WalksS prog w A.in1 I fp wr G n P St) (S : Addr) (hSf : S ∉ fp) (K : KRun prog w A.in1 (.ref q) .Lt S wr G n P St J0 J bt) (kw : List (Str × Value)) (hn : 0 < n) {s : Shared} {c : Nat} (hJ : J0 s) (hst : St 0 s)
    (hS : s.heap.get? S = some { cls := .type "list", dict := none, data := .seq #[] c, slots := #[] })
    (hR : ∀ v kb s', P (argBest bt (n - 1)) v → J (argBest bt (n - 1)) kb s' → R (.ok (.ret v)) s') : codeAny (model prog w) A (.builtin "min.loop" ⟨[.ref I, (.ref q), .ref S], kw⟩) R s := by
  have hSw : S ∉ wr := fun h => hSf (W.sub _ h)
  have hsub : ∀ b ∈ wr, b ∈ S :: wr := fun b hb => List.mem_cons_of_mem _ hb
  have nS : ∀ {b : Addr}, b ∉ S :: wr → S ≠ b := fun hb h => hb (by rw [h]; exact List.mem_cons_self)
  refine codeAny_builtin F.entry_min_loop ?_
  rw [Around.under_plainId F.plain_min_loop _]
  refine wpAny_bind (m := seqItems? (.ref S)) (wpAny_seqItems hS rfl ?_)
  refine wpAny_bind (m := tryCatch (pyNext (.ref I)) _) (wpAny_tryCatch (W.item 0 s _ _ hn hst fun v s' hP hst' hm => ?_))
  have hS' := hm.heap S _ hSw hS
  refine wpAny_bind (m := tryCatch (holding [v] (call (.ref q) [v])) _) (wpAny_tryCatch (wpAny_holding (K.first v s' _ _ _ _ hn hP (K.keep0 _ _ hJ (hm.mono hsub)) hst' hS' fun kx s2 hJx hst2 hS2 => ?_)))
  refine wpAny_bind (m := updateSeq S (fun _ => #[v, kx])) ?_
  refine wpAny_updateSeq hS2 rfl ?_
  rw [show (toString "min" ++ toString ".loop" : String) = "min.loop" by decide]
  refine wpAny_pure ⟨plainId_quiet F.plain_min_loop _, min_turns W S hSf K kw _ 0 _ v kx _ rfl hn (K.keep _ _ _ _ hJx ((Moved.refl W.grefl).then_heap (tk := s2.toks) (Nat.le_refl _) fun b o hb e => (Heap.get?_update_other _ _ (nS hb)).trans e)) (W.frame _ s2 _ s2.toks hst2 (Nat.le_refl _) fun b hbf o e => (Heap.get?_update_other _ _ (fun h : S = b => hSf (by rw [h]; exact hbf))).trans e) hP (Heap.get?_update_self _ hS2 rfl) hR⟩
theorem min_key {E : Value → Shared → Prop} {s : Shared} {x d : Value} {Q : Value → Shared → Prop}
    (h : wpAny (model prog w) A.in1 (pyIter x) (fun it s₂ => ∃ I fp wr G n P St J0 J bt, it = .ref I ∧ WalksS prog w A.in1 I fp wr G n P St ∧ St 0 s₂ ∧ (∀ b ∈ fp, b < s₂.heap.objs.size) ∧
      KRun prog w A.in1 (.ref q) .Lt s₂.heap.objs.size wr G n P St J0 J bt ∧ J0 s₂ ∧ (n = 0 → ∀ s', J0 s' → Q d s') ∧ (0 < n → ∀ v kb s', P (argBest bt (n - 1)) v → J (argBest bt (n - 1)) kb s' → Q v s')) E s) :
    wpAny (model prog w) A (call (.builtin "min") [x] [(Str.ofString "key", .ref q), (Str.ofString "default", d)]) Q E s := by
  refine PyProof.Rows.kmk_tree F.kind_min F.plain_min F.entry_min (args_min_key_default _ _ _) ?_
  refine wpAny_bind (m := Builtin.Builtins.bindParams "min" ["key", "default"] 0 ⟨[], [(Str.ofString "key", .ref q), (Str.ofString "default", d)]⟩) (wpAny_of_eq (show Builtin.Builtins.bindParams "min" ["key", "default"] 0 ⟨[], [(Str.ofString "key", .ref q), (Str.ofString "default", d)]⟩ = pure [some (.ref q), some d] from rfl) ?_)
  refine wpAny_bind (wpAny_pure ?_)
  refine wpAny_bind (wpAny_mono h (fun it s₂ h₂ => ?_) fun _ _ e => e)
  obtain ⟨I, fp, wr, G, n, P, St, J0, J, bt, rfl, W, hst, hfp, K, hJ, h0, hQ⟩ := h₂
  refine wpAny_bind (wpAny_newObj_type ?_)
  have hSf : s₂.heap.objs.size ∉ fp := fun hm => Nat.lt_irrefl _ (hfp _ hm)
  rw [show (toString "min" ++ toString ".loop" : String) = "min.loop" by decide]
  have hm0 : Moved (s₂.heap.objs.size :: wr) G s₂ { s₂ with heap := s₂.heap.push { cls := .type "list", data := .seq #[] 0 }, toks := s₂.toks } := (Moved.refl W.grefl).then_heap (tk := s₂.toks) (Nat.le_refl _) fun b o _ e => Heap.get?_push_of_some _ e
  have hst' := W.frame 0 s₂ (s₂.heap.push { cls := .type "list", data := .seq #[] 0 }) s₂.toks hst (Nat.le_refl _) fun b _ o e => Heap.get?_push_of_some _ e
  refine wpAny_pure ⟨plainId_quiet F.plain_min_loop _, ?_⟩
  rcases Nat.eq_zero_or_pos n with hn | hn
  · subst hn
    refine codeAny_min_loop_dflt (S := s₂.heap.objs.size) W hSf hst' (Heap.get?_push_size _ rfl) fun s' hm => ?_
    exact h0 rfl s' (K.keep0 _ _ hJ (Moved.trans W.gtrans hm0 (hm.mono (fun b hb => List.mem_cons_of_mem s₂.heap.objs.size hb))))
  · exact min_all W s₂.heap.objs.size hSf K _ hn (K.keep0 _ _ hJ hm0) hst' (Heap.get?_push_size _ rfl) (hQ hn)
end

--@SPLIT
/-! ### max(xs, key=f, default=d) -/
section
open PySem PySem.W
variable {prog : Program} {w : World} {A : Around} {R : Result → Shared → Prop} {I : Addr} {fp wr : List Addr} {G : Array GenState → Array GenState → Prop} {n : Nat} {P : Nat → Value → Prop} {St : Nat → Shared → Prop} {bt : Nat → Nat → Bool} {q : Addr}
variable {J0 : Shared → Prop} {J : Nat → Value → Shared → Prop}
theorem max_turns (W : WalksS prog w A.in1 I fp wr G n P St) (S : Addr) (hSf : S ∉ fp) (K : KRun prog w A.in1 (.ref q) .Gt S wr G n P St J0 J bt) (kw : List (Str × Value)) :
    ∀ (k j : Nat) (s : Shared) (vb kb : Value) (c : Nat), n - (j + 1) = k → j + 1 ≤ n → J (argBest bt j) kb s → St (j + 1) s → P (argBest bt j) vb →
    s.heap.get? S = some { cls := .type "list", dict := none, data := .seq #[vb, kb] c, slots := #[] } →
    (∀ v kb s', P (argBest bt (n - 1)) v → J (argBest bt (n - 1)) kb s' → R (.ok (.ret v)) s') → codeAny (model prog w) A (.builtin "max.loop" ⟨[.ref I, (.ref q), .ref S], kw⟩) R s := by
  have hSw : S ∉ wr := fun h => hSf (W.sub _ h)
  have hsub : ∀ b ∈ wr, b ∈ S :: wr := fun b hb => List.mem_cons_of_mem _ hb
  have nS : ∀ {b : Addr}, b ∉ S :: wr → S ≠ b := fun hb h => hb (by rw [h]; exact List.mem_cons_self)
  have own : ∀ (s : Shared) (f : Array Value → Array Value), Moved (S :: wr) G s { s with heap := s.heap.update S (Obj.mapSeq f), toks := s.toks } := fun s f => (Moved.refl W.grefl).then_heap (tk := s.toks) (Nat.le_refl _) fun b o hb e => (Heap.get?_update_other _ _ (nS hb)).trans e
  intro k
  induction k with
  | zero =>
    intro j s vb kb c hk hj hJ hst hPb hS hR
    have hin : j + 1 = n := by omega
    refine codeAny_builtin F.entry_max_loop ?_
    rw [Around.under_plainId F.plain_max_loop _]
    refine wpAny_bind (m := seqItems? (.ref S)) (wpAny_seqItems hS rfl ?_)
    refine wpAny_bind (m := tryCatch (pyNext (.ref I)) _) (wpAny_tryCatch (W.done s _ _ (hin ▸ hst) fun s' hm => ?_))
    have hS' := hm.heap S _ hSw hS
    refine wpAny_bind (m := updateSeq S (fun _ => #[])) (wpAny_updateSeq hS' rfl (wpAny_bind (wpAny_letGo (wpAny_pure ?_))))
    exact hR vb kb _ (by rw [← hin]; exact hPb) (by rw [← hin]; exact K.keep _ _ _ _ (K.keep _ _ _ _ hJ (hm.mono hsub)) (own s' _))
  | succ k ih =>
    intro j s vb kb c hk hj hJ hst hPb hS hR
    have hlt : j + 1 < n := by omega
    have hbn : argBest bt j < n := by have := best_lt bt j; omega
    refine codeAny_builtin F.entry_max_loop ?_
    rw [Around.under_plainId F.plain_max_loop _]
    refine wpAny_bind (m := seqItems? (.ref S)) (wpAny_seqItems hS rfl ?_)
    refine wpAny_bind (m := tryCatch (pyNext (.ref I)) _) (wpAny_tryCatch (W.item (j + 1) s _ _ hlt hst fun v s' hP hst' hm => ?_))
    have hS' := hm.heap S _ hSw hS
    refine wpAny_bind (m := tryCatch (holding [v] (call (.ref q) [v])) _) (wpAny_tryCatch (wpAny_holding (K.turn (j + 1) _ kb v s' _ _ _ _ hlt hbn hP (K.keep _ _ _ _ hJ (hm.mono hsub)) hst' hS' fun kx s2 hJb hJx hcmp hst2 hS2 => ?_)))
    refine wpAny_bind (m := tryCatch (holding [v, kx] (richCompare .Gt kx kb >>= _)) _) (wpAny_tryCatch (wpAny_holding (wpAny_bind (hcmp _ _ ?_))))
    refine wpAny_bind (wpAny_holding (wpAny_truthy_bool ?_))
    refine wpAny_bind (wpAny_letGo (wpAny_pure ?_))
    cases hb : bt (j + 1) (argBest bt j) with
    | true =>
      simp only [if_true]
      refine wpAny_bind ?_
      refine wpAny_updateSeq hS2 rfl (wpAny_bind (wpAny_letGo ?_))
      rw [show (toString "max" ++ toString ".loop" : String) = "max.loop" by decide]
      refine wpAny_pure ⟨plainId_quiet F.plain_max_loop _, ih (j + 1) _ v kx _ (by omega) hlt ?_ (W.frame _ s2 _ s2.toks hst2 (Nat.le_refl _) fun b hbf o e => (Heap.get?_update_other _ _ (fun h : S = b => hSf (by rw [h]; exact hbf))).trans e) (by simp only [argBest, hb, if_true]; exact hP) (Heap.get?_update_self _ hS2 rfl) hR⟩
      simp only [argBest, hb, if_true]
      exact K.keep _ _ _ _ hJx (own s2 _)
    | false =>
      simp only [Bool.false_eq_true, if_false]
      refine wpAny_bind (wpAny_letGo ?_)
      rw [show (toString "max" ++ toString ".loop" : String) = "max.loop" by decide]
      exact wpAny_pure ⟨plainId_quiet F.plain_max_loop _, ih (j + 1) _ vb kb c (by omega) hlt (by simp only [argBest, hb, Bool.false_eq_true, if_false]; exact hJb) hst2 (by simp only [argBest, hb, Bool.false_eq_true, if_false]; exact hPb) hS2 hR⟩
theorem max_all (W : WalksS prog w A.in1 I fp wr G n P St) (S : Addr) (hSf : S ∉ fp) (K : KRun prog w A.in1 (.ref q) .Gt S wr G n P St J0 J bt) (kw : List (Str × Value)) (hn : 0 < n) {s : Shared} {c : Nat} (hJ : J0 s) (hst : St 0 s)
    (hS : s.heap.get? S = some { cls := .type "list", dict := none, data := .seq #[] c, slots := #[] })
    (hR : ∀ v kb s', P (argBest bt (n - 1)) v → J (argBest bt (n - 1)) kb s' → R (.ok (.ret v)) s') : codeAny (model prog w) A (.builtin "max.loop" ⟨[.ref I, (.ref q), .ref S], kw⟩) R s := by
  have hSw : S ∉ wr := fun h => hSf (W.sub _ h)
  have hsub : ∀ b ∈ wr, b ∈ S :: wr := fun b hb => List.mem_cons_of_mem _ hb
  have nS : ∀ {b : Addr}, b ∉ S :: wr → S ≠ b := fun hb h => hb (by rw [h]; exact List.mem_cons_self)
  refine codeAny_builtin F.entry_max_loop ?_
  rw [Around.under_plainId F.plain_max_loop _]
  refine wpAny_bind (m := seqItems? (.ref S)) (wpAny_seqItems hS rfl ?_)
  refine wpAny_bind (m := tryCatch (pyNext (.ref I)) _) (wpAny_tryCatch (W.item 0 s _ _ hn hst fun v s' hP hst' hm => ?_))
  have hS' := hm.heap S _ hSw hS
  refine wpAny_bind (m := tryCatch (holding [v] (call (.ref q) [v])) _) (wpAny_tryCatch (wpAny_holding (K.first v s' _ _ _ _ hn hP (K.keep0 _ _ hJ (hm.mono hsub)) hst' hS' fun kx s2 hJx hst2 hS2 => ?_)))
  refine wpAny_bind (m := updateSeq S (fun _ => #[v, kx])) ?_
  refine wpAny_updateSeq hS2 rfl ?_
  rw [show (toString "max" ++ toString ".loop" : String) = "max.loop" by decide]
  refine wpAny_pure ⟨plainId_quiet F.plain_max_loop _, max_turns W S hSf K kw _ 0 _ v kx _ rfl hn (K.keep _ _ _ _ hJx ((Moved.refl W.grefl).then_heap (tk := s2.toks) (Nat.le_refl _) fun b o hb e => (Heap.get?_update_other _ _ (nS hb)).trans e)) (W.frame _ s2 _ s2.toks hst2 (Nat.le_refl _) fun b hbf o e => (Heap.get?_update_other _ _ (fun h : S = b => hSf (by rw [h]; exact hbf))).trans e) hP (Heap.get?_update_self _ hS2 rfl) hR⟩
theorem max_key {E : Value → Shared → Prop} {s : Shared} {x d : Value} {Q : Value → Shared → Prop}
    (h : wpAny (model prog w) A.in1 (pyIter x) (fun it s₂ => ∃ I fp wr G n P St J0 J bt, it = .ref I ∧ WalksS prog w A.in1 I fp wr G n P St ∧ St 0 s₂ ∧ (∀ b ∈ fp, b < s₂.heap.objs.size) ∧
      KRun prog w A.in1 (.ref q) .Gt s₂.heap.objs.size wr G n P St J0 J bt ∧ J0 s₂ ∧ (n = 0 → ∀ s', J0 s' → Q d s') ∧ (0 < n → ∀ v kb s', P (argBest bt (n - 1)) v → J (argBest bt (n - 1)) kb s' → Q v s')) E s) :
    wpAny (model prog w) A (call (.builtin "max") [x] [(Str.ofString "key", .ref q), (Str.ofString "default", d)]) Q E s := by
  refine PyProof.Rows.kmk_tree F.kind_max F.plain_max F.entry_max (args_max_key_default _ _ _) ?_
  refine wpAny_bind (m := Builtin.Builtins.bindParams "max" ["key", "default"] 0 ⟨[], [(Str.ofString "key", .ref q), (Str.ofString "default", d)]⟩) (wpAny_of_eq (show Builtin.Builtins.bindParams "max" ["key", "default"] 0 ⟨[], [(Str.ofString "key", .ref q), (Str.ofString "default", d)]⟩ = pure [some (.ref q), some d] from rfl) ?_)
  refine wpAny_bind (wpAny_pure ?_)
  refine wpAny_bind (wpAny_mono h (fun it s₂ h₂ => ?_) fun _ _ e => e)
  obtain ⟨I, fp, wr, G, n, P, St, J0, J, bt, rfl, W, hst, hfp, K, hJ, h0, hQ⟩ := h₂
  refine wpAny_bind (wpAny_newObj_type ?_)
  have hSf : s₂.heap.objs.size ∉ fp := fun hm => Nat.lt_irrefl _ (hfp _ hm)
  rw [show (toString "max" ++ toString ".loop" : String) = "max.loop" by decide]
  have hm0 : Moved (s₂.heap.objs.size :: wr) G s₂ { s₂ with heap := s₂.heap.push { cls := .type "list", data := .seq #[] 0 }, toks := s₂.toks } := (Moved.refl W.grefl).then_heap (tk := s₂.toks) (Nat.le_refl _) fun b o _ e => Heap.get?_push_of_some _ e
  have hst' := W.frame 0 s₂ (s₂.heap.push { cls := .type "list", data := .seq #[] 0 }) s₂.toks hst (Nat.le_refl _) fun b _ o e => Heap.get?_push_of_some _ e
  refine wpAny_pure ⟨plainId_quiet F.plain_max_loop _, ?_⟩
  rcases Nat.eq_zero_or_pos n with hn | hn
  · subst hn
    refine codeAny_max_loop_dflt (S := s₂.heap.objs.size) W hSf hst' (Heap.get?_push_size _ rfl) fun s' hm => ?_
    exact h0 rfl s' (K.keep0 _ _ hJ (Moved.trans W.gtrans hm0 (hm.mono (fun b hb => List.mem_cons_of_mem s₂.heap.objs.size hb))))
  · exact max_all W s₂.heap.objs.size hSf K _ hn (K.keep0 _ _ hJ hm0) hst' (Heap.get?_push_size _ rfl) (hQ hn)
end

--@SPLIT
/-! ### the least and the greatest by rank -/
/-- > of two pairs, anywhere around -/
theorem gt_pair {X : Cx} {A : Around} {pins : List (Addr × Obj)} {σ : L2.St} {H : Hp} {s : Shared} {a b : Addr} {i j : Int} {p q : V} (I : Inv X pins σ H s) (hu : A.units + 64 < cLine) (ha : SqT X.K H a [.int i, p]) (hb : SqT X.K H b [.int j, q]) (fp : flatV p = true) (fq : flatV q = true) (ho : i = j → eqV p q = false → okI p q = true) :
    Ob.RcOp .Gt A s (.ref a) (.ref b) (if i = j then (if eqV p q = true then false else gtI p q) else decide (j < i)) := by
  obtain ⟨us, r1, t1, _⟩ := I.tuple ha
  obtain ⟨vs, r2, t2, _⟩ := I.tuple hb
  cases r1 with
  | cons q1 w1 =>
    cases w1 with
    | cons q2 w2 =>
      cases w2
      cases r2 with
      | cons z1 y1 =>
        cases y1 with
        | cons z2 y2 =>
          cases y2
          obtain ⟨t, rfl⟩ := q1
          obtain ⟨t', rfl⟩ := z1
          refine gt_tuples t1 t2 (by omega) (c := if i = j then (if eqV p q = true then false else gtI p q) else decide (j < i)) ?_
          show Lxg A.in1 s false [_, _] _
          have e1 := SeqAt.EqAt.int_int (A := A.in1) (s := s) i t j t'
          by_cases e : i = j
          · rw [if_pos e]
            rw [show (i == j) = true from beq_iff_eq.mpr e] at e1
            refine .eq e1 ?_
            have e2 := eqAt_V (A := A.in1) (s := s) q2 z2 fp fq
            cases c : eqV p q with
            | true =>
              rw [c] at e2
              rw [if_pos rfl]
              exact .eq e2 .nil
            | false =>
              rw [c] at e2
              rw [if_neg (by decide)]
              refine .gt e2 ?_
              have o := ho e c
              cases p <;> cases q <;> first | (simp [okI] at o; done) | skip
              · obtain ⟨_, rfl⟩ := q2
                obtain ⟨_, rfl⟩ := z2
                exact Ob.RcOp.gt_int _ _ _ _
              · obtain ⟨_, rfl⟩ := q2
                obtain ⟨_, rfl⟩ := z2
                exact fun prog w E Q h => PySem.P.gt_str h
          · rw [if_neg e]
            rw [show (i == j) = false from beq_eq_false_iff_ne.mpr e] at e1
            exact .gt e1 (Ob.RcOp.gt_int _ _ _ _)

def btR (mx : Bool) (xs : List V) (i j : Nat) : Bool := if mx = true then vlt (xs.getD j .non) (xs.getD i .non) else vlt (xs.getD i .non) (xs.getD j .non)
def bestV (mx : Bool) (xs : List V) : V := xs.getD (PySem.argBest (btR mx xs) (xs.length - 1)) .non
theorem op_cmpR {X : Cx} {A : Around} {pins : List (Addr × Obj)} {σ : L2.St} {H : Hp} {s : Shared} {a b : Addr} {x y : V} (mx : Bool) (I : Inv X pins σ H s) (hu : A.units + 64 < cLine) (ha : H a = some (.tup (rkL x))) (hb : H b = some (.tup (rkL y))) (hx : Ok x) (hy : Ok y) :
    Ob.RcOp (if mx = true then .Gt else .Lt) A s (.ref a) (.ref b) (if mx = true then vlt y x else vlt x y) := by
  cases mx with
  | true =>
    have := gt_pair (A := A) I hu (st_of ha : SqT X.K H a (rkL x)) (st_of hb : SqT X.K H b (rkL y)) (flat_pay hx) (flat_pay hy) fun h _ => okI_pay hx hy h
    rw [gt_res hx hy] at this
    exact this
  | false =>
    obtain ⟨as, r1⟩ := Dp.reads I (rkD x) (.ref a) (.ref a) (dp_rk hx ha) rfl
    obtain ⟨bs, r2⟩ := Dp.reads I (rkD y) (.ref b) (.ref b) (dp_rk hy hb) rfl
    exact lt_reads _ (rkD x) (rkD y) A s _ _ as bs (Nat.le_refl _) r1 r2 (lay_rk hx) (lay_rk hy) (ord_rk hx hy) (by rw [dep_rk hx]; omega)
/-- iter(a list), its items told by their words alone -/
theorem iter_words {prog : Program} {w : World} {A : Around} {s : Shared} {l : Addr} {xs : List V} (hh : A.handled = none) (hl : l < s.heap.objs.size) :
    PySem.WalksS prog w A s.heap.objs.size [s.heap.objs.size, l] [s.heap.objs.size] (fun a b => b = a) xs.length (fun i v => ∃ x, xs[i]? = some x ∧ RelV x v) (fun i s' => s'.heap.IsListIter s.heap.objs.size l i ∧ ∃ vs : Array Value, s'.heap.IsList l vs ∧ Vals xs vs.toList) := by
  have W := fun vs => (PySem.Walks.list (prog := prog) (w := w) (A := A) hh s.heap.objs.size l (Nat.ne_of_lt hl) vs).toS
  have len : ∀ {vs : Array Value}, Vals xs vs.toList → vs.size = xs.length := fun h => by rw [← Array.length_toList]; exact h.length.symm
  refine ⟨(W #[]).sub, fun _ => rfl, fun a b c h1 h2 => by rw [h2, h1], fun i s' h' tk st ht hk => ?_, fun i s' Q E hi st hQ => ?_, fun s' Q E st hQ => ?_, fun i s' Q E st hQ => ?_⟩
  · obtain ⟨it, vs, hl, hv⟩ := st
    have := (W vs).frame i s' h' tk ⟨it, hl⟩ ht hk
    exact ⟨this.1, vs, this.2, hv⟩
  · obtain ⟨it, vs, hl, hv⟩ := st
    refine (W vs).item i s' Q E (by rw [len hv]; exact hi) ⟨it, hl⟩ fun v s2 hP st2 hm => hQ v s2 ?_ ⟨st2.1, vs, st2.2, hv⟩ hm
    obtain ⟨u, hu, ru⟩ := hv.get (i := i) (List.getElem?_eq_getElem hi)
    refine ⟨xs[i], List.getElem?_eq_getElem hi, ?_⟩
    have : vs.toList[i]? = some v := by rw [Array.getElem?_toList]; exact hP
    rw [this] at hu
    cases hu
    exact ru
  · obtain ⟨it, vs, hl, hv⟩ := st
    exact (W vs).done s' Q E (by rw [len hv]; exact ⟨it, hl⟩) hQ
  · obtain ⟨it, vs, hl, hv⟩ := st
    exact (W vs).self i s' Q E ⟨it, hl⟩ hQ

--@SPLIT
def BestSt (xs : List V) (Ia l : Addr) (i : Nat) (s' : Shared) : Prop := s'.heap.IsListIter Ia l i ∧ ∃ vs : Array Value, s'.heap.IsList l vs ∧ Vals xs vs.toList
section
open PySem PySem.W
variable {X : Cx} {pins : List (Addr × Obj)} {σ : L2.St} {H : Hp} {s : Shared}
theorem inv_moved {H' : Hp} {s1 s2 : Shared} {S Ia : Addr} (I : Inv X pins σ H' s1) (hS : FpOk X pins H' S) (hI : FpOk X pins H' Ia) (m : Moved (S :: [Ia]) (fun a b => b = a) s1 s2) : Inv X pins σ H' s2 := by
  have e : s2 = { s1 with heap := s2.heap, toks := s2.toks } := by
    obtain ⟨hp, g, d, tk, os⟩ := s2
    have h1 : g = s1.gens := m.gens
    have h2 : d = s1.drawn := m.drawn
    have h3 : os = s1.os := m.os
    subst h1
    subst h2
    subst h3
    rfl
  rw [e]
  refine I.turnedL (t' := s2.toks) (ch := [S, Ia]) (fun b o hb eb => m.heap b o hb eb) fun b hb => ?_
  rcases (show b = S ∨ b = Ia by simpa using hb) with z | z <;> rw [z] <;> assumption
theorem best_call {lv : Nat} {H' : Hp} {s1 : Shared} {S Ia l f : Addr} {xs : List V} {x : V} {v : Value} {it : Array Value} {c i : Nat} {Q E : Value → Shared → Prop} (hr : Room lv X.A.in1) (I : Inv X pins σ H' s1) (hS : FpOk X pins H' S) (hI : FpOk X pins H' Ia) (hl : SqL X.K H' l xs)
    (hH : L2.Held X.prog X.w X.K X.mg X.base lv f (sp_rank X.K)) (ho : Ok x) (rv : RelV x v) (st : BestSt xs Ia l i s1) (hs : s1.heap.get? S = some { cls := .type "list", dict := none, data := .seq it c, slots := #[] })
    (q : ∀ p H2 s', Inv X pins σ H2 s' → Ex H' H2 → H2 S = none → H2 Ia = none → H2 p = some (.tup (rkL x)) → BestSt xs Ia l i s' → s'.heap.get? S = some { cls := .type "list", dict := none, data := .seq it c, slots := #[] } → Q (.ref p) s') :
    wpAny (model X.prog X.w) X.A.in1 (call (.ref f) [v]) Q E s1 := by
  obtain ⟨fd, ps, Fn, hk, hbd⟩ := hH.ex
  obtain ⟨⟨oi, hoi, hci, hdi⟩, vs0, hl0, hv0⟩ := id st
  have hsp : sp_rank X.K [x] H' (fun v H2 => Ex H' H2 ∧ ∃ p, v = .ref p ∧ H2 p = some (.tup (rkL x))) (fun _ _ _ => False) := ⟨x, rfl, ho, fun p H2 hp e2 h2 => ⟨e2, p, rfl, h2⟩⟩
  have Ip := I.pinned (fp := [S, Ia]) (fun b hb => by
    rcases (show b = S ∨ b = Ia by simpa using hb) with z | z <;> rw [z] <;> assumption) (fun b hb => by
    rcases (show b = S ∨ b = Ia by simpa using hb) with z | z <;> rw [z]
    · exact ⟨_, hs, fun v z => nomatch z⟩
    · exact ⟨_, hoi, fun v z => by rw [hdi] at z; cases z⟩)
  have hlen1 : [v].length = ps.length := Fn.len [x] H' _ _ hsp
  refine wpAny_call (codeAny_mono (Fn.run X.A.in1 X.stack s1 H' ⟨[v], []⟩ [v] [x] (fun v H2 => Ex H' H2 ∧ ∃ p, v = .ref p ∧ H2 p = some (.tup (rkL x))) (fun _ _ _ => False) hr (Ip.env0.in1) ?_ (.cons rv .nil) hsp) fun r s2 hq => ?_)
  · have := hbd s1 [v] I.kIn (by simpa using hlen1)
    simpa using this
  cases r with
  | error er => exact hq.elim
  | ok fl =>
    cases fl with
    | next => exact hq.elim
    | brk => exact hq.elim
    | cont => exact hq.elim
    | ret u3 =>
      obtain ⟨v3, H2, J2, rvv, ex2, p, rfl, h2⟩ := Ip.after hq
      have pn : ∀ b ∈ [S, Ia], ∀ o, s1.heap.get? b = some o → s2.heap.get? b = some o ∧ H2 b = none := fun b hb o ho => by
        have := J2.pin (b, o) (List.mem_append_right _ (List.mem_append_right _ (mem_pinsAt hb ho)))
        exact ⟨this.1, this.2.1⟩
      have nS := pn S (by simp) _ hs
      have nI := pn Ia (by simp) _ hoi
      have J := J2.unpinned
      cases (show u3 = Value.ref p from rvv)
      obtain ⟨its, rvs, hil, _⟩ := J.list (ex_l ex2 hl)
      exact q p H2 s2 J ex2 nS.2 nI.2 h2 ⟨⟨oi, nI.1, hci, hdi⟩, its.toArray, hil.isList, by simpa using rvs⟩ nS.1
theorem best_run {lv : Nat} (mx : Bool) {l f : Addr} {xs : List V} (hr : Room lv X.A.in1) (I : Inv X pins σ H s) (hl : SqL X.K H l xs) (hH : L2.Held X.prog X.w X.K X.mg X.base lv f (sp_rank X.K)) (ho : ∀ x ∈ xs, Ok x) {S Ia : Addr} (hS : FpOk X pins H S) (hI : FpOk X pins H Ia) :
    KRun X.prog X.w X.A.in1 (.ref f) (if mx = true then .Gt else .Lt) S [Ia] (fun a b => b = a) xs.length (fun i v => ∃ x, xs[i]? = some x ∧ RelV x v) (BestSt xs Ia l)
      (fun s' => ∃ H', Inv X pins σ H' s' ∧ Ex H H' ∧ H' S = none ∧ H' Ia = none) (fun b k s' => ∃ H' p, Inv X pins σ H' s' ∧ Ex H H' ∧ H' S = none ∧ H' Ia = none ∧ k = .ref p ∧ H' p = some (.tup (rkL (xs.getD b .non)))) (btR mx xs) := by
  have okD : ∀ j, Ok (xs.getD j .non) := fun j => by
    rw [List.getD_eq_getElem?_getD]
    cases e : xs[j]? with
    | none => exact .non
    | some x => exact ho x (List.mem_of_getElem? e)
  refine ⟨fun s1 s2 ⟨H', I', e', nS, nI⟩ m => ⟨H', inv_moved I' ⟨nS, hS.2⟩ ⟨nI, hI.2⟩ m, e', nS, nI⟩, fun b k s1 s2 ⟨H', p, I', e', nS, nI, ek, hp⟩ m => ⟨H', p, inv_moved I' ⟨nS, hS.2⟩ ⟨nI, hI.2⟩ m, e', nS, nI, ek, hp⟩, ?_, ?_⟩
  · rintro v s1 it c Q E hn ⟨x, hx, rv⟩ ⟨H', I', e', nS, nI⟩ st hs k
    have hg : xs.getD 0 .non = x := by rw [List.getD_eq_getElem?_getD, hx]; rfl
    refine best_call hr I' ⟨nS, hS.2⟩ ⟨nI, hI.2⟩ (ex_l e' hl) hH (ho x (List.mem_of_getElem? hx)) rv st hs fun p H2 s2 J e2 mS mI hp st2 hs2 => k _ s2 ⟨H2, p, J, e'.trans e2, mS, mI, rfl, by rw [hg]; exact hp⟩ st2 hs2
  · rintro i b kb v s1 it c Q E hi hb ⟨x, hx, rv⟩ ⟨H', pb, I', e', nS, nI, rfl, hpb⟩ st hs k
    have hg : xs.getD i .non = x := by rw [List.getD_eq_getElem?_getD, hx]; rfl
    refine best_call hr I' ⟨nS, hS.2⟩ ⟨nI, hI.2⟩ (ex_l e' hl) hH (ho x (List.mem_of_getElem? hx)) rv st hs fun p H2 s2 J e2 mS mI hp st2 hs2 => k _ s2 ⟨H2, pb, J, e'.trans e2, mS, mI, rfl, e2 _ _ hpb⟩ ⟨H2, p, J, e'.trans e2, mS, mI, rfl, by rw [hg]; exact hp⟩ (fun Q2 E2 hq => ?_) st2 hs2
    have hu : X.A.in1.units + 64 < cLine := by
      have := hr.un
      omega
    refine op_cmpR (A := X.A.in1) mx J hu hp (e2 _ _ hpb) (ho x (List.mem_of_getElem? hx)) (okD b) X.prog X.w E2 Q2 ?_
    have e : (if mx = true then vlt (xs.getD b .non) x else vlt x (xs.getD b .non)) = btR mx xs i b := by unfold btR; rw [hg]
    rw [e]
    exact hq
def rBestF (P : Program) (w : World) (K : PySem.W.Frag) (mg : Str → Option Value) (base : Heap) (lv : Nat) (mx : Bool) : List V → List V → Hp → VK → Prop := fun vs zs H Q => ∃ (a f : Addr) (xs : List V) (z : V),
  vs = [.ref a] ∧ zs = [.ref f, z] ∧ SqL K H a xs ∧ L2.Held P w K mg base lv f (sp_rank K) ∧ (∀ x ∈ xs, Ok x) ∧ ∀ H', Ex H H' → Q (if xs.isEmpty = true then z else bestV mx xs) H'
theorem best_lt2 {bt : Nat → Nat → Bool} {n : Nat} (h : 0 < n) : argBest bt (n - 1) < n := by
  have := best_lt bt (n - 1)
  omega
theorem cr_minF {lv : Nat} (hc : X.calm = true) (hr : Room (lv + 1) X.A) : CallRK X (.builtin "min") [Str.ofString "key", Str.ofString "default"] (rBestF X.prog X.w X.K X.mg X.base lv false) := by
  intro pins s σ H vs zs us ws Q I r rz h
  obtain ⟨a, f, xs, z, rfl, rfl, hs, hH, ho, q⟩ := h
  obtain rfl := Vals.ref1 r
  cases rz with
  | cons r1 rz1 =>
  cases rz1 with
  | cons r2 rz2 =>
  cases rz2
  cases r1
  obtain ⟨its, rv, hl, hz⟩ := I.list hs
  have hlt : a < s.heap.objs.size := by obtain ⟨_, e, _⟩ := hl.isList; exact Heap.lt_size e
  refine min_key (iter_listW (A := X.A.in1) (I.ok.hd hc) hl.isList fun s₂ e _ st hfp _ hk => ?_)
  have hS2 : s₂.heap.objs.size = s.heap.objs.size + 1 := by rw [e]; exact Heap.size_push _ _
  have I2 : Inv X pins σ H s₂ := by
    have := I.kept (h' := s₂.heap) (t' := s.toks) hk
    rw [e] at this ⊢
    exact this
  have fpI := I.fpOk (Nat.le_refl _) (I.hok.fresh (Nat.le_refl _))
  have fpS : FpOk X pins H s₂.heap.objs.size := I.fpOk (by omega) (I.hok.fresh (by omega))
  refine ⟨_, _, _, _, _, _, _, _, _, _, rfl, iter_words (xs := xs) (I.ok.hd hc) hlt, ⟨st.1, _, st.2, by simpa using rv⟩, hfp, best_run false (by exact hr.in1) I hs hH ho fpS fpI, ⟨H, I2, Ex.refl H, fpS.1, fpI.1⟩, fun h0 s' ⟨H', I', e', _, _⟩ => ?_, fun h0 v kb s' ⟨x, hx, rx⟩ ⟨H', p, I', e', _⟩ => ?_⟩
  · have hx : xs = [] := List.length_eq_zero_iff.mp h0
    have := q H' e'
    rw [hx] at this
    exact ⟨z, H', I', r2, this⟩
  · have hne : xs.isEmpty = false := by cases xs with | nil => exact absurd h0 (Nat.lt_irrefl 0) | cons _ _ => rfl
    have := q H' e'
    rw [hne, if_neg (by decide)] at this
    refine ⟨_, H', I', ?_, this⟩
    unfold bestV
    rw [List.getD_eq_getElem?_getD, hx]
    exact rx
theorem cr_maxF {lv : Nat} (hc : X.calm = true) (hr : Room (lv + 1) X.A) : CallRK X (.builtin "max") [Str.ofString "key", Str.ofString "default"] (rBestF X.prog X.w X.K X.mg X.base lv true) := by
  intro pins s σ H vs zs us ws Q I r rz h
  obtain ⟨a, f, xs, z, rfl, rfl, hs, hH, ho, q⟩ := h
  obtain rfl := Vals.ref1 r
  cases rz with
  | cons r1 rz1 =>
  cases rz1 with
  | cons r2 rz2 =>
  cases rz2
  cases r1
  obtain ⟨its, rv, hl, hz⟩ := I.list hs
  have hlt : a < s.heap.objs.size := by obtain ⟨_, e, _⟩ := hl.isList; exact Heap.lt_size e
  refine max_key (iter_listW (A := X.A.in1) (I.ok.hd hc) hl.isList fun s₂ e _ st hfp _ hk => ?_)
  have hS2 : s₂.heap.objs.size = s.heap.objs.size + 1 := by rw [e]; exact Heap.size_push _ _
  have I2 : Inv X pins σ H s₂ := by
    have := I.kept (h' := s₂.heap) (t' := s.toks) hk
    rw [e] at this ⊢
    exact this
  have fpI := I.fpOk (Nat.le_refl _) (I.hok.fresh (Nat.le_refl _))
  have fpS : FpOk X pins H s₂.heap.objs.size := I.fpOk (by omega) (I.hok.fresh (by omega))
  refine ⟨_, _, _, _, _, _, _, _, _, _, rfl, iter_words (xs := xs) (I.ok.hd hc) hlt, ⟨st.1, _, st.2, by simpa using rv⟩, hfp, best_run true (by exact hr.in1) I hs hH ho fpS fpI, ⟨H, I2, Ex.refl H, fpS.1, fpI.1⟩, fun h0 s' ⟨H', I', e', _, _⟩ => ?_, fun h0 v kb s' ⟨x, hx, rx⟩ ⟨H', p, I', e', _⟩ => ?_⟩
  · have hx : xs = [] := List.length_eq_zero_iff.mp h0
    have := q H' e'
    rw [hx] at this
    exact ⟨z, H', I', r2, this⟩
  · have hne : xs.isEmpty = false := by cases xs with | nil => exact absurd h0 (Nat.lt_irrefl 0) | cons _ _ => rfl
    have := q H' e'
    rw [hne, if_neg (by decide)] at this
    refine ⟨_, H', I', ?_, this⟩
    unfold bestV
    rw [List.getD_eq_getElem?_getD, hx]
    exact rx
end

--@SPLIT
/-! ### the mathematics -/
def ab (i : Int) : Int := if i < 0 then -i else i
def rnd (n d : Int) : Int := if decide (V.bl (decide (n < 0)) = V.bl (decide (d < 0))) = true then (2 * ab n + ab d) / (2 * ab d) else -((2 * ab n + ab d) / (2 * ab d))
def quo (n d : Int) : Int := if decide (V.bl (decide (n < 0)) = V.bl (decide (d < 0))) = true then ab n / ab d else -(ab n / ab d)
theorem ab_nn (i : Int) : 0 ≤ ab i := by unfold ab; split <;> omega
theorem ab_pos {d : Int} (h : d ≠ 0) : 0 < ab d := by unfold ab; split <;> omega
theorem ab_or (i : Int) : (0 ≤ i ∧ ab i = i) ∨ (i < 0 ∧ ab i = -i) := by unfold ab; split <;> omega
theorem ab_neg (i : Int) : ab (-i) = ab i := by unfold ab; split <;> split <;> omega
/-- the off of a number from a multiple, by sizes -/
theorem off_eq {n d s t : Int} (h : t = if decide (V.bl (decide (n < 0)) = V.bl (decide (d < 0))) = true then s else -s) : (n - t * d = ab n - s * ab d ∧ 0 ≤ n) ∨ (n - t * d = -(ab n - s * ab d) ∧ n < 0) := by
  rw [dec_bl] at h
  unfold ab
  by_cases hn : n < 0 <;> by_cases hd : d < 0
  · rw [decide_eq_true hn, decide_eq_true hd, if_pos (beq_self_eq_true _)] at h
    rw [if_pos hn, if_pos hd, h, Int.mul_neg]
    exact .inr ⟨by omega, hn⟩
  · rw [decide_eq_true hn, decide_eq_false hd, if_neg (by decide)] at h
    rw [if_pos hn, if_neg hd, h, Int.neg_mul]
    exact .inr ⟨by omega, hn⟩
  · rw [decide_eq_false hn, decide_eq_true hd, if_neg (by decide)] at h
    rw [if_neg hn, if_pos hd, h, Int.neg_mul, Int.mul_neg]
    exact .inl ⟨by omega, by omega⟩
  · rw [decide_eq_false hn, decide_eq_false hd, if_pos (beq_self_eq_true _)] at h
    rw [if_neg hn, if_neg hd, h]
    exact .inl ⟨by omega, by omega⟩
theorem rnd_size {n d : Int} (h : d ≠ 0) : (2 * ab n + ab d) / (2 * ab d) * ab d * 2 ≤ 2 * ab n + ab d ∧ 2 * ab n + ab d < (2 * ab n + ab d) / (2 * ab d) * ab d * 2 + 2 * ab d ∧ 0 ≤ (2 * ab n + ab d) / (2 * ab d) := by
  have hd := ab_pos h
  have hn := ab_nn n
  have e := Int.mul_ediv_add_emod (2 * ab n + ab d) (2 * ab d)
  have h1 := Int.emod_nonneg (2 * ab n + ab d) (show 2 * ab d ≠ 0 by omega)
  have h2 := Int.emod_lt_of_pos (2 * ab n + ab d) (show 0 < 2 * ab d by omega)
  have e2 : 2 * ab d * ((2 * ab n + ab d) / (2 * ab d)) = (2 * ab n + ab d) / (2 * ab d) * ab d * 2 := by
    rw [Int.mul_comm (2 * ab d), Int.mul_comm 2 (ab d), ← Int.mul_assoc]
  have h3 : 0 ≤ (2 * ab n + ab d) / (2 * ab d) := Int.ediv_nonneg (by omega) (by omega)
  omega
theorem ab_ite {c : Prop} [Decidable c] {s : Int} (h : 0 ≤ s) : ab (if c then s else -s) = s := by
  unfold ab
  split <;> split <;> omega
/-- the nearest one: what the law asks of it -/
theorem rnd_near {n d : Int} (h : d ≠ 0) : ¬ 2 * ab (n - rnd n d * d) > ab d ∧ (2 * ab (n - rnd n d * d) = ab d → ab n < ab (rnd n d) * ab d) := by
  obtain ⟨h1, h2, h3⟩ := rnd_size (n := n) h
  have e1 : ab (rnd n d) = (2 * ab n + ab d) / (2 * ab d) := ab_ite h3
  rw [e1]
  have ho := off_eq (n := n) (d := d) (s := (2 * ab n + ab d) / (2 * ab d)) (t := rnd n d) rfl
  have e2 : ab (n - rnd n d * d) = ab (ab n - (2 * ab n + ab d) / (2 * ab d) * ab d) := by
    rcases ho with ⟨e, _⟩ | ⟨e, _⟩
    · rw [e]
    · rw [e, ab_neg]
  rw [e2]
  generalize (2 * ab n + ab d) / (2 * ab d) * ab d = m at *
  have hx := ab_or (ab n - m)
  have := ab_nn (ab n - m)
  constructor <;> omega
theorem quo_ok {n d : Int} (h : d ≠ 0) : ¬ ab (n - quo n d * d) ≥ ab d ∧ (n - quo n d * d = 0 ∨ decide (n - quo n d * d < 0) = decide (n < 0)) := by
  have hd := ab_pos h
  have hn := ab_nn n
  have e := Int.mul_ediv_add_emod (ab n) (ab d)
  have h1 := Int.emod_nonneg (ab n) (show ab d ≠ 0 by omega)
  have h2 := Int.emod_lt_of_pos (ab n) hd
  have ho := off_eq (n := n) (d := d) (s := ab n / ab d) (t := quo n d) rfl
  rw [Int.mul_comm] at e
  generalize ab n / ab d * ab d = m at *
  generalize n - quo n d * d = z at *
  rcases ho with ⟨e1, e3⟩ | ⟨e1, e3⟩
  · refine ⟨?_, ?_⟩
    · have : ab z = z := by unfold ab; split <;> omega
      omega
    · rw [decide_eq_false (show ¬ z < 0 by omega), decide_eq_false (show ¬ n < 0 by omega)]
      exact .inr rfl
  · refine ⟨?_, ?_⟩
    · have : ab z = -z := by unfold ab; split <;> omega
      omega
    · by_cases hz : z = 0
      · exact .inl hz
      · rw [decide_eq_true (show z < 0 by omega), decide_eq_true e3]
        exact .inr rfl
def big (n d : Int) : Prop := -(2 ^ 112) < n ∧ n < 2 ^ 112 ∧ -(2 ^ 112) < d ∧ d < 2 ^ 112 ∧ d ≠ 0
theorem pow112 {n : Int} (h1 : -(2 ^ 112) < n) (h2 : n < 2 ^ 112) : n.natAbs < 2 ^ 112 := by omega
theorem near_bound {n d : Int} (h : big n d) : (rnd n d).natAbs < 2 ^ 115 := by
  obtain ⟨h1, h2, h3⟩ := rnd_size (n := n) h.2.2.2.2
  have hd := ab_pos h.2.2.2.2
  have : (2 * ab n + ab d) / (2 * ab d) ≤ 2 * ab n + ab d := by
    have := Int.ediv_le_self (2 * ab d) (show 0 ≤ 2 * ab n + ab d by have := ab_nn n; omega)
    omega
  have a1 : ab n < 2 ^ 112 := by unfold ab; have := h.1; have := h.2.1; split <;> omega
  have a2 : ab d < 2 ^ 112 := by unfold ab; have := h.2.2.1; have := h.2.2.2.1; split <;> omega
  unfold rnd
  split <;> omega
theorem quo_bound {n d : Int} (h : big n d) : (quo n d).natAbs < 2 ^ 115 := by
  have hd := ab_pos h.2.2.2.2
  have h0 : 0 ≤ ab n / ab d := Int.ediv_nonneg (ab_nn n) (ab_nn d)
  have : ab n / ab d ≤ ab n := Int.ediv_le_self _ (ab_nn n)
  have a1 : ab n < 2 ^ 112 := by unfold ab; have := h.1; have := h.2.1; split <;> omega
  unfold quo
  split <;> omega
def sp_rounded (K : PySem.W.Frag) : Sp := fun vs H Q _ => ∃ n d : Int, vs = [.int n, .int d] ∧ big n d ∧ ∀ H', Ex H H' → Q (.int (rnd n d)) H'
def sp_quotient (K : PySem.W.Frag) : Sp := fun vs H Q _ => ∃ n d : Int, vs = [.int n, .int d] ∧ big n d ∧ ∀ H', Ex H H' → Q (.int (quo n d)) H'
theorem wdiv {n d : Int} (h0 : 0 < d) (h : d < 2 ^ 120) : CDivW n d := wide_div (b := 120) h0 (by omega) (by decide) (by decide)
theorem wmul {n d : Int} (h0 : n.natAbs < 2 ^ 115) (h : d.natAbs < 2 ^ 115) : CMulW n d := wide_mul h0 h (by decide) (by decide) (by decide)
section
variable {P : Program} {w : World} {K : PySem.W.Frag} {mg : Str → Option Value} {base : Heap}
theorem ok_rounded (D : Dn K mg "rounded" s_rounded ["number", "divisor"]) (z_abs : mg "abs" = none) :
    C8.Cal P w K mg base 1 "rounded" (sp_rounded K) [] := by
  refine cal_of D sc_rounded (fun vs H Q E h => ?_) (fun f cdv A outer s H vs Q E hr h => ?_)
  · obtain ⟨_, _, rfl, _⟩ := h
    rfl
  refine ⟨_, (pss_cons (ps_set (i := 2) sc_rounded.nd rfl (.inl rfl) (pe_op op_fdivW (pe_op op_add (pe_op op_mul pe_int (pe_callB call_abs (by rfl) z_abs (by decide +kernel) (pa_cons (pv 0) pa_nil))) (pe_callB call_abs (by rfl) z_abs (by decide +kernel) (pa_cons (pv 1) pa_nil))) (pe_op op_mul pe_int (pe_callB call_abs (by rfl) z_abs (by decide +kernel) (pa_cons (pv 1) pa_nil)))))
    (pss_one (ps_ret (pe_ifExp (pt_cmpR op_eq (pe_cmpR op_lt (pv 0) pe_int (nomark _)) (pe_cmpR op_lt (pv 1) pe_int (nomark _)) (nomark _)) (pv 2) (pe_un un_neg (pv 2)))))), ?_⟩
  obtain ⟨n, d, rfl, hb, q⟩ := h
  have hd := ab_pos hb.2.2.2.2
  have a2 : ab d < 2 ^ 112 := by unfold ab; have := hb.2.2.1; have := hb.2.2.2.1; split <;> omega
  refine q_asg (v := .int ((2 * ab n + ab d) / (2 * ab d))) ?_ fun H1 e1 => ?_
  · exact ev_op (ev_op (ev_op ev_c (ev_abs (ev_var rfl)) (rv_I (.inl ⟨by decide, by decide⟩))) (ev_abs (ev_var rfl)) rv_I0) (ev_op ev_c (ev_abs (ev_var rfl)) (rv_I (.inl ⟨by decide, by decide⟩))) (rv_I (wdiv (by show 0 < 2 * ab d; omega) (by show 2 * ab d < 2 ^ 120; omega)))
  refine s_ret (v := .int (rnd n d)) ?_ fun H2 e2 => q _ (e1.trans e2)
  refine ev_if (b := decide (V.bl (decide (n < 0)) = V.bl (decide (d < 0)))) (by walk_at "et") (fun h => ?_) (fun h => ?_)
  · refine ev_is (ev_var rfl) ?_
    unfold rnd
    rw [if_pos h]
  · refine ev_is (v := .int (-((2 * ab n + ab d) / (2 * ab d)))) (by walk_at "ev") ?_
    unfold rnd
    rw [if_neg (by rw [h]; decide)]
theorem ok_quotient (D : Dn K mg "quotient" s_quotient ["number", "divisor"]) (z_abs : mg "abs" = none) :
    C8.Cal P w K mg base 1 "quotient" (sp_quotient K) [] := by
  refine cal_of D sc_quotient (fun vs H Q E h => ?_) (fun f cdv A outer s H vs Q E hr h => ?_)
  · obtain ⟨_, _, rfl, _⟩ := h
    rfl
  refine ⟨_, (pss_cons (ps_set (i := 2) sc_quotient.nd rfl (.inl rfl) (pe_op op_fdivW (pe_callB call_abs (by rfl) z_abs (by decide +kernel) (pa_cons (pv 0) pa_nil)) (pe_callB call_abs (by rfl) z_abs (by decide +kernel) (pa_cons (pv 1) pa_nil))))
    (pss_one (ps_ret (pe_ifExp (pt_cmpR op_eq (pe_cmpR op_lt (pv 0) pe_int (nomark _)) (pe_cmpR op_lt (pv 1) pe_int (nomark _)) (nomark _)) (pv 2) (pe_un un_neg (pv 2)))))), ?_⟩
  obtain ⟨n, d, rfl, hb, q⟩ := h
  have hd := ab_pos hb.2.2.2.2
  have a2 : ab d < 2 ^ 112 := by unfold ab; have := hb.2.2.1; have := hb.2.2.2.1; split <;> omega
  refine q_asg (v := .int (ab n / ab d)) ?_ fun H1 e1 => ?_
  · exact ev_op (ev_abs (ev_var rfl)) (ev_abs (ev_var rfl)) (rv_I (wdiv (by show 0 < ab d; omega) (by show ab d < 2 ^ 120; omega)))
  refine s_ret (v := .int (quo n d)) ?_ fun H2 e2 => q _ (e1.trans e2)
  refine ev_if (b := decide (V.bl (decide (n < 0)) = V.bl (decide (d < 0)))) (by walk_at "et") (fun h => ?_) (fun h => ?_)
  · refine ev_is (ev_var rfl) ?_
    unfold quo
    rw [if_pos h]
  · refine ev_is (v := .int (-(ab n / ab d))) (by walk_at "ev") ?_
    unfold quo
    rw [if_neg (by rw [h]; decide)]
section
variable {σ : L2.St} {H : Hp} {ta tb : TE} {E : XK} {n d : Int}
theorem ec_rounded (hb : big n d) (ha : Ev ta σ H (.int n)) (hb : Ev tb σ H (.int d)) : Ev (tCall (sp_rounded K) [] E (tCons ta (tCons tb tNil))) σ H (.int (rnd n d)) := ev_call (ea_cons ha (ea_cons hb ea_nil)) fun H1 e Q q E => ⟨n, d, rfl, by assumption, q⟩
theorem ec_quotient (hb : big n d) (ha : Ev ta σ H (.int n)) (hb : Ev tb σ H (.int d)) : Ev (tCall (sp_quotient K) [] E (tCons ta (tCons tb tNil))) σ H (.int (quo n d)) := ev_call (ea_cons ha (ea_cons hb ea_nil)) fun H1 e Q q E => ⟨n, d, rfl, by assumption, q⟩
end
end

--@SPLIT
/-! ### dict comprehensions whose keys are nested tuples -/
section
variable {X : Cx}
theorem d_setN {pins : List (Addr × Obj)} {σ : L2.St} {H : Hp} {s : Shared} {E : Value → Shared → Prop} {d b : Addr} {kvs : List (NK × V)} {k : NK} {v : V} {u r : Value} {Q : Unit → Shared → Prop} (I : Inv X pins σ H s) (hu : X.A.units + 64 < cLine) (nd : NDict X.prog X.w H d kvs) (nk : NKey H k (.ref b)) (kd : k.depth ≤ 8) (hl : kvs.length < sizeLine)
    (ry : RelV (.ref b) u) (rv : RelV v r) (h : ∀ xs s', Inv X pins σ (upd H d (NObj X.prog X.w d xs)) s' → NDict X.prog X.w (upd H d (NObj X.prog X.w d xs)) d (putK kvs k v) → Q () s') : wpAny (model X.prog X.w) X.A (dictSet d u r) Q E s := by
  obtain ⟨hd, xs, hH, hks, kv, hz, dd⟩ := NDict.of I.hok nd
  have hk := NKey.is I.hok nk ry
  obtain rfl : u = Value.ref b := ry
  have hx : xs.length ≤ sizeLine := by
    have := kv.length
    rw [PySem.pairsH_length] at this
    omega
  have hroom : (nkd X.prog X.w).room X.A := by
    show X.A.units + 8 < cLine
    omega
  refine wpAny_dictSet_heap (knd := nkd X.prog X.w) (hsz := hx) hroom ⟨hk, kd⟩ dd fun h' dd' hs' => ?_
  have he : ∃ q, h'.get? d = some q := let ⟨q, _, _, hq, _⟩ := dd'; ⟨q, hq⟩
  have keep : ∀ b ys, H b = some (.tup ys) → upd H d (NObj X.prog X.w d (storedH xs k b r)) b = some (.tup ys) := fun b ys q => by
    rw [upd_ne fun z => ?_]
    · exact q
    · rw [z, hH] at q
      cases q
  refine h _ _ (d_write (ob := NObj X.prog X.w d (storedH xs k b r)) I (by rw [hH]; exact True.intro) hs' he (nobj_ok hd dd')) ⟨_, upd_same, fun x hx' => ?_, ?_, ?_⟩
  · have keep2 : ∀ c ys, H c = some (.tup ys) → upd H d (NObj X.prog X.w d (storedH xs k b r)) c = some (.tup ys) := fun c ys q => by
      rw [upd_ne fun z => ?_]
      · exact q
      · rw [z, hH] at q
        cases q
    rcases mem_storedH x hx' with ⟨z, hz1, e1, e2⟩ | ⟨e1, e2⟩
    · rw [e1, e2]
      exact ⟨(hks z hz1).1.mono keep2, (hks z hz1).2⟩
    · rw [e1, e2]
      exact ⟨nk.mono keep2, kd⟩
  · rw [PySem.pairsH_storedH]
    exact kv.put k rv
  · have := length_putK kvs k v
    omega
/-- what a turn of the comprehension asks: the key a nested tuple, the dict at D -/
def DcTurn (P : Program) (w : World) (D : Addr) (tk tv : TE) (Nx : Hp → Prop) : L2.St → Hp → Prop := fun σ H => tk σ H fun y H4 => tv σ H4 fun z H5 => ∃ kvs k b, y = .ref b ∧ NDict P w H5 D kvs ∧ NKey H5 k (.ref b) ∧ k.depth ≤ 8 ∧ kvs.length < sizeLine ∧ ∀ xs, NDict P w (upd H5 D (NObj P w D xs)) D (putK kvs k z) → Nx (upd H5 D (NObj P w D xs))
def tDcN (P : Program) (w : World) (wi : TI) (g : TG) (tt : TT) (tk tv : TE) (vs : List Nat) : TE := fun σ H Q => wi σ H fun J H1 => ∀ D, H1 D = none → ∃ W : Nat → Nat → Hp → Prop, (∃ m, ∀ x, (x = NObj P w D [] → W 0 m (upd H1 D x))) ∧ ∀ i m H, W i m H →
  (J.stop i H ∧ Q (.ref D) H) ∨ (J.go i H ∧ ∃ Nx : Hp → Prop, (∀ H', Nx H' → ∃ m', m' < m ∧ W (i + 1) m' H') ∧ ∀ x H', J.yld i H x H' → g x (wipe σ vs) H' fun σ2 H2 => wipe σ2 vs = wipe σ vs ∧ tt σ2 H2 fun b H3 =>
    if b = true then DcTurn P w D tk tv Nx σ2 H3 else Nx H3)
theorem dcN_core {pins : List (Addr × Obj)} {s : Shared} {σ : L2.St} {H : Hp} {Q : VK} {use : Option (Value → Sem Unit)} {Qf : Value → Shared → Prop} {pos' : Pos} {kx vx tg iter : Expr} {ifs : List Expr} {scope : Scope} {own : List (Str × Nat)} {pos : Pos} {wi : TI} {g : TG} {tt : TT} {tk tv : TE} (hu : X.A.units + 64 < cLine) (hc : X.calm = true) (hN : X.N.Nodup) (I : Inv X pins σ H s) (hi : PI X tg iter wi) (ok : BlkOk X.N X.env.scope scope own)
    (hg : ∀ (s : Shared) (H : Hp) (C : Addr) (cl : List (Str × Addr)) (fp : List Addr), PG (X.blk s H scope (compEnvC scope cl C X.env) fp) tg g) (ht : ∀ (s : Shared) (H : Hp) (C : Addr) (cl : List (Str × Addr)) (fp : List Addr), PTs (X.blk s H scope (compEnvC scope cl C X.env) fp) ifs tt)
    (hk : ∀ (s : Shared) (H : Hp) (C : Addr) (cl : List (Str × Addr)) (fp : List Addr), PE (X.blk s H scope (compEnvC scope cl C X.env) fp) kx tk)
    (hv : ∀ (s : Shared) (H : Hp) (C : Addr) (cl : List (Str × Addr)) (fp : List Addr), PE (X.blk s H scope (compEnvC scope cl C X.env) fp) vx tv) (hs : ∀ x, foldedSetIterable iter X.env x = pure x)
    (h : tDcN X.prog X.w wi g tt tk tv (own.map (·.2)) σ H Q)
    (hRR : ∀ D C s' m H', Inv X pins σ H' s' → Q (.ref D) H' → s'.heap.Ns C m → FpOk X pins H' C → compPost (model X.prog X.w) X.A X.xe use Qf (.ref D) C (.ok .next) s') :
    wpAny (model X.prog X.w) X.A (comprehension (.DictComp kx vx [⟨tg, iter, ifs, 0⟩] scope pos) scope X.env pos' newDict false (eval iter X.env) use) Qf X.xe s := by
  have cells : ∀ y ∈ scope.names, y.2 = .free → ∃ c, X.env.cells.lookup y.1 = some c := fun y hy e => (ok.free y hy e).elim (fun k => I.ok.has _ (.inl k)) fun k => I.ok.has _ (.inr k)
  refine wpAny_comprehension_free (use := use) rfl hs (closure_ok cells) ok.kind (fun y hy e => by rw [ok.uniq y hy, e]) (thn (hi.run pins s σ H _ I h) fun xv s1 hx => thn hx fun itv s2 h2 => ?_)
  obtain ⟨it, fp, tn, J, H2, rfl, I2, T, at2, free2, todo⟩ := h2
  refine wpAny_newObj_type (newEnv_comp ?_)
  generalize hD : s2.heap.objs.size = D
  obtain ⟨W, ⟨m0, w0⟩, turn⟩ := todo D (I2.hok.fresh (Nat.le_of_eq hD))
  have w1 := w0 _ rfl
  have I3 : Inv X pins σ (upd H2 D (NObj X.prog X.w D [])) { s2 with heap := s2.heap.push { cls := .type "dict", data := .dict #[] } } := by
    refine I2.laid (t' := s2.toks) (fun b o e => Heap.get?_push_of_some _ e) (Nat.le_of_eq hD) ?_
    rw [← hD]
    exact dn_empty s2.heap I2.big
  generalize hH3 : upd H2 D (NObj X.prog X.w D []) = H3 at I3 w1
  have fpn : ∀ b ∈ fp, FpOk X pins H3 b ∧ b < (s2.heap.push { cls := .type "dict", data := .dict #[] }).objs.size := fun b hb => by
    obtain ⟨o, e, _⟩ := T.obj _ _ at2 b hb
    have hlt := Heap.lt_size e
    refine ⟨⟨?_, (free2 b hb).2⟩, by rw [Heap.size_push]; exact Nat.lt_succ_of_lt hlt⟩
    rw [← hH3, upd_ne (by rw [← hD]; exact Nat.ne_of_lt hlt)]
    exact (free2 b hb).1
  have at3 : tn 0 (s2.heap.push { cls := .type "dict", data := .dict #[] }) := T.keep _ _ _ at2 fun b _ o e => Heap.get?_push_of_some _ e
  have I4 := block_start I3 ok hN fpn
  generalize hs3 : ({ s2 with heap := s2.heap.push { cls := .type "dict", data := .dict #[] } } : Shared) = s3 at I3 I4
  have h3 : s3.heap = s2.heap.push { cls := .type "dict", data := .dict #[] } := by rw [← hs3]
  rw [← h3] at fpn at3
  have pg := hg s3 H3 s3.heap.objs.size (cellsFrom (s3.heap.objs.size + 1) scope.names (cloFrom X.env.cells scope.names [])) fp
  have pt := ht s3 H3 s3.heap.objs.size (cellsFrom (s3.heap.objs.size + 1) scope.names (cloFrom X.env.cells scope.names [])) fp
  have pk := hk s3 H3 s3.heap.objs.size (cellsFrom (s3.heap.objs.size + 1) scope.names (cloFrom X.env.cells scope.names [])) fp
  have pv := hv s3 H3 s3.heap.objs.size (cellsFrom (s3.heap.objs.size + 1) scope.names (cloFrom X.env.cells scope.names [])) fp
  show codeAny _ _ (.compStart (.DictComp kx vx [⟨tg, iter, ifs, 0⟩] scope pos) 0 (.ref it) (.ref D) (compEnvC scope (cellsFrom (s3.heap.objs.size + 1) scope.names (cloFrom X.env.cells scope.names [])) s3.heap.objs.size X.env)) (compPost (model X.prog X.w) X.A X.xe use Qf (.ref D) s3.heap.objs.size) { s3 with heap := pushCells (s3.heap.push { cls := .type "dict", data := .dict #[] }) scope.names }
  generalize hce : compEnvC scope (cellsFrom (s3.heap.objs.size + 1) scope.names (cloFrom X.env.cells scope.names [])) s3.heap.objs.size X.env = ce at I4 pg pt pk pv ⊢
  have hcl : ce.locals = s3.heap.objs.size := by subst hce; rfl
  generalize hs4 : ({ s3 with heap := pushCells (s3.heap.push { cls := .type "dict", data := .dict #[] }) scope.names } : Shared) = s4 at I4 ⊢
  have at4 : tn 0 s4.heap := T.keep _ _ _ at3 fun b _ o e => by rw [← hs4]; exact pushCells_keeps _ _ _ _ (Heap.get?_push_of_some _ e)
  -- what the walked thing holds stays beside the block
  have held : ∀ {σ' : L2.St} {H' : Hp} {s' : Shared}, Inv (X.blk s3 H3 scope ce fp) [] σ' H' s' → (∀ b ∈ fp, H' b = none) → ∀ b ∈ fp, FpOk (X.blk s3 H3 scope ce fp) [] H' b := fun I' hn b hb => by
    refine ⟨hn b hb, (I'.ok.exf b hb).1, I'.ok.exfs b hb, .inl hb, fun x c e => (I'.ok.exf b hb).2 x c e, fun p hp => ?_⟩
    exact absurd (show p ∈ ([] : List (Addr × Obj)) ++ [] from hp) (by simp)
  have loop : codeAny (model X.prog X.w) X.A (.compLoop (.DictComp kx vx [⟨tg, iter, ifs, 0⟩] scope pos) 0 (.ref it) (.ref D) ce) (compPost (model X.prog X.w) X.A X.xe use Qf (.ref D) s3.heap.objs.size) s4 := by
    refine compLoop_anyD (fun n s' => ∃ i H', Inv (X.blk s3 H3 scope ce fp) [] (wipe σ (own.map (·.2))) H' s' ∧ tn i s'.heap ∧ (∀ b ∈ fp, H' b = none) ∧ W i n H') (fun n s5 hW => ?_) m0 ⟨0, H3, I4, at4, fun b hb => (fpn b hb).1.1, w1⟩
    obtain ⟨i, H5, I5, at5, n5, w5⟩ := hW
    rcases turn i n H5 w5 with ⟨stop, fin⟩ | ⟨go, Nx, hNx, step⟩
    · refine thnF (T.done (X.blk s3 H3 scope ce fp) rfl rfl rfl hc i [] s5 _ H5 (fun _ _ => False) I5 (held I5 n5) at5 stop) fun r s6 ⟨hr, I6⟩ => ?_
      subst hr
      have I7 : Inv X pins σ H5 s6 := I3.call' (ch := fp) I6.os I6.base I6.hok I6.bare fun b hb => by
        obtain ⟨_, z2, _, z4, z5, z6⟩ := (fpn b hb).1
        exact ⟨z4, z2, z5, z6⟩
      have nC : H5 s3.heap.objs.size = none := by
        have z : H5 ce.locals = none := I6.free
        rwa [hcl] at z
      obtain ⟨m, hn, _⟩ := I6.loc
      have hn : s6.heap.Ns ce.locals m := hn
      rw [hcl] at hn
      exact hRR D s3.heap.objs.size s6 m H5 I7 fin hn (I3.fpOk (Nat.le_refl _) nC)
    · refine thnF (T.item (X.blk s3 H3 scope ce fp) rfl rfl rfl hc i [] s5 _ H5 (fun _ _ => False) I5 (held I5 n5) at5 go) fun r s6 ⟨u, hr, h6⟩ => ?_
      subst hr
      refine thnF h6 fun _ s7 ⟨x, H7, I7, r7, y7, at7, n7⟩ => ?_
      have Ip := I7.pinned (held I7 n7) (T.obj _ _ at7)
      refine thnF (pg.run _ s7 _ H7 x u _ Ip r7 (step x H7 y7)) fun _ s8 ⟨σ8, H8, I8, hw8, q8⟩ => ?_
      refine thnF (pt.run _ s8 σ8 H8 _ I8 q8) fun b s9 ⟨H9, I9, q9⟩ => ?_
      have next : ∀ {s' : Shared} {H' : Hp}, Inv (X.blk s3 H3 scope ce fp) ([] ++ pinsAt fp s7.heap) σ8 H' s' → Nx H' → ∃ m, m < n ∧ ∃ i H', Inv (X.blk s3 H3 scope ce fp) [] (wipe σ (own.map (·.2))) H' s' ∧ tn i s'.heap ∧ (∀ b ∈ fp, H' b = none) ∧ W i m H' := fun {s' H'} I' nx => by
        obtain ⟨m', hm, w'⟩ := hNx H' nx
        have pin' : ∀ b ∈ fp, ∀ o, s7.heap.get? b = some o → s'.heap.get? b = some o ∧ H' b = none := fun b hb o e =>
          let z := I'.pin (b, o) (List.mem_append_right _ (List.mem_append_right _ (mem_pinsAt hb e)))
          ⟨z.1, z.2.1⟩
        refine ⟨m', hm, i + 1, H', (I'.unpinned (pins := [])).weak (by rw [← hw8, wipe_length]) (fun j v e => (wipe_some (by rw [hw8]; exact e)).1), T.keep _ _ _ at7 fun b hb o e => (pin' b hb o e).1, fun b hb => ?_, w'⟩
        obtain ⟨o, e, _⟩ := T.obj _ _ at7 b hb
        exact (pin' b hb o e).2
      cases b with
      | false => exact next I9 (by simpa using q9)
      | true =>
        have q9' : DcTurn X.prog X.w D tk tv Nx σ8 H9 := by simpa using q9
        refine thnF (pk.run _ s9 σ8 H9 _ I9 q9') fun z s10 ⟨yk, H10, I10, r10, q10⟩ => ?_
        refine thnF (pv.run _ s10 σ8 H10 _ I10 q10) fun z2 s11 ⟨yv, H11, I11, r11, kvs, k, b, ek, nd, nk, kd, hl, nx⟩ => ?_
        subst ek
        exact d_setN (X := X.blk s3 H3 scope ce fp) I11 hu nd nk kd hl r10 r11 fun xs s12 I12 nd' => next I12 (nx xs nd')
  exact codeAny_compStart_dict loop (T.self X.A 0 _ _ _ at4 loop)
theorem pe_dcN {kx vx tg iter : Expr} {ifs : List Expr} {scope : Scope} {own : List (Str × Nat)} {pos : Pos} {wi : TI} {g : TG} {tt : TT} {tk tv : TE} (hu : X.A.units + 64 < cLine) (hc : X.calm = true) (hN : X.N.Nodup) (hi : PI X tg iter wi) (ok : BlkOk X.N X.env.scope scope own)
    (hg : ∀ (s : Shared) (H : Hp) (C : Addr) (cl : List (Str × Addr)) (fp : List Addr), PG (X.blk s H scope (compEnvC scope cl C X.env) fp) tg g) (ht : ∀ (s : Shared) (H : Hp) (C : Addr) (cl : List (Str × Addr)) (fp : List Addr), PTs (X.blk s H scope (compEnvC scope cl C X.env) fp) ifs tt)
    (hk : ∀ (s : Shared) (H : Hp) (C : Addr) (cl : List (Str × Addr)) (fp : List Addr), PE (X.blk s H scope (compEnvC scope cl C X.env) fp) kx tk)
    (hv : ∀ (s : Shared) (H : Hp) (C : Addr) (cl : List (Str × Addr)) (fp : List Addr), PE (X.blk s H scope (compEnvC scope cl C X.env) fp) vx tv) (hs : ∀ x, foldedSetIterable iter X.env x = pure x := by intro _; rfl) :
    PE X (.DictComp kx vx [⟨tg, iter, ifs, 0⟩] scope pos) (tDcN X.prog X.w wi g tt tk tv (own.map (·.2))) := by
  refine ⟨fun pins s σ H Q I h => ?_⟩
  rw [arm_eval_DictComp]
  refine dcN_core hu hc hN I hi ok hg ht hk hv hs h fun D C s' m H' I' q hn f => ⟨m, hn, fun h'' sb => ?_⟩
  obtain ⟨f0, f1, f2, f3, f4, f5⟩ := f
  exact ⟨.ref D, H', I'.turned (t' := s'.toks) (fun b o hb e => (sb.2 b hb).trans e) f0 f1 f3 f4 f5, rfl, q⟩
theorem ps_setDcN {i : Nat} {y : Str} {py spos : Pos} {kx vx tg iter : Expr} {ifs : List Expr} {scope : Scope} {own : List (Str × Nat)} {pos : Pos} {wi : TI} {g : TG} {tt : TT} {tk tv : TE} (hu : X.A.units + 64 < cLine) (hc : X.calm = true) (hN : X.N.Nodup) (hy : X.N[i]? = some y) (hyl : X.env.scope.names.lookup y = some .local) (hsw : swapsWith (.DictComp kx vx [⟨tg, iter, ifs, 0⟩] scope pos) (some (.Name y py)) spos.line X.env = pure true) (hi : PI X tg iter wi) (ok : BlkOk X.N X.env.scope scope own)
    (hg : ∀ (s : Shared) (H : Hp) (C : Addr) (cl : List (Str × Addr)) (fp : List Addr), PG (X.blk s H scope (compEnvC scope cl C X.env) fp) tg g) (ht : ∀ (s : Shared) (H : Hp) (C : Addr) (cl : List (Str × Addr)) (fp : List Addr), PTs (X.blk s H scope (compEnvC scope cl C X.env) fp) ifs tt)
    (hk : ∀ (s : Shared) (H : Hp) (C : Addr) (cl : List (Str × Addr)) (fp : List Addr), PE (X.blk s H scope (compEnvC scope cl C X.env) fp) kx tk)
    (hv : ∀ (s : Shared) (H : Hp) (C : Addr) (cl : List (Str × Addr)) (fp : List Addr), PE (X.blk s H scope (compEnvC scope cl C X.env) fp) vx tv) (hs : ∀ x, foldedSetIterable iter X.env x = pure x := by intro _; rfl) :
    PS X (.Assign [.Name y py] (.DictComp kx vx [⟨tg, iter, ifs, 0⟩] scope pos) spos) (tAsg (tDcN X.prog X.w wi g tt tk tv (own.map (·.2))) (gName i)) := by
  refine ⟨fun pins s σ H D I h => ?_⟩
  rw [exec_Assign_Name_used _ _ _ _ hsw]
  refine wpAny_bind (wpAny_standAt (wpAny_bind ?_))
  show wpAny _ X.A (do let _ ← comprehension (.DictComp kx vx [⟨tg, iter, ifs, 0⟩] scope pos) scope X.env (firstIterPos [⟨tg, iter, ifs, 0⟩] pos) newDict false (eval iter X.env) (some (assign (.Name y py) X.env))) _ _ s
  have h : tDcN X.prog X.w wi g tt tk tv (own.map (·.2)) σ H (fun x H1 => gName i x σ H1 D.nx) := h
  refine wpAny_bind (thn (dcN_core (Qf := fun _ s' => SP X pins D .next s') hu hc hN I hi ok hg ht hk hv hs h fun L C s' m H' I' q hn f => ?_) fun _ s' hq => wpAny_pure (wpAny_pure hq))
  show wpAny _ _ (assign (.Name y py) X.env (.ref L)) _ _ _
  refine wpAny_assign_Name (store_ok2 (v := V.ref L) I' hN hy (.inl hyl) rfl (fun s2 I2 ⟨a, sb, ha⟩ => ?_) (.inr hyl))
  obtain ⟨f0, f1, f2, f3, f4, f5⟩ := f
  have haC : C ≠ a := by
    rcases ha with z | z
    · rw [z]; exact f1
    · exact fun e => f4 y a z e.symm
  refine ⟨m, hn.sameBut sb haC, fun h3 sb3 => ?_⟩
  exact ⟨_, H', I2.turned (t' := s2.toks) (fun b o hb e => (sb3.2 b hb).trans e) f0 f1 f3 f4 f5, q⟩
theorem swD_true {kx vx : Expr} {gs : List Comprehension} {scope : Scope} {pos py : Pos} {y : Str} {l : Nat} {env : Env} (hk : env.scope.kind = .function) (hy : env.scope.names.lookup y = some .local) (hl : (py.line == pos.line) = true)
    (ha : (scope.names.any fun (n, k) => n == y && (k == .local || k == .cell)) = false) : swapsWith (.DictComp kx vx gs scope pos) (some (.Name y py)) l env = pure true := by
  have ky : env.kindOf y = some .local := hy
  have hb : env.blockKind = .function := by unfold Env.blockKind; rw [hk]; rfl
  unfold swapsWith
  simp only [hb, ky, ha, Expr.pos, hl]
  rfl
end

/-- len of a dict keyed by tuples -/
theorem call_lenN {X : L2.Cx} : CallR X (.builtin "len") (fun xs H Q => ∃ d kvs, xs = [.ref d] ∧ NDict X.prog X.w H d kvs ∧ kvs.length ≤ 100000 ∧ Q (.int (kvs.length : Nat)) H) := by
  intro pins s σ H vs us Q I r h
  obtain ⟨d, kvs, rfl, nd, hz, q⟩ := h
  obtain ⟨u, rfl, ru⟩ := vals1 r
  cases ru
  obtain ⟨hd, xs, _, _, kv, _, dd⟩ := NDict.of I.hok nd
  obtain ⟨es, ep, hr, hs, _⟩ := dd.raw
  have hl : es.size = kvs.length := by
    have h1 := kv.length
    rw [PySem.pairsH_length] at h1
    omega
  refine Calls.call_function_entry kind_len plain_len entry_len (args_len1 _) ?_
  unfold Builtin.«len»
  refine wpAny_bind (m := oneArg "len" _) (wpAny_pure ?_)
  refine wpAny_bind (m := callSpecial? (.ref d) (Str.ofString "__len__")) (wpAny_callSpecial?_slot (name := Str.ofString "__len__") hr.typeIs F.slot_dict_len (PySem.call_len_raw hd hr ?_))
  show wpAny _ _ _ _ _ { s with toks := s.toks + 1 }
  refine wpAny_bind (wpAny_holding (wpAny_pure ?_))
  refine wpAny_bind (wpAny_letGo ?_)
  show wpAny _ _ (if ((es.size : Nat) : Int) < 0 then _ else _) _ _ _
  rw [if_neg (by omega)]
  show wpAny _ _ (if ((es.size : Nat) : Int) ≥ 2 ^ 63 then _ else _) _ _ _
  rw [if_neg (by omega)]
  exact wpAny_bind (wpAny_mkInt (wpAny_pure ⟨_, rfl, .int (kvs.length : Nat), H, I.tok _, ⟨_, by rw [hl]⟩, q⟩))

--@SPLIT
/-! ### texts that are drawn: the words for it -/
def EvLD1 (te : TE) (σ : L2.St) (p : Addr) (H : Hp) (P : List V → Prop) : Prop := ∀ H1, Ex (wo p H) H1 → Dr p H1 → ∀ Q : VK, (∀ l H2 xs, P xs → H1 l = none → Ex (wo p H1) H2 → Dr p H2 → H2 l = some (.lst xs) → Q (.ref l) H2) → te σ H1 Q
theorem dr_ne {p l : Addr} {H : Hp} (d : Dr p H) (h : H l = none) : p ≠ l := fun z => by
  obtain ⟨s, _, e⟩ := d
  rw [z, h] at e
  cases e
theorem Dr.upd {p l : Addr} {H : Hp} {o : HO} (d : Dr p H) (h : p ≠ l) : Dr p (upd H l o) := by
  obtain ⟨s, s0, e⟩ := d
  exact ⟨s, s0, by rw [upd_ne h]; exact e⟩

/-! ### rows: lists of lists -/
theorem call_list_ofK {X : L2.Cx} {K : PySem.W.Frag} (h : X.K = K) : CallR X (.type "list") (rListS K) := h ▸ call_list_of
theorem sl_listK {X : L2.Cx} {K : PySem.W.Frag} (h : X.K = K) : SlR X (rSlL K) := h ▸ sl_list
theorem pi_listK {X : L2.Cx} {K : PySem.W.Frag} {tg e : Expr} {te : TE} (h : X.K = K) (he : PE X e te) : PI X tg e (iList K te) := h ▸ pi_list he
theorem pi_tupK {X : L2.Cx} {K : PySem.W.Frag} {tg e : Expr} {te : TE} (h : X.K = K) (he : PE X e te) : PI X tg e (iTup K te) := h ▸ pi_tup he
def RowAt (H : Hp) (p : Addr) (xs : List V) : Prop := H p = some (.lst xs)
def Mn {α : Type} (R : Hp → Addr → α → Prop) : Prop := ∀ H H' q l, Ex H H' → R H q l → R H' q l
theorem RowAt.mn : Mn RowAt := fun H H' q l e h => e _ _ h
theorem Lst2.mn {α : Type} {R : Hp → Addr → α → Prop} (hm : Mn R) : Mn (Lst2 R) := fun H H' q l e h => h.mono e fun q l h => hm _ _ _ _ e h
/-- what is new since H0 -/
def nu (H0 H : Hp) : Hp := fun a => match H0 a with
  | none => H a
  | some _ => none
theorem nu_le {H0 H : Hp} : Ex (nu H0 H) H := fun a o h => by
  unfold nu at h
  split at h
  · exact h
  · cases h
theorem nu_mono {H0 H1 H2 : Hp} (e : Ex H1 H2) : Ex (nu H0 H1) (nu H0 H2) := fun a o h => by
  unfold nu at h ⊢
  cases z : H0 a with
  | none => rw [z] at h; exact e a o h
  | some u => rw [z] at h; cases h
theorem nu_back {H0 H1 H : Hp} (e : Ex H0 H1) : Ex (nu H1 H) (nu H0 H) := fun a o h => by
  unfold nu at h ⊢
  cases z : H1 a with
  | none => rw [z] at h; rw [fresh_back e z]; exact h
  | some u => rw [z] at h; cases h
theorem nu_at {H0 H : Hp} {p : Addr} {o : HO} (h0 : H0 p = none) (h : H p = some o) : nu H0 H p = some o := by
  unfold nu
  rw [h0]
  exact h
theorem nu_wo {H0 H : Hp} {D : Addr} {o : HO} (h : H0 D = some o) : Ex (nu H0 H) (wo D H) := fun a u ha => by
  have hn : a ≠ D := fun z => by
    unfold nu at ha
    rw [z, h] at ha
    cases ha
  rw [wo_ne hn]
  exact nu_le a u ha
theorem nu_wo2 {H0 H1 H : Hp} {D : Addr} {o : HO} (h : H1 D = some o) (e : Ex H0 H1) : Ex (nu H1 H) (wo D (nu H0 H)) := fun a u ha => by
  have hn : a ≠ D := fun z => by
    unfold nu at ha
    rw [z, h] at ha
    cases ha
  rw [wo_ne hn]
  exact nu_back e a u ha
theorem nu_upd {H0 H : Hp} {p : Addr} {o u : HO} (h : H0 p = some u) : nu H0 (upd H p o) = nu H0 H := by
  funext a
  unfold nu
  cases z : H0 a with
  | none => exact upd_ne (fun e => by rw [e, h] at z; cases z)
  | some v => rfl
theorem wo_nu_upd {H0 H : Hp} {D : Addr} {o : HO} : wo D (nu H0 (upd H D o)) = wo D (nu H0 H) := by
  funext a
  by_cases h : a = D
  · rw [h, wo_self, wo_self]
  · rw [wo_ne h, wo_ne h]
    unfold nu
    rw [upd_ne h]
def EvRn (R : Hp → Addr → Prop) (te : TE) (σ : L2.St) (H : Hp) : Prop := ∀ H1, Ex H H1 → ∀ Q : VK, (∀ p H2, H1 p = none → Ex H1 H2 → R (nu H1 H2) p → Q (.ref p) H2) → te σ H1 Q
def EvRo (R : Hp → Addr → Prop) (te : TE) (σ : L2.St) (H : Hp) : Prop := ∀ H1, Ex H H1 → ∀ Q : VK, (∀ p H2, H1 p = none → Ex H1 H2 → R H2 p → Q (.ref p) H2) → te σ H1 Q
/-- a new list, the items' words stand beside it -/
def Lst3 {α : Type} (R : Hp → Addr → α → Prop) (H : Hp) (p : Addr) (L : List α) : Prop := ∃ qs, H p = some (.lst (qs.map V.ref)) ∧ Al2 R (wo p H) qs L
theorem Lst3.two {α : Type} {R : Hp → Addr → α → Prop} (hm : Mn R) {H : Hp} {p : Addr} {L : List α} (h : Lst3 R H p L) : Lst2 R H p L := by
  obtain ⟨qs, h1, h2⟩ := h
  exact ⟨qs, h1, h2.mono fun q l _ => hm _ _ _ _ (wo_le _ _)⟩
section
variable {K : PySem.W.Frag} {σ : L2.St} {H : Hp} {ta tb te tl : TE} {α : Type} {R : Hp → Addr → α → Prop} {D : Ends} {tz : TS}
theorem EvRn.o {R : Hp → Addr → Prop} (hm : ∀ H H' q, Ex H H' → R H q → R H' q) (h : EvRn R te σ H) : EvRo R te σ H := fun H1 e Q q => h H1 e Q fun p H2 hp e2 hR => q p H2 hp e2 (hm _ _ _ nu_le hR)
theorem q_asgR {i : Nat} {R : Hp → Addr → Prop} (h : EvRn R te σ H) (k : ∀ p H1, H p = none → Ex H H1 → R (nu H H1) p → tz D (σ.set i (some (.ref p))) H1) : tSeq (tAsg te (gName i)) tz D σ H := h H (Ex.refl H) _ k
theorem q_asgO {i : Nat} {R : Hp → Addr → Prop} (h : EvRo R te σ H) (k : ∀ p H1, H p = none → Ex H H1 → R H1 p → tz D (σ.set i (some (.ref p))) H1) : tSeq (tAsg te (gName i)) tz D σ H := h H (Ex.refl H) _ k
theorem s_retR {R : Hp → Addr → Prop} (h : EvRn R te σ H) (k : ∀ p H1, H p = none → Ex H H1 → R (nu H H1) p → D.rt (.ref p) H1) : tRet te D σ H := h H (Ex.refl H) _ k
theorem s_retO {R : Hp → Addr → Prop} (h : EvRo R te σ H) (k : ∀ p H1, H p = none → Ex H H1 → R H1 p → D.rt (.ref p) H1) : tRet te D σ H := h H (Ex.refl H) _ k
theorem rn_list {p : Addr} {xs : List V} (ha : Ev ta σ H (.ref p)) (h : SqL K H p xs) : EvRn (fun H p => RowAt H p xs) (tCB (rListS K) (tCons ta tNil)) σ H := fun H1 e Q q => el_list ha h H1 e Q fun p H2 hp e2 h2 => q p H2 hp e2 (nu_at hp h2)
/-- [a new object for x in xs] -/
theorem er_lcD (hm : Mn R) {a : Addr} {xs : List V} {j : Nat} {vs : List Nat} (f : Nat → α) (h : Ev tl σ H (.ref a)) (hx : SqL K H a xs) (hz : xs.length ≤ 40000) (hw : ∀ x, wipe ((wipe σ vs).set j (some x)) vs = wipe σ vs)
    (he : ∀ (i : Nat) (x : V) (H1 : Hp) (D : Addr), Ex H H1 → H D = none → (∃ ys, H1 D = some (.lst ys)) → xs[i]? = some x → ∀ Q : VK, (∀ p H2, H1 p = none → Ex H1 H2 → R (wo D H2) p (f i) → Q (.ref p) H2) → te ((wipe σ vs).set j (some x)) H1 Q) :
    EvRo (fun H p => Lst3 R H p ((List.range xs.length).map f)) (tLc (iList K tl) (gName j) tYes te vs) σ H := fun H0 e0 Q q => h H0 e0 _ fun H1 e1 => ⟨a, rfl, ⟨xs, ex_l (e0.trans e1) hx⟩, fun D hD =>
  lc_list (xs := xs) (fun i H' => H1 D = none ∧ Ex H1 H' ∧ ∃ qs, H' D = some (.lst (qs.map V.ref)) ∧ Al2 R (wo D H') qs ((List.range i).map f)) ⟨hD, Ex.new hD, [], upd_same, Al2.nil⟩ (fun i H' _ p => ex_l ((e0.trans e1).trans p.2.1) hx)
    (fun i x H' hi p => by
      obtain ⟨p1, p2, qs, p3, p4⟩ := p
      refine ⟨hw x, ?_⟩
      show te ((wipe σ vs).set j (some x)) H' fun y H4 => ∃ acc, H4 D = some (.lst acc) ∧ acc.length < sizeLine ∧ _
      refine he i x H' D ((e0.trans e1).trans p2) (fresh_back (e0.trans e1) hD) ⟨_, p3⟩ hi _ fun r H4 hr e4 hR => ⟨_, e4 _ _ p3, sz_lt ?_, p1, Ex.mut (p2.trans e4) p1, qs ++ [r], by rw [upd_same, List.map_append]; rfl, ?_⟩
      · have := p4.1
        rw [List.length_map, List.length_range] at this
        have := (List.getElem?_eq_some_iff.mp hi).1
        rw [List.length_map]
        omega
      · rw [wo_upd, List.range_succ, List.map_append]
        exact (p4.mono fun q l _ => hm _ _ _ _ (wo_mono e4)).snoc hR)
    (fun H' p => by
      obtain ⟨p1, p2, qs, p3, p4⟩ := p
      exact q D H' (fresh_back e1 p1) (e1.trans p2) ⟨qs, p3, p4⟩)⟩
/-- .. objects that are wholly new -/
theorem er_lcN (hm : Mn R) {a : Addr} {xs : List V} {j : Nat} {vs : List Nat} (f : Nat → α) (h : Ev tl σ H (.ref a)) (hx : SqL K H a xs) (hz : xs.length ≤ 40000) (hw : ∀ x, wipe ((wipe σ vs).set j (some x)) vs = wipe σ vs)
    (he : ∀ (i : Nat) (x : V) (H1 : Hp), Ex H H1 → xs[i]? = some x → EvRn (fun H q => R H q (f i)) te ((wipe σ vs).set j (some x)) H1) :
    EvRn (fun H p => Lst2 R H p ((List.range xs.length).map f)) (tLc (iList K tl) (gName j) tYes te vs) σ H := fun H0 e0 Q q => h H0 e0 _ fun H1 e1 => ⟨a, rfl, ⟨xs, ex_l (e0.trans e1) hx⟩, fun D hD =>
  lc_list (xs := xs) (fun i H' => H1 D = none ∧ Ex H1 H' ∧ ∃ qs, H' D = some (.lst (qs.map V.ref)) ∧ Al2 R (wo D (nu H0 H')) qs ((List.range i).map f)) ⟨hD, Ex.new hD, [], upd_same, Al2.nil⟩ (fun i H' _ p => ex_l ((e0.trans e1).trans p.2.1) hx)
    (fun i x H' hi p => by
      obtain ⟨p1, p2, qs, p3, p4⟩ := p
      refine ⟨hw x, ?_⟩
      show te ((wipe σ vs).set j (some x)) H' fun y H4 => ∃ acc, H4 D = some (.lst acc) ∧ acc.length < sizeLine ∧ _
      refine he i x H' ((e0.trans e1).trans p2) hi H' (Ex.refl H') _ fun r H4 hr e4 hR => ⟨_, e4 _ _ p3, sz_lt ?_, p1, Ex.mut (p2.trans e4) p1, qs ++ [r], by rw [upd_same, List.map_append]; rfl, ?_⟩
      · have := p4.1
        rw [List.length_map, List.length_range] at this
        have := (List.getElem?_eq_some_iff.mp hi).1
        rw [List.length_map]
        omega
      · rw [wo_nu_upd, List.range_succ, List.map_append]
        exact (p4.mono fun q l _ => hm _ _ _ _ (wo_mono (nu_mono e4))).snoc (hm _ _ _ _ (nu_wo2 p3 (e1.trans p2)) hR))
    (fun H' p => by
      obtain ⟨p1, p2, qs, p3, p4⟩ := p
      have hD0 := fresh_back e1 p1
      exact q D H' hD0 (e1.trans p2) ⟨qs, nu_at hD0 p3, p4.mono fun q l _ => hm _ _ _ _ (wo_le _ _)⟩)⟩
/-- [f(x) for x in a tuple] -/
theorem el_lcT {a : Addr} {xs : List V} {j : Nat} {vs : List Nat} (f : Nat → V) (h : Ev tl σ H (.ref a)) (hx : SqT K H a xs) (hz : xs.length ≤ 40000) (hw : ∀ x, wipe ((wipe σ vs).set j (some x)) vs = wipe σ vs)
    (he : ∀ (i : Nat) (x : V) (H1 : Hp), Ex H H1 → xs[i]? = some x → Ev te ((wipe σ vs).set j (some x)) H1 (f i)) :
    EvL (tLc (iTup K tl) (gName j) tYes te vs) σ H ((List.range xs.length).map f) := fun H0 e0 Q q => h H0 e0 _ fun H1 e1 => ⟨a, rfl, ⟨xs, ex_t (e0.trans e1) hx⟩, fun D hD =>
  lc_tup (xs := xs) (fun i H' => H1 D = none ∧ Ex H1 H' ∧ H' D = some (.lst ((List.range i).map f))) ⟨hD, Ex.new hD, upd_same⟩ (fun i H' _ p => ex_t ((e0.trans e1).trans p.2.1) hx)
    (fun i x H' hi p => by
      obtain ⟨p1, p2, p3⟩ := p
      refine ⟨hw x, ?_⟩
      show te ((wipe σ vs).set j (some x)) H' fun y H4 => ∃ acc, H4 D = some (.lst acc) ∧ acc.length < sizeLine ∧ _
      refine he i x H' ((e0.trans e1).trans p2) hi H' (Ex.refl H') _ fun H4 e4 => ⟨_, e4 _ _ p3, sz_lt ?_, p1, Ex.mut (p2.trans e4) p1, by rw [upd_same, List.range_succ, List.map_append]; rfl⟩
      have := (List.getElem?_eq_some_iff.mp hi).1
      rw [List.length_map, List.length_range]
      omega)
    (fun H' p => q D H' (fresh_back e1 p.1) (e1.trans p.2.1) p.2.2)⟩
theorem lc_rangeC {lo c : Int} {n : Nat} {g : TG} {tt : TT} {te : TE} {vs : List Nat} {σ : L2.St} {H1 : Hp} {D : Addr} {Qd : Hp → Prop} (Pv : Nat → Hp → Prop) (h0 : Pv 0 (upd H1 D (.lst [])))
    (hs : ∀ i H, i < n → Pv i H → g (.int (lo + (i : Nat) * c)) (wipe σ vs) H fun σ2 H2 => wipe σ2 vs = wipe σ vs ∧ tt σ2 H2 fun b H3 =>
      if b = true then te σ2 H3 fun y H4 => ∃ acc, H4 D = some (.lst acc) ∧ acc.length < sizeLine ∧ Pv (i + 1) (upd H4 D (.lst (acc ++ [y]))) else Pv (i + 1) H3) (hd : ∀ H, Pv n H → Qd H) :
    ∃ W : Nat → Nat → Hp → Prop, (∃ m, W 0 m (upd H1 D (.lst []))) ∧ ∀ i m H, W i m H →
      ((Itc lo c n).stop i H ∧ Qd H) ∨ ((Itc lo c n).go i H ∧ ∃ Nx : Hp → Prop, (∀ H', Nx H' → ∃ m', m' < m ∧ W (i + 1) m' H') ∧ ∀ x H', (Itc lo c n).yld i H x H' → g x (wipe σ vs) H' fun σ2 H2 => wipe σ2 vs = wipe σ vs ∧ tt σ2 H2 fun b H3 =>
        if b = true then te σ2 H3 fun y H4 => ∃ acc, H4 D = some (.lst acc) ∧ acc.length < sizeLine ∧ Nx (upd H4 D (.lst (acc ++ [y]))) else Nx H3) := by
  refine ⟨fun i m H => m = n - i ∧ i ≤ n ∧ Pv i H, ⟨n, by simp, Nat.zero_le _, h0⟩, ?_⟩
  rintro i m H ⟨rfl, hi, p⟩
  by_cases hlt : i < n
  · refine .inr ⟨hlt, Pv (i + 1), fun H' p' => ⟨n - (i + 1), by omega, rfl, hlt, p'⟩, fun x H' y => ?_⟩
    obtain ⟨e, y⟩ := y
    subst e y
    exact hs i _ hlt p
  · have e : i = n := by omega
    subst e
    exact .inl ⟨Nat.le_refl _, hd H p⟩
def stepsN (n c : Nat) : Nat := if 0 < n then (n - 1) / c + 1 else 0
theorem stepsN_le {n c : Nat} (hc : 0 < c) : stepsN n c ≤ n := by
  unfold stepsN
  split
  · have := Nat.div_le_self (n - 1) c
    omega
  · omega
theorem stepsN_mul {n c : Nat} (hc : 0 < c) : stepsN n c * c ≤ n + c := by
  unfold stepsN
  split
  · have h1 := Nat.div_mul_le_self (n - 1) c
    rw [Nat.add_mul, Nat.one_mul]
    omega
  · omega
theorem RgC.up {n c : Nat} (hn : n ≤ 100000) (hc : 0 < c) (hc2 : c ≤ 100000) : RgC 0 (n : Int) (c : Int) (stepsN n c) := by
  have hr : Builtin.Range.rangeSize 0 (n : Int) (c : Int) = ((stepsN n c : Nat) : Int) := by
    unfold Builtin.Range.rangeSize stepsN
    rw [if_pos (by omega)]
    by_cases h : 0 < n
    · rw [if_pos (by omega), if_pos h]
      have : (n : Int) - 0 - 1 = ((n - 1 : Nat) : Int) := by omega
      rw [this]
      rfl
    · rw [if_neg (by omega), if_neg h]
      rfl
  refine ⟨by omega, by omega, ?_, hr⟩
  have hm := stepsN_mul (n := n) hc
  have hm2 := stepsN_le (n := n) hc
  have e : ((stepsN n c : Nat) : Int) * (c : Int) = ((stepsN n c * c : Nat) : Int) := by rw [Int.natCast_mul]
  unfold Builtin.Range.small
  rw [hr]
  simp only [Builtin.Range.rangeFitsLong, Bool.and_eq_true, Bool.or_eq_true, decide_eq_true_eq, beq_iff_eq, show (c : Int) > 0 by omega, if_true, e, Int.zero_add]
  omega
theorem stepsN_at {n c i : Nat} (hc : 0 < c) (h : i < stepsN n c) : i * c < n := by
  unfold stepsN at h
  split at h
  · have h2 : i ≤ (n - 1) / c := by omega
    have := (Nat.le_div_iff_mul_le hc).mp h2
    omega
  · omega
theorem stepsN_all {n c : Nat} (hc : 0 < c) : n ≤ stepsN n c * c := by
  unfold stepsN
  split
  · have h1 := Nat.div_add_mod (n - 1) c
    have h2 := Nat.mod_lt (n - 1) hc
    rw [Nat.add_mul, Nat.one_mul, Nat.mul_comm]
    omega
  · omega
/-- .. over range(0, n, c) -/
theorem er_lcC (hm : Mn R) {n c : Nat} {tr : TA} {j : Nat} {vs : List Nat} (f : Nat → α) (h : EvA tr σ H [.int 0, .int (n : Int), .int (c : Int)]) (hn : n ≤ 40000) (hc : 0 < c) (hc2 : c ≤ 100000) (hw : ∀ x, wipe ((wipe σ vs).set j (some x)) vs = wipe σ vs)
    (he : ∀ (i : Nat) (H1 : Hp) (D : Addr), Ex H H1 → H D = none → (∃ ys, H1 D = some (.lst ys)) → i < stepsN n c → ∀ Q : VK, (∀ p H2, H1 p = none → Ex H1 H2 → R (wo D H2) p (f i) → Q (.ref p) H2) → te ((wipe σ vs).set j (some (.int ((i * c : Nat) : Int)))) H1 Q) :
    EvRo (fun H p => Lst3 R H p ((List.range (stepsN n c)).map f)) (tLc (iRng3 tr) (gName j) tYes te vs) σ H := fun H0 e0 Q q => h H0 e0 _ fun H1 e1 => ⟨0, (n : Int), (c : Int), stepsN n c, rfl, RgC.up (by omega) hc hc2, fun D hD =>
  lc_rangeC (lo := 0) (c := (c : Int)) (n := stepsN n c) (fun i H' => H1 D = none ∧ Ex H1 H' ∧ ∃ qs, H' D = some (.lst (qs.map V.ref)) ∧ Al2 R (wo D H') qs ((List.range i).map f)) ⟨hD, Ex.new hD, [], upd_same, Al2.nil⟩
    (fun i H' hi p => by
      obtain ⟨p1, p2, qs, p3, p4⟩ := p
      have e9 : (0 : Int) + ((i : Nat) : Int) * (c : Int) = ((i * c : Nat) : Int) := by rw [Int.natCast_mul, Int.zero_add]
      refine ⟨hw _, ?_⟩
      show te ((wipe σ vs).set j (some (.int ((0 : Int) + ((i : Nat) : Int) * (c : Int))))) H' fun y H4 => ∃ acc, H4 D = some (.lst acc) ∧ acc.length < sizeLine ∧ _
      rw [e9]
      refine he i H' D ((e0.trans e1).trans p2) (fresh_back (e0.trans e1) hD) ⟨_, p3⟩ hi _ fun r H4 hr e4 hR => ⟨_, e4 _ _ p3, sz_lt ?_, p1, Ex.mut (p2.trans e4) p1, qs ++ [r], by rw [upd_same, List.map_append]; rfl, ?_⟩
      · have := p4.1
        rw [List.length_map, List.length_range] at this
        have h9 := stepsN_le (n := n) hc
        rw [List.length_map]
        omega
      · rw [wo_upd, List.range_succ, List.map_append]
        exact (p4.mono fun q l _ => hm _ _ _ _ (wo_mono e4)).snoc hR)
    (fun H' p => by
      obtain ⟨p1, p2, qs, p3, p4⟩ := p
      exact q D H' (fresh_back e1 p1) (e1.trans p2) ⟨qs, p3, p4⟩)⟩
theorem cutV_nat {xs : List V} {i j : Nat} : cutV xs (some (i : Int)) (some (j : Int)) = (xs.take j).drop i := by
  unfold cutV
  rw [HT.sIx_nat, HT.sIx_nat, List.drop_take]
  by_cases hi : i ≤ xs.length
  · rw [Nat.min_eq_left hi]
    by_cases hj : j ≤ xs.length
    · rw [Nat.min_eq_left hj]
    · rw [Nat.min_eq_right (show xs.length ≤ j by omega), List.take_of_length_le (by rw [List.length_drop]; omega), List.take_of_length_le (by rw [List.length_drop]; omega)]
  · rw [Nat.min_eq_right (show xs.length ≤ i by omega), List.drop_eq_nil_of_le (Nat.le_refl _), List.drop_eq_nil_of_le (show xs.length ≤ i by omega)]
    simp
def chunk {α : Type} (xs : List α) (c i : Nat) : List α := (xs.take (i * c + c)).drop (i * c)
theorem chunk_flat {α : Type} (xs : List α) (c : Nat) : ∀ n, ((List.range n).map (chunk xs c)).flatten = xs.take (n * c)
  | 0 => by simp
  | n + 1 => by
    rw [List.range_succ, List.map_append, List.flatten_append, chunk_flat xs c n]
    show xs.take (n * c) ++ (chunk xs c n ++ []) = xs.take ((n + 1) * c)
    rw [List.append_nil, Nat.add_mul, Nat.one_mul]
    unfold chunk
    have := List.take_append_drop (n * c) (xs.take (n * c + c))
    rw [List.take_take, Nat.min_eq_left (by omega)] at this
    exact this
theorem chunk_map {α β : Type} (f : α → β) (xs : List α) (c i : Nat) : chunk (xs.map f) c i = (chunk xs c i).map f := by
  unfold chunk
  rw [List.map_drop, List.map_take]
/-- a list of rows, cut -/
theorem Al2.cut {qs : List Addr} {L : List α} (h : Al2 R H qs L) (c i : Nat) : Al2 R H (chunk qs c i) (chunk L c i) := by
  refine ⟨by unfold chunk; rw [List.length_drop, List.length_drop, List.length_take, List.length_take, h.1], fun k q l a b => ?_⟩
  unfold chunk at a b
  rw [List.getElem?_drop, List.getElem?_take] at a b
  split at a
  · rename_i hlt
    rw [if_pos hlt] at b
    exact h.2 _ q l a b
  · cases a
theorem ev_rgl {te : TE} {n : Nat} (h : Ev te σ H (.int (n : Int))) (hn : n ≤ 100000) : EvL (tLstRg (tRg1 te)) σ H ((List.range n).map fun i => V.int ((i : Nat) : Int)) := fun H1 e Q q => h H1 e _ fun H2 e2 => ⟨(n : Int), rfl, RgOk.of_le (by omega) (by omega) (by omega) (by omega), fun p hp => q p _ (fresh_back e2 hp) (e2.trans (Ex.new hp)) (by
  rw [upd_same]
  have : rgV 0 (n : Int) = (List.range n).map fun i => V.int ((i : Nat) : Int) := by
    unfold rgV
    rw [show ((n : Int) - 0).toNat = n by omega]
    exact List.map_congr_left fun i _ => by rw [Int.zero_add]
  rw [this])⟩
end
section
variable {K : PySem.W.Frag} {σ : L2.St} {H : Hp} {p : Addr} {te tn : TE} {R : V → Prop}
/-- [what is drawn for k in range(n)] -/
theorem e1_lcE {j : Nat} {vs : List Nat} {n : Nat} (hn : Ev tn σ (wo p H) (.int (n : Int))) (hm : n ≤ 10000) (hw : ∀ x, wipe ((wipe σ vs).set j (some x)) vs = wipe σ vs)
    (he : ∀ i : Nat, EvD1 te ((wipe σ vs).set j (some (.int (i : Int)))) p H R) : EvLD1 (tLc (iRng1 (tCons tn tNil)) (gName j) tYes te vs) σ p H (fun xs => xs.length = n ∧ ∀ x ∈ xs, R x) := fun H0 e d Q q =>
  hn H0 e _ fun H1 e1 => by
    have d1 := d.ex e1
    refine ⟨(n : Int), rfl, by omega, by omega, fun Dl hD => ?_⟩
    have hpd : p ≠ Dl := dr_ne d1 hD
    refine lc_range (lo := 0) (n := ((n : Int)).toNat) (fun i H' => Ex (wo p H1) H' ∧ Dr p H' ∧ ∃ acc, H' Dl = some (.lst acc) ∧ acc.length = i ∧ ∀ x ∈ acc, R x) ⟨Ex.mut (wo_le p H1) (by rw [wo_ne (Ne.symm hpd)]; exact hD), d1.upd hpd, [], upd_same, rfl, fun x hx => by cases hx⟩ (fun i H' hi pv => ?_) (fun H' pv => ?_)
    · obtain ⟨p1, p2, acc, p3, p4, p5⟩ := pv
      have e0 : (0 : Int) + (i : Int) = (i : Int) := Int.zero_add _
      show wipe ((wipe σ vs).set j (some (.int ((0 : Int) + (i : Int))))) vs = wipe σ vs ∧ te ((wipe σ vs).set j (some (.int ((0 : Int) + (i : Int))))) H' fun y H4 => ∃ acc, H4 Dl = some (.lst acc) ∧ acc.length < sizeLine ∧ _
      rw [e0]
      refine ⟨hw _, he i H' (wx_trans e (wx_trans (wx_of e1) p1)) p2 _ fun y H4 hy e4 d4 => ?_⟩
      refine ⟨acc, e4 Dl _ (by rw [wo_ne (Ne.symm hpd)]; exact p3), sz_lt (by omega), Ex.mut (wx_trans p1 e4) (by rw [wo_ne (Ne.symm hpd)]; exact hD), d4.upd hpd, acc ++ [y], upd_same, by rw [List.length_append, p4]; rfl, fun x hx => ?_⟩
      rcases List.mem_append.mp hx with h | h
      · exact p5 x h
      · rw [List.mem_singleton.mp h]
        exact hy
    · obtain ⟨p1, p2, acc, p3, p4, p5⟩ := pv
      exact q Dl H' acc ⟨by rw [p4]; exact Int.toNat_natCast n, p5⟩ (fresh_back e1 hD) (wx_trans (wx_of e1) p1) p2 p3
theorem q1_asgL {i : Nat} {P : List V → Prop} {D : Ends} {tz : TS} (h : EvLD1 te σ p H P) (d : Dr p H) (k : ∀ l H1 xs, P xs → H l = none → Ex (wo p H) H1 → Dr p H1 → H1 l = some (.lst xs) → tz D (σ.set i (some (.ref l))) H1) : tSeq (tAsg te (gName i)) tz D σ H := h H (wo_le p H) d _ fun l H1 xs hP hl e d1 h1 => k l H1 xs hP hl e d1 h1
end

/-! ### ranks as keys; rows at addresses; rows told once -/
def payN : V → NK
  | .non => .num 0
  | .bl b => .num (if b then 1 else 0)
  | .int i => .num i
  | .str s => .text s
  | _ => .none
def rkN (x : V) : NK := .tup [.num (kr x), payN x]
def rowN (xs : List V) : NK := .tup (xs.map rkN)
theorem nk_rk {H : Hp} {x : V} {p : Addr} (h : Ok x) (hp : H p = some (.tup (rkL x))) : NKey H (rkN x) (.ref p) := by
  refine .tup hp (.cons (.num _) (.cons ?_ .nil))
  cases h with
  | non => exact .num 0
  | bl b => exact .num _
  | int i => exact .num i
  | str s _ => exact .text s
theorem datas_map : ∀ ks : List NK, NestedKey.datas ks = ks.map NestedKey.data
  | [] => rfl
  | k :: r => by rw [NestedKey.datas, datas_map r]; rfl
theorem rk_data {x : V} (h : Ok x) : (rkN x).data = rkD x := by cases h <;> rfl
theorem row_data {xs : List V} (h : ∀ x ∈ xs, Ok x) : (rowN xs).data = .tuple (xs.map rkD) := by
  unfold rowN
  rw [NestedKey.data, datas_map, List.map_map]
  congr 1
  exact List.map_congr_left fun x hx => rk_data (h x hx)
mutual
theorem eqv_data : ∀ a b : NK, PyData.eqv a.data b.data = NestedKey.beq a b
  | .none, .none => rfl
  | .num a, .num b => by
    show (a == b) = decide (a = b)
    rw [Bool.eq_iff_iff, beq_iff_eq, decide_eq_true_eq]
  | .text a, .text b => by
    show (a == b) = decide (a = b)
    rw [Bool.eq_iff_iff, beq_iff_eq, decide_eq_true_eq]
  | .tup a, .tup b => eqvs_data a b
  | .none, .num _ | .none, .text _ | .none, .tup _ => rfl
  | .num _, .none | .num _, .text _ | .num _, .tup _ => rfl
  | .text _, .none | .text _, .num _ | .text _, .tup _ => rfl
  | .tup _, .none | .tup _, .num _ | .tup _, .text _ => rfl
theorem eqvs_data : ∀ a b : List NK, PyData.eqvAll (NestedKey.datas a) (NestedKey.datas b) = NestedKey.beqAll a b
  | [], [] => rfl
  | x :: xs, y :: ys => by
    show (PyData.eqv x.data y.data && PyData.eqvAll (NestedKey.datas xs) (NestedKey.datas ys)) = _
    rw [eqv_data x y, eqvs_data xs ys]
    rfl
  | [], _ :: _ => rfl
  | _ :: _, [] => rfl
end
theorem eqv_key (a b : NK) : PyData.eqv a.data b.data = decide (a = b) := by rw [eqv_data, NestedKey.decide_eq]
theorem dep_rkN (x : V) : (rkN x).depth ≤ 1 := by cases x <;> exact Nat.le_refl 1
theorem deps_rkN : ∀ xs : List V, NestedKey.depthAll (xs.map rkN) ≤ 1
  | [] => Nat.zero_le _
  | x :: r => by
    show max (rkN x).depth (NestedKey.depthAll (r.map rkN)) ≤ 1
    have := dep_rkN x
    have := deps_rkN r
    omega
theorem dep_row (xs : List V) : (rowN xs).depth ≤ 8 := by
  show NestedKey.depthAll (xs.map rkN) + 1 ≤ 8
  have := deps_rkN xs
  omega
section
variable {K : PySem.W.Frag}
mutual
theorem dp_key {H : Hp} : ∀ {k : NK} {v : V}, NKey H k v → Dp K H v k.data
  | _, _, .non => .non
  | _, _, .num i => .int i
  | _, _, .text x => .str x
  | _, _, .tup h hs => .tup (st_of h) (dp_keys hs)
theorem dp_keys {H : Hp} : ∀ {ks : List NK} {vs : List V}, NKeys H ks vs → DpAll K H vs (NestedKey.datas ks)
  | _, _, .nil => .nil
  | _, _, .cons h hs => .cons (dp_key h) (dp_keys hs)
end
theorem nks_len {H : Hp} : ∀ {ks : List NK} {vs : List V}, NKeys H ks vs → vs.length = ks.length
  | _, _, .nil => rfl
  | _, _, .cons _ t => congrArg (· + 1) (nks_len t)
theorem nks_snoc {H : Hp} : ∀ {ks : List NK} {vs : List V} {k : NK} {v : V}, NKeys H ks vs → NKey H k v → NKeys H (ks ++ [k]) (vs ++ [v])
  | _, _, _, _, .nil, h => .cons h .nil
  | _, _, _, _, .cons a t, h => .cons a (nks_snoc t h)
theorem keep_tup {H : Hp} {p : Addr} {o u : HO} (hp : H p = some u) (hu : ∀ xs, u ≠ .tup xs) : ∀ b xs, H b = some (.tup xs) → upd H p o b = some (.tup xs) := fun b xs q => by
  rw [upd_ne fun z => ?_]
  · exact q
  · rw [z, hp] at q
    exact hu _ (Option.some.inj q)
theorem keep_lst {H : Hp} {p : Addr} {o : HO} {ys : List V} (hp : H p = some (.lst ys)) : ∀ b xs, H b = some (.tup xs) → upd H p o b = some (.tup xs) := keep_tup hp fun xs z => nomatch z
theorem keep_new {H : Hp} {p : Addr} {o : HO} (hp : H p = none) : ∀ b xs, H b = some (.tup xs) → upd H p o b = some (.tup xs) := fun b xs q => by
  rw [upd_ne (ne_of_none q hp)]
  exact q
/-- a new tuple that is the key k -/
def EvK (te : TE) (σ : L2.St) (H : Hp) (k : NK) : Prop := ∀ H1, Ex H H1 → ∀ Q : VK, (∀ p H2, H1 p = none → Ex H1 H2 → NKey H2 k (.ref p) → Q (.ref p) H2) → te σ H1 Q
def EvLK (te : TE) (σ : L2.St) (H : Hp) (ks : List NK) : Prop := ∀ H1, Ex H H1 → ∀ Q : VK, (∀ p H2 ys, H1 p = none → Ex H1 H2 → H2 p = some (.lst ys) → NKeys H2 ks ys → Q (.ref p) H2) → te σ H1 Q
variable {σ : L2.St} {H H' : Hp} {ta tb te tl : TE} {x y z v : V} {k : NK} {ks : List NK} {D : Ends} {tz : TS}
theorem ek_rk (h : EvU ta σ H (rkL x)) (hx : Ok x) : EvK ta σ H (rkN x) := fun H1 e Q q => h H1 e _ fun p H2 hp e2 h2 => q p H2 hp e2 (nk_rk hx h2)
theorem ed_key (h : EvK ta σ H k) : EvD K ta σ H k.data := fun H1 e Q q => h H1 e _ fun p H2 _ e2 h2 => q _ H2 e2 (dp_key h2)
theorem q_asgK {i : Nat} (h : EvK te σ H k) (q : ∀ p H1, H p = none → Ex H H1 → NKey H1 k (.ref p) → tz D (σ.set i (some (.ref p))) H1) : tSeq (tAsg te (gName i)) tz D σ H := h H (Ex.refl H) _ fun p H1 hp e h1 => q p H1 hp e h1
theorem s_retK (h : EvK te σ H k) (q : ∀ p H1, H p = none → Ex H H1 → NKey H1 k (.ref p) → D.rt (.ref p) H1) : tRet te D σ H := h H (Ex.refl H) _ fun p H1 hp e h1 => q p H1 hp e h1
theorem ek_tuple (h : EvLK tl σ H ks) : EvK (tCB (fun xs H Q => ∃ p ys, xs = [.ref p] ∧ ((SqL K H p ys ∧ ∀ l, H l = none → Q (.ref l) (upd H l (.tup ys))) ∨ (SqT K H p ys ∧ Q (.ref p) H))) (tCons tl tNil)) σ H (.tup ks) := fun H1 e Q q =>
  h H1 e _ fun p H2 ys _ e2 h2 hd => ⟨p, ys, rfl, .inl ⟨sq_of h2, fun l hl => q l _ (fresh_back e2 hl) (e2.trans (Ex.new hl)) (.tup upd_same (NKeys.mono (keep_new hl) hd))⟩⟩
theorem lk_lcL {a : Addr} {xs : List V} {j : Nat} {vs : List Nat} (f : V → NK) (h : Ev tl σ H (.ref a)) (hx : SqL K H a xs) (hz : xs.length ≤ 40000) (hw : ∀ x, wipe ((wipe σ vs).set j (some x)) vs = wipe σ vs)
    (he : ∀ (x : V) H1, Ex H H1 → x ∈ xs → EvK te ((wipe σ vs).set j (some x)) H1 (f x)) :
    EvLK (tLc (iList K tl) (gName j) tYes te vs) σ H (xs.map f) := fun H0 e0 Q q => h H0 e0 _ fun H1 e1 => ⟨a, rfl, ⟨xs, ex_l (e0.trans e1) hx⟩, fun D hD =>
  lc_list (xs := xs) (fun i H' => H1 D = none ∧ Ex H1 H' ∧ ∃ ys, H' D = some (.lst ys) ∧ NKeys H' ((xs.take i).map f) ys) ⟨hD, Ex.new hD, [], upd_same, .nil⟩ (fun i H' _ p => ex_l ((e0.trans e1).trans p.2.1) hx)
    (fun i x H' hi p => by
      obtain ⟨p1, p2, ys, p3, p4⟩ := p
      refine ⟨hw x, ?_⟩
      show te ((wipe σ vs).set j (some x)) H' fun y H4 => ∃ acc, H4 D = some (.lst acc) ∧ acc.length < sizeLine ∧ _
      refine he x H' ((e0.trans e1).trans p2) (List.mem_of_getElem? hi) H' (Ex.refl H') _ fun y H4 _ e4 hy => ⟨ys, e4 _ _ p3, sz_lt ?_, p1, Ex.mut (p2.trans e4) p1, ys ++ [.ref y], upd_same, ?_⟩
      · have := nks_len p4
        rw [List.length_map, List.length_take] at this
        have := (List.getElem?_eq_some_iff.mp hi).1
        omega
      · rw [List.take_add_one, hi, List.map_append]
        exact nks_snoc (NKeys.mono (keep_lst (e4 _ _ p3)) (NKeys.mono (fun b xs q => e4 b _ q) p4)) (NKey.mono (keep_lst (e4 _ _ p3)) hy))
    (fun H' p => by
      obtain ⟨p1, p2, ys, p3, p4⟩ := p
      rw [List.take_length] at p4
      exact q D H' ys (fresh_back e1 p1) (e1.trans p2) p3 p4)⟩
end
/-! rows -/
inductive RowsAt (H : Hp) : List V → List (List V) → Prop where
  | nil : RowsAt H [] []
  | cons {p : Addr} {xs : List V} {rs : List V} {xss : List (List V)} (h : H p = some (.lst xs)) (t : RowsAt H rs xss) : RowsAt H (.ref p :: rs) (xs :: xss)
theorem RowsAt.len {H : Hp} : ∀ {rs : List V} {xss : List (List V)}, RowsAt H rs xss → rs.length = xss.length
  | _, _, .nil => rfl
  | _, _, .cons _ t => congrArg (· + 1) (RowsAt.len t)
theorem RowsAt.ex {H H' : Hp} (e : Ex H H') : ∀ {rs : List V} {xss : List (List V)}, RowsAt H rs xss → RowsAt H' rs xss
  | _, _, .nil => .nil
  | _, _, .cons h t => .cons (e _ _ h) (RowsAt.ex e t)
theorem RowsAt.upd {H : Hp} {p : Addr} {o : HO} : ∀ {rs : List V} {xss : List (List V)}, RowsAt H rs xss → (∀ r ∈ rs, r ≠ .ref p) → RowsAt (upd H p o) rs xss
  | _, _, .nil, _ => .nil
  | _, _, .cons h t, n => .cons (by rw [upd_ne fun z => n _ List.mem_cons_self (by rw [z])]; exact h) (RowsAt.upd t fun r hr => n r (List.mem_cons_of_mem _ hr))
theorem RowsAt.get {H : Hp} : ∀ {rs : List V} {xss : List (List V)} {i : Nat} {x : V}, RowsAt H rs xss → rs[i]? = some x → ∃ p xs, x = .ref p ∧ H p = some (.lst xs) ∧ xss[i]? = some xs
  | _, _, _, _, .nil, h => by simp at h
  | _, _, 0, _, .cons h t, e => by
    cases e
    exact ⟨_, _, rfl, h, rfl⟩
  | _, _, i + 1, _, .cons h t, e => by
    obtain ⟨p, xs, h1, h2, h3⟩ := RowsAt.get (i := i) t (by simpa using e)
    exact ⟨p, xs, h1, h2, by simpa using h3⟩
theorem RowsAt.snoc {H : Hp} {p : Addr} {xs : List V} : ∀ {rs : List V} {xss : List (List V)}, RowsAt H rs xss → H p = some (.lst xs) → RowsAt H (rs ++ [.ref p]) (xss ++ [xs])
  | _, _, .nil, h => .cons h .nil
  | _, _, .cons a t, h => .cons a (RowsAt.snoc t h)
def Fresh (H : Hp) (rs : List V) : Prop := ∀ r ∈ rs, ∃ p, r = .ref p ∧ H p = none
def OkRw (xs : List V) : Prop := xs.length ≤ 1000 ∧ ∀ x ∈ xs, Ok x
def sp_row_rank (K : PySem.W.Frag) : Sp := fun vs H Q _ => ∃ (a : Addr) (xs : List V), vs = [.ref a] ∧ SqL K H a xs ∧ OkRw xs ∧ ∀ p H', H p = none → Ex H H' → NKey H' (rowN xs) (.ref p) → Q (.ref p) H'
section
variable {P : Program} {w : World} {K : PySem.W.Frag} {mg : Str → Option Value} {base : Heap}
section
variable {σ : L2.St} {H : Hp} {ta tb tc : TE} {E : XK} {x y : V}
theorem ek_row {a : Addr} {xs : List V} (ha : Ev ta σ H (.ref a)) (hS : SqL K H a xs) (hx : OkRw xs) : EvK (tCall (sp_row_rank K) [] E (tCons ta tNil)) σ H (rowN xs) := fun H1 e Q q =>
  ha H1 e _ fun H2 e2 => ⟨a, xs, rfl, ex_l (e.trans e2) hS, hx, fun p H3 hp e3 h3 => q p H3 (fresh_back e2 hp) (e2.trans e3) h3⟩
end
theorem ok_row_rank (D : Dn K mg "row_rank" s_row_rank ["row"]) (c_rank : C8.Cal P w K mg base 2 "rank" (sp_rank K) []) (z_tuple : mg "tuple" = none) :
    C8.Cal P w K mg base 3 "row_rank" (sp_row_rank K) [] := by
  refine cal_of D sc_row_rank (fun vs H Q E h => ?_) (fun f cdv A outer s H vs Q E hr h => ?_)
  · obtain ⟨_, _, rfl, _⟩ := h
    rfl
  refine ⟨_, (pss_one (ps_ret (pe_callTy call_tuple_of (by rfl) z_tuple (by decide +kernel) (pa_cons (pe_lc (own := [("value", 1)]) (g := gName 1) (tt := tYes) rfl sc_row_rank.nd (pi_list (pv 0)) (blkOk_by (N := n_row_rank) (sc := C8.fnScope s_row_rank) (by decide +kernel)) (fun _ _ _ _ _ => pg_name (i := 1) sc_row_rank.nd rfl (Or.inl rfl)) (fun _ _ _ _ _ => pts_nil) (fun _ _ _ _ _ => (C8.pe_c c_rank hr (by decide) (by rfl) (pa_cons (pv 1) pa_nil)))) pa_nil)))), ?_⟩
  obtain ⟨a, xs, rfl, hS, hx, q⟩ := h
  exact s_retK (ek_tuple (lk_lcL rkN (ev_var rfl) hS (by have := hx.1; omega) (fun _ => rfl) fun x H1 e1 hm => ek_rk (ec_rank (ev_var rfl) (hx.2 x hm)) (hx.2 x hm))) q
end

--@SPLIT
theorem given_filter (xs : List V) (f : V → Bool) : (given xs.length (fun i => f (xs.getD i .non)) fun i => xs.getD i .non) = xs.filter f := by
  unfold given
  have h : ∀ (n : Nat), n ≤ xs.length → (((List.range n).filter fun i => f (xs.getD i .non)).map fun i => xs.getD i .non) = (xs.take n).filter f := by
    intro n
    induction n with
    | zero => intro _; rfl
    | succ n ih =>
      intro hn
      have hx : xs[n]? = some xs[n] := List.getElem?_eq_getElem (by omega)
      rw [List.range_succ, List.filter_append, List.map_append, ih (by omega), List.take_add_one, hx, List.filter_append]
      show _ ++ (([n].filter fun i => f (xs.getD i .non)).map _) = _ ++ [xs[n]].filter f
      have hg : xs.getD n .non = xs[n] := by rw [List.getD_eq_getElem?_getD, hx]; rfl
      rw [List.filter_cons, List.filter_cons, hg]
      cases f xs[n]
      · rfl
      · show _ ++ [xs.getD n .non] = _ ++ [xs[n]]
        rw [hg]
  have := h xs.length (Nat.le_refl _)
  rw [List.take_length] at this
  exact this

/-! ### values over lists of values -/
theorem call_isiK {X : L2.Cx} {K : PySem.W.Frag} (h : X.K = K) : CallR X (.builtin "isinstance") (rIsi K) := h ▸ call_isi
theorem getD_is {xs : List V} {i : Nat} {x : V} (hi : xs[i]? = some x) : xs.getD i .non = x := by rw [List.getD_eq_getElem?_getD, hi]; rfl
def OkVs (xs : List V) : Prop := xs.length ≤ 60 ∧ ∀ x ∈ xs, Ok x ∧ bdV x
def isBl : V → Bool
  | .bl _ => true
  | _ => false
def known (xs : List V) : List V := xs.filter fun x => !decide (x = .non)
def intsOf : List V → List Int
  | [] => []
  | .int i :: r => i :: intsOf r
  | _ :: r => intsOf r
def blsOf : List V → List Bool
  | [] => []
  | .bl i :: r => i :: blsOf r
  | _ :: r => blsOf r
def strsOf : List V → List Str
  | [] => []
  | .str i :: r => i :: strsOf r
  | _ :: r => strsOf r
theorem ints_filter : ∀ xs : List V, xs.filter isInt = (intsOf xs).map V.int
  | [] => rfl
  | .int i :: r => congrArg (V.int i :: ·) (ints_filter r)
  | .non :: r => ints_filter r
  | .bl _ :: r => ints_filter r
  | .str _ :: r => ints_filter r
  | .byt _ :: r => ints_filter r
  | .flt _ :: r => ints_filter r
  | .ref _ :: r => ints_filter r
  | .ty _ :: r => ints_filter r
theorem bls_filter : ∀ xs : List V, xs.filter isBl = (blsOf xs).map V.bl
  | [] => rfl
  | .bl i :: r => congrArg (V.bl i :: ·) (bls_filter r)
  | .non :: r => bls_filter r
  | .int _ :: r => bls_filter r
  | .str _ :: r => bls_filter r
  | .byt _ :: r => bls_filter r
  | .flt _ :: r => bls_filter r
  | .ref _ :: r => bls_filter r
  | .ty _ :: r => bls_filter r
theorem strs_filter : ∀ xs : List V, xs.filter isStr = (strsOf xs).map V.str
  | [] => rfl
  | .str i :: r => congrArg (V.str i :: ·) (strs_filter r)
  | .non :: r => strs_filter r
  | .bl _ :: r => strs_filter r
  | .int _ :: r => strs_filter r
  | .byt _ :: r => strs_filter r
  | .flt _ :: r => strs_filter r
  | .ref _ :: r => strs_filter r
  | .ty _ :: r => strs_filter r
theorem ints_len (xs : List V) : (intsOf xs).length ≤ xs.length := by
  rw [← List.length_map (f := V.int), ← ints_filter]
  exact List.length_filter_le _ _
theorem bls_len (xs : List V) : (blsOf xs).length ≤ xs.length := by
  rw [← List.length_map (f := V.bl), ← bls_filter]
  exact List.length_filter_le _ _
theorem strs_len (xs : List V) : (strsOf xs).length ≤ xs.length := by
  rw [← List.length_map (f := V.str), ← strs_filter]
  exact List.length_filter_le _ _
theorem ints_mem {xs : List V} {i : Int} (h : i ∈ intsOf xs) : V.int i ∈ xs := by
  have : V.int i ∈ xs.filter isInt := by rw [ints_filter]; exact List.mem_map.mpr ⟨i, h, rfl⟩
  exact (List.mem_filter.mp this).1
theorem strs_mem {xs : List V} {i : Str} (h : i ∈ strsOf xs) : V.str i ∈ xs := by
  have : V.str i ∈ xs.filter isStr := by rw [strs_filter]; exact List.mem_map.mpr ⟨i, h, rfl⟩
  exact (List.mem_filter.mp this).1
theorem ints_map (g : Int → Int) : ∀ ns : List Int, intsOf (ns.map fun n => V.int (g n)) = ns.map g
  | [] => rfl
  | n :: r => by
    show g n :: intsOf (r.map fun n => V.int (g n)) = g n :: r.map g
    rw [ints_map g r]
theorem sum_bd {B : Int} (hB : 0 ≤ B) : ∀ {ns : List Int}, (∀ n ∈ ns, -B ≤ n ∧ n ≤ B) → -(B * (ns.length : Int)) ≤ ns.sum ∧ ns.sum ≤ B * (ns.length : Int)
  | [], _ => by simp
  | n :: r, h => by
    have h1 := h n List.mem_cons_self
    have h2 := sum_bd hB fun m hm => h m (List.mem_cons_of_mem _ hm)
    rw [List.sum_cons, List.length_cons, Int.natCast_add, Int.mul_add]
    omega
/-! sorted texts -/
def notLt (a b : Str) : Prop := ltCps b.cps.toList a.cps.toList = false
theorem lt_item (a b : List Nat) : ltCps a b = PyProof.Rows.itemLt (.inr a) (.inr b) := PyProof.Rows.ltCps_eq a b
theorem notLt_trans {a b c : Str} (h1 : notLt a b) (h2 : notLt b c) : notLt a c := by
  unfold notLt at *
  rw [lt_item] at *
  cases h : PyProof.Rows.itemLt (.inr c.cps.toList) (.inr a.cps.toList) with
  | false => rfl
  | true =>
    rcases PyProof.Rows.itemOrd.negTrans (Sum.inr c.cps.toList) (Sum.inr b.cps.toList) (Sum.inr a.cps.toList) h with z | z
    · exact absurd (z.symm.trans h2) (by decide)
    · exact absurd (z.symm.trans h1) (by decide)
theorem notLt_anti {a b : Str} (h1 : notLt a b) (h2 : notLt b a) : a = b := by
  unfold notLt at *
  rw [lt_item] at *
  exact PySem.W.str_of_cps (Sum.inr.inj (PyProof.Rows.itemOrd.total (Sum.inr a.cps.toList) (Sum.inr b.cps.toList) h2 h1))
theorem rising_pair : ∀ (l : List Str) (p : Str), risingS p l = true → (∀ y ∈ l, notLt p y) ∧ l.Pairwise notLt
  | [], _, _ => ⟨(fun y h => nomatch h), .nil⟩
  | x :: r, p, h => by
    have h' : (!ltCps x.cps.toList p.cps.toList && risingS x r) = true := h
    rw [Bool.and_eq_true, Bool.not_eq_true'] at h'
    obtain ⟨h1, h2⟩ := rising_pair r x h'.2
    refine ⟨fun y hy => ?_, List.pairwise_cons.mpr ⟨h1, h2⟩⟩
    rcases List.mem_cons.mp hy with z | z
    · rw [z]; exact h'.1
    · exact notLt_trans (show notLt p x from h'.1) (h1 y z)
theorem sorted_pairS {l : List Str} (h : sortedS l = true) : l.Pairwise notLt := by
  cases l with
  | nil => exact .nil
  | cons x r =>
    have := rising_pair r x h
    exact List.pairwise_cons.mpr this
theorem one_sortedS : ∀ {a b : List Str}, a.Pairwise notLt → b.Pairwise notLt → a.Perm b → a = b
  | [], b, _, _, h => (List.nil_perm.mp h).symm
  | x :: a, [], _, _, h => absurd (List.perm_nil.mp h) (by simp)
  | x :: a, y :: b, h1, h2, h => by
    have e : x = y := by
      rw [List.pairwise_cons] at h1 h2
      have hx : x ∈ y :: b := h.subset List.mem_cons_self
      have hy : y ∈ x :: a := h.symm.subset List.mem_cons_self
      rcases List.mem_cons.mp hx with z | z
      · exact z
      · rcases List.mem_cons.mp hy with u | u
        · exact u.symm
        · exact notLt_anti (h1.1 y u) (h2.1 x z)
    subst e
    rw [one_sortedS (List.pairwise_cons.mp h1).2 (List.pairwise_cons.mp h2).2 (List.Perm.cons_inv h)]
open Classical in
noncomputable def sortS (xs : List Str) : List Str := if h : ∃ ys : List Str, ys.Perm xs ∧ ys.Pairwise notLt then h.choose else []
theorem sortS_is {xs ys : List Str} (h1 : ys.Perm xs) (h2 : ys.Pairwise notLt) : ys = sortS xs := by
  have h : ∃ ys : List Str, ys.Perm xs ∧ ys.Pairwise notLt := ⟨ys, h1, h2⟩
  have e : sortS xs = h.choose := by
    unfold sortS
    exact dif_pos h
  rw [e]
  exact one_sortedS h2 h.choose_spec.2 (h1.trans h.choose_spec.1.symm)
def joinS (ys : List Str) : Str := Txt.join (PySem.Str.ofString ", ") ys
def lenS (ys : List Str) : Int := (((ys.map (·.length)).sum : Nat) : Int) + 2 * ((ys.length : Int) - 1)
noncomputable def listV (xs : List V) : V := if sortS (strsOf xs) = [] ∨ 10000 < lenS (sortS (strsOf xs)) then .non else .str (joinS (sortS (strsOf xs)))
def countV (xs : List V) : V := .int ((known xs).length : Int)
def distK (xs : List V) : List (NK × V) := xs.foldl (fun kvs x => putK kvs (rkN x) (.bl true)) []
def distV (xs : List V) : V := .int ((distK (known xs)).length : Int)
def sumV (xs : List V) : V := if (intsOf xs).isEmpty = true then .non else limV (intsOf xs).sum
def avgD (ns : List Int) : V := if ns.isEmpty = true then .non else limV (rnd ns.sum (ns.length : Int))
def avgDV (xs : List V) : V := avgD (intsOf xs)
def avgV (xs : List V) : V := avgD ((intsOf xs).map fun n => 10000 * n)
def everyV (xs : List V) : V := if (blsOf xs).isEmpty = true then .non else .bl ((blsOf xs).all id)
def someV (xs : List V) : V := if (blsOf xs).isEmpty = true then .non else .bl ((blsOf xs).any id)
def endA (mx : Bool) (xs : List V) : V := if (known xs).isEmpty = true then .non else bestV mx (known xs)
def spVs (f : List V → V) : PySem.W.Frag → Sp := fun K vs H Q _ => ∃ (a : Addr) (xs : List V), vs = [.ref a] ∧ SqL K H a xs ∧ OkVs xs ∧ ∀ H', Ex H H' → Q (f xs) H'
def sp__known (K : PySem.W.Frag) : Sp := fun vs H Q _ => ∃ (a : Addr) (xs : List V), vs = [.ref a] ∧ SqL K H a xs ∧ OkVs xs ∧ ∀ p H', H p = none → Ex H H' → H' p = some (.lst (known xs)) → Q (.ref p) H'
def spInts (K : PySem.W.Frag) : Sp := fun vs H Q _ => ∃ (a : Addr) (xs : List V), vs = [.ref a] ∧ SqL K H a xs ∧ (∀ x ∈ xs, Ok x) ∧ xs.length ≤ 1000 ∧ ∀ p H', H p = none → Ex H H' → H' p = some (.lst ((intsOf xs).map V.int)) → Q (.ref p) H'
abbrev sp__integers (K : PySem.W.Frag) : Sp := spInts K
def sp__booleans (K : PySem.W.Frag) : Sp := fun vs H Q _ => ∃ (a : Addr) (xs : List V), vs = [.ref a] ∧ SqL K H a xs ∧ OkVs xs ∧ ∀ p H', H p = none → Ex H H' → H' p = some (.lst ((blsOf xs).map V.bl)) → Q (.ref p) H'
abbrev sp__count (K : PySem.W.Frag) : Sp := spVs countV K
abbrev sp__distinct (K : PySem.W.Frag) : Sp := spVs distV K
abbrev sp__sum (K : PySem.W.Frag) : Sp := spVs sumV K
abbrev sp__least (K : PySem.W.Frag) : Sp := spVs (endA false) K
abbrev sp__greatest (K : PySem.W.Frag) : Sp := spVs (endA true) K
def sp__average_decimal (K : PySem.W.Frag) : Sp := fun vs H Q _ => ∃ (a : Addr) (xs : List V), vs = [.ref a] ∧ SqL K H a xs ∧ (∀ x ∈ xs, Ok x) ∧ xs.length ≤ 60 ∧ (∀ i ∈ intsOf xs, -(2 ^ 100) ≤ i ∧ i ≤ 2 ^ 100) ∧ ∀ H', Ex H H' → Q (avgDV xs) H'
abbrev sp__average (K : PySem.W.Frag) : Sp := spVs avgV K
abbrev sp__every (K : PySem.W.Frag) : Sp := spVs everyV K
abbrev sp__some (K : PySem.W.Frag) : Sp := spVs someV K
noncomputable abbrev sp__list (K : PySem.W.Frag) : Sp := spVs listV K
theorem ints_ok (ns : List Int) : ∀ x ∈ ns.map V.int, Ok x := fun x hx => by
  obtain ⟨i, _, rfl⟩ := List.mem_map.mp hx
  exact .int i
section
variable {K : PySem.W.Frag} {σ : L2.St} {H : Hp} {ta tb tc te tk td tl : TE} {E : XK} {a : Addr} {xs : List V}
theorem el_known (ha : Ev ta σ H (.ref a)) (hS : SqL K H a xs) (hx : OkVs xs) : EvL (tCall (sp__known K) [] E (tCons ta tNil)) σ H (known xs) := fun H1 e Q q =>
  ha H1 e _ fun H2 e2 => ⟨a, xs, rfl, ex_l (e.trans e2) hS, hx, fun p H3 hp e3 h3 => q p H3 (fresh_back e2 hp) (e2.trans e3) h3⟩
theorem el_ints (ha : Ev ta σ H (.ref a)) (hS : SqL K H a xs) (hx : ∀ x ∈ xs, Ok x) (hl : xs.length ≤ 1000) : EvL (tCall (spInts K) [] E (tCons ta tNil)) σ H ((intsOf xs).map V.int) := fun H1 e Q q =>
  ha H1 e _ fun H2 e2 => ⟨a, xs, rfl, ex_l (e.trans e2) hS, hx, hl, fun p H3 hp e3 h3 => q p H3 (fresh_back e2 hp) (e2.trans e3) h3⟩
theorem el_bls (ha : Ev ta σ H (.ref a)) (hS : SqL K H a xs) (hx : OkVs xs) : EvL (tCall (sp__booleans K) [] E (tCons ta tNil)) σ H ((blsOf xs).map V.bl) := fun H1 e Q q =>
  ha H1 e _ fun H2 e2 => ⟨a, xs, rfl, ex_l (e.trans e2) hS, hx, fun p H3 hp e3 h3 => q p H3 (fresh_back e2 hp) (e2.trans e3) h3⟩
theorem et_truL {a : Addr} {xs : List V} (h : Ev te σ H (.ref a)) (hx : SqL K H a xs) : EvT (fun σ H Q => te σ H fun x H' => ∃ k, TruV K x H' k ∧ Q k H') σ H (!xs.isEmpty) := fun H1 e Q q => h H1 e _ fun H2 e2 => ⟨!xs.isEmpty, .inl ⟨xs, ex_l (e.trans e2) hx, rfl⟩, q H2 e2⟩
theorem ev_sumI {ns : List Int} (ha : Ev ta σ H (.ref a)) (hS : SqL K H a (ns.map V.int)) : Ev (tCB (rSum K) (tCons ta tNil)) σ H (.int ns.sum) := fun H1 e Q q => ha H1 e _ fun H2 e2 => ⟨a, ns, rfl, ex_l (e.trans e2) hS, q H2 e2⟩
theorem ev_sumN {ns : List Int} (ha : EvL ta σ H (ns.map V.int)) : Ev (tCB (rSum K) (tCons ta tNil)) σ H (.int ns.sum) := fun H1 e Q q => ha H1 e _ fun p H2 _ e2 h2 => ⟨p, ns, rfl, sq_of h2, q H2 e2⟩
theorem ev_allB {ns : List Bool} (ha : Ev ta σ H (.ref a)) (hS : SqL K H a (ns.map V.bl)) : Ev (tCB (rAll K) (tCons ta tNil)) σ H (.bl (ns.all id)) := fun H1 e Q q => ha H1 e _ fun H2 e2 => ⟨a, ns, rfl, ex_l (e.trans e2) hS, q H2 e2⟩
theorem ev_anyB {ns : List Bool} (ha : Ev ta σ H (.ref a)) (hS : SqL K H a (ns.map V.bl)) : Ev (tCB (rAny K) (tCons ta tNil)) σ H (.bl (ns.any id)) := fun H1 e Q q => ha H1 e _ fun H2 e2 => ⟨a, ns, rfl, ex_l (e.trans e2) hS, q H2 e2⟩
theorem ev_bestN {P : Program} {w : World} {mg : Str → Option Value} {base : Heap} {lv : Nat} (mx : Bool) {g : Addr} (h : EvL te σ H xs) (hk : ∀ H1, Ev tk σ H1 (.ref g)) (hd : ∀ H1, Ev td σ H1 .non) (hH : L2.Held P w K mg base lv g (sp_rank K)) (ho : ∀ x ∈ xs, Ok x) :
    Ev (tCKw (rBestF P w K mg base lv mx) (tCons te tNil) (tCons tk (tCons td tNil))) σ H (if xs.isEmpty = true then .non else bestV mx xs) := fun H1 e Q q =>
  h H1 e _ fun p H2 hp e2 h2 => hk H2 H2 (Ex.refl H2) _ fun H3 e3 => hd H3 H3 (Ex.refl H3) _ fun H4 e4 => ⟨p, g, xs, .non, rfl, rfl, sq_of ((e3.trans e4) _ _ h2), hH, ho, fun H5 e5 => q H5 (((e2.trans e3).trans e4).trans e5)⟩
/-- [f(x) for x in xs] -/
theorem el_lcY {a : Addr} {xs : List V} {j : Nat} {vs : List Nat} (f : Nat → V) (h : Ev tl σ H (.ref a)) (hx : SqL K H a xs) (hz : xs.length ≤ 40000) (hw : ∀ x, wipe ((wipe σ vs).set j (some x)) vs = wipe σ vs)
    (he : ∀ (i : Nat) (x : V) (H1 : Hp), Ex H H1 → xs[i]? = some x → Ev te ((wipe σ vs).set j (some x)) H1 (f i)) :
    EvL (tLc (iList K tl) (gName j) tYes te vs) σ H ((List.range xs.length).map f) := fun H0 e0 Q q => h H0 e0 _ fun H1 e1 => ⟨a, rfl, ⟨xs, ex_l (e0.trans e1) hx⟩, fun D hD =>
  lc_list (xs := xs) (fun i H' => H1 D = none ∧ Ex H1 H' ∧ H' D = some (.lst ((List.range i).map f))) ⟨hD, Ex.new hD, upd_same⟩ (fun i H' _ p => ex_l ((e0.trans e1).trans p.2.1) hx)
    (fun i x H' hi p => by
      obtain ⟨p1, p2, p3⟩ := p
      refine ⟨hw x, ?_⟩
      show te ((wipe σ vs).set j (some x)) H' fun y H4 => ∃ acc, H4 D = some (.lst acc) ∧ acc.length < sizeLine ∧ _
      refine he i x H' ((e0.trans e1).trans p2) hi H' (Ex.refl H') _ fun H4 e4 => ⟨_, e4 _ _ p3, sz_lt ?_, p1, Ex.mut (p2.trans e4) p1, by rw [upd_same, List.range_succ, List.map_append]; rfl⟩
      have := (List.getElem?_eq_some_iff.mp hi).1
      rw [List.length_map, List.length_range]
      omega)
    (fun H' p => q D H' (fresh_back e1 p.1) (e1.trans p.2.1) p.2.2)⟩
theorem lc_src {g : TG} {tt : TT} {vs : List Nat} {Q : VK} {G : Addr → Hp → Prop} (h : ∀ Q' : VK, (∀ p H2, G p H2 → Q' (.ref p) H2) → tl σ H Q') (k : ∀ p H2, G p H2 → tLc (iList K (tC (.ref p))) g tt te vs σ H2 Q) : tLc (iList K tl) g tt te vs σ H Q := h _ fun p H2 hp => k p H2 hp
theorem call1 {sp : Sp} {E : XK} {Q : VK} (h : te σ H fun x H1 => sp [x] H1 Q E) : tCall sp [] E (tCons te tNil) σ H Q := h
theorem range_mapI {α : Type} (f : Int → α) : ∀ ns : List Int, (List.range ns.length).map (fun i => f (ns.getD i 0)) = ns.map f := fun ns => by
  apply List.ext_getElem?
  intro i
  rw [List.getElem?_map, List.getElem?_map]
  by_cases h : i < ns.length
  · rw [List.getElem?_range h, List.getElem?_eq_getElem h]
    show some (f (ns.getD i 0)) = some (f ns[i])
    rw [List.getD_eq_getElem?_getD, List.getElem?_eq_getElem h]
    rfl
  · rw [List.getElem?_eq_none (by rw [List.length_range]; omega), List.getElem?_eq_none (by omega)]
    rfl
/-- {a key: True for x in a new list}, how many keys -/
theorem ev_distN {P : Program} {w : World} {j : Nat} {vs : List Nat} {tv : TE} (h : EvL tl σ H xs) (hz : xs.length ≤ 1000) (hw : ∀ x, wipe ((wipe σ vs).set j (some x)) vs = wipe σ vs)
    (hk : ∀ x H1, x ∈ xs → ∀ Q : VK, (∀ b H2, Ex H1 H2 → NKey H2 (rkN x) (.ref b) → Q (.ref b) H2) → tk ((wipe σ vs).set j (some x)) H1 Q) (hv : ∀ x H1, Ev tv ((wipe σ vs).set j (some x)) H1 (.bl true)) :
    Ev (tCB (fun xs H Q => ∃ d kvs, xs = [.ref d] ∧ NDict P w H d kvs ∧ kvs.length ≤ 100000 ∧ Q (.int (kvs.length : Nat)) H) (tCons (tDcN P w (iList K tl) (gName j) tYes tk tv vs) tNil)) σ H (.int ((distK xs).length : Int)) := fun H0 e0 Q q => h H0 e0 _ fun a H1 _ e1 h1 => ⟨a, rfl, ⟨xs, sq_of h1⟩, fun D hD => by
  have snoc : ∀ (i : Nat) (x : V), xs[i]? = some x → distK (xs.take (i + 1)) = putK (distK (xs.take i)) (rkN x) (.bl true) := fun i x hx => by
    unfold distK
    rw [List.take_add_one, hx, List.foldl_append]
    rfl
  refine ⟨fun i m H' => m = xs.length - i ∧ i ≤ xs.length ∧ Ex H1 H' ∧ NDict P w H' D (distK (xs.take i)) ∧ (distK (xs.take i)).length ≤ i, ⟨xs.length, ?_⟩, ?_⟩
  · rintro x rfl
    exact ⟨by omega, Nat.zero_le _, Ex.new hD, ⟨[], upd_same, fun x hx => (by cases hx), Paired.nil, Nat.zero_le _⟩, Nat.le_refl _⟩
  · rintro i m H' ⟨rfl, hi, x1, nd, hl⟩
    have hS : SqL K H' a xs := sq_of (x1 _ _ h1)
    by_cases hlt : i < xs.length
    · refine .inr ⟨⟨xs, xs[i], hS, by simp [hlt]⟩, fun H'' => i < xs.length ∧ Ex H1 H'' ∧ NDict P w H'' D (distK (xs.take (i + 1))) ∧ (distK (xs.take (i + 1))).length ≤ i + 1, fun H'' ⟨_, p1, p2⟩ => ⟨xs.length - (i + 1), by omega, rfl, hlt, p1, p2⟩, fun x H'' y => ?_⟩
      obtain ⟨e, y⟩ := y
      subst e
      have hxi := y xs hS
      refine ⟨hw x, ?_⟩
      show tk ((wipe σ vs).set j (some x)) _ fun y H4 => _
      refine hk x _ (List.mem_of_getElem? hxi) _ fun b H4 e4 nk => ?_
      refine hv x H4 H4 (Ex.refl H4) _ fun H5 e5 => ?_
      refine ⟨_, rkN x, b, rfl, nd.ex (e4.trans e5), nk.ex e5, by cases x <;> exact (by show 1 ≤ 8; decide), sz_lt (by omega), fun ys nd' => ⟨hlt, Ex.mut ((x1.trans e4).trans e5) hD, by rw [snoc i x hxi]; exact nd', ?_⟩⟩
      rw [snoc i x hxi]
      have := length_putK (distK (xs.take i)) (rkN x) (.bl true)
      omega
    · have e : i = xs.length := by omega
      subst e
      rw [List.take_length] at nd hl
      exact .inl ⟨⟨xs, hS, Nat.le_refl _⟩, D, _, rfl, nd, by omega, q H' (e1.trans x1)⟩⟩
end
section
variable {P : Program} {w : World} {K : PySem.W.Frag} {mg : Str → Option Value} {base : Heap}
theorem ok__known (D : Dn K mg "_known" s__known ["values"]) :
    C8.Cal P w K mg base 1 "_known" (sp__known K) [] := by
  refine cal_of D sc__known (fun vs H Q E h => ?_) (fun f cdv A outer s H vs Q E hr h => ?_)
  · obtain ⟨_, _, rfl, _⟩ := h
    rfl
  refine ⟨_, (pss_one (ps_ret (pe_lc (own := [("value", 1)]) (g := gName 1) rfl sc__known.nd (pi_list (pv 0)) (blkOk_by (N := n__known) (sc := C8.fnScope s__known) (by decide +kernel)) (fun _ _ _ _ _ => pg_name (i := 1) sc__known.nd rfl (Or.inl rfl)) (fun _ _ _ _ _ => (pts_one (pt_cmpR op_notN (pv 1) pe_non (nomark _)))) (fun _ _ _ _ _ => (pv 1))))), ?_⟩
  obtain ⟨a, xs, rfl, hS, hx, q⟩ := h
  have hz := hx.1
  refine s_retL (xs := known xs) ?_ fun p H1 hp e1 h1 => q p H1 hp e1 h1
  unfold known
  rw [← given_filter]
  refine el_lcL (K := K) _ _ (ev_var rfl) hS (by omega) (fun _ => rfl) (fun i x H1 e1 hi => ?_) (fun i x H1 e1 hi _ => ?_)
  · rw [getD_is hi]
    exact et_test (ev_op (ev_var rfl) ev_c rv_notN)
  · rw [getD_is hi]
    exact ev_var rfl
theorem ok__integers (D : Dn K mg "_integers" s__integers ["values"]) (c_is_integer : C8.Cal P w K mg base 1 "is_integer" (sp_is_integer K) []) :
    C8.Cal P w K mg base 2 "_integers" (sp__integers K) [] := by
  refine cal_of D sc__integers (fun vs H Q E h => ?_) (fun f cdv A outer s H vs Q E hr h => ?_)
  · obtain ⟨_, _, rfl, _⟩ := h
    rfl
  refine ⟨_, (pss_one (ps_ret (pe_lc (own := [("value", 1)]) (g := gName 1) rfl sc__integers.nd (pi_list (pv 0)) (blkOk_by (N := n__integers) (sc := C8.fnScope s__integers) (by decide +kernel)) (fun _ _ _ _ _ => pg_name (i := 1) sc__integers.nd rfl (Or.inl rfl)) (fun _ _ _ _ _ => (pts_one (pt_val (C8.pe_c c_is_integer hr (by decide) (by rfl) (pa_cons (pv 1) pa_nil))))) (fun _ _ _ _ _ => (pv 1))))), ?_⟩
  obtain ⟨a, xs, rfl, hS, hx, hz, q⟩ := h
  refine s_retL (xs := (intsOf xs).map V.int) ?_ fun p H1 hp e1 h1 => q p H1 hp e1 h1
  rw [← ints_filter, ← given_filter]
  refine el_lcL (K := K) _ _ (ev_var rfl) hS (by omega) (fun _ => rfl) (fun i x H1 e1 hi => ?_) (fun i x H1 e1 hi _ => ?_)
  · rw [getD_is hi]
    exact et_B (ec_isint0 (ev_var rfl) (hx x (List.mem_of_getElem? hi)).pl)
  · rw [getD_is hi]
    exact ev_var rfl
theorem ev_isBl {σ : L2.St} {H : Hp} {ta : TE} {x : V} (ha : Ev ta σ H x) (h : Ok x) : Ev (tCB (rIsi K) (tCons ta (tCons (tC (.ty "bool")) tNil))) σ H (.bl (isBl x)) := by
  cases h with
  | non => exact ev_isiP (b := false) ha .non (by show kitB "NoneType" "bool" = some false; decide +kernel)
  | bl b => exact ev_isiP (b := true) ha (.bl b) (by show kitB "bool" "bool" = some true; decide +kernel)
  | int i => exact ev_isiP (b := false) ha (.int i) (by show kitB "int" "bool" = some false; decide +kernel)
  | str s _ => exact ev_isiP (b := false) ha (.str s) (by show kitB "str" "bool" = some false; decide +kernel)
theorem ok__booleans (D : Dn K mg "_booleans" s__booleans ["values"]) (z_bool : mg "bool" = none) (z_isinstance : mg "isinstance" = none) :
    C8.Cal P w K mg base 1 "_booleans" (sp__booleans K) [] := by
  refine cal_of D sc__booleans (fun vs H Q E h => ?_) (fun f cdv A outer s H vs Q E hr h => ?_)
  · obtain ⟨_, _, rfl, _⟩ := h
    rfl
  refine ⟨_, (pss_one (ps_ret (pe_lc (own := [("value", 1)]) (g := gName 1) rfl sc__booleans.nd (pi_list (pv 0)) (blkOk_by (N := n__booleans) (sc := C8.fnScope s__booleans) (by decide +kernel)) (fun _ _ _ _ _ => pg_name (i := 1) sc__booleans.nd rfl (Or.inl rfl)) (fun _ _ _ _ _ => (pts_one (pt_val (pe_callB (call_isiK (K := K) rfl) (by rfl) z_isinstance (by decide +kernel) (pa_cons (pv 1) (pa_cons (pe_bltn (v := .ty "bool") (u := .type "bool") rfl z_bool (by decide +kernel) rfl) pa_nil)))))) (fun _ _ _ _ _ => (pv 1))))), ?_⟩
  obtain ⟨a, xs, rfl, hS, hx, q⟩ := h
  have hz := hx.1
  refine s_retL (xs := (blsOf xs).map V.bl) ?_ fun p H1 hp e1 h1 => q p H1 hp e1 h1
  rw [← bls_filter, ← given_filter]
  refine el_lcL (K := K) _ _ (ev_var rfl) hS (by omega) (fun _ => rfl) (fun i x H1 e1 hi => ?_) (fun i x H1 e1 hi _ => ?_)
  · rw [getD_is hi]
    exact et_B (ev_isBl (ev_var rfl) (hx.2 x (List.mem_of_getElem? hi)).1)
  · rw [getD_is hi]
    exact ev_var rfl
theorem ok__count (D : Dn K mg "_count" s__count ["values"]) (c__known : C8.Cal P w K mg base 1 "_known" (sp__known K) []) (z_len : mg "len" = none) :
    C8.Cal P w K mg base 2 "_count" (sp__count K) [] := by
  refine cal_of D sc__count (fun vs H Q E h => ?_) (fun f cdv A outer s H vs Q E hr h => ?_)
  · obtain ⟨_, _, rfl, _⟩ := h
    rfl
  refine ⟨_, (pss_one (ps_ret (pe_callB call_len_seq (by rfl) z_len PySem.boot_len (pa_cons (C8.pe_c c__known hr (by decide) (by rfl) (pa_cons (pv 0) pa_nil)) pa_nil)))), ?_⟩
  obtain ⟨a, xs, rfl, hS, hx, q⟩ := h
  exact s_ret (v := countV xs) (ev_lenN (el_known (ev_var rfl) hS hx)) fun H1 e1 => q H1 e1
theorem ok__distinct (D : Dn K mg "_distinct" s__distinct ["values"]) (c__known : C8.Cal P w K mg base 1 "_known" (sp__known K) []) (c_rank : C8.Cal P w K mg base 2 "rank" (sp_rank K) []) (z_len : mg "len" = none) :
    C8.Cal P w K mg base 3 "_distinct" (sp__distinct K) [] := by
  refine cal_of D sc__distinct (fun vs H Q E h => ?_) (fun f cdv A outer s H vs Q E hr h => ?_)
  · obtain ⟨_, _, rfl, _⟩ := h
    rfl
  refine ⟨_, (pss_one (ps_ret (pe_callB call_lenN (by rfl) z_len PySem.boot_len (pa_cons (pe_dcN (hu64 hr) (own := [("value", 1)]) (g := gName 1) (tt := tYes) rfl sc__distinct.nd (pi_list (C8.pe_c c__known hr (by decide) (by rfl) (pa_cons (pv 0) pa_nil))) (blkOk_by (N := n__distinct) (sc := C8.fnScope s__distinct) (by decide +kernel)) (fun _ _ _ _ _ => pg_name (i := 1) sc__distinct.nd rfl (Or.inl rfl)) (fun _ _ _ _ _ => pts_nil) (fun _ _ _ _ _ => (C8.pe_c c_rank hr (by decide) (by rfl) (pa_cons (pv 1) pa_nil))) (fun _ _ _ _ _ => pe_bl)) pa_nil)))), ?_⟩
  obtain ⟨a, xs, rfl, hS, hx, q⟩ := h
  have hz : (known xs).length ≤ 60 := Nat.le_trans (List.length_filter_le _ _) hx.1
  refine s_ret (v := distV xs) (ev_distN (K := K) (xs := known xs) (el_known (ev_var rfl) hS hx) (by omega) (fun _ => rfl) (fun x H1 hm Q k => ?_) fun x H1 => ev_c) fun H1 e1 => q H1 e1
  have ok := (hx.2 x (List.mem_filter.mp hm).1).1
  exact ek_rk (ec_rank (ev_var rfl) ok) ok H1 (Ex.refl H1) Q fun b H2 _ e2 nk => k b H2 e2 nk
theorem ok__sum (D : Dn K mg "_sum" s__sum ["values"]) (c__integers : C8.Cal P w K mg base 2 "_integers" (sp__integers K) []) (c_limited : C8.Cal P w K mg base 1 "limited" (sp_limited K) []) (z_sum : mg "sum" = none) :
    C8.Cal P w K mg base 3 "_sum" (sp__sum K) [] := by
  refine cal_of D sc__sum (fun vs H Q E h => ?_) (fun f cdv A outer s H vs Q E hr h => ?_)
  · obtain ⟨_, _, rfl, _⟩ := h
    rfl
  refine ⟨_, (pss_cons (ps_set (i := 1) sc__sum.nd rfl (.inl rfl) (C8.pe_c c__integers hr (by decide) (by rfl) (pa_cons (pv 0) pa_nil)))
    (pss_one (ps_ret (pe_ifExp (pt_truth (pv 1) (by intro _; rfl)) (C8.pe_c c_limited hr (by decide) (by rfl) (pa_cons (pe_callB (cr_sum rfl) (by rfl) z_sum (by decide +kernel) (pa_cons (pv 1) pa_nil)) pa_nil)) pe_non)))), ?_⟩
  obtain ⟨a, xs, rfl, hS, hx, q⟩ := h
  have hz := hx.1
  refine q_asgL (el_ints (ev_var rfl) hS (fun x hx2 => (hx.2 x hx2).1) (by omega)) fun p H1 hp e1 h1 => ?_
  refine s_ret (v := sumV xs) (ev_if (b := !((intsOf xs).map V.int).isEmpty) (et_truL (ev_var rfl) (sq_of h1)) (fun hb => ?_) fun hb => ?_) fun H2 e2 => q H2 (e1.trans e2)
  · refine ev_is (ec_lim (ev_sumI (ev_var rfl) (sq_of h1))) ?_
    unfold sumV
    rw [if_neg (by cases h9 : intsOf xs <;> rw [h9] at hb <;> simp at hb ⊢)]
  · refine ev_is ev_c ?_
    unfold sumV
    rw [if_pos (by cases h9 : intsOf xs <;> rw [h9] at hb <;> simp at hb ⊢)]
theorem ok__least (D : Dn K mg "_least" s__least ["values"]) (c__known : C8.Cal P w K mg base 1 "_known" (sp__known K) []) (c_rank : C8.Cal P w K mg base 2 "rank" (sp_rank K) []) (z_min : mg "min" = none) :
    C8.Cal P w K mg base 12 "_least" (sp__least K) [] := by
  refine cal_of D sc__least (fun vs H Q E h => ?_) (fun f cdv A outer s H vs Q E hr h => ?_)
  · obtain ⟨_, _, rfl, _⟩ := h
    rfl
  refine ⟨_, (pss_one (ps_ret (pe_callBK (cr_minF (lv := 8) rfl (hr.mono (by omega))) (by rfl) z_min (by decide +kernel) (pa_cons (C8.pe_c c__known hr (by decide) (by rfl) (pa_cons (pv 0) pa_nil)) pa_nil) (pk_cons (C8.pe_gc rfl (gdef c_rank)) (pk_cons pe_non pk_nil))))), ?_⟩
  obtain ⟨a, xs, rfl, hS, hx, q⟩ := h
  have hH : L2.Held P w K mg base 8 (calA c_rank) (sp_rank K) := held_of c_rank (calA_mg _) (by decide)
  exact s_ret (v := endA false xs) (ev_bestN (lv := 8) false (el_known (ev_var rfl) hS hx) (fun _ => ev_c) (fun _ => ev_c) hH fun x hm => (hx.2 x (List.mem_filter.mp hm).1).1) fun H1 e1 => q H1 e1
theorem ok__greatest (D : Dn K mg "_greatest" s__greatest ["values"]) (c__known : C8.Cal P w K mg base 1 "_known" (sp__known K) []) (c_rank : C8.Cal P w K mg base 2 "rank" (sp_rank K) []) (z_max : mg "max" = none) :
    C8.Cal P w K mg base 12 "_greatest" (sp__greatest K) [] := by
  refine cal_of D sc__greatest (fun vs H Q E h => ?_) (fun f cdv A outer s H vs Q E hr h => ?_)
  · obtain ⟨_, _, rfl, _⟩ := h
    rfl
  refine ⟨_, (pss_one (ps_ret (pe_callBK (cr_maxF (lv := 8) rfl (hr.mono (by omega))) (by rfl) z_max (by decide +kernel) (pa_cons (C8.pe_c c__known hr (by decide) (by rfl) (pa_cons (pv 0) pa_nil)) pa_nil) (pk_cons (C8.pe_gc rfl (gdef c_rank)) (pk_cons pe_non pk_nil))))), ?_⟩
  obtain ⟨a, xs, rfl, hS, hx, q⟩ := h
  have hH : L2.Held P w K mg base 8 (calA c_rank) (sp_rank K) := held_of c_rank (calA_mg _) (by decide)
  exact s_ret (v := endA true xs) (ev_bestN (lv := 8) true (el_known (ev_var rfl) hS hx) (fun _ => ev_c) (fun _ => ev_c) hH fun x hm => (hx.2 x (List.mem_filter.mp hm).1).1) fun H1 e1 => q H1 e1
theorem ok__average_decimal (D : Dn K mg "_average_decimal" s__average_decimal ["values"]) (c__integers : C8.Cal P w K mg base 2 "_integers" (sp__integers K) []) (c_limited : C8.Cal P w K mg base 1 "limited" (sp_limited K) []) (c_rounded : C8.Cal P w K mg base 1 "rounded" (sp_rounded K) []) (z_len : mg "len" = none) (z_sum : mg "sum" = none) :
    C8.Cal P w K mg base 3 "_average_decimal" (sp__average_decimal K) [] := by
  refine cal_of D sc__average_decimal (fun vs H Q E h => ?_) (fun f cdv A outer s H vs Q E hr h => ?_)
  · obtain ⟨_, _, rfl, _⟩ := h
    rfl
  refine ⟨_, (pss_cons (ps_set (i := 1) sc__average_decimal.nd rfl (.inl rfl) (C8.pe_c c__integers hr (by decide) (by rfl) (pa_cons (pv 0) pa_nil)))
    (pss_one (ps_ret (pe_ifExp (pt_truth (pv 1) (by intro _; rfl)) (C8.pe_c c_limited hr (by decide) (by rfl) (pa_cons (C8.pe_c c_rounded hr (by decide) (by rfl) (pa_cons (pe_callB (cr_sum rfl) (by rfl) z_sum (by decide +kernel) (pa_cons (pv 1) pa_nil)) (pa_cons (pe_callB call_len_seq (by rfl) z_len PySem.boot_len (pa_cons (pv 1) pa_nil)) pa_nil))) pa_nil)) pe_non)))), ?_⟩
  obtain ⟨a, xs, rfl, hS, hx, hz, hb, q⟩ := h
  refine q_asgL (el_ints (ev_var rfl) hS hx (by omega)) fun p H1 hp e1 h1 => ?_
  have hlen : ((intsOf xs).map V.int).length = (intsOf xs).length := List.length_map ..
  refine s_ret (v := avgDV xs) (ev_if (b := !((intsOf xs).map V.int).isEmpty) (et_truL (ev_var rfl) (sq_of h1)) (fun hb2 => ?_) fun hb2 => ?_) fun H2 e2 => q H2 (e1.trans e2)
  · have hpos : 0 < (intsOf xs).length := by cases h9 : intsOf xs <;> rw [h9] at hb2 <;> simp at hb2 ⊢
    have hl2 := ints_len xs
    have hs := sum_bd (B := 2 ^ 100) (by decide) hb
    have hB : (2 ^ 100 : Int) * ((intsOf xs).length : Int) ≤ 2 ^ 100 * 60 := Int.mul_le_mul_of_nonneg_left (by omega) (by decide)
    refine ev_is (ec_lim (ec_rounded (n := (intsOf xs).sum) (d := ((intsOf xs).length : Int)) ⟨by omega, by omega, by omega, by omega, by omega⟩ (ev_sumI (ev_var rfl) (sq_of h1)) (ev_is (ev_len (ev_var rfl) (sq_of h1)) (by rw [hlen])))) ?_
    unfold avgDV avgD
    rw [if_neg (by cases h9 : intsOf xs <;> rw [h9] at hb2 <;> simp at hb2 ⊢)]
  · refine ev_is ev_c ?_
    unfold avgDV avgD
    rw [if_pos (by cases h9 : intsOf xs <;> rw [h9] at hb2 <;> simp at hb2 ⊢)]
theorem ok__average (D : Dn K mg "_average" s__average ["values"]) (c__average_decimal : C8.Cal P w K mg base 3 "_average_decimal" (sp__average_decimal K) []) (c__integers : C8.Cal P w K mg base 2 "_integers" (sp__integers K) []) (g_SCALE_aggregates : ∃ u, mg "SCALE_aggregates" = some u ∧ RelV (.int (10000)) u) :
    C8.Cal P w K mg base 4 "_average" (sp__average K) [] := by
  refine cal_of D sc__average (fun vs H Q E h => ?_) (fun f cdv A outer s H vs Q E hr h => ?_)
  · obtain ⟨_, _, rfl, _⟩ := h
    rfl
  refine ⟨_, (pss_one (ps_ret (C8.pe_c c__average_decimal hr (by decide) (by rfl) (pa_cons (pe_lc (own := [("value", 1)]) (g := gName 1) (tt := tYes) rfl sc__average.nd (pi_list (C8.pe_c c__integers hr (by decide) (by rfl) (pa_cons (pv 0) pa_nil))) (blkOk_by (N := n__average) (sc := C8.fnScope s__average) (by decide +kernel)) (fun _ _ _ _ _ => pg_name (i := 1) sc__average.nd rfl (Or.inl rfl)) (fun _ _ _ _ _ => pts_nil) (fun _ _ _ _ _ => (pe_op op_mul (C8.pe_gc rfl g_SCALE_aggregates) (pv 1)))) pa_nil)))), ?_⟩
  obtain ⟨a, xs, rfl, hS, hx, q⟩ := h
  have hz := hx.1
  have hl2 := ints_len xs
  have hok : ∀ x ∈ xs, Ok x := fun x hx2 => (hx.2 x hx2).1
  have hbd : ∀ i ∈ intsOf xs, -1152921504606846976 ≤ i ∧ i ≤ 1152921504606846976 := fun i hi => (hx.2 _ (ints_mem hi)).2
  refine call1 (lc_src (G := fun p H2 => Ex H H2 ∧ H2 p = some (.lst ((intsOf xs).map V.int))) (fun Q' k' => el_ints (ev_var rfl) hS hok (by omega) H (Ex.refl H) _ fun p H2 hp e2 h2 => k' p H2 ⟨e2, h2⟩) fun p H2 hG => ?_)
  obtain ⟨e2, h2⟩ := hG
  have hlen : ((intsOf xs).map V.int).length = (intsOf xs).length := List.length_map ..
  refine el_lcY (K := K) (fun i => .int (10000 * (intsOf xs).getD i 0)) ev_c (sq_of h2) (by omega) (fun _ => rfl) (fun i x H3 e3 hi => ?_) H2 (Ex.refl H2) _ fun r H3 hr e3 h3 => ?_
  · rw [List.getElem?_map] at hi
    cases h9 : (intsOf xs)[i]? with
    | none => rw [h9] at hi; cases hi
    | some n =>
      rw [h9] at hi
      obtain rfl := Option.some.inj hi
      rw [List.getD_eq_getElem?_getD, h9]
      exact ev_op ev_c (ev_var rfl) (rv_I (.inl ⟨by decide, by decide⟩))
  · rw [hlen, range_mapI (fun n => V.int (10000 * n))] at h3
    have e9 : intsOf ((intsOf xs).map fun n => V.int (10000 * n)) = (intsOf xs).map fun n => 10000 * n := ints_map (fun n => 10000 * n) _
    refine ⟨r, _, rfl, sq_of h3, fun x hx2 => ?_, by rw [List.length_map]; omega, fun i hi => ?_, fun H4 e4 => ?_⟩
    · obtain ⟨i, _, rfl⟩ := List.mem_map.mp hx2
      exact .int _
    · rw [e9] at hi
      obtain ⟨n, hn, rfl⟩ := List.mem_map.mp hi
      have := hbd n hn
      omega
    · have := q H4 ((e2.trans e3).trans e4)
      unfold avgDV
      rw [e9]
      exact this
theorem ok__every (D : Dn K mg "_every" s__every ["values"]) (c__booleans : C8.Cal P w K mg base 1 "_booleans" (sp__booleans K) []) (z_all : mg "all" = none) :
    C8.Cal P w K mg base 2 "_every" (sp__every K) [] := by
  refine cal_of D sc__every (fun vs H Q E h => ?_) (fun f cdv A outer s H vs Q E hr h => ?_)
  · obtain ⟨_, _, rfl, _⟩ := h
    rfl
  refine ⟨_, (pss_cons (ps_set (i := 1) sc__every.nd rfl (.inl rfl) (C8.pe_c c__booleans hr (by decide) (by rfl) (pa_cons (pv 0) pa_nil)))
    (pss_one (ps_ret (pe_ifExp (pt_truth (pv 1) (by intro _; rfl)) (pe_callB (cr_all rfl) (by rfl) z_all (by decide +kernel) (pa_cons (pv 1) pa_nil)) pe_non)))), ?_⟩
  obtain ⟨a, xs, rfl, hS, hx, q⟩ := h
  refine q_asgL (el_bls (ev_var rfl) hS hx) fun p H1 hp e1 h1 => ?_
  refine s_ret (v := everyV xs) (ev_if (b := !((blsOf xs).map V.bl).isEmpty) (et_truL (ev_var rfl) (sq_of h1)) (fun hb => ?_) fun hb => ?_) fun H2 e2 => q H2 (e1.trans e2)
  · refine ev_is (ev_allB (ev_var rfl) (sq_of h1)) ?_
    unfold everyV
    rw [if_neg (by cases h9 : blsOf xs <;> rw [h9] at hb <;> simp at hb ⊢)]
  · refine ev_is ev_c ?_
    unfold everyV
    rw [if_pos (by cases h9 : blsOf xs <;> rw [h9] at hb <;> simp at hb ⊢)]
theorem ok__some (D : Dn K mg "_some" s__some ["values"]) (c__booleans : C8.Cal P w K mg base 1 "_booleans" (sp__booleans K) []) (z_any : mg "any" = none) :
    C8.Cal P w K mg base 2 "_some" (sp__some K) [] := by
  refine cal_of D sc__some (fun vs H Q E h => ?_) (fun f cdv A outer s H vs Q E hr h => ?_)
  · obtain ⟨_, _, rfl, _⟩ := h
    rfl
  refine ⟨_, (pss_cons (ps_set (i := 1) sc__some.nd rfl (.inl rfl) (C8.pe_c c__booleans hr (by decide) (by rfl) (pa_cons (pv 0) pa_nil)))
    (pss_one (ps_ret (pe_ifExp (pt_truth (pv 1) (by intro _; rfl)) (pe_callB (cr_any rfl) (by rfl) z_any (by decide +kernel) (pa_cons (pv 1) pa_nil)) pe_non)))), ?_⟩
  obtain ⟨a, xs, rfl, hS, hx, q⟩ := h
  refine q_asgL (el_bls (ev_var rfl) hS hx) fun p H1 hp e1 h1 => ?_
  refine s_ret (v := someV xs) (ev_if (b := !((blsOf xs).map V.bl).isEmpty) (et_truL (ev_var rfl) (sq_of h1)) (fun hb => ?_) fun hb => ?_) fun H2 e2 => q H2 (e1.trans e2)
  · refine ev_is (ev_anyB (ev_var rfl) (sq_of h1)) ?_
    unfold someV
    rw [if_neg (by cases h9 : blsOf xs <;> rw [h9] at hb <;> simp at hb ⊢)]
  · refine ev_is ev_c ?_
    unfold someV
    rw [if_pos (by cases h9 : blsOf xs <;> rw [h9] at hb <;> simp at hb ⊢)]
end

--@SPLIT
/-! ### the list of texts; a value over rows -/
theorem len_commaS : (PySem.Str.ofString ", ").length = 2 := by decide +kernel
theorem sum_lens {B : Nat} : ∀ {ys : List Str}, (∀ y ∈ ys, y.length ≤ B) → (ys.map (·.length)).sum ≤ B * ys.length
  | [], _ => by simp
  | y :: r, h => by
    have h1 := h y List.mem_cons_self
    have h2 := sum_lens fun z hz => h z (List.mem_cons_of_mem _ hz)
    rw [List.map_cons, List.sum_cons, List.length_cons, Nat.mul_add]
    omega
theorem sum_cast : ∀ ys : List Str, (ys.map fun s => (s.length : Int)).sum = (((ys.map (·.length)).sum : Nat) : Int)
  | [] => rfl
  | y :: r => by
    rw [List.map_cons, List.sum_cons, sum_cast r, List.map_cons, List.sum_cons, Int.natCast_add]
theorem range_mapS {α : Type} (f : Str → α) : ∀ ys : List Str, (List.range ys.length).map (fun i => f (ys.getD i ⟨#[]⟩)) = ys.map f := fun ys => by
  apply List.ext_getElem?
  intro i
  rw [List.getElem?_map, List.getElem?_map]
  by_cases h : i < ys.length
  · rw [List.getElem?_range h, List.getElem?_eq_getElem h]
    show some (f (ys.getD i ⟨#[]⟩)) = some (f ys[i])
    rw [List.getD_eq_getElem?_getD, List.getElem?_eq_getElem h]
    rfl
  · rw [List.getElem?_eq_none (by rw [List.length_range]; omega), List.getElem?_eq_none (by omega)]
    rfl
theorem sortS_perm (xs : List Str) : (sortS xs).Perm xs ∨ sortS xs = [] := by
  unfold sortS
  split
  · rename_i h
    exact .inl h.choose_spec.1
  · exact .inr rfl
section
variable {K : PySem.W.Frag} {σ : L2.St} {H : Hp} {ta tb te : TE} {D : Ends} {tz : TS}
theorem q_sortS {i : Nat} {zs : List Str} (h : EvL te σ H (zs.map V.str)) (hz : zs.length < 64) (k : ∀ p H1, H p = none → Ex H H1 → (sortS zs).Perm zs → H1 p = some (.lst ((sortS zs).map V.str)) → tz D (σ.set i (some (.ref p))) H1) :
    tSeq (tAsg (tCB (rSortedS K) (tCons te tNil)) (gName i)) tz D σ H := h H (Ex.refl H) _ fun p H1 hp e1 h1 => ⟨p, zs, rfl, sq_of h1, hz, fun ys r hP hs hr => by
  have e := sortS_is hP (sorted_pairS hs)
  subst e
  exact k r _ (fresh_back e1 hr) (e1.trans (Ex.new hr)) hP upd_same⟩
theorem ev_joinStr {a : Str} {ys : List Str} {p : Addr} (ha : Ev ta σ H (.str a)) (hb : Ev tb σ H (.ref p)) (hp : SqL K H p (ys.map V.str)) (hz : (ys.map (·.length)).sum + ys.length * a.length ≤ 16777216) :
    Ev (tM1 (fun x xs H Q => ∃ a p, ∃ ys : List Str, x = .str a ∧ xs = [.ref p] ∧ (SqL K H p (ys.map V.str) ∨ SqT K H p (ys.map V.str)) ∧
      (ys.map (·.length)).sum + ys.length * a.length ≤ 16777216 ∧ Q (.str (Txt.join a ys)) H) ta tb) σ H (.str (Txt.join a ys)) := fun H1 e Q q =>
  ha H1 e _ fun H2 e2 => ⟨⟨_, rfl⟩, hb H2 (e.trans e2) _ fun H3 e3 => ⟨a, p, ys, rfl, rfl, .inl (ex_l ((e.trans e2).trans e3) hp), hz, q H3 (e2.trans e3)⟩⟩
end
/-! values of rows -/
def aggNames : List Str := ["count", "distinct", "sum", "min", "max", "average", "average decimal", "every", "some", "list"]
noncomputable def aggV (nm : Str) (xs : List V) : V :=
  if nm = "count" then countV xs else if nm = "distinct" then distV xs else if nm = "sum" then sumV xs else if nm = "min" then endA false xs else if nm = "max" then endA true xs
  else if nm = "average" then avgV xs else if nm = "average decimal" then avgDV xs else if nm = "every" then everyV xs else if nm = "some" then someV xs else listV xs
theorem agg_0 : aggV "count" = countV := by
  funext xs
  unfold aggV
  rw [if_pos (by decide +kernel)]
theorem agg_1 : aggV "distinct" = distV := by
  funext xs
  unfold aggV
  rw [if_neg (by decide +kernel), if_pos (by decide +kernel)]
theorem agg_2 : aggV "sum" = sumV := by
  funext xs
  unfold aggV
  rw [if_neg (by decide +kernel), if_neg (by decide +kernel), if_pos (by decide +kernel)]
theorem agg_3 : aggV "min" = endA false := by
  funext xs
  unfold aggV
  rw [if_neg (by decide +kernel), if_neg (by decide +kernel), if_neg (by decide +kernel), if_pos (by decide +kernel)]
theorem agg_4 : aggV "max" = endA true := by
  funext xs
  unfold aggV
  rw [if_neg (by decide +kernel), if_neg (by decide +kernel), if_neg (by decide +kernel), if_neg (by decide +kernel), if_pos (by decide +kernel)]
theorem agg_5 : aggV "average" = avgV := by
  funext xs
  unfold aggV
  rw [if_neg (by decide +kernel), if_neg (by decide +kernel), if_neg (by decide +kernel), if_neg (by decide +kernel), if_neg (by decide +kernel), if_pos (by decide +kernel)]
theorem agg_6 : aggV "average decimal" = avgDV := by
  funext xs
  unfold aggV
  rw [if_neg (by decide +kernel), if_neg (by decide +kernel), if_neg (by decide +kernel), if_neg (by decide +kernel), if_neg (by decide +kernel), if_neg (by decide +kernel), if_pos (by decide +kernel)]
theorem agg_7 : aggV "every" = everyV := by
  funext xs
  unfold aggV
  rw [if_neg (by decide +kernel), if_neg (by decide +kernel), if_neg (by decide +kernel), if_neg (by decide +kernel), if_neg (by decide +kernel), if_neg (by decide +kernel), if_neg (by decide +kernel), if_pos (by decide +kernel)]
theorem agg_8 : aggV "some" = someV := by
  funext xs
  unfold aggV
  rw [if_neg (by decide +kernel), if_neg (by decide +kernel), if_neg (by decide +kernel), if_neg (by decide +kernel), if_neg (by decide +kernel), if_neg (by decide +kernel), if_neg (by decide +kernel), if_neg (by decide +kernel), if_pos (by decide +kernel)]
theorem agg_9 : aggV "list" = listV := by
  funext xs
  unfold aggV
  rw [if_neg (by decide +kernel), if_neg (by decide +kernel), if_neg (by decide +kernel), if_neg (by decide +kernel), if_neg (by decide +kernel), if_neg (by decide +kernel), if_neg (by decide +kernel), if_neg (by decide +kernel), if_neg (by decide +kernel)]
theorem avgD_imp {K : PySem.W.Frag} : ∀ vs H Q E, spVs avgDV K vs H Q E → sp__average_decimal K vs H Q E := fun vs H Q E ⟨a, xs, e, hS, hx, q⟩ => ⟨a, xs, e, hS, fun x h => (hx.2 x h).1, hx.1, fun i hi => by
  have h := (hx.2 _ (ints_mem hi)).2
  have h1 : -1152921504606846976 ≤ i ∧ i ≤ 1152921504606846976 := h
  exact ⟨by omega, by omega⟩, q⟩
inductive Ag where
  | rows
  | of (nm : Str) (e : Cnd)
def Ag.d : Ag → PyData
  | .rows => .tuple [.str "rows", .none]
  | .of nm e => .tuple [.str nm, e.d]
inductive Ag.ok : Ag → Prop where
  | rows : Ag.ok .rows
  | of (nm : Str) (e : Cnd) (w : Nat) (h : nm ∈ aggNames) (he : e.ok w) (hd : e.dep ≤ 8) : Ag.ok (.of nm e)
noncomputable def agV (g : Ag) (L : List (List V)) : V := match g with
  | .rows => .int (L.length : Int)
  | .of nm e => aggV nm (L.map fun r => evE r e)
def OkRB (r : List V) : Prop := r.length ≤ 1000 ∧ ∀ x ∈ r, Ok x ∧ bdV x
def OkRs (L : List (List V)) : Prop := L.length ≤ 60 ∧ ∀ r ∈ L, OkRB r
theorem OkRs.vs {L : List (List V)} (h : OkRs L) {e : Cnd} {w : Nat} (he : e.ok w) : OkVs (L.map fun r => evE r e) := ⟨by rw [List.length_map]; exact h.1, fun x hx => by
  obtain ⟨r, hr, rfl⟩ := List.mem_map.mp hx
  have h2 := (h.2 r hr).2
  exact ⟨ev_ok (fun x hx => (h2 x hx).1) he, bd_ev (fun x hx => (h2 x hx).1) (fun x hx => (h2 x hx).2) he⟩⟩
noncomputable def sp_aggregate (K : PySem.W.Frag) : Sp := fun vs H Q _ => ∃ (v : V) (r : Addr) (g : Ag) (L : List (List V)), vs = [v, .ref r] ∧ Dp K H v g.d ∧ g.ok ∧ Lst2 RowAt H r L ∧ OkRs L ∧ ∀ H', Ex H H' → Q (agV g L) H'
theorem al_getB {H : Hp} {qs : List Addr} {L : List (List V)} {i : Nat} {x : V} (h : Al2 RowAt H qs L) (hi : (qs.map V.ref)[i]? = some x) : ∃ b xs, x = .ref b ∧ H b = some (.lst xs) ∧ L[i]? = some xs ∧ qs[i]? = some b := by
  rw [List.getElem?_map] at hi
  cases e : qs[i]? with
  | none => rw [e] at hi; cases hi
  | some b =>
    rw [e] at hi
    obtain rfl := Option.some.inj hi
    have hl : i < L.length := by rw [← h.1]; exact (List.getElem?_eq_some_iff.mp e).1
    exact ⟨b, L[i], rfl, h.2 i b _ e (List.getElem?_eq_getElem hl), List.getElem?_eq_getElem hl, rfl⟩
theorem map_getD {α : Type} (g : List V → α) : ∀ L : List (List V), (List.range L.length).map (fun i => g (L.getD i [])) = L.map g := fun L => by
  apply List.ext_getElem?
  intro i
  rw [List.getElem?_map, List.getElem?_map]
  by_cases h : i < L.length
  · rw [List.getElem?_range h, List.getElem?_eq_getElem h]
    show some (g (L.getD i [])) = some (g L[i])
    rw [List.getD_eq_getElem?_getD, List.getElem?_eq_getElem h]
    rfl
  · rw [List.getElem?_eq_none (by rw [List.length_range]; omega), List.getElem?_eq_none (by omega)]
    rfl
section
variable {P : Program} {w : World} {K : PySem.W.Frag} {mg : Str → Option Value} {base : Heap}
/-- [evaluate(e, row) for row in rows] -/
theorem el_evals {σ : L2.St} {H : Hp} {tl tx : TE} {E : XK} {r : Addr} {v : V} {e : Cnd} {wd : Nat} {L : List (List V)} {j : Nat} {vs : List Nat} (h : Ev tl σ H (.ref r)) (hL : Lst2 RowAt H r L) (ok : OkRs L) (hd : Dp K H v e.d) (he : e.ok wd) (hdep : e.dep ≤ 8) (hw : ∀ x, wipe ((wipe σ vs).set j (some x)) vs = wipe σ vs)
    (hx : ∀ x H1, Ev tx ((wipe σ vs).set j (some x)) H1 v) (hj : ∀ x, ((wipe σ vs).set j (some x))[j]? = some (some x)) :
    EvL (tLc (iList K tl) (gName j) tYes (tCall (sp_evaluate K) [] E (tCons tx (tCons (tVar j) tNil))) vs) σ H (L.map fun r => evE r e) := by
  obtain ⟨qs, h1, h2⟩ := hL
  have hl : (qs.map V.ref).length = L.length := by rw [List.length_map, h2.1]
  have hz := ok.1
  have q := el_lcY (K := K) (te := tCall (sp_evaluate K) [] E (tCons tx (tCons (tVar j) tNil))) (fun i => evE (L.getD i []) e) h (sq_of h1) (by omega) hw fun i x H1 e1 hi => by
    obtain ⟨b, xs, rfl, hb, hxs, _⟩ := al_getB h2 hi
    have hr := ok.2 xs (List.mem_of_getElem? hxs)
    rw [List.getD_eq_getElem?_getD, hxs]
    exact ec_eval (hx _ _) (ev_var (hj _)) ⟨ex_dp e1 hd, hdep, wd, he⟩ (sq_of (e1 _ _ hb)) (fun x hx => (hr.2 x hx).1) hr.1
  rw [hl, map_getD (fun r => evE r e)] at q
  exact q
theorem ok__list (D : Dn K mg "_list" s__list ["values"]) (z_isinstance : mg "isinstance" = none) (z_len : mg "len" = none) (z_sorted : mg "sorted" = none) (z_str : mg "str" = none) (z_sum : mg "sum" = none) (g_MOST : ∃ u, mg "MOST" = some u ∧ RelV (.int (10000)) u) :
    C8.Cal P w K mg base 1 "_list" (sp__list K) [] := by
  refine cal_of D sc__list (fun vs H Q E h => ?_) (fun f cdv A outer s H vs Q E hr h => ?_)
  · obtain ⟨_, _, rfl, _⟩ := h
    rfl
  refine ⟨_, (pss_cons (ps_set (i := 1) sc__list.nd rfl (.inl rfl) (pe_callB cr_sortedS (by rfl) z_sorted (by decide +kernel) (pa_cons (pe_lc (own := [("value", 3)]) (g := gName 3) rfl sc__list.nd (pi_list (pv 0)) (blkOk_by (N := n__list) (sc := C8.fnScope s__list) (by decide +kernel)) (fun _ _ _ _ _ => pg_name (i := 3) sc__list.nd rfl (Or.inl rfl)) (fun _ _ _ _ _ => (pts_one (pt_val (pe_callB (call_isiK (K := K) rfl) (by rfl) z_isinstance (by decide +kernel) (pa_cons (pv 3) (pa_cons (pe_bltn (v := .ty "str") (u := .type "str") rfl z_str (by decide +kernel) rfl) pa_nil)))))) (fun _ _ _ _ _ => (pv 3))) pa_nil)))
    (pss_cons (ps_set (i := 2) sc__list.nd rfl (.inl rfl) (pe_op op_add (pe_callB (cr_sum rfl) (by rfl) z_sum (by decide +kernel) (pa_cons (pe_lc (own := [("string", 4)]) (g := gName 4) (tt := tYes) rfl sc__list.nd (pi_list (pv 1)) (blkOk_by (N := n__list) (sc := C8.fnScope s__list) (by decide +kernel)) (fun _ _ _ _ _ => pg_name (i := 4) sc__list.nd rfl (Or.inl rfl)) (fun _ _ _ _ _ => pts_nil) (fun _ _ _ _ _ => (pe_callB call_len_str (by rfl) z_len PySem.boot_len (pa_cons (pv 4) pa_nil)))) pa_nil)) (pe_op op_mul pe_int (pe_op op_sub (pe_callB call_len_seq (by rfl) z_len PySem.boot_len (pa_cons (pv 1) pa_nil)) pe_int))))
    (pss_cons (ps_if (PW.pt (pw_or (pt_not (pt_truth (pv 1) (by intro _; rfl))) (pw_or1 (pt_cmpR op_gt (pv 2) (C8.pe_gc rfl g_MOST) (nomark _)))))
      (pss_one (ps_ret pe_non))
      pss_nil)
    (pss_one (ps_ret (pe_join pe_str (pv 1))))))), ?_⟩
  obtain ⟨a, xs, rfl, hS, hx, q⟩ := h
  have hz := hx.1
  have hsl := strs_len xs
  refine q_sortS (zs := strsOf xs) ?_ (by omega) fun p H1 hp e1 hP h1 => ?_
  · rw [← strs_filter, ← given_filter]
    refine el_lcL (K := K) _ _ (ev_var rfl) hS (by omega) (fun _ => rfl) (fun i x H1 e1 hi => ?_) (fun i x H1 e1 hi _ => ?_)
    · rw [getD_is hi]
      exact et_B (ev_isStr (ev_var rfl) (hx.2 x (List.mem_of_getElem? hi)).1)
    · rw [getD_is hi]
      exact ev_var rfl
  have hlen : ∀ y ∈ sortS (strsOf xs), y.length ≤ 10000 := fun y hy => by
    have := (hx.2 _ (strs_mem (hP.mem_iff.mp hy))).1
    cases this with
    | str s hs => exact hs.2
  have hpl := hP.length_eq
  have hsum := sum_lens hlen
  have e9 : listV xs = if sortS (strsOf xs) = [] ∨ 10000 < lenS (sortS (strsOf xs)) then .non else .str (joinS (sortS (strsOf xs))) := rfl
  generalize sortS (strsOf xs) = ys at h1 hlen hpl hsum e9
  have hyl : (ys.map V.str).length = ys.length := List.length_map ..
  have elens : EvL (tLc (iList K (tVar 1)) (gName 4) tYes (tCB (fun xs H Q => ∃ z, xs = [.str z] ∧ z.length ≤ sizeLine ∧ Q (.int z.length) H) (tCons (tVar 4) tNil)) [4]) [some (.ref a), some (.ref p), none, none, none] H1 ((ys.map fun s => (s.length : Int)).map V.int) := by
    have q := el_lcY (K := K) (H := H1) (σ := [some (.ref a), some (.ref p), none, none, none]) (tl := tVar 1) (j := 4) (vs := [4]) (te := tCB (fun xs H Q => ∃ z, xs = [.str z] ∧ z.length ≤ sizeLine ∧ Q (.int z.length) H) (tCons (tVar 4) tNil)) (fun i => V.int ((ys.getD i ⟨#[]⟩).length : Int)) (ev_var rfl) (sq_of h1) (by omega) (fun _ => rfl) fun i x H2 e2 hi => by
      rw [List.getElem?_map] at hi
      cases h9 : ys[i]? with
      | none => rw [h9] at hi; cases hi
      | some s =>
        rw [h9] at hi
        obtain rfl := Option.some.inj hi
        rw [List.getD_eq_getElem?_getD, h9]
        show Ev _ _ _ (V.int (s.length : Int))
        exact ev_lenS (ev_var rfl) (by have := hlen s (List.mem_of_getElem? h9); omega)
    rw [hyl, range_mapS (fun s => V.int (s.length : Int))] at q
    rw [List.map_map]
    exact q
  refine q_asg (v := .int (lenS ys)) (ev_is (ev_op (ev_sumN elens) (ev_op ev_c (ev_op (ev_len (ev_var rfl) (sq_of h1)) ev_c rv_I0) (rv_I (.inl ⟨by decide, by decide⟩))) rv_I0) (by rw [sum_cast, hyl]; rfl)) fun H2 e2 => ?_
  refine q_when (b := !(!(ys.map V.str).isEmpty) || decide (lenS ys > 10000)) (et_or (et_not (et_truL (ev_var rfl) (sq_of (e2 _ _ h1)))) fun _ => et_test (ev_op (ev_var rfl) ev_c rv_I0)) (fun hb H3 e3 => s_ret (v := listV xs) (ev_is ev_c ?_) fun H4 e4 => q H4 (((e1.trans e2).trans e3).trans e4)) fun hb H3 e3 => s_ret (v := listV xs) ?_ fun H4 e4 => q H4 (((e1.trans e2).trans e3).trans e4)
  · rw [e9, if_pos]
    rw [Bool.or_eq_true, decide_eq_true_eq] at hb
    rcases hb with hb | hb
    · left; cases ys with
      | nil => rfl
      | cons y r => simp at hb
    · exact .inr hb
  · rw [Bool.or_eq_false_iff, decide_eq_false_iff_not] at hb
    have hn : ¬ (ys = [] ∨ 10000 < lenS ys) := fun z => by
      rcases z with z | z
      · subst z; simp at hb
      · exact hb.2 z
    rw [e9, if_neg hn]
    refine ev_joinStr ev_c (ev_var rfl) (sq_of ((e2.trans e3) _ _ h1)) ?_
    rw [len_commaS]
    omega
theorem ok_aggregate (D : Dn K mg "aggregate" s_aggregate ["value", "rows"]) (c_evaluate : C8.Cal P w K mg base 15 "evaluate" (sp_evaluate K) []) (z_len : mg "len" = none) {p__OVER_VALUES : Addr} {es__OVER_VALUES : Array DictEntry} {n__OVER_VALUES : Nat} (g__OVER_VALUES : ∃ u, mg "_OVER_VALUES" = some u ∧ RelV (.ref p__OVER_VALUES) u) (h__OVER_VALUES : KDict K w p__OVER_VALUES es__OVER_VALUES n__OVER_VALUES) (tabA : ∀ nm, nm ∈ aggNames → ∃ f, PySem.W.nsIn K p__OVER_VALUES nm = some (some (.ref f)) ∧ L2.Held P w K mg base 15 f (spVs (aggV nm) K)) :
    C8.Cal P w K mg base 16 "aggregate" (sp_aggregate K) [] := by
  refine cal_of D sc_aggregate (fun vs H Q E h => ?_) (fun f cdv A outer s H vs Q E hr h => ?_)
  · obtain ⟨_, _, _, _, rfl, _⟩ := h
    rfl
  refine ⟨_, (pss_cons (ps_asg (pv 0) (pg_tup rfl (pgs_cons (pg_name (i := 2) sc_aggregate.nd rfl (.inl rfl)) (pgs_cons (pg_name (i := 3) sc_aggregate.nd rfl (.inr rfl)) pgs_nil))))
    (pss_cons (ps_if (pt_cmpR op_eq (pv 2) pe_str (nomark _))
      (pss_one (ps_ret (pe_callB call_len_seq (by rfl) z_len PySem.boot_len (pa_cons (pv 1) pa_nil))))
      pss_nil)
    (pss_cons (ps_set (i := 4) sc_aggregate.nd rfl (.inl rfl) (pe_ix ix_kdict (C8.pe_gc rfl g__OVER_VALUES) (pv 2) (fun _ _ => rfl)))
    (pss_one (ps_ret (pe_callH (i := 4) hr rfl (Or.inl rfl) (pa_cons (pe_lc (own := [("row", 5)]) (g := gName 5) (tt := tYes) rfl sc_aggregate.nd (pi_list (pv 1)) (blkOk_by (N := n_aggregate) (sc := C8.fnScope s_aggregate) (by decide +kernel)) (fun _ _ _ _ _ => pg_name (i := 5) sc_aggregate.nd rfl (Or.inl rfl)) (fun _ _ _ _ _ => pts_nil) (fun _ _ _ _ _ => (C8.pe_c c_evaluate hr (by decide) (by rfl) (pa_cons (pv 3) (pa_cons (pv 5) pa_nil))))) pa_nil))))))), ?_⟩
  obtain ⟨v, r, g, L, rfl, hd, hg, hL, oL, q⟩ := h
  obtain ⟨qs, h1, h2⟩ := hL
  have hl : (qs.map V.ref).length = L.length := by rw [List.length_map, h2.1]
  cases hg with
  | rows =>
    obtain ⟨b, ys, rfl, hT, hds⟩ := dp_tupD hd
    cases hds with | cons d1 hds =>
    cases hds with | cons d2 hds =>
    cases hds
    cases d1
    cases d2
    refine q_asgV (ev_var rfl) fun H1 e1 => gt2 (ex_t e1 hT) ?_
    refine q_when (b := true) (et_test (ev_is (ev_op (ev_var rfl) ev_c (rv_eq rfl)) (by decide +kernel))) (fun _ H2 e2 => ?_) fun h => nomatch h
    exact s_ret (v := agV .rows L) (ev_is (ev_len (ev_var rfl) (sq_of ((e1.trans e2) _ _ h1))) (by rw [hl]; rfl)) fun H3 e3 => q H3 ((e1.trans e2).trans e3)
  | of nm e wd hnm he hdep =>
    obtain ⟨b, ys, rfl, hT, hds⟩ := dp_tupD hd
    cases hds with | cons d1 hds =>
    cases hds with | cons d2 hds =>
    cases hds
    cases d1
    rename_i v2
    obtain ⟨f, hf, hH⟩ := tabA nm hnm
    have hne : decide (V.str nm = V.str "rows") = false := by
      simp only [aggNames, List.mem_cons, List.not_mem_nil, or_false] at hnm
      rcases hnm with rfl | rfl | rfl | rfl | rfl | rfl | rfl | rfl | rfl | rfl <;> decide +kernel
    refine q_asgV (ev_var rfl) fun H1 e1 => gt2 (ex_t e1 hT) ?_
    refine q_when (b := false) (et_test (ev_is (ev_op (ev_var rfl) ev_c (rv_eq rfl)) (by rw [hne]))) (fun h => nomatch h) fun _ H2 e2 => ?_
    refine q_asg (v := .ref f) (ev_op ev_c (ev_var rfl) (rv_ixKD (v := .ref f) h__OVER_VALUES hf rfl)) fun H3 e3 => ?_
    have x3 := (e1.trans e2).trans e3
    refine s_ret (v := agV (.of nm e) L) (fun H4 e4 Q k => ⟨f, _, rfl, hH, el_evals (K := K) (L := L) (e := e) (v := v2) (ev_var rfl) ⟨qs, x3 _ _ h1, h2.mono fun q l _ => RowAt.mn _ _ _ _ x3⟩ oL (ex_dp x3 d2) he hdep (fun _ => rfl) (fun x H1 => ev_var rfl) (fun _ => rfl) H4 e4 _ fun p H5 hp e5 h5 => ⟨p, _, rfl, sq_of h5, oL.vs he, fun H6 e6 => k H6 (e5.trans e6)⟩⟩) fun H5 e5 => q H5 (x3.trans e5)
end

--@SPLIT
/-! ### the law's rows and expressions -/
def sp__law_cells (K : PySem.W.Frag) : Sp := fun vs H Q _ => ∃ (n w : Nat), vs = [.int (n : Int), .int (w : Int)] ∧ w ≤ 1000 ∧ ∀ p H' xs, H p = none → Ex H H' → H' p = some (.lst xs) → xs.length = w → OkRB xs → Q (.ref p) H'
def sp__law_rowlist (K : PySem.W.Frag) : Sp := fun vs H Q _ => ∃ (a : Addr) (ms : List Nat) (at_ c w : Nat), vs = [.ref a, .int (at_ : Int), .int (c : Int), .int (w : Int)] ∧ SqL K H a (ms.map fun m : Nat => V.int (m : Int)) ∧ at_ + c ≤ ms.length ∧ c ≤ 1000 ∧ w ≤ 1000 ∧
  ∀ p H' L, H p = none → Ex H H' → Lst3 RowAt (nu H H') p L → L.length = c → (∀ r ∈ L, r.length = w ∧ OkRB r) → Q (.ref p) H'
def sp__law_ranks (K : PySem.W.Frag) : Sp := fun vs H Q _ => ∃ (a : Addr) (xs : List V), vs = [.ref a] ∧ SqL K H a xs ∧ OkRw xs ∧ ∀ p H', H p = none → Ex H H' → NKey H' (rowN xs) (.ref p) → Q (.ref p) H'
def sp__law_same_list (K : PySem.W.Frag) : Sp := fun vs H Q _ => ∃ (p q : Addr) (L : List (List V)), vs = [.ref p, .ref q] ∧ Lst2 RowAt H p L ∧ Lst2 RowAt H q L ∧ L.length ≤ 1000 ∧ (∀ r ∈ L, OkRw r) ∧ ∀ H', Ex H H' → Q (.bl true) H'
def CxD (K : PySem.W.Frag) (w n : Nat) (v : V) (H : Hp) : Prop := ∃ e : Cnd, Dp K H v e.d ∧ e.ok w ∧ e.dep ≤ n
def sp__law_simple (K : PySem.W.Frag) : Sp := fun vs H Q _ => ∃ (n w : Nat), vs = [.int (n : Int), .int (w : Int)] ∧ 0 < w ∧ w ≤ 1000 ∧ ∀ v H' (e : Cnd), Ex H H' → Dp K H' v e.d → e.ok w → e.dep ≤ 2 → Q v H'
section
variable {K : PySem.W.Frag} {σ : L2.St} {H : Hp} {ta tb te tl : TE} {E : XK} {D : Ends} {tz : TS}
/-- [..][i], a new list -/
theorem ev_ixN {xs : List V} {i : Nat} {x : V} (ha : EvL ta σ H xs) (hb : ∀ H1, Ex H H1 → Ev tb σ H1 (.int (i : Int))) (hi : xs[i]? = some x) : Ev (tOp (rIxL K) ta tb) σ H x := fun H1 e Q q =>
  ha H1 e _ fun p H2 hp e2 h2 => hb H2 (e.trans e2) H2 (Ex.refl H2) _ fun H3 e3 => rv_ixL (sq_of (e3 _ _ h2)) (atI_nat hi) H3 (Ex.refl H3) Q fun H4 e4 => q H4 ((e2.trans e3).trans e4)
theorem ek_lranks {a : Addr} {xs : List V} (ha : Ev ta σ H (.ref a)) (hS : SqL K H a xs) (hx : OkRw xs) : EvK (tCall (sp__law_ranks K) [] E (tCons ta tNil)) σ H (rowN xs) := fun H1 e Q q =>
  ha H1 e _ fun H2 e2 => ⟨a, xs, rfl, ex_l (e.trans e2) hS, hx, fun p H3 hp e3 h3 => q p H3 (fresh_back e2 hp) (e2.trans e3) h3⟩
theorem sh_rowN {xs : List V} (h : OkRw xs) : SeqAt.shaped (rowN xs).data = true := by rw [row_data h.2]; exact shaped_row h.2
/-- an expression as data -/
def EvCx (K : PySem.W.Frag) (w n : Nat) (te : TE) (σ : L2.St) (H : Hp) : Prop := ∀ H1, Ex H H1 → ∀ Q : VK, (∀ v H2 (e : Cnd), Ex H1 H2 → Dp K H2 v e.d → e.ok w → e.dep ≤ n → Q v H2) → te σ H1 Q
theorem cx_simple {n w : Nat} (ha : Ev ta σ H (.int (n : Int))) (hb : Ev tb σ H (.int (w : Int))) (h0 : 0 < w) (h1 : w ≤ 1000) : EvCx K w 2 (tCall (sp__law_simple K) [] E (tCons ta (tCons tb tNil))) σ H := fun H1 e Q q =>
  ha H1 e _ fun H2 e2 => hb H2 (e.trans e2) _ fun H3 e3 => ⟨n, w, rfl, h0, h1, fun v H4 x e4 hd hw hn => q v H4 x ((e2.trans e3).trans e4) hd hw hn⟩
end
theorem lt7 {r : Nat} {P : V → Prop} {xs : List V} (hl : xs.length = 7) (h : ∀ x ∈ xs, P x) : ∃ x, xs[r % 7]? = some x ∧ P x := by
  have hr : r % 7 < xs.length := by rw [hl]; exact Nat.mod_lt _ (by decide)
  exact ⟨xs[r % 7], List.getElem?_eq_getElem hr, h _ (List.getElem_mem hr)⟩
theorem ltn {r m : Nat} (hm : 0 < m) {P : V → Prop} {xs : List V} (hl : xs.length = m) (h : ∀ x ∈ xs, P x) : ∃ x, xs[r % m]? = some x ∧ P x := by
  have hr : r % m < xs.length := by rw [hl]; exact Nat.mod_lt _ hm
  exact ⟨xs[r % m], List.getElem?_eq_getElem hr, h _ (List.getElem_mem hr)⟩
def OkB (x : V) : Prop := Ok x ∧ bdV x
theorem okb_str {s : Str} (h : PyData.strOk s = true ∧ s.length ≤ 10000) : OkB (.str s) := ⟨.str s h, trivial⟩
theorem okb_small {i : Int} (h : -1152921504606846976 ≤ i ∧ i ≤ 1152921504606846976) : OkB (.int i) := ⟨.int i, h⟩
section
variable {P : Program} {w : World} {K : PySem.W.Frag} {mg : Str → Option Value} {base : Heap}
theorem ok__law_cells (D : Dn K mg "_law_cells" s__law_cells ["number", "width"]) (z_int : mg "int" = none) (z_range : mg "range" = none) :
    C8.Cal P w K mg base 1 "_law_cells" (sp__law_cells K) [] := by
  refine cal_of D sc__law_cells (fun vs H Q E h => ?_) (fun f cdv A outer s H vs Q E hr h => ?_)
  · obtain ⟨_, _, rfl, _⟩ := h
    rfl
  refine ⟨_, (pss_cons (ps_set (i := 2) sc__law_cells.nd rfl (.inl rfl) (pe_lst pa_nil))
    (pss_cons (ps_for PassesOwn.never rfl (pi_range1 rfl z_range (pa_cons (pv 1) pa_nil)) (pg_name (i := 3) sc__law_cells.nd rfl (.inl rfl))
      (pss_cons (ps_set (i := 4) sc__law_cells.nd rfl (.inl rfl) (pe_op op_add (pe_op op_fdiv (pe_callTy call_int1 (by rfl) z_int (by decide +kernel) (pa_cons (pv 0) pa_nil)) (pe_op op_add (pe_op op_mul pe_int (pv 3)) pe_int)) (pe_op op_mul pe_int (pv 3))))
    (pss_one (ps_expr (pe_bm PySem.F.plainAttrs_list PySem.F.slot_list_append PySem.F.type_list_append mt_append (pv 2) (pa_cons (pe_ix ix_list (pe_lst (pa_cons pe_non (pa_cons (pe_op op_mod (pe_op op_fdiv (pv 4) pe_int) pe_int) (pa_cons (pe_op op_sub (pe_op op_mod (pe_op op_fdiv (pv 4) pe_int) pe_int) pe_int) (pa_cons (pe_cmpR op_eq (pe_op op_mod (pe_op op_fdiv (pv 4) pe_int) pe_int) pe_int (nomark _)) (pa_cons (pe_ix ix_str pe_str (pe_op op_mod (pe_op op_fdiv (pv 4) pe_int) pe_int) (fun _ _ => rfl)) (pa_cons (pe_ix ix_list (pe_lst (pa_cons pe_str (pa_cons pe_str (pa_cons pe_str pa_nil)))) (pe_op op_mod (pe_op op_fdiv (pv 4) pe_int) pe_int) (fun _ _ => rfl)) (pa_cons (pe_op op_mod (pe_op op_fdiv (pv 4) pe_int) pe_int) pa_nil)))))))) (pe_op op_mod (pv 4) pe_int) (fun _ _ => rfl)) pa_nil))))))
    (pss_one (ps_ret (pv 2))))), ?_⟩
  obtain ⟨n, wd, rfl, hw, q⟩ := h
  refine q_asgL (el_lst ea_nil (by decide)) fun p H1 hp e1 h1 => ?_
  refine q_forR1 (n := (wd : Int)) (ea_cons (ev_var rfl) ea_nil) ⟨by omega, by omega⟩ (fun i σ' H' => ∃ kv rv xs, σ' = [some (.int (n : Int)), some (.int (wd : Int)), some (.ref p), kv, rv] ∧ Ex H H' ∧ H' p = some (.lst xs) ∧ xs.length = i ∧ ∀ x ∈ xs, OkB x)
    (fun H2 e2 => ⟨none, none, [], rfl, e1.trans e2, e2 _ _ h1, rfl, fun x h => nomatch h⟩) (fun i σ' H' hi pv => ?_) fun σ' H' pv => ?_
  · obtain ⟨kv, rv, xs, rfl, e, hx, hl, ho⟩ := pv
    have hi2 : i < wd := by omega
    refine q_asg (v := .int ((n / (7 * i + 3) + 5 * i : Nat) : Int)) (ev_is (ev_op (ev_op (ev_int (ev_var rfl)) (ev_op (ev_op ev_c (ev_var rfl) (rv_I (.inl ⟨by decide, by decide⟩))) ev_c rv_I0) (rv_I ⟨by omega, by omega⟩)) (ev_op ev_c (ev_var rfl) (rv_I (.inl ⟨by decide, by decide⟩))) rv_I0) (by
      rw [Int.natCast_add, Int.natCast_ediv, Int.natCast_add, Int.natCast_mul, Int.natCast_mul]; rfl)) fun H2 e2 => ?_
    generalize n / (7 * i + 3) + 5 * i = r
    have hab : ∃ c, (PySem.Str.ofString "ab").cps.toList[r / 9 % 2]? = some c ∧ OkB (.str ⟨#[c]⟩) := by
      have : r / 9 % 2 = 0 ∨ r / 9 % 2 = 1 := by omega
      rcases this with h | h <;> rw [h]
      · exact ⟨97, by decide +kernel, okb_str ⟨by decide +kernel, by decide⟩⟩
      · exact ⟨98, by decide +kernel, okb_str ⟨by decide +kernel, by decide⟩⟩
    obtain ⟨c, hc, hcb⟩ := hab
    obtain ⟨t, ht, htb⟩ := ltn (r := r / 9) (m := 3) (P := OkB) (xs := [.str (PySem.Str.ofString ""), .str (PySem.Str.ofString "a b"), .str (PySem.Str.ofString "A")]) (by decide) rfl fun x hx => by
      rcases List.mem_cons.mp hx with z | hx
      · rw [z]; exact okb_str ⟨by decide +kernel, by decide +kernel⟩
      rcases List.mem_cons.mp hx with z | hx
      · rw [z]; exact okb_str ⟨by decide +kernel, by decide +kernel⟩
      rcases List.mem_cons.mp hx with z | hx
      · rw [z]; exact okb_str ⟨by decide +kernel, by decide +kernel⟩
      · cases hx
    obtain ⟨x, hx7, hxb⟩ := lt7 (r := r) (P := OkB) (xs := [.non, .int ((r / 9 % 4 : Nat) : Int), .int (((r / 9 % 4 : Nat) : Int) - 1), .bl (decide (V.int ((r / 9 % 2 : Nat) : Int) = V.int 0)), .str ⟨#[c]⟩, t, .int ((r / 9 % 2 : Nat) : Int)]) rfl fun x hx => by
      rcases List.mem_cons.mp hx with z | hx
      · rw [z]; exact ⟨.non, trivial⟩
      rcases List.mem_cons.mp hx with z | hx
      · rw [z]; exact okb_small ⟨by omega, by omega⟩
      rcases List.mem_cons.mp hx with z | hx
      · rw [z]; exact okb_small ⟨by omega, by omega⟩
      rcases List.mem_cons.mp hx with z | hx
      · rw [z]; exact ⟨.bl _, trivial⟩
      rcases List.mem_cons.mp hx with z | hx
      · rw [z]; exact hcb
      rcases List.mem_cons.mp hx with z | hx
      · rw [z]; exact htb
      rcases List.mem_cons.mp hx with z | hx
      · rw [z]; exact okb_small ⟨by omega, by omega⟩
      · cases hx
    have dm : ∀ {H0 : Hp} (m : Nat) (hm : 0 < m ∧ m < 100), Ev (tOp (rI (fun _ j => 0 < j) fun i j => .int (i % j)) (tOp (rI CDiv fun i j => .int (i / j)) (tVar 4) (tC (.int 9))) (tC (.int (m : Int)))) [some (.int (n : Int)), some (.int (wd : Int)), some (.ref p), some (.int (i : Int)), some (.int (r : Int))] H0 (.int ((r / 9 % m : Nat) : Int)) := fun m hm => ev_is (ev_op (ev_op (ev_var rfl) ev_c (rv_I ⟨by decide, by decide⟩)) ev_c (rv_I (by omega))) (by rw [Int.natCast_emod, Int.natCast_ediv]; rfl)
    refine s_app (v := x) (e2 _ _ hx) (ev_var rfl) (ev_ixN (i := r % 7) (el_lst (ea_cons ev_c (ea_cons (dm 4 (by decide)) (ea_cons (ev_op (dm 4 (by decide)) ev_c rv_I0) (ea_cons (ev_op (dm 2 (by decide)) ev_c (rv_eq rfl)) (ea_cons (ev_op ev_c (dm 2 (by decide)) (rv_ixS (by decide +kernel) (atI_nat hc))) (ea_cons (ev_ixN (i := r / 9 % 3) (el_lst (ea_cons ev_c (ea_cons ev_c (ea_cons ev_c ea_nil))) (by show 3 ≤ 100000; decide)) (fun _ _ => dm 3 (by decide)) ht) (ea_cons (dm 2 (by decide)) ea_nil))))))) (by show 7 ≤ 100000; decide)) (fun _ _ => ev_is (ev_op (ev_var rfl) ev_c (rv_I (by decide))) (by rw [Int.natCast_emod]; rfl)) hx7) (by omega) fun H3 e3 => ?_
    refine ⟨_, _, xs ++ [x], rfl, Ex.mut ((e.trans e2).trans e3) hp, upd_same, by rw [List.length_append, hl]; rfl, fun y hy => ?_⟩
    rcases List.mem_append.mp hy with h | h
    · exact ho y h
    · rw [List.mem_singleton.mp h]; exact hxb
  · obtain ⟨kv, rv, xs, rfl, e, hx, hl, ho⟩ := pv
    rw [show ((wd : Int)).toNat = wd from Int.toNat_natCast _] at hl
    exact s_ret (ev_var rfl) fun H3 e3 => q p H3 xs hp (e.trans e3) (e3 _ _ hx) hl ⟨by omega, ho⟩
theorem ok__law_rowlist (D : Dn K mg "_law_rowlist" s__law_rowlist ["numbers", "at", "count", "width"]) (c__law_cells : C8.Cal P w K mg base 1 "_law_cells" (sp__law_cells K) []) (z_int : mg "int" = none) (z_len : mg "len" = none) (z_list : mg "list" = none) (z_range : mg "range" = none) :
    C8.Cal P w K mg base 2 "_law_rowlist" (sp__law_rowlist K) [] := by
  refine cal_of D sc__law_rowlist (fun vs H Q E h => ?_) (fun f cdv A outer s H vs Q E hr h => ?_)
  · obtain ⟨_, _, _, _, _, rfl, _⟩ := h
    rfl
  refine ⟨_, (pss_cons (ps_set (i := 4) sc__law_rowlist.nd rfl (.inl rfl) (pe_lst pa_nil))
    (pss_cons (ps_for PassesOwn.never rfl (pi_range1 rfl z_range (pa_cons (pv 2) pa_nil)) (pg_name (i := 5) sc__law_rowlist.nd rfl (.inl rfl))
      (pss_one (ps_if (PW.pt (pw_and (pt_cmpR op_gt (pe_callB call_len_seq (by rfl) z_len PySem.boot_len (pa_cons (pv 4) pa_nil)) pe_int (nomark _)) (pw_and1 (pt_cmpR op_eq (pe_op op_mod (pe_callTy call_int1 (by rfl) z_int (by decide +kernel) (pa_cons (pe_ix ix_list (pv 0) (pe_op op_add (pv 1) (pv 5)) (fun _ _ => rfl)) pa_nil)) pe_int) pe_int (nomark _)))))
      (pss_one (ps_expr (pe_bm PySem.F.plainAttrs_list PySem.F.slot_list_append PySem.F.type_list_append mt_append (pv 4) (pa_cons (pe_callTy call_list_of (by rfl) z_list (by decide +kernel) (pa_cons (pe_ix ix_list (pv 4) (pe_op op_mod (pe_op op_fdiv (pe_callTy call_int1 (by rfl) z_int (by decide +kernel) (pa_cons (pe_ix ix_list (pv 0) (pe_op op_add (pv 1) (pv 5)) (fun _ _ => rfl)) pa_nil)) pe_int) (pe_callB call_len_seq (by rfl) z_len PySem.boot_len (pa_cons (pv 4) pa_nil))) (fun _ _ => rfl)) pa_nil)) pa_nil))))
      (pss_one (ps_expr (pe_bm PySem.F.plainAttrs_list PySem.F.slot_list_append PySem.F.type_list_append mt_append (pv 4) (pa_cons (C8.pe_c c__law_cells hr (by decide) (by rfl) (pa_cons (pe_op op_fdiv (pe_callTy call_int1 (by rfl) z_int (by decide +kernel) (pa_cons (pe_ix ix_list (pv 0) (pe_op op_add (pv 1) (pv 5)) (fun _ _ => rfl)) pa_nil)) pe_int) (pa_cons (pv 3) pa_nil))) pa_nil)))))))
    (pss_one (ps_ret (pv 4))))), ?_⟩
  obtain ⟨a, ms, at_, c, wd, rfl, hS, hat, hc, hw, q⟩ := h
  refine q_asgL (el_lst ea_nil (by decide)) fun p H1 hp e1 h1 => ?_
  refine q_forR1 (n := (c : Int)) (ea_cons (ev_var rfl) ea_nil) ⟨by omega, by omega⟩ (fun i σ' H' => ∃ (kv : Option V) (qs : List Addr) (L : List (List V)), σ' = [some (.ref a), some (.int (at_ : Int)), some (.int (c : Int)), some (.int (wd : Int)), some (.ref p), kv] ∧ Ex H H' ∧ H' p = some (.lst (qs.map V.ref)) ∧ Al2 RowAt (wo p (nu H H')) qs L ∧ L.length = i ∧ ∀ r ∈ L, r.length = wd ∧ OkRB r)
    (fun H2 e2 => ⟨none, [], [], rfl, e1.trans e2, e2 _ _ h1, Al2.nil, rfl, fun x h => nomatch h⟩) (fun i σ' H' hi pv => ?_) fun σ' H' pv => ?_
  · obtain ⟨kv, qs, L, rfl, e, hq, hA, hl, ho⟩ := pv
    have hi2 : i < c := by omega
    have hlq : (qs.map V.ref).length = L.length := by rw [List.length_map, hA.1]
    have hmi : at_ + i < ms.length := by omega
    have num : ∀ {H0 : Hp}, Ex H H0 → Ev (tCB (fun xs H Q => (∃ i, xs = [.int i] ∧ Q (.int i) H) ∨ ∃ k, xs = [.bl k] ∧ Q (.int (if k then 1 else 0)) H) (tCons (tOp (rIxL K) (tVar 0) (tOp (rI0 fun i j => .int (i + j)) (tVar 1) (tVar 5))) tNil)) [some (.ref a), some (.int (at_ : Int)), some (.int (c : Int)), some (.int (wd : Int)), some (.ref p), some (.int (i : Int))] H0 (.int ((ms[at_ + i] : Nat) : Int)) := fun e0 =>
      ev_int (ev_op (ev_var rfl) (ev_is (w := .int ((at_ + i : Nat) : Int)) (ev_op (ev_var rfl) (ev_var rfl) rv_I0) (by rw [Int.natCast_add])) (rv_ixL (ex_l e0 hS) (atI_nat (by rw [List.getElem?_map, List.getElem?_eq_getElem hmi]; rfl))))
    generalize ms[at_ + i] = m at num
    have snoc : ∀ {r : Addr} {xs : List V} {H2 : Hp}, Ex H' H2 → H' r = none → H2 r = some (.lst xs) → xs.length = wd ∧ OkRB xs → ∃ (kv : Option V) (qs' : List Addr) (L' : List (List V)), [some (.ref a), some (.int (at_ : Int)), some (.int (c : Int)), some (.int (wd : Int)), some (.ref p), some (.int (i : Int))] = [some (.ref a), some (.int (at_ : Int)), some (.int (c : Int)), some (.int (wd : Int)), some (.ref p), kv] ∧ Ex H (upd H2 p (.lst (qs.map V.ref ++ [.ref r]))) ∧ upd H2 p (.lst (qs.map V.ref ++ [.ref r])) p = some (.lst (qs'.map V.ref)) ∧ Al2 RowAt (wo p (nu H (upd H2 p (.lst (qs.map V.ref ++ [.ref r]))))) qs' L' ∧ L'.length = i + 1 ∧ ∀ r ∈ L', r.length = wd ∧ OkRB r := fun {r xs H2} e2 hr h2 hok => by
      have hrp : r ≠ p := fun z => by rw [z, hq] at hr; cases hr
      refine ⟨_, qs ++ [r], L ++ [xs], rfl, Ex.mut (e.trans e2) hp, by rw [upd_same, List.map_append]; rfl, ?_, by rw [List.length_append, hl]; rfl, fun y hy => ?_⟩
      · rw [wo_nu_upd]
        refine (hA.mono fun q l _ => RowAt.mn _ _ _ _ (wo_mono (nu_mono e2))).snoc ?_
        show wo p (nu H H2) r = _
        rw [wo_ne hrp]
        exact nu_at (fresh_back e hr) h2
      · rcases List.mem_append.mp hy with h | h
        · exact ho y h
        · rw [List.mem_singleton.mp h]; exact hok
    refine s_if (b := decide ((L.length : Int) > 0) && decide (V.int ((m % 4 : Nat) : Int) = V.int 0)) (et_and (et_test (ev_op (ev_is (ev_len (ev_var rfl) (sq_of hq)) (by rw [hlq])) ev_c rv_I0)) fun _ => et_test (ev_op (ev_is (ev_op (num e) ev_c (rv_I (by decide))) (by rw [Int.natCast_emod]; rfl)) ev_c (rv_eq rfl))) (fun hb H2 e2 => ?_) fun hb H2 e2 => ?_
    · rw [Bool.and_eq_true, decide_eq_true_eq] at hb
      have hpos : 0 < L.length := by omega
      have hj : m / 4 % L.length < L.length := Nat.mod_lt _ hpos
      obtain ⟨b, hqb, hbr⟩ := hA.get hj
      have hbr2 : H' b = some (.lst L[m / 4 % L.length]) := nu_le _ _ (wo_le _ _ _ _ hbr)
      refine ⟨.ref p, rfl, Or.inl ⟨rfl, _, sq_of (e2 _ _ hq)⟩, ?_⟩
      have x3 := e2
      refine el_list (K := K) (xs := L[m / 4 % L.length]) (p := b) (ev_op (ev_var rfl) (ev_is (w := .int ((m / 4 % L.length : Nat) : Int)) (ev_op (ev_op (num (e.trans x3)) ev_c (rv_I ⟨by decide, by decide⟩)) (ev_is (ev_len (ev_var rfl) (sq_of (x3 _ _ hq))) (by rw [hlq])) (rv_I (by omega))) (by rw [Int.natCast_emod, Int.natCast_ediv]; rfl)) (rv_ixL (sq_of (x3 _ _ hq)) (atI_nat (by rw [List.getElem?_map, hqb]; rfl)))) (sq_of (x3 _ _ hbr2)) H2 (Ex.refl H2) _ fun r H4 hr e4 h4 => ⟨p, _, .ref r, rfl, rfl, (x3.trans e4) _ _ hq, sz_lt (by rw [hlq]; omega), ?_⟩
      exact snoc (x3.trans e4) (fresh_back x3 hr) h4 (ho _ (List.getElem_mem hj))
    · refine ⟨.ref p, rfl, Or.inl ⟨rfl, _, sq_of (e2 _ _ hq)⟩, ?_⟩
      have x3 := e2
      refine (ev_is (w := .int ((m / 4 : Nat) : Int)) (ev_op (num (e.trans x3)) ev_c (rv_I ⟨by decide, by decide⟩)) (by rw [Int.natCast_ediv]; rfl)) H2 (Ex.refl H2) _ fun H4 e4 => ⟨.int (wd : Int), rfl, m / 4, wd, rfl, hw, fun r H6 xs hr e6 h6 hxl hxo => ⟨p, _, .ref r, rfl, rfl, ((x3.trans e4).trans e6) _ _ hq, sz_lt (by rw [hlq]; omega), ?_⟩⟩
      exact snoc ((x3.trans e4).trans e6) (fresh_back (x3.trans e4) hr) h6 ⟨hxl, hxo⟩
  · obtain ⟨kv, qs, L, rfl, e, hq, hA, hl, ho⟩ := pv
    rw [show ((c : Int)).toNat = c from Int.toNat_natCast _] at hl
    refine s_ret (ev_var rfl) fun H3 e3 => q p H3 L hp (e.trans e3) ⟨qs, nu_at hp (e3 _ _ hq), hA.mono fun q l _ => RowAt.mn _ _ _ _ (wo_mono (nu_mono e3))⟩ hl ho
theorem ok__law_ranks (D : Dn K mg "_law_ranks" s__law_ranks ["row"]) (c__law_rank : C8.Cal P w K mg base 1 "_law_rank" (sp__law_rank K) []) (z_tuple : mg "tuple" = none) :
    C8.Cal P w K mg base 2 "_law_ranks" (sp__law_ranks K) [] := by
  refine cal_of D sc__law_ranks (fun vs H Q E h => ?_) (fun f cdv A outer s H vs Q E hr h => ?_)
  · obtain ⟨_, _, rfl, _⟩ := h
    rfl
  refine ⟨_, (pss_one (ps_ret (pe_callTy call_tuple_of (by rfl) z_tuple (by decide +kernel) (pa_cons (pe_lc (own := [("value", 1)]) (g := gName 1) (tt := tYes) rfl sc__law_ranks.nd (pi_list (pv 0)) (blkOk_by (N := n__law_ranks) (sc := C8.fnScope s__law_ranks) (by decide +kernel)) (fun _ _ _ _ _ => pg_name (i := 1) sc__law_ranks.nd rfl (Or.inl rfl)) (fun _ _ _ _ _ => pts_nil) (fun _ _ _ _ _ => (C8.pe_c c__law_rank hr (by decide) (by rfl) (pa_cons (pv 1) pa_nil)))) pa_nil)))), ?_⟩
  obtain ⟨a, xs, rfl, hS, hx, q⟩ := h
  exact s_retK (ek_tuple (lk_lcL rkN (ev_var rfl) hS (by have := hx.1; omega) (fun _ => rfl) fun x H1 e1 hm => ek_rk (ec_lrank (ev_var rfl) (hx.2 x hm)) (hx.2 x hm))) q
theorem ok__law_same_list (D : Dn K mg "_law_same_list" s__law_same_list ["told", "due"]) (c__law_ranks : C8.Cal P w K mg base 2 "_law_ranks" (sp__law_ranks K) []) (z_isinstance : mg "isinstance" = none) (z_len : mg "len" = none) (z_list : mg "list" = none) (z_range : mg "range" = none) :
    C8.Cal P w K mg base 3 "_law_same_list" (sp__law_same_list K) [] := by
  refine cal_of D sc__law_same_list (fun vs H Q E h => ?_) (fun f cdv A outer s H vs Q E hr h => ?_)
  · obtain ⟨_, _, _, rfl, _⟩ := h
    rfl
  refine ⟨_, (pss_cons (ps_if (PW.pt (pw_or (pt_not (pt_val (pe_callB call_isi (by rfl) z_isinstance (by decide +kernel) (pa_cons (pv 0) (pa_cons (pe_bltn (v := .ty "list") (u := .type "list") rfl z_list (by decide +kernel) rfl) pa_nil))))) (pw_or1 (pt_cmpR op_ne (pe_callB call_len_seq (by rfl) z_len PySem.boot_len (pa_cons (pv 0) pa_nil)) (pe_callB call_len_seq (by rfl) z_len PySem.boot_len (pa_cons (pv 1) pa_nil)) (nomark _)))))
      (pss_one (ps_ret pe_bl))
      pss_nil)
    (pss_cons (ps_for PassesOwn.never rfl (pi_range1 rfl z_range (pa_cons (pe_callB call_len_seq (by rfl) z_len PySem.boot_len (pa_cons (pv 1) pa_nil)) pa_nil)) (pg_name (i := 2) sc__law_same_list.nd rfl (.inl rfl))
      (pss_one (ps_if (PW.pt (pw_or (pt_not (pt_val (pe_callB call_isi (by rfl) z_isinstance (by decide +kernel) (pa_cons (pe_ix ix_list (pv 0) (pv 2) (fun _ _ => rfl)) (pa_cons (pe_bltn (v := .ty "list") (u := .type "list") rfl z_list (by decide +kernel) rfl) pa_nil))))) (pw_or1 (pt_cmpR (op_neD (hu64 hr)) (C8.pe_c c__law_ranks hr (by decide) (by rfl) (pa_cons (pe_ix ix_list (pv 0) (pv 2) (fun _ _ => rfl)) pa_nil)) (C8.pe_c c__law_ranks hr (by decide) (by rfl) (pa_cons (pe_ix ix_list (pv 1) (pv 2) (fun _ _ => rfl)) pa_nil)) (nomark _)))))
      (pss_one (ps_ret pe_bl))
      pss_nil)))
    (pss_one (ps_ret pe_bl)))), ?_⟩
  obtain ⟨p, q', L, rfl, ⟨ps, hp, hA⟩, ⟨qs, hq, hB⟩, hz, hL, q⟩ := h
  have lenE : (ps.map V.ref).length = L.length := by rw [List.length_map, hA.1]
  have lenM : (qs.map V.ref).length = L.length := by rw [List.length_map, hB.1]
  refine q_when (b := !true || !decide (V.int ((L.length : Nat) : Int) = V.int ((L.length : Nat) : Int))) (et_or (et_not (et_B (ev_isi' (T := "list") (ev_var rfl) (tx_lst hp) (by decide +kernel)))) fun _ => et_test (ev_op (ev_is (ev_len (ev_var rfl) (sq_of hp)) (by rw [lenE])) (ev_is (ev_len (ev_var rfl) (sq_of hq)) (by rw [lenM])) (rv_ne rfl))) (fun hb => by simp at hb) fun _ H1 e1 => ?_
  refine q_forR1 (n := (L.length : Int)) (ea_cons (ev_is (ev_len (ev_var rfl) (sq_of (e1 _ _ hq))) (by rw [lenM])) ea_nil) ⟨by omega, by omega⟩ (fun i σ' H' => ∃ kv, σ' = [some (.ref p), some (.ref q'), kv] ∧ Ex H H') (fun H2 e2 => ⟨none, rfl, e1.trans e2⟩) (fun i σ' H' hi pv => ?_) fun σ' H' pv => ?_
  · obtain ⟨kv, rfl, e⟩ := pv
    have hi2 : i < L.length := by omega
    obtain ⟨pi, hpi, hpl⟩ := hA.get hi2
    obtain ⟨qi, hqi, hql⟩ := hB.get hi2
    have hok := hL _ (List.getElem_mem hi2)
    generalize L[i] = r at hpl hql hok
    have told : ∀ {σ : L2.St} {H0 : Hp}, σ[0]? = some (some (.ref p)) → σ[2]? = some (some (.int (i : Int))) → Ex H H0 → Ev (tOp (rIxL K) (tVar 0) (tVar 2)) σ H0 (.ref pi) := fun h0 h2 e0 => ev_op (ev_var h0) (ev_var h2) (rv_ixL (sq_of (e0 _ _ hp)) (atI_nat (by rw [List.getElem?_map, hpi]; rfl)))
    have due : ∀ {σ : L2.St} {H0 : Hp}, σ[1]? = some (some (.ref q')) → σ[2]? = some (some (.int (i : Int))) → Ex H H0 → Ev (tOp (rIxL K) (tVar 1) (tVar 2)) σ H0 (.ref qi) := fun h0 h2 e0 => ev_op (ev_var h0) (ev_var h2) (rv_ixL (sq_of (e0 _ _ hq)) (atI_nat (by rw [List.getElem?_map, hqi]; rfl)))
    have sh := sh_rowN hok
    have er := PySem.SeqAt.eqv_refl _ (SeqAt.canLay_of_shaped sh)
    refine s_when (b := !true || !PyData.eqv (rowN r).data (rowN r).data) (et_or (et_not (et_B (ev_isi' (T := "list") (told rfl rfl e) (tx_lst (e _ _ hpl)) (by decide +kernel)))) fun _ => et_test (ev_neD (ed_key (ek_lranks (told rfl rfl e) (sq_of (e _ _ hpl)) hok)) (ed_key (ek_lranks (due rfl rfl e) (sq_of (e _ _ hql)) hok)) sh sh)) (fun hb => by rw [er] at hb; cases hb) fun _ H2 e2 => ⟨_, rfl, e.trans e2⟩
  · obtain ⟨kv, rfl, e⟩ := pv
    exact s_ret ev_c fun H5 e5 => q H5 (e.trans e5)
theorem ok__law_simple (D : Dn K mg "_law_simple" s__law_simple ["number", "width"]) (z_int : mg "int" = none) :
    C8.Cal P w K mg base 1 "_law_simple" (sp__law_simple K) [] := by
  refine cal_of D sc__law_simple (fun vs H Q E h => ?_) (fun f cdv A outer s H vs Q E hr h => ?_)
  · obtain ⟨_, _, rfl, _⟩ := h
    rfl
  refine ⟨_, (pss_cons (ps_set (i := 2) sc__law_simple.nd rfl (.inl rfl) (pe_op op_fdiv (pe_callTy call_int1 (by rfl) z_int (by decide +kernel) (pa_cons (pv 0) pa_nil)) pe_int))
    (pss_cons (ps_set (i := 3) sc__law_simple.nd rfl (.inl rfl) (pe_tup (pa_cons pe_str (pa_cons (pe_op op_mod (pv 2) (pv 1)) pa_nil))))
    (pss_cons (ps_set (i := 4) sc__law_simple.nd rfl (.inl rfl) (pe_tup (pa_cons pe_str (pa_cons (pe_op op_mod (pe_op op_fdiv (pv 2) (pv 1)) (pv 1)) pa_nil))))
    (pss_cons (ps_set (i := 5) sc__law_simple.nd rfl (.inl rfl) (pe_op op_mod (pe_callTy call_int1 (by rfl) z_int (by decide +kernel) (pa_cons (pv 0) pa_nil)) pe_int))
    (pss_cons (ps_if (pt_cmpR op_le (pv 5) pe_int (nomark _))
      (pss_one (ps_ret (pv 3)))
      pss_nil)
    (pss_cons (ps_if (pt_cmpR op_eq (pv 5) pe_int (nomark _))
      (pss_one (ps_ret (pe_tup (pa_cons pe_str (pa_cons (pe_ix ix_list (pe_lst (pa_cons pe_str (pa_cons pe_str (pa_cons pe_str (pa_cons pe_str pa_nil))))) (pe_op op_mod (pe_op op_fdiv (pv 2) pe_int) pe_int) (fun _ _ => rfl)) (pa_cons (pv 3) (pa_cons (pv 4) pa_nil)))))))
      pss_nil)
    (pss_cons (ps_if (pt_cmpR op_eq (pv 5) pe_int (nomark _))
      (pss_one (ps_ret (pe_tup (pa_cons pe_str (pa_cons (pe_ix ix_list (pe_lst (pa_cons pe_str (pa_cons pe_str (pa_cons pe_str (pa_cons pe_str pa_nil))))) (pe_op op_mod (pe_op op_fdiv (pv 2) pe_int) pe_int) (fun _ _ => rfl)) (pa_cons (pv 3) pa_nil))))))
      pss_nil)
    (pss_cons (ps_if (pt_cmpR op_eq (pv 5) pe_int (nomark _))
      (pss_one (ps_ret (pe_tup (pa_cons pe_str (pa_cons (pe_ix ix_list (pe_lst (pa_cons pe_str (pa_cons pe_str (pa_cons pe_str (pa_cons pe_str pa_nil))))) (pe_op op_mod (pe_op op_fdiv (pv 2) pe_int) pe_int) (fun _ _ => rfl)) (pa_cons (pv 3) (pa_cons (pv 4) pa_nil)))))))
      pss_nil)
    (pss_one (ps_ret (pe_tup (pa_cons pe_str (pa_cons (pe_ix ix_list (pe_lst (pa_cons pe_non (pa_cons pe_int (pa_cons pe_bl (pa_cons pe_str pa_nil))))) (pe_op op_mod (pe_op op_fdiv (pv 2) pe_int) pe_int) (fun _ _ => rfl)) pa_nil))))))))))))), ?_⟩
  obtain ⟨n, wd, rfl, h0, h1, q⟩ := h
  refine q_asg (v := .int ((n / 6 : Nat) : Int)) (ev_is (ev_op (ev_int (ev_var rfl)) ev_c (rv_I ⟨by decide, by decide⟩)) (by rw [Int.natCast_ediv]; rfl)) fun H1 e1 => ?_
  refine q_asgU (xs := [.str "column", .int ((n / 6 % wd : Nat) : Int)]) (eu_tup (ea_cons ev_c (ea_cons (ev_is (ev_op (ev_var rfl) (ev_var rfl) (rv_I (by omega))) (by rw [Int.natCast_emod])) ea_nil)) (by show 2 ≤ 100000; decide)) fun p1 H2 hp1 e2 h2 => ?_
  refine q_asgU (xs := [.str "column", .int ((n / 6 / wd % wd : Nat) : Int)]) (eu_tup (ea_cons ev_c (ea_cons (ev_is (ev_op (ev_op (ev_var rfl) (ev_var rfl) (rv_I ⟨by omega, by omega⟩)) (ev_var rfl) (rv_I (by omega))) (by rw [Int.natCast_emod, Int.natCast_ediv, Int.natCast_ediv]; rfl)) ea_nil)) (by show 2 ≤ 100000; decide)) fun p2 H3 hp2 e3 h3 => ?_
  refine q_asg (v := .int ((n % 6 : Nat) : Int)) (ev_is (ev_op (ev_int (ev_var rfl)) ev_c (rv_I (by decide))) (by rw [Int.natCast_emod]; rfl)) fun H4 e4 => ?_
  have x4 := ((e1.trans e2).trans e3).trans e4
  have l1 : n / 6 % wd < wd := Nat.mod_lt _ h0
  have l2 : n / 6 / wd % wd < wd := Nat.mod_lt _ h0
  generalize n / 6 % wd = c1 at h2 l1
  generalize n / 6 / wd % wd = c2 at h3 l2
  generalize n / 6 = r
  have h2' := (e3.trans e4) _ _ h2
  have h3' := e4 _ _ h3
  have d1 : ∀ H', Ex H4 H' → Dp K H' (.ref p1) (Cnd.col c1).d := fun H' e' => .tup (st_of (e' _ _ h2')) (.cons (.str _) (.cons (.int _) .nil))
  have d2 : ∀ H', Ex H4 H' → Dp K H' (.ref p2) (Cnd.col c2).d := fun H' e' => .tup (st_of (e' _ _ h3')) (.cons (.str _) (.cons (.int _) .nil))
  have ix : ∀ {H0 : Hp} {m : Nat}, Ev (tOp (rI (fun _ j => 0 < j) fun i j => .int (i % j)) (tOp (rI CDiv fun i j => .int (i / j)) (tVar 2) (tC (.int 36))) (tC (.int ((4 : Nat) : Int)))) [some (.int (n : Int)), some (.int (wd : Int)), some (.int (r : Int)), some (.ref p1), some (.ref p2), some (.int (m : Int))] H0 (.int ((r / 36 % 4 : Nat) : Int)) := ev_is (ev_op (ev_op (ev_var rfl) ev_c (rv_I ⟨by decide, by decide⟩)) ev_c (rv_I (by decide))) (by rw [Int.natCast_emod, Int.natCast_ediv]; rfl)
  refine q_when (b := decide (((n % 6 : Nat) : Int) ≤ 1)) (et_test (ev_op (ev_var rfl) ev_c rv_I0)) (fun _ H5 e5 => s_ret (ev_var rfl) fun H6 e6 => q _ H6 (.col c1) (x4.trans (e5.trans e6)) (d1 _ (e5.trans e6)) (.col _ l1) (by show 1 ≤ 2; decide)) fun _ H5 e5 => ?_
  refine q_when (b := decide (V.int ((n % 6 : Nat) : Int) = V.int 2)) (et_test (ev_op (ev_var rfl) ev_c (rv_eq rfl))) (fun _ H6 e6 => ?_) fun _ H6 e6 => ?_
  · obtain ⟨x, hx, s, rfl, hs⟩ := ltn (r := r / 36) (m := 4) (P := fun v => ∃ s, v = .str s ∧ s ∈ binNames) (xs := [.str "coalesce", .str "add", .str "join", .str "least"]) (by decide) rfl fun x hx => by
      simp only [List.mem_cons, List.not_mem_nil, or_false] at hx
      rcases hx with rfl | rfl | rfl | rfl <;> exact ⟨_, rfl, by decide +kernel⟩
    exact s_retU (eu_tup (ea_cons ev_c (ea_cons (ev_ixN (i := r / 36 % 4) (el_lst (ea_cons ev_c (ea_cons ev_c (ea_cons ev_c (ea_cons ev_c ea_nil)))) (by show 4 ≤ 100000; decide)) (fun _ _ => ix) hx) (ea_cons (ev_var rfl) (ea_cons (ev_var rfl) ea_nil)))) (by show 4 ≤ 100000; decide)) fun p H7 hp e7 h7 => q _ H7 (.bin s (.col c1) (.col c2)) (x4.trans ((e5.trans e6).trans e7)) (.tup (st_of h7) (.cons (.str _) (.cons (.str _) (.cons (d1 _ ((e5.trans e6).trans e7)) (.cons (d2 _ ((e5.trans e6).trans e7)) .nil))))) (.bin _ _ _ hs (.col _ l1) (.col _ l2)) (by show 2 ≤ 2; decide)
  refine q_when (b := decide (V.int ((n % 6 : Nat) : Int) = V.int 3)) (et_test (ev_op (ev_var rfl) ev_c (rv_eq rfl))) (fun _ H7 e7 => ?_) fun _ H7 e7 => ?_
  · obtain ⟨x, hx, s, rfl, hs⟩ := ltn (r := r / 36) (m := 4) (P := fun v => ∃ s, v = .str s ∧ s ∈ unNames) (xs := [.str "is null", .str "not", .str "negate", .str "length"]) (by decide) rfl fun x hx => by
      simp only [List.mem_cons, List.not_mem_nil, or_false] at hx
      rcases hx with rfl | rfl | rfl | rfl <;> exact ⟨_, rfl, by decide +kernel⟩
    exact s_retU (eu_tup (ea_cons ev_c (ea_cons (ev_ixN (i := r / 36 % 4) (el_lst (ea_cons ev_c (ea_cons ev_c (ea_cons ev_c (ea_cons ev_c ea_nil)))) (by show 4 ≤ 100000; decide)) (fun _ _ => ix) hx) (ea_cons (ev_var rfl) ea_nil))) (by show 3 ≤ 100000; decide)) fun p H8 hp e8 h8 => q _ H8 (.un s (.col c1)) (x4.trans (((e5.trans e6).trans e7).trans e8)) (.tup (st_of h8) (.cons (.str _) (.cons (.str _) (.cons (d1 _ (((e5.trans e6).trans e7).trans e8)) .nil)))) (.un _ _ hs (.col _ l1)) (by show 2 ≤ 2; decide)
  refine q_when (b := decide (V.int ((n % 6 : Nat) : Int) = V.int 4)) (et_test (ev_op (ev_var rfl) ev_c (rv_eq rfl))) (fun _ H8 e8 => ?_) fun _ H8 e8 => ?_
  · obtain ⟨x, hx, s, rfl, hs⟩ := ltn (r := r / 36) (m := 4) (P := fun v => ∃ s, v = .str s ∧ s ∈ binNames) (xs := [.str "equal", .str "less", .str "same", .str "at most"]) (by decide) rfl fun x hx => by
      simp only [List.mem_cons, List.not_mem_nil, or_false] at hx
      rcases hx with rfl | rfl | rfl | rfl <;> exact ⟨_, rfl, by decide +kernel⟩
    have x8 := ((e5.trans e6).trans e7).trans e8
    exact s_retU (eu_tup (ea_cons ev_c (ea_cons (ev_ixN (i := r / 36 % 4) (el_lst (ea_cons ev_c (ea_cons ev_c (ea_cons ev_c (ea_cons ev_c ea_nil)))) (by show 4 ≤ 100000; decide)) (fun _ _ => ix) hx) (ea_cons (ev_var rfl) (ea_cons (ev_var rfl) ea_nil)))) (by show 4 ≤ 100000; decide)) fun p H9 hp e9 h9 => q _ H9 (.bin s (.col c1) (.col c2)) (x4.trans (x8.trans e9)) (.tup (st_of h9) (.cons (.str _) (.cons (.str _) (.cons (d1 _ (x8.trans e9)) (.cons (d2 _ (x8.trans e9)) .nil))))) (.bin _ _ _ hs (.col _ l1) (.col _ l2)) (by show 2 ≤ 2; decide)
  · obtain ⟨x, hx, hb⟩ := ltn (r := r / 36) (m := 4) (P := OkB) (xs := [.non, .int 1, .bl true, .str "a"]) (by decide) rfl fun x hx => by
      simp only [List.mem_cons, List.not_mem_nil, or_false] at hx
      rcases hx with rfl | rfl | rfl | rfl
      · exact ⟨.non, trivial⟩
      · exact okb_small ⟨by decide, by decide⟩
      · exact ⟨.bl _, trivial⟩
      · exact okb_str ⟨by decide +kernel, by decide +kernel⟩
    have x8 := ((e5.trans e6).trans e7).trans e8
    exact s_retU (eu_tup (ea_cons ev_c (ea_cons (ev_ixN (i := r / 36 % 4) (el_lst (ea_cons ev_c (ea_cons ev_c (ea_cons ev_c (ea_cons ev_c ea_nil)))) (by show 4 ≤ 100000; decide)) (fun _ _ => ix) hx) ea_nil)) (by show 2 ≤ 100000; decide)) fun p H9 hp e9 h9 => q _ H9 (.cst x) (x4.trans (x8.trans e9)) (.tup (st_of h9) (.cons (.str _) (.cons (dp_vDc hb.1.pl) .nil))) (.cst _ hb) (by show 1 ≤ 2; decide)
end

--@SPLIT
/-! ### d.setdefault(k, x) and list(d.values()), keys nested tuples -/
section
variable {X : Cx} {o e f : Expr} {td ty tx : TE} {apos cpos : Pos}
def tNSetd (P : Program) (w : World) (td ty tx : TE) : TE := fun σ H Q => td σ H fun x H1 => (∃ a kvs, x = .ref a ∧ NDict P w H1 a kvs) ∧ ty σ H1 fun y H2 => tx σ H2 fun z H3 => ∃ d kvs k b, x = .ref d ∧ y = .ref b ∧ NDict P w H3 d kvs ∧ NKey H3 k y ∧ k.depth ≤ 8 ∧ kvs.length < sizeLine ∧
  (∀ v, valV kvs k = some v → Q v H3) ∧ (valV kvs k = none → ∀ xs, NDict P w (upd H3 d (NObj P w d xs)) d (putK kvs k z) → Q z (upd H3 d (NObj P w d xs)))
theorem pe_nsetd (hu : X.A.units + 64 < cLine) (ho : PE X o td) (he : PE X e ty) (hf : PE X f tx) (m : M2 X o "setdefault" apos e f cpos) : PE X (.Call (.Attribute o "setdefault" apos) [e, f] [] cpos) (tNSetd X.prog X.w td ty tx) := by
  refine ⟨fun pins s σ H Q I h => ?_⟩
  refine wpAny_Call_method m.base m.few m.line PySem.F.plainAttrs_dict PySem.F.slot_dict_setdefault PySem.F.type_dict_setdefault (thn (ho.run pins s σ H _ I h) fun u s1 ⟨x, H1, I1, rx, ⟨a, kvs0, ex, nd0⟩, q1⟩ => ?_)
  subst ex
  obtain rfl : u = Value.ref a := rx
  obtain ⟨_, xs0, _, _, _, _, dd0⟩ := NDict.of I1.hok nd0
  have hz : ∃ ob, s1.heap.get? a = some ob ∧ ob.dict = none := by
    obtain ⟨o1, _, _, g1, g2, _⟩ := dd0
    exact ⟨o1, g1, g2.2.1⟩
  refine ⟨dd0.typeIs, fun b q => ?_, ?_⟩
  · cases q
    exact hz
  rw [m.trees]
  refine Calls.callWith_builtin rfl (Calls.evalArgs_plain (Calls.spliced_cons (thn (he.run pins s1 σ H1 _ I1 q1) fun iv s2 ⟨y, H2, I2, ry, q2⟩ =>
    Calls.spliced_cons (thn (hf.run pins s2 σ H2 _ I2 q2) fun fv s3 ⟨z, H3, I3, rz, d, kvs, k, b, ea, ey, nd, nk, kd, hl, q3, q4⟩ => Calls.spliced_nil ?_))))
  cases ea
  subst ey
  obtain rfl : iv = Value.ref b := ry
  obtain ⟨hd, xs, hH, hks, kv, hz2, dd⟩ := NDict.of I3.hok nd
  have hk := NKey.is I3.hok nk (show RelV (.ref b) (.ref b) from rfl)
  have hx : xs.length ≤ sizeLine := by
    have := kv.length
    rw [PySem.pairsH_length] at this
    omega
  have hv := kv.val k
  rw [PySem.valueAt_pairsH] at hv
  refine PySem.call_setdefault_heap (knd := nkd X.prog X.w) (hsz := hx) (nroom hu _ _) ⟨hk, kd⟩ hd dd (fun p hp => ?_) fun hn h' dd' hs' => ?_
  · rw [hp] at hv
    cases q0 : valV kvs k with
    | none =>
      rw [q0] at hv
      exact (show False from hv).elim
    | some v0 =>
      rw [q0] at hv
      exact ⟨v0, _, I3.tok _, hv, q3 v0 q0⟩
  · rw [hn] at hv
    cases q0 : valV kvs k with
    | some v0 =>
      rw [q0] at hv
      exact (show False from hv).elim
    | none =>
    have he' : ∃ q, h'.get? a = some q := let ⟨q, _, _, hq, _⟩ := dd'; ⟨q, hq⟩
    refine ⟨z, _, d_write (ob := NObj X.prog X.w a (storedH xs k b fv)) I3 (by rw [hH]; exact True.intro) hs' he' (nobj_ok hd dd'), rz, q4 q0 _ ⟨_, upd_same, fun x hx' => ?_, ?_, ?_⟩⟩
    · have keep : ∀ c ys, H3 c = some (.tup ys) → upd H3 a (NObj X.prog X.w a (storedH xs k b fv)) c = some (.tup ys) := fun c ys q => by
        rw [upd_ne fun z => ?_]
        · exact q
        · rw [z, hH] at q
          cases q
      rcases mem_storedH x hx' with ⟨z, hz1, e1, e2⟩ | ⟨e1, e2⟩
      · rw [e1, e2]
        exact ⟨(hks z hz1).1.mono keep, (hks z hz1).2⟩
      · rw [e1, e2]
        exact ⟨nk.mono keep, kd⟩
    · rw [PySem.pairsH_storedH]
      exact kv.put k rz
    · have := length_putK kvs k z
      omega
/-- a view of the values of the dict at d -/
def vwO (p d : Addr) : HO := .ext fun h => h.get? p = some { cls := .type "dict_values", data := .fields #[.ref d] }
theorem vwO_ok {P : Program} {w : World} {H : Hp} {h : Heap} {p d : Addr} (e : h.get? p = some { cls := .type "dict_values", data := .fields #[.ref d] }) : ObjOk P w H h p (vwO p d) := ⟨e, ⟨_, e⟩, fun h1 h2 q k => k _ q⟩
def tNVals (P : Program) (w : World) (t : TE) : TE := fun σ H Q => t σ H fun x H1 => ∃ a kvs, x = .ref a ∧ NDict P w H1 a kvs ∧ ∀ p, H1 p = none → Q (.ref p) (upd H1 p (vwO p a))
theorem raw_of {P : Program} {w : World} {h : Heap} {d : Addr} {xs : List (NK × Addr × Value)} (x : h.DictOfH (nkd P w) d xs) : ∃ es ep, h.DictRaw d es ep ∧ es.toList = xs.map (entryOfKey (nkd P w)) := by
  obtain ⟨o, es, ep, q2, q3, q4, q5, _⟩ := x
  exact ⟨es, ep, ⟨o, q2, q3, q4⟩, q5⟩
theorem pe_nvals (he : PE X e td) (hbase : attributeBase e "values" X.env (eval e X.env) = eval e X.env := by rfl) (hline : (apos.endLine == cpos.line) = true := by rfl) : PE X (.Call (.Attribute e "values" apos) [] [] cpos) (tNVals X.prog X.w td) := by
  refine ⟨fun pins s σ H Q I h => ?_⟩
  refine wpAny_Call_method (T := "dict") (id := "dict.values") hbase rfl hline F.plainAttrs_dict F.slot_dict_values F.type_dict_values (thn (he.run pins s σ H _ I h) fun u s1 ⟨x, H1, I1, rx, a, kvs, ex, nd, q⟩ => ?_)
  subst ex
  obtain rfl : u = Value.ref a := rx
  obtain ⟨hd, xs, _, _, _, _, dd⟩ := NDict.of I1.hok nd
  obtain ⟨es, ep, hr, _⟩ := raw_of dd
  have hz : ∃ ob, s1.heap.get? a = some ob ∧ ob.dict = none := by
    obtain ⟨o1, _, _, g1, g2, _⟩ := dd
    exact ⟨o1, g1, g2.2.1⟩
  refine ⟨dd.typeIs, fun b q => ?_, ?_⟩
  · cases q
    exact hz
  show wpAny _ _ (callWith cpos (.builtin "dict.values") [.ref a] [] []) _ X.xe s1
  exact method_meetsIn F.slot_dict_values F.entry_dict_values rfl (PySem.evalArgs_none ⟨rfl, dd.typeIs, F.args_dict_values_1 _, _, PySem.meets_dict_values_raw a hd, ⟨es, ep, hr⟩, ⟨.ref s1.heap.objs.size, _, I1.laid (t' := s1.toks) (fun b o q => Heap.get?_push_of_some _ q) (Nat.le_refl _) (vwO_ok (Heap.get?_push_size _ rfl)), rfl, q _ (I1.hok.fresh (Nat.le_refl _))⟩⟩)
theorem vals_kv {kvs : List (NK × V)} {vs : List (NK × Value)} (r : KV kvs vs) : Vals (kvs.map (·.2)) (vs.map (·.2)) := by
  unfold KV at r
  induction r with
  | nil => exact .nil
  | cons h t ih => exact .cons h.2 ih
/-- list(a view of values) -/
def rListV (P : Program) (w : World) : List V → Hp → VK → Prop := fun xs H Q => ∃ p d kvs, xs = [.ref p] ∧ H p = some (vwO p d) ∧ NDict P w H d kvs ∧ ∀ l, H l = none → Q (.ref l) (upd H l (.lst (kvs.map (·.2))))
theorem call_listV (hc : X.calm = true) : CallR X (.type "list") (rListV X.prog X.w) := by
  intro pins s σ H xs us Q I rx h
  obtain ⟨p, d, kvs, rfl, hp, nd, q⟩ := h
  rw [Vals.ref1 rx]
  have hv : s.heap.get? p = some { cls := .type "dict_values", data := .fields #[.ref d] } := (show ObjOk X.prog X.w H s.heap p (vwO p d) from I.hok p _ hp).1
  obtain ⟨hd, zs, _, _, kv, hz, dd⟩ := NDict.of I.hok nd
  obtain ⟨es, ep, hr, hes⟩ := raw_of dd
  have hlen : es.size = zs.length := by rw [← Array.length_toList, hes, List.length_map]
  have hkl : kvs.length = zs.length := by
    have := kv.length
    rw [PySem.pairsH_length] at this
    omega
  refine PySem.W.kdl_call (PySem.KdlSrc.rawValues (r := p) (d := d) (es := es) (ep := ep)) (I.ok.hd hc) ⟨⟨_, hv, rfl, rfl⟩, hr⟩ (by omega) fun h' tk acc' c' kp hS hacc => ?_
  have hrel : Vals (kvs.map (·.2)) acc'.toList := by
    have eL : acc'.toList = (PySem.pairsH zs).map (·.2) := by
      apply List.ext_getElem?
      intro j
      rw [List.getElem?_map, Array.getElem?_toList]
      by_cases hj : j < es.size
      · have hja : j < acc'.size := by rw [hacc.1]; exact hj
        rw [Array.getElem?_eq_getElem hja]
        obtain ⟨hi, hv⟩ := hacc.2 j acc'[j] (Array.getElem?_eq_getElem hja)
        rw [hv]
        have ht : es.toList[j]? = some es[j] := by rw [Array.getElem?_toList]; exact Array.getElem?_eq_getElem hi
        rw [hes, List.getElem?_map] at ht
        unfold PySem.pairsH
        rw [List.getElem?_map]
        cases hz : zs[j]? with
        | none => rw [hz] at ht; cases ht
        | some z =>
          rw [hz] at ht
          have := Option.some.inj ht
          rw [← this]
          rfl
      · rw [Array.getElem?_eq_none (by rw [hacc.1]; omega), List.getElem?_eq_none (by rw [PySem.pairsH_length]; omega)]
        rfl
    rw [eL]
    exact vals_kv kv
  exact ⟨.ref s.heap.objs.size, _, I.laid (t' := tk) kp (Nat.le_refl _) (show ObjOk X.prog X.w _ h' _ (.lst (kvs.map (·.2))) from ⟨by rw [List.length_map]; exact hz, acc'.toList, c', hrel, by simpa using hS⟩), rfl, q _ (I.hok.fresh (Nat.le_refl _))⟩
end
section
variable {P : Program} {w : World} {σ : L2.St} {H : Hp} {td : TE} {d : Addr} {kvs : List (NK × V)}
theorem el_vals (h : Ev td σ H (.ref d)) (nd : NDict P w H d kvs) : EvL (tCB (rListV P w) (tCons (tNVals P w td) tNil)) σ H (kvs.map (·.2)) := fun H1 e Q q =>
  h H1 e _ fun H2 e2 => ⟨d, kvs, rfl, nd.ex (e.trans e2), fun p hp => ⟨p, d, kvs, rfl, upd_same, (nd.ex (e.trans e2)).ex (Ex.new hp), fun l hl => q l _ (fresh_back (e2.trans (Ex.new hp)) hl) ((e2.trans (Ex.new hp)).trans (Ex.new hl)) upd_same⟩⟩
end

--@SPLIT
/-! ### groups of rows -/
def iSeq (K : PySem.W.Frag) (tl : TE) : TI := fun σ H R => iList K tl σ H R ∨ iTup K tl σ H R
theorem pi_seq {X : Cx} {tg l : Expr} {tl : TE} (hl : PE X l tl) : PI X tg l (iSeq X.K tl) := ⟨fun pins s σ H R I h => h.elim ((pi_list hl).run pins s σ H R I) ((pi_tup hl).run pins s σ H R I)⟩
theorem pi_seqK {X : Cx} {K : PySem.W.Frag} {tg l : Expr} {tl : TE} (h : X.K = K) (hl : PE X l tl) : PI X tg l (iSeq K tl) := h ▸ pi_seq hl
abbrev Grp := List V × List (List V)
def addG (vals r : List V) : List Grp → List Grp
  | [] => [(vals, [r])]
  | g :: G => if rowN g.1 = rowN vals then (g.1, g.2 ++ [r]) :: G else g :: addG vals r G
def valsOf (es : List Cnd) (r : List V) : List V := es.map fun e => evE r e
def groupsOf (es : List Cnd) (L : List (List V)) : List Grp := L.foldl (fun G r => addG (valsOf es r) r G) []
theorem groups_snoc {es : List Cnd} {L : List (List V)} {i : Nat} {r : List V} (h : L[i]? = some r) : groupsOf es (L.take (i + 1)) = addG (valsOf es r) r (groupsOf es (L.take i)) := by
  unfold groupsOf
  rw [List.take_add_one, h, List.foldl_append]
  rfl
theorem addG_hit {vals r : List V} : ∀ {G : List Grp} {j : Nat} {g : Grp}, G[j]? = some g → rowN g.1 = rowN vals → (∀ (m : Nat) (g' : Grp), m < j → G[m]? = some g' → rowN g'.1 ≠ rowN vals) → addG vals r G = G.set j (g.1, g.2 ++ [r])
  | [], j, g, h, _, _ => by simp at h
  | x :: G, 0, g, h, e, _ => by
    obtain rfl := Option.some.inj h
    exact if_pos e
  | x :: G, j + 1, g, h, e, hn => by
    have ih := addG_hit (vals := vals) (r := r) (G := G) (j := j) (by simpa using h) e fun m g' hm hg => hn (m + 1) g' (by omega) (by simpa using hg)
    show (if rowN x.1 = rowN vals then _ else x :: addG vals r G) = _
    rw [if_neg (hn 0 x (by omega) rfl), ih]
    rfl
theorem addG_miss {vals r : List V} : ∀ {G : List Grp}, (∀ g ∈ G, rowN g.1 ≠ rowN vals) → addG vals r G = G ++ [(vals, [r])]
  | [], _ => rfl
  | x :: G, hn => by
    show (if rowN x.1 = rowN vals then _ else x :: addG vals r G) = _
    rw [if_neg (hn x List.mem_cons_self), addG_miss fun g hg => hn g (List.mem_cons_of_mem _ hg)]
    rfl
theorem addG_len {vals r : List V} : ∀ G : List Grp, (addG vals r G).length ≤ G.length + 1
  | [] => Nat.le_refl _
  | g :: G => by
    have := addG_len (vals := vals) (r := r) G
    show (if rowN g.1 = rowN vals then ((g.1, g.2 ++ [r]) :: G : List Grp) else g :: addG vals r G).length ≤ _
    split
    · exact Nat.le_succ _
    · show (addG vals r G).length + 1 ≤ G.length + 1 + 1
      omega
theorem groups_len (es : List Cnd) (L : List (List V)) : ∀ i, (groupsOf es (L.take i)).length ≤ i
  | 0 => Nat.le_refl _
  | i + 1 => by
    have ih := groups_len es L i
    cases h : L[i]? with
    | none =>
      have hl : L.length ≤ i := List.getElem?_eq_none_iff.mp h
      rw [List.take_of_length_le (by omega)]
      rw [List.take_of_length_le hl] at ih
      omega
    | some r =>
      rw [groups_snoc h]
      have := addG_len (vals := valsOf es r) (r := r) (groupsOf es (L.take i))
      omega
/-- what a key finds -/
abbrev GA := Addr × Addr × Addr
def kvsG (G : List Grp) (gs : List GA) : List (NK × V) := List.zipWith (fun g x => (rowN g.1, V.ref x.1)) G gs
theorem kvs_hit {k : NK} {v : V} : ∀ {G : List Grp} {gs : List GA}, gs.length = G.length → valV (kvsG G gs) k = some v → ∃ (j : Nat) (g : Grp) (x : GA), G[j]? = some g ∧ gs[j]? = some x ∧ v = .ref x.1 ∧ rowN g.1 = k ∧ ∀ (m : Nat) (g' : Grp), m < j → G[m]? = some g' → rowN g'.1 ≠ k
  | [], gs, hl, h => by
    cases gs with
    | nil => cases h
    | cons x gs => cases hl
  | g :: G, [], hl, h => by cases hl
  | g :: G, x :: gs, hl, h => by
    by_cases e : rowN g.1 = k
    · have h' : valV ((rowN g.1, V.ref x.1) :: kvsG G gs) k = some v := h
      unfold valV at h'
      rw [List.find?_cons, decide_eq_true e] at h'
      exact ⟨0, g, x, rfl, rfl, (Option.some.inj h').symm, e, fun m g' hm => by omega⟩
    · have h' : valV ((rowN g.1, V.ref x.1) :: kvsG G gs) k = some v := h
      unfold valV at h'
      rw [List.find?_cons, decide_eq_false e] at h'
      obtain ⟨j, g2, x2, h1, h2, h3, h4, h5⟩ := kvs_hit (G := G) (gs := gs) (by simpa using hl) h'
      refine ⟨j + 1, g2, x2, by simpa using h1, by simpa using h2, h3, h4, fun m g' hm hg => ?_⟩
      cases m with
      | zero =>
        obtain rfl := Option.some.inj hg
        exact e
      | succ m => exact h5 m g' (by omega) (by simpa using hg)
theorem kvs_miss {k : NK} : ∀ {G : List Grp} {gs : List GA}, gs.length = G.length → valV (kvsG G gs) k = none → ∀ g ∈ G, rowN g.1 ≠ k
  | [], _, _, _, g, hg => nomatch hg
  | g :: G, [], hl, _, _, _ => by cases hl
  | g :: G, x :: gs, hl, h, g2, hg => by
    have h' : valV ((rowN g.1, V.ref x.1) :: kvsG G gs) k = none := h
    by_cases e : rowN g.1 = k
    · unfold valV at h'
      rw [List.find?_cons, decide_eq_true e] at h'
      cases h'
    · unfold valV at h'
      rw [List.find?_cons, decide_eq_false e] at h'
      rcases List.mem_cons.mp hg with z | z
      · rw [z]; exact e
      · exact kvs_miss (G := G) (gs := gs) (by simpa using hl) h' g2 z
theorem kvs_snoc {G : List Grp} {gs : List GA} {g : Grp} {x : GA} (hl : gs.length = G.length) : kvsG (G ++ [g]) (gs ++ [x]) = kvsG G gs ++ [(rowN g.1, .ref x.1)] := by
  unfold kvsG
  rw [List.zipWith_append hl.symm]
  rfl
theorem kvs_set {G : List Grp} {gs : List GA} {g g' : Grp} {j : Nat} (h : G[j]? = some g) (e : g'.1 = g.1) : kvsG (G.set j g') gs = kvsG G gs := by
  unfold kvsG
  apply List.ext_getElem?
  intro i
  rw [List.getElem?_zipWith, List.getElem?_zipWith, List.getElem?_set]
  by_cases z : j = i
  · subst z
    have hlt := (List.getElem?_eq_some_iff.mp h).1
    rw [if_pos rfl, if_pos hlt, h]
    cases gs[j]? with
    | none => rfl
    | some x =>
      show some (rowN g'.1, V.ref x.1) = some (rowN g.1, V.ref x.1)
      rw [e]
  · rw [if_neg z]
theorem kvs_vals {G : List Grp} {gs : List GA} (hl : gs.length = G.length) : (kvsG G gs).map (·.2) = (gs.map (·.1)).map V.ref := by
  unfold kvsG
  apply List.ext_getElem?
  intro i
  rw [List.getElem?_map, List.getElem?_zipWith, List.getElem?_map, List.getElem?_map]
  by_cases h : i < gs.length
  · rw [List.getElem?_eq_getElem h, List.getElem?_eq_getElem (show i < G.length by omega)]
    rfl
  · rw [List.getElem?_eq_none (show gs.length ≤ i by omega), List.getElem?_eq_none (show G.length ≤ i by omega)]
    rfl
/-! the heap of the groups while they grow -/
structure GIv (H0 H : Hp) (G : List Grp) (gs : List GA) : Prop where
  len : gs.length = G.length
  at_ : ∀ (j : Nat) (g : Grp) (x : GA), G[j]? = some g → gs[j]? = some x → H x.1 = some (.tup [.ref x.2.1, .ref x.2.2]) ∧ H x.2.1 = some (.lst g.1) ∧ H0 x.2.2 = none ∧ ∃ ms : List Addr, H x.2.2 = some (.lst (ms.map V.ref)) ∧ Al2 RowAt H0 ms g.2
  sep : ∀ (j k : Nat) (x y : GA), gs[j]? = some x → gs[k]? = some y → x.2.1 ≠ y.2.2 ∧ (j ≠ k → x.2.2 ≠ y.2.2)
theorem GIv.nil {H0 H : Hp} : GIv H0 H [] [] := ⟨rfl, fun j g x h => by simp at h, fun j k x y h => by simp at h⟩
theorem GIv.mono {H0 H H' : Hp} {G : List Grp} {gs : List GA} (h : GIv H0 H G gs) (k : ∀ (a : Addr) (o : HO), (∃ xs, o = .tup xs) ∨ (∃ xs, o = .lst xs) → H a = some o → H' a = some o) : GIv H0 H' G gs := ⟨h.len, fun j g x a b => by
  obtain ⟨h1, h2, h3, ms, h4, h5⟩ := h.at_ j g x a b
  exact ⟨k _ _ (.inl ⟨_, rfl⟩) h1, k _ _ (.inr ⟨_, rfl⟩) h2, h3, ms, k _ _ (.inr ⟨_, rfl⟩) h4, h5⟩, h.sep⟩
theorem GIv.ex {H0 H H' : Hp} {G : List Grp} {gs : List GA} (h : GIv H0 H G gs) (e : Ex H H') : GIv H0 H' G gs := h.mono fun a o _ q => e _ _ q
theorem GIv.ext {P : Program} {w : World} {H0 H : Hp} {G : List Grp} {gs : List GA} {d : Addr} {kvs : List (NK × V)} {u : HO} (h : GIv H0 H G gs) (nd : NDict P w H d kvs) : GIv H0 (upd H d u) G gs := h.mono fun a o ho q => by
  obtain ⟨xs, hd, _⟩ := nd
  rw [upd_ne fun z => ?_]
  · exact q
  · rw [z, hd] at q
    rcases ho with ⟨ys, rfl⟩ | ⟨ys, rfl⟩ <;> cases q
/-- one row more in the group at j -/
theorem GIv.hit {H0 H : Hp} {G : List Grp} {gs : List GA} {j : Nat} {g : Grp} {x : GA} {q : Addr} {r : List V} {ms : List Addr} (h : GIv H0 H G gs) (hg : G[j]? = some g) (hx : gs[j]? = some x) (hm : H x.2.2 = some (.lst (ms.map V.ref))) (hA : Al2 RowAt H0 ms g.2) (hq : RowAt H0 q r) :
    GIv H0 (upd H x.2.2 (.lst (ms.map V.ref ++ [.ref q]))) (G.set j (g.1, g.2 ++ [r])) gs := by
  have hjl := (List.getElem?_eq_some_iff.mp hg).1
  refine ⟨by rw [List.length_set]; exact h.len, fun i g' y a b => ?_, h.sep⟩
  rw [List.getElem?_set] at a
  by_cases z : j = i
  · subst z
    rw [if_pos rfl, if_pos hjl] at a
    obtain rfl := Option.some.inj a
    rw [hx] at b
    obtain rfl := Option.some.inj b
    obtain ⟨h1, h2, h3, _⟩ := h.at_ j g x hg hx
    refine ⟨?_, ?_, h3, ms ++ [q], ?_, hA.snoc hq⟩
    · rw [upd_ne fun z => by rw [z, hm] at h1; cases h1]
      exact h1
    · rw [upd_ne (h.sep j j x x hx hx).1]
      exact h2
    · rw [upd_same, List.map_append]
      rfl
  · rw [if_neg z] at a
    obtain ⟨h1, h2, h3, ns, h4, h5⟩ := h.at_ i g' y a b
    refine ⟨?_, ?_, h3, ns, ?_, h5⟩
    · rw [upd_ne fun z => by rw [z, hm] at h1; cases h1]
      exact h1
    · rw [upd_ne (h.sep i j y x b hx).1]
      exact h2
    · rw [upd_ne ((h.sep i j y x b hx).2 (Ne.symm z))]
      exact h4
/-- one group more -/
theorem GIv.miss {H0 H : Hp} {G : List Grp} {gs : List GA} {x : GA} {vals : List V} (h : GIv H0 H G gs) (h1 : H x.1 = some (.tup [.ref x.2.1, .ref x.2.2])) (h2 : H x.2.1 = some (.lst vals)) (h3 : H0 x.2.2 = none) (h4 : H x.2.2 = some (.lst [])) (s1 : x.2.1 ≠ x.2.2)
    (s2 : ∀ y ∈ gs, x.2.1 ≠ y.2.2 ∧ y.2.1 ≠ x.2.2 ∧ y.2.2 ≠ x.2.2) : GIv H0 H (G ++ [(vals, [])]) (gs ++ [x]) := by
  have hl := h.len
  refine ⟨by rw [List.length_append, List.length_append, hl]; rfl, fun j g y a b => ?_, fun j k y z a b => ?_⟩
  · by_cases hj : j < G.length
    · rw [List.getElem?_append_left hj] at a
      rw [List.getElem?_append_left (by omega)] at b
      exact h.at_ j g y a b
    · rw [List.getElem?_append_right (by omega)] at a
      rw [List.getElem?_append_right (by omega)] at b
      cases hj0 : j - G.length with
      | zero =>
        rw [hj0] at a
        rw [show j - gs.length = 0 by omega] at b
        obtain rfl := Option.some.inj a
        obtain rfl := Option.some.inj b
        exact ⟨h1, h2, h3, [], h4, Al2.nil⟩
      | succ n => rw [hj0] at a; simp at a
  · have cs : ∀ {j : Nat} {y : GA}, (gs ++ [x])[j]? = some y → (j < gs.length ∧ gs[j]? = some y) ∨ (j = gs.length ∧ y = x) := fun {j y} a => by
      by_cases hj : j < gs.length
      · rw [List.getElem?_append_left hj] at a
        exact .inl ⟨hj, a⟩
      · rw [List.getElem?_append_right (by omega)] at a
        cases hj0 : j - gs.length with
        | zero =>
          rw [hj0] at a
          exact .inr ⟨by omega, (Option.some.inj a).symm⟩
        | succ n => rw [hj0] at a; simp at a
    rcases cs a with ⟨l1, a1⟩ | ⟨l1, rfl⟩ <;> rcases cs b with ⟨l2, b1⟩ | ⟨l2, rfl⟩
    · exact h.sep j k y z a1 b1
    · have := s2 y (List.mem_of_getElem? a1)
      exact ⟨this.2.1, fun _ => this.2.2⟩
    · have := s2 z (List.mem_of_getElem? b1)
      exact ⟨this.1, fun _ => Ne.symm this.2.2⟩
    · exact ⟨s1, fun n => absurd (l1.trans l2.symm) n⟩
/-- a group at its place -/
def GAt (H : Hp) (t : Addr) (g : Grp) : Prop := ∃ a b, H t = some (.tup [.ref a, .ref b]) ∧ H a = some (.lst g.1) ∧ Lst2 RowAt H b g.2
theorem GAt.mn : Mn GAt := fun H H' q l e h => by
  obtain ⟨a, b, h1, h2, h3⟩ := h
  exact ⟨a, b, e _ _ h1, e _ _ h2, h3.mono e fun q l h => RowAt.mn _ _ _ _ e h⟩
theorem GIv.two {H0 H : Hp} {G : List Grp} {gs : List GA} (h : GIv H0 H G gs) (e : Ex H0 H) : Al2 GAt H (gs.map (·.1)) G := ⟨by rw [List.length_map]; exact h.len, fun i t g a b => by
  rw [List.getElem?_map] at a
  cases h9 : gs[i]? with
  | none => rw [h9] at a; cases a
  | some x =>
    rw [h9] at a
    obtain rfl := Option.some.inj a
    obtain ⟨h1, h2, _, ms, h4, h5⟩ := h.at_ i g x b h9
    exact ⟨x.2.1, x.2.2, h1, h2, ms, h4, h5.mono fun q l _ hh => RowAt.mn _ _ _ _ e hh⟩⟩

--@SPLIT
/-! ### the program: groups -/
def EsAt (K : PySem.W.Frag) (H : Hp) (v : V) (es : List Cnd) : Prop := ∃ a ys, v = .ref a ∧ (SqL K H a ys ∨ SqT K H a ys) ∧ DpAll K H ys (es.map Cnd.d)
def EsOk (es : List Cnd) : Prop := es.length ≤ 10 ∧ ∀ e ∈ es, (∃ w, e.ok w) ∧ e.dep ≤ 8
def AsAt (K : PySem.W.Frag) (H : Hp) (v : V) (gs : List Ag) : Prop := ∃ a ys, v = .ref a ∧ (SqL K H a ys ∨ SqT K H a ys) ∧ DpAll K H ys (gs.map Ag.d)
def AsOk (gs : List Ag) : Prop := gs.length ≤ 10 ∧ ∀ g ∈ gs, g.ok
theorem EsAt.ex {K : PySem.W.Frag} {H H' : Hp} {v : V} {es : List Cnd} (h : EsAt K H v es) (e : Ex H H') : EsAt K H' v es := by
  obtain ⟨a, ys, rfl, h1, h2⟩ := h
  exact ⟨a, ys, rfl, h1.imp (ex_l e) (ex_t e), ex_dps e h2⟩
theorem AsAt.ex {K : PySem.W.Frag} {H H' : Hp} {v : V} {es : List Ag} (h : AsAt K H v es) (e : Ex H H') : AsAt K H' v es := by
  obtain ⟨a, ys, rfl, h1, h2⟩ := h
  exact ⟨a, ys, rfl, h1.imp (ex_l e) (ex_t e), ex_dps e h2⟩
def grps (es : List Cnd) (L : List (List V)) : List Grp := if es = [] then [([], L)] else groupsOf es L
noncomputable def grpRow (gs : List Ag) (g : Grp) : List V := g.1 ++ gs.map fun a => agV a g.2
noncomputable def grpRows (es : List Cnd) (gs : List Ag) (L : List (List V)) : List (List V) := (grps es L).map (grpRow gs)
/-! what is in a group -/
def GrpIn (es : List Cnd) (L : List (List V)) (g : Grp) : Prop := (∃ r ∈ L, g.1 = valsOf es r) ∧ ∀ r ∈ g.2, r ∈ L
theorem addG_in {es : List Cnd} {L : List (List V)} {r : List V} (hr : r ∈ L) : ∀ {G : List Grp}, (∀ g ∈ G, GrpIn es L g) → ∀ g ∈ addG (valsOf es r) r G, GrpIn es L g
  | [], _, g, hg => by
    rw [List.mem_singleton.mp hg]
    exact ⟨⟨r, hr, rfl⟩, fun x hx => by rw [List.mem_singleton.mp hx]; exact hr⟩
  | x :: G, h, g, hg => by
    have hg' : g ∈ (if rowN x.1 = rowN (valsOf es r) then ((x.1, x.2 ++ [r]) :: G : List Grp) else x :: addG (valsOf es r) r G) := hg
    have hx := h x List.mem_cons_self
    split at hg'
    · rcases List.mem_cons.mp hg' with z | z
      · rw [z]
        refine ⟨hx.1, fun y hy => ?_⟩
        rcases List.mem_append.mp hy with u | u
        · exact hx.2 y u
        · rw [List.mem_singleton.mp u]; exact hr
      · exact h g (List.mem_cons_of_mem _ z)
    · rcases List.mem_cons.mp hg' with z | z
      · rw [z]; exact hx
      · exact addG_in hr (fun y hy => h y (List.mem_cons_of_mem _ hy)) g z
theorem groups_in (es : List Cnd) (L : List (List V)) : ∀ (i : Nat), ∀ g ∈ groupsOf es (L.take i), GrpIn es L g
  | 0 => fun g hg => nomatch hg
  | i + 1 => by
    have ih := groups_in es L i
    cases h : L[i]? with
    | none =>
      have hl : L.length ≤ i := List.getElem?_eq_none_iff.mp h
      rw [List.take_of_length_le (by omega)]
      rw [List.take_of_length_le hl] at ih
      exact ih
    | some r =>
      rw [groups_snoc h]
      exact addG_in (List.mem_of_getElem? h) ih
theorem addG_sum {vals r : List V} : ∀ G : List Grp, ((addG vals r G).map fun g => g.2.length).sum = (G.map fun g => g.2.length).sum + 1
  | [] => rfl
  | g :: G => by
    have ih := addG_sum (vals := vals) (r := r) G
    show ((if rowN g.1 = rowN vals then ((g.1, g.2 ++ [r]) :: G : List Grp) else g :: addG vals r G).map fun g => g.2.length).sum = _
    split
    · rw [List.map_cons, List.sum_cons, List.map_cons, List.sum_cons, List.length_append]
      show g.2.length + 1 + _ = _
      omega
    · rw [List.map_cons, List.sum_cons, List.map_cons, List.sum_cons, ih]
      omega
theorem groups_sum (es : List Cnd) (L : List (List V)) : ∀ i, ((groupsOf es (L.take i)).map fun g => g.2.length).sum ≤ i
  | 0 => Nat.le_refl _
  | i + 1 => by
    have ih := groups_sum es L i
    cases h : L[i]? with
    | none =>
      have hl : L.length ≤ i := List.getElem?_eq_none_iff.mp h
      rw [List.take_of_length_le (by omega)]
      rw [List.take_of_length_le hl] at ih
      omega
    | some r =>
      rw [groups_snoc h, addG_sum]
      omega
theorem mem_sum {α : Type} {f : α → Nat} : ∀ {G : List α} {g : α}, g ∈ G → f g ≤ (G.map f).sum
  | x :: G, g, h => by
    rw [List.map_cons, List.sum_cons]
    rcases List.mem_cons.mp h with z | z
    · rw [z]; omega
    · have := mem_sum (f := f) z; omega
theorem vals_ok {es : List Cnd} {r : List V} (he : EsOk es) (hr : OkRB r) : ∀ x ∈ valsOf es r, Ok x := fun x hx => by
  obtain ⟨e, hm, rfl⟩ := List.mem_map.mp hx
  obtain ⟨w, hw⟩ := (he.2 e hm).1
  exact ev_ok (fun y hy => (hr.2 y hy).1) hw
theorem grps_ok {es : List Cnd} {L : List (List V)} (he : EsOk es) (hL : OkRs L) : (grps es L).length ≤ 60 ∧ ∀ g ∈ grps es L, (g.1.length ≤ 10 ∧ ∀ x ∈ g.1, Ok x) ∧ OkRs g.2 := by
  unfold grps
  split
  · refine ⟨by show 1 ≤ 60; decide, fun g hg => ?_⟩
    rw [List.mem_singleton.mp hg]
    exact ⟨⟨Nat.zero_le _, fun x hx => nomatch hx⟩, hL⟩
  · have h1 := groups_len es L L.length
    have h2 := groups_in es L L.length
    have h3 := groups_sum es L L.length
    rw [List.take_length] at h1 h2 h3
    refine ⟨Nat.le_trans h1 hL.1, fun g hg => ?_⟩
    obtain ⟨⟨r, hr, e1⟩, e2⟩ := h2 g hg
    have hs := mem_sum (f := fun g : Grp => g.2.length) hg
    have hl := hL.1
    refine ⟨⟨by rw [e1]; unfold valsOf; rw [List.length_map]; exact he.1, by rw [e1]; exact vals_ok he (hL.2 r hr)⟩, by omega, fun x hx => hL.2 x (e2 x hx)⟩
def sp_evaluate_all (K : PySem.W.Frag) : Sp := fun vs H Q _ => ∃ (v : V) (es : List Cnd) (b : Addr) (xs : List V), vs = [v, .ref b] ∧ EsAt K H v es ∧ EsOk es ∧ SqL K H b xs ∧ OkRB xs ∧ ∀ p H', H p = none → Ex H H' → H' p = some (.lst (valsOf es xs)) → Q (.ref p) H'
def sp_rows_by_values (K : PySem.W.Frag) : Sp := fun vs H Q _ => ∃ (v : V) (es : List Cnd) (r : Addr) (L : List (List V)), vs = [v, .ref r] ∧ EsAt K H v es ∧ EsOk es ∧ Lst2 RowAt H r L ∧ OkRs L ∧ ∀ p H', H p = none → Ex H H' → Lst2 GAt H' p (groupsOf es L) → Q (.ref p) H'
noncomputable def sp_group_rows (K : PySem.W.Frag) : Sp := fun vs H Q _ => ∃ (v u : V) (es : List Cnd) (gs : List Ag) (r : Addr) (L : List (List V)), vs = [v, u, .ref r] ∧ EsAt K H v es ∧ EsOk es ∧ AsAt K H u gs ∧ AsOk gs ∧ Lst2 RowAt H r L ∧ OkRs L ∧ ∀ p H', H p = none → Ex H H' → Lst2 RowAt H' p (grpRows es gs L) → Q (.ref p) H'
theorem range_mapG {α β : Type} (f : α → β) (d : α) : ∀ l : List α, (List.range l.length).map (fun i => f (l.getD i d)) = l.map f := fun l => by
  apply List.ext_getElem?
  intro i
  rw [List.getElem?_map, List.getElem?_map]
  by_cases h : i < l.length
  · rw [List.getElem?_range h, List.getElem?_eq_getElem h]
    show some (f (l.getD i d)) = some (f l[i])
    rw [List.getD_eq_getElem?_getD, List.getElem?_eq_getElem h]
    rfl
  · rw [List.getElem?_eq_none (by rw [List.length_range]; omega), List.getElem?_eq_none (by omega)]
    rfl
theorem dps_at1 {K : PySem.W.Frag} : ∀ {ys : List V} {ds : List PyData} {H : Hp} {i : Nat} {x : V}, DpAll K H ys ds → ys[i]? = some x → ∃ d, ds[i]? = some d ∧ Dp K H x d
  | _, _, _, _, _, .nil, h => by simp at h
  | _, _, _, 0, _, .cons h _, e => by
    cases e
    exact ⟨_, rfl, h⟩
  | _, _, _, i + 1, _, .cons _ t, e => by
    obtain ⟨d, h1, h2⟩ := dps_at1 (i := i) t (by simpa using e)
    exact ⟨d, by simpa using h1, h2⟩
section
variable {K : PySem.W.Frag} {σ : L2.St} {H : Hp} {ta tb tc te tl tx : TE} {E : XK} {D : Ends} {tz : TS}
theorem el_lcS {a : Addr} {xs : List V} {j : Nat} {vs : List Nat} (f : Nat → V) (h : Ev tl σ H (.ref a)) (hx : SqL K H a xs ∨ SqT K H a xs) (hz : xs.length ≤ 40000) (hw : ∀ x, wipe ((wipe σ vs).set j (some x)) vs = wipe σ vs)
    (he : ∀ (i : Nat) (x : V) (H1 : Hp), Ex H H1 → xs[i]? = some x → Ev te ((wipe σ vs).set j (some x)) H1 (f i)) : EvL (tLc (iSeq K tl) (gName j) tYes te vs) σ H ((List.range xs.length).map f) := fun H1 e Q q =>
  hx.elim (fun hl => Or.inl (el_lcY f h hl hz hw he H1 e Q q)) fun ht => Or.inr (el_lcT f h ht hz hw he H1 e Q q)
/-- [evaluate(e, row) for e in es] -/
theorem el_evS {a b : Addr} {ys xs : List V} {es : List Cnd} {j : Nat} {vs : List Nat} (h : Ev tl σ H (.ref a)) (hy : SqL K H a ys ∨ SqT K H a ys) (hd : DpAll K H ys (es.map Cnd.d)) (he : EsOk es) (hb : SqL K H b xs) (hx : OkRB xs) (hw : ∀ x, wipe ((wipe σ vs).set j (some x)) vs = wipe σ vs)
    (h1 : ∀ x H1, Ev tx ((wipe σ vs).set j (some x)) H1 (.ref b)) (hj : ∀ x, ((wipe σ vs).set j (some x))[j]? = some (some x)) :
    EvL (tLc (iSeq K tl) (gName j) tYes (tCall (sp_evaluate K) [] E (tCons (tVar j) (tCons tx tNil))) vs) σ H (valsOf es xs) := by
  have hl : ys.length = es.length := by have := dps_len hd; rw [List.length_map] at this; exact this
  have q := el_lcS (K := K) (te := tCall (sp_evaluate K) [] E (tCons (tVar j) (tCons tx tNil))) (fun i => evE xs (es.getD i (.col 0))) h hy (by have := he.1; omega) hw fun i x H1 e1 hi => by
    obtain ⟨d, h2, h3⟩ := dps_at1 hd hi
    rw [List.getElem?_map] at h2
    cases h9 : es[i]? with
    | none => rw [h9] at h2; cases h2
    | some e =>
      rw [h9] at h2
      obtain rfl := Option.some.inj h2
      obtain ⟨⟨w, hw2⟩, hdep⟩ := he.2 e (List.mem_of_getElem? h9)
      rw [List.getD_eq_getElem?_getD, h9]
      exact ec_eval (ev_var (hj _)) (h1 _ _) ⟨ex_dp e1 h3, hdep, w, hw2⟩ (ex_l e1 hb) (fun y hy => (hx.2 y hy).1) hx.1
  rw [hl, range_mapG (fun e => evE xs e)] at q
  exact q
theorem ec_agg {g : Ag} {r : Addr} {L : List (List V)} (ha : EvD K ta σ H g.d) (hb : Ev tb σ H (.ref r)) (hg : g.ok) (hL : Lst2 RowAt H r L) (oL : OkRs L) : Ev (tCall (sp_aggregate K) [] E (tCons ta (tCons tb tNil))) σ H (agV g L) := fun H1 e Q q =>
  ha H1 e _ fun v H2 e2 hd => hb H2 (e.trans e2) _ fun H3 e3 => ⟨v, r, g, L, rfl, ex_dp e3 hd, hg, hL.mono ((e.trans e2).trans e3) fun q l h => RowAt.mn _ _ _ _ ((e.trans e2).trans e3) h, oL, fun H4 e4 => q H4 ((e2.trans e3).trans e4)⟩
/-- [aggregate(a, members) for a in gs] -/
theorem el_agS {a r : Addr} {ys : List V} {gs : List Ag} {L : List (List V)} {j : Nat} {vs : List Nat} (h : Ev tl σ H (.ref a)) (hy : SqL K H a ys ∨ SqT K H a ys) (hd : DpAll K H ys (gs.map Ag.d)) (he : AsOk gs) (hL : Lst2 RowAt H r L) (oL : OkRs L) (hw : ∀ x, wipe ((wipe σ vs).set j (some x)) vs = wipe σ vs)
    (h1 : ∀ x H1, Ex H H1 → Ev tx ((wipe σ vs).set j (some x)) H1 (.ref r)) (hj : ∀ x, ((wipe σ vs).set j (some x))[j]? = some (some x)) :
    EvL (tLc (iSeq K tl) (gName j) tYes (tCall (sp_aggregate K) [] E (tCons (tVar j) (tCons tx tNil))) vs) σ H (gs.map fun a => agV a L) := by
  have hl : ys.length = gs.length := by have := dps_len hd; rw [List.length_map] at this; exact this
  have q := el_lcS (K := K) (te := tCall (sp_aggregate K) [] E (tCons (tVar j) (tCons tx tNil))) (fun i => agV (gs.getD i .rows) L) h hy (by have := he.1; omega) hw fun i x H1 e1 hi => by
    obtain ⟨d, h2, h3⟩ := dps_at1 hd hi
    rw [List.getElem?_map] at h2
    cases h9 : gs[i]? with
    | none => rw [h9] at h2; cases h2
    | some g =>
      rw [h9] at h2
      obtain rfl := Option.some.inj h2
      rw [List.getD_eq_getElem?_getD, h9]
      exact ec_agg (g := g) (ed_val (ev_var (hj _)) (ex_dp e1 h3)) (h1 _ _ e1) (he.2 g (List.mem_of_getElem? h9)) (hL.mono e1 fun q l h => RowAt.mn _ _ _ _ e1 h) oL
  rw [hl, range_mapG (fun a => agV a L)] at q
  exact q
theorem el_evall {v : V} {es : List Cnd} {b : Addr} {xs : List V} (ha : Ev ta σ H v) (hb : Ev tb σ H (.ref b)) (hE : EsAt K H v es) (oE : EsOk es) (hS : SqL K H b xs) (hx : OkRB xs) : EvL (tCall (sp_evaluate_all K) [] E (tCons ta (tCons tb tNil))) σ H (valsOf es xs) := fun H1 e Q q =>
  ha H1 e _ fun H2 e2 => hb H2 (e.trans e2) _ fun H3 e3 => ⟨v, es, b, xs, rfl, hE.ex ((e.trans e2).trans e3), oE, ex_l ((e.trans e2).trans e3) hS, hx, fun p H4 hp e4 h4 => q p H4 (fresh_back (e2.trans e3) hp) ((e2.trans e3).trans e4) h4⟩
theorem ek_rrank {a : Addr} {xs : List V} (ha : Ev ta σ H (.ref a)) (hS : SqL K H a xs) (hx : OkRw xs) : EvK (tCall (sp_row_rank K) [] E (tCons ta tNil)) σ H (rowN xs) := ek_row ha hS hx
theorem et_pair {a : Addr} (h : Ev ta σ H (.ref a)) {H1 : Hp} (e : Ex H H1) (Q : VK) (k : ∀ t b H2, H1 t = none → H1 b = none → Ex H1 H2 → H2 t = some (.tup [.ref a, .ref b]) → H2 b = some (.lst []) → Q (.ref t) H2) : tTup (tCons ta (tCons (tLst tNil) tNil)) σ H1 Q :=
  h H1 e (fun x Ha => (tLst tNil) σ Ha fun y Hb => [x, y].length ≤ sizeLine ∧ ∀ p, Hb p = none → Q (.ref p) (upd Hb p (.tup [x, y]))) fun H2 e2 =>
    (el_lst ea_nil (by decide)) H2 (Ex.refl H2) (fun y Hb => [V.ref a, y].length ≤ sizeLine ∧ ∀ p, Hb p = none → Q (.ref p) (upd Hb p (.tup [V.ref a, y]))) fun b H3 hb e3 h3 => ⟨sz_of (by show 2 ≤ 100000; decide), fun t ht => k t b _ (fresh_back (e2.trans e3) ht) (fresh_back e2 hb) ((e2.trans e3).trans (Ex.new ht)) upd_same (Ex.new ht _ _ h3)⟩
end
section
variable {P : Program} {w : World} {K : PySem.W.Frag} {mg : Str → Option Value} {base : Heap}
theorem ok_evaluate_all (D : Dn K mg "evaluate_all" s_evaluate_all ["expressions", "row"]) (c_evaluate : C8.Cal P w K mg base 15 "evaluate" (sp_evaluate K) []) :
    C8.Cal P w K mg base 16 "evaluate_all" (sp_evaluate_all K) [] := by
  refine cal_of D sc_evaluate_all (fun vs H Q E h => ?_) (fun f cdv A outer s H vs Q E hr h => ?_)
  · obtain ⟨_, _, _, _, rfl, _⟩ := h
    rfl
  refine ⟨_, (pss_one (ps_ret (pe_lc (own := [("expression", 2)]) (g := gName 2) (tt := tYes) rfl sc_evaluate_all.nd (pi_seq (pv 0)) (blkOk_by (N := n_evaluate_all) (sc := C8.fnScope s_evaluate_all) (by decide +kernel)) (fun _ _ _ _ _ => pg_name (i := 2) sc_evaluate_all.nd rfl (Or.inl rfl)) (fun _ _ _ _ _ => pts_nil) (fun _ _ _ _ _ => (C8.pe_c c_evaluate hr (by decide) (by rfl) (pa_cons (pv 2) (pa_cons (pv 1) pa_nil))))))), ?_⟩
  obtain ⟨v, es, b, xs, rfl, ⟨a, ys, rfl, hy, hd⟩, he, hb, hx, q⟩ := h
  exact s_retL (el_evS (K := K) (ev_var rfl) hy hd he hb hx (fun _ => rfl) (fun x H1 => ev_var rfl) (fun _ => rfl)) q
theorem ok_rows_by_values (D : Dn K mg "rows_by_values" s_rows_by_values ["expressions", "rows"]) (c_evaluate_all : C8.Cal P w K mg base 16 "evaluate_all" (sp_evaluate_all K) []) (c_row_rank : C8.Cal P w K mg base 3 "row_rank" (sp_row_rank K) []) (z_list : mg "list" = none) :
    C8.Cal P w K mg base 17 "rows_by_values" (sp_rows_by_values K) [] := by
  refine cal_of D sc_rows_by_values (fun vs H Q E h => ?_) (fun f cdv A outer s H vs Q E hr h => ?_)
  · obtain ⟨_, _, _, _, rfl, _⟩ := h
    rfl
  refine ⟨_, (pss_cons (ps_set (i := 2) sc_rows_by_values.nd rfl (.inl rfl) pe_dnewN)
    (pss_cons (ps_for PassesOwn.never rfl (pi_list (pv 1)) (pg_name (i := 3) sc_rows_by_values.nd rfl (.inl rfl))
      (pss_cons (ps_set (i := 4) sc_rows_by_values.nd rfl (.inl rfl) (C8.pe_c c_evaluate_all hr (by decide) (by rfl) (pa_cons (pv 0) (pa_cons (pv 3) pa_nil))))
    (pss_one (ps_expr (pe_bm PySem.F.plainAttrs_list PySem.F.slot_list_append PySem.F.type_list_append mt_append (pe_ix ix_tup (pe_nsetd (hu64 hr) (pv 2) (C8.pe_c c_row_rank hr (by decide) (by rfl) (pa_cons (pv 4) pa_nil)) (pe_tup (pa_cons (pv 4) (pa_cons (pe_lst pa_nil) pa_nil))) ⟨by rfl, by rfl, by rfl, by rfl⟩) pe_int (fun _ _ => rfl)) (pa_cons (pv 3) pa_nil))))))
    (pss_one (ps_ret (pe_callTy (call_listV rfl) (by rfl) z_list (by decide +kernel) (pa_cons (pe_nvals (pv 2)) pa_nil)))))), ?_⟩
  obtain ⟨v, es, r, L, rfl, hE, oE, hL, oL, q⟩ := h
  obtain ⟨qs, g1, g2⟩ := hL
  have hql : (qs.map V.ref).length = L.length := by rw [List.length_map, g2.1]
  refine q_dnewN fun d H1 hd e1 nd1 => ?_
  refine q_forLn (xs := qs.map V.ref) (ev_var rfl) (ex_l e1 (sq_of g1)) (fun i σ' H' => ∃ (gs : List GA) (rv vv : Option V), σ' = [some v, some (.ref r), some (.ref d), rv, vv] ∧ Ex H H' ∧ NDict P w H' d (kvsG (groupsOf es (L.take i)) gs) ∧ GIv H H' (groupsOf es (L.take i)) gs) (fun H2 e2 => ⟨[], none, none, rfl, e1.trans e2, nd1.ex e2, GIv.nil⟩) (fun i σ' H' hi pv => ?_) (fun i x σ' H' hi pv => ?_) fun σ' H' pv => ?_
  · obtain ⟨gs, rv, vv, rfl, e, nd, I⟩ := pv
    exact sq_of (e _ _ g1)
  · obtain ⟨gs, rv, vv, rfl, e, nd, I⟩ := pv
    obtain ⟨qa, row, rfl, hrow, hLi, hqi⟩ := al_getB g2 hi
    have oR := oL.2 row (List.mem_of_getElem? hLi)
    have hsn := groups_snoc (es := es) hLi
    have hgl := groups_len es L i
    have hgs := groups_sum es L i
    have hi60 : i < 60 := by have := (List.getElem?_eq_some_iff.mp hLi).1; have := oL.1; omega
    have oV := vals_ok oE oR
    have lV : (valsOf es row).length ≤ 10 := by unfold valsOf; rw [List.length_map]; exact oE.1
    generalize groupsOf es (L.take i) = G at nd I hsn hgl hgs
    rw [hsn]
    have hglen := I.len
    refine q_asgL (xs := valsOf es row) (el_evall (K := K) (ev_var rfl) (ev_var rfl) (hE.ex e) oE (sq_of (e _ _ hrow)) oR) fun a H2 ha e2 h2 => ?_
    have nd2 := nd.ex e2
    have I2 := I.ex e2
    refine ⟨.ref d, rfl, ⟨d, _, rfl, nd2⟩, ?_⟩
    refine (ek_row (K := K) (ev_var rfl) (sq_of h2) ⟨by omega, oV⟩) H2 (Ex.refl H2) _ fun kb H3 hkb e3 nk => ?_
    refine et_pair (ev_var rfl) (Ex.refl H3) _ fun t b H4 ht hb e4 h4 h5 => ?_
    have nd4 := (nd2.ex e3).ex e4
    have I4 := (I2.ex e3).ex e4
    have x4 := (e2.trans e3).trans e4
    have hkl : (kvsG G gs).length ≤ 60 := by
      unfold kvsG
      rw [List.length_zipWith]
      omega
    refine ⟨d, _, _, kb, rfl, rfl, nd4, nk.ex e4, dep_row _, sz_lt (by omega), fun v2 hv => ?_, fun hn xs' nd5 => ?_⟩
    · obtain ⟨j, g, x, hj, hx, rfl, hk, hno⟩ := kvs_hit hglen hv
      obtain ⟨a1, a2, a3, ms, a4, a5⟩ := I4.at_ j g x hj hx
      refine (ev_c (v := .int 1)) H4 (Ex.refl H4) _ fun H5a e5a => ?_
      refine (rv_ixT (K := K) (st_of (e5a _ _ a1)) (atI_nat (j := 1) rfl)) H5a (Ex.refl H5a) _ fun H5 e5b => ?_
      have e5 := e5a.trans e5b
      refine ⟨Or.inl ⟨rfl, _, sq_of (e5 _ _ a4)⟩, ?_⟩
      have hm5 := e5 _ _ a4
      have hlm : ms.length ≤ 60 := by
        have h1 := mem_sum (f := fun g : Grp => g.2.length) (List.mem_of_getElem? hj)
        have h2 := a5.1
        omega
      refine ⟨.ref qa, rfl, x.2.2, _, .ref qa, rfl, rfl, hm5, sz_lt (by rw [List.length_map]; omega), ?_⟩
      have I6 := (I4.ex e5).hit (q := qa) hj hx hm5 a5 hrow
      refine ⟨gs, _, _, rfl, Ex.mut ((e.trans x4).trans e5) a3, ?_, ?_⟩
      · rw [addG_hit hj hk hno, kvs_set (g' := (g.1, g.2 ++ [row])) hj rfl]
        exact (nd4.ex e5).upd hm5 (fun xs z => nomatch z) ((nd4.ex e5).ne hm5 fun φ z => nomatch z)
      · rw [addG_hit hj hk hno]
        exact I6
    · have hm := kvs_miss hglen hn
      have h2' := (e3.trans e4) _ _ h2
      have td := nd4.ne h4 fun φ z => nomatch z
      have bd := nd4.ne h5 fun φ z => nomatch z
      have ad := nd4.ne h2' fun φ z => nomatch z
      have u1 : upd H4 d (NObj P w d xs') t = some (.tup [.ref a, .ref b]) := by rw [upd_ne (Ne.symm td)]; exact h4
      have u2 : upd H4 d (NObj P w d xs') a = some (.lst (valsOf es row)) := by rw [upd_ne (Ne.symm ad)]; exact h2'
      have u3 : upd H4 d (NObj P w d xs') b = some (.lst []) := by rw [upd_ne (Ne.symm bd)]; exact h5
      have hb0 : H b = none := fresh_back ((e.trans e2).trans e3) hb
      have I5 := (I4.ext (u := NObj P w d xs') nd4).miss (x := (t, a, b)) (vals := valsOf es row) u1 u2 hb0 u3 (fun z => by rw [← show a = b from z, e3 _ _ h2] at hb; cases hb) fun y hy => by
        obtain ⟨j, hj, rfl⟩ := List.getElem_of_mem hy
        obtain ⟨b1, b2, b3, ms, b4, b5⟩ := I.at_ j G[j] gs[j] (List.getElem?_eq_getElem (by omega)) (List.getElem?_eq_getElem hj)
        exact ⟨(fun z => by rw [show a = gs[j].2.2 from z, b4] at ha; cases ha), (fun z => by rw [show b = gs[j].2.1 from z.symm, (e2.trans e3) _ _ b2] at hb; cases hb), (fun z => by rw [show b = gs[j].2.2 from z.symm, (e2.trans e3) _ _ b4] at hb; cases hb)⟩
      refine (ev_c (v := .int 1)) _ (Ex.refl _) _ fun H6a e6a => ?_
      refine (rv_ixT (K := K) (st_of (e6a _ _ u1)) (atI_nat (j := 1) rfl)) H6a (Ex.refl H6a) _ fun H6 e6b => ?_
      have e6 := e6a.trans e6b
      refine ⟨Or.inl ⟨rfl, _, sq_of (e6 _ _ u3)⟩, ?_⟩
      refine ⟨.ref qa, rfl, b, [], .ref qa, rfl, rfl, e6 _ _ u3, sz_lt (by decide), ?_⟩
      have hG : (G ++ [(valsOf es row, [])])[G.length]? = some (valsOf es row, ([] : List (List V))) := List.getElem?_concat_length ..
      have hX : (gs ++ [(t, a, b)])[G.length]? = some (t, a, b) := by rw [← hglen]; exact List.getElem?_concat_length ..
      have I6 := (I5.ex e6).hit (q := qa) (r := row) (ms := []) hG hX (e6 _ _ u3) Al2.nil hrow
      have eG : (G ++ [(valsOf es row, ([] : List (List V)))]).set G.length (valsOf es row, [] ++ [row]) = addG (valsOf es row) row G := by
        rw [addG_miss hm]
        simp
      rw [eG] at I6
      have nd6 := (nd5.ex e6).upd (o := .lst ([] ++ [.ref qa])) (e6 _ _ u3) (fun xs z => nomatch z) ((nd5.ex e6).ne (e6 _ _ u3) fun φ z => nomatch z)
      rw [putK_new _ hn] at nd6
      refine ⟨gs ++ [(t, a, b)], _, _, rfl, Ex.mut ((Ex.mut (e.trans x4) hd).trans e6) hb0, ?_, I6⟩
      rw [addG_miss hm, kvs_snoc hglen]
      exact nd6
  · obtain ⟨gs, rv, vv, rfl, e, nd, I⟩ := pv
    rw [hql, List.take_length] at nd I
    refine s_retL (el_vals (ev_var rfl) nd) fun p H2 hp e2 h2 => q p H2 (fresh_back e hp) (e.trans e2) ⟨gs.map (·.1), ?_, ?_⟩
    · rw [h2, kvs_vals I.len]
    · exact (I.ex e2).two (e.trans e2)
end

--@SPLIT
/-! ### the program: rows of groups -/
section
variable {K : PySem.W.Frag} {σ : L2.St} {H : Hp} {ta tb tc te tl tx : TE} {tt : TT} {E : XK} {D : Ends} {tz : TS}
theorem et_truS {a : Addr} {xs : List V} (h : Ev te σ H (.ref a)) (hx : SqL K H a xs ∨ SqT K H a xs) : EvT (fun σ H Q => te σ H fun x H' => ∃ k, TruV K x H' k ∧ Q k H') σ H (!xs.isEmpty) := fun H1 e Q q => h H1 e _ fun H2 e2 => ⟨!xs.isEmpty, hx.elim (fun h => .inl ⟨xs, ex_l (e.trans e2) h, rfl⟩) (fun h => .inr (.inl ⟨xs, ex_t (e.trans e2) h, rfl⟩)), q H2 e2⟩
theorem q_asgIf {b : Bool} {i : Nat} {G : Addr → Hp → Prop} (h : EvT tt σ H b) (h1 : b = true → ∀ H1, Ex H H1 → ∀ Q : VK, (∀ p H2, G p H2 → Q (.ref p) H2) → ta σ H1 Q) (h2 : b = false → ∀ H1, Ex H H1 → ∀ Q : VK, (∀ p H2, G p H2 → Q (.ref p) H2) → tb σ H1 Q)
    (k : ∀ p H1, G p H1 → tz D (σ.set i (some (.ref p))) H1) : tSeq (tAsg (tIf tt ta tb) (gName i)) tz D σ H := h H (Ex.refl H) _ fun H1 e => by
  cases b with
  | true => exact h1 rfl H1 e _ k
  | false => exact h2 rfl H1 e _ k
theorem eg_rbv {v : V} {es : List Cnd} {r : Addr} {L : List (List V)} (ha : Ev ta σ H v) (hb : Ev tb σ H (.ref r)) (hE : EsAt K H v es) (oE : EsOk es) (hL : Lst2 RowAt H r L) (oL : OkRs L) {H1 : Hp} (e : Ex H H1) (Q : VK) (k : ∀ p H2, H1 p = none → Ex H1 H2 → Lst2 GAt H2 p (groupsOf es L) → Q (.ref p) H2) :
    tCall (sp_rows_by_values K) [] E (tCons ta (tCons tb tNil)) σ H1 Q := ha H1 e _ fun H2 e2 => hb H2 (e.trans e2) _ fun H3 e3 => ⟨v, es, r, L, rfl, hE.ex ((e.trans e2).trans e3), oE, hL.mono ((e.trans e2).trans e3) fun q l h => RowAt.mn _ _ _ _ ((e.trans e2).trans e3) h, oL, fun p H4 hp e4 h4 => k p H4 (fresh_back (e2.trans e3) hp) ((e2.trans e3).trans e4) h4⟩
theorem eg_one {r : Addr} (hb : Ev tb σ H (.ref r)) {H1 : Hp} (e : Ex H H1) (Q : VK) (k : ∀ p t b H2, H1 p = none → Ex H1 H2 → H2 p = some (.lst [.ref t]) → H2 t = some (.tup [.ref b, .ref r]) → H2 b = some (.lst []) → Q (.ref p) H2) :
    tLst (tCons (tTup (tCons (tLst tNil) (tCons tb tNil))) tNil) σ H1 Q :=
  (el_lst (σ := σ) ea_nil (by decide)) H1 (Ex.refl H1) (fun x Ha => tb σ Ha fun y Hb => [x, y].length ≤ sizeLine ∧ ∀ t, Hb t = none → [V.ref t].length ≤ sizeLine ∧ ∀ p, upd Hb t (.tup [x, y]) p = none → Q (.ref p) (upd (upd Hb t (.tup [x, y])) p (.lst [.ref t]))) fun b H2 hb2 e2 h2 =>
    hb H2 (e.trans e2) (fun y Hb => [V.ref b, y].length ≤ sizeLine ∧ ∀ t, Hb t = none → [V.ref t].length ≤ sizeLine ∧ ∀ p, upd Hb t (.tup [V.ref b, y]) p = none → Q (.ref p) (upd (upd Hb t (.tup [V.ref b, y])) p (.lst [.ref t]))) fun H3 e3 =>
      ⟨sz_of (by show 2 ≤ 100000; decide), fun t ht => ⟨sz_of (by show 1 ≤ 100000; decide), fun p hp => by
        have x1 : Ex H3 (upd H3 t (.tup [.ref b, .ref r])) := Ex.new ht
        have x2 := Ex.new (o := .lst [.ref t]) hp
        exact k p t b _ (fresh_back ((e2.trans e3).trans x1) hp) (((e2.trans e3).trans x1).trans x2) upd_same (x2 _ _ upd_same) ((e3.trans (x1.trans x2)) _ _ h2)⟩⟩
theorem el_catN {l : Addr} {xs ys : List V} (ha : Ev ta σ H (.ref l)) (h1 : H l = some (.lst xs)) (hb : EvL tb σ H ys) (hz : xs.length + ys.length ≤ 100000) : EvL (tOp rCat ta tb) σ H (xs ++ ys) := fun H1 e Q q =>
  ha H1 e _ fun H2 e2 => hb H2 (e.trans e2) _ fun b H3 _ e3 hb3 => ⟨l, b, xs, ys, rfl, rfl, ((e.trans e2).trans e3) _ _ h1, hb3, sz_of hz, fun p hp => q p _ (fresh_back (e2.trans e3) hp) ((e2.trans e3).trans (Ex.new hp)) upd_same⟩
end
section
variable {P : Program} {w : World} {K : PySem.W.Frag} {mg : Str → Option Value} {base : Heap}
theorem ok_group_rows (D : Dn K mg "group_rows" s_group_rows ["keys", "values", "rows"]) (c_aggregate : C8.Cal P w K mg base 16 "aggregate" (sp_aggregate K) []) (c_rows_by_values : C8.Cal P w K mg base 17 "rows_by_values" (sp_rows_by_values K) []) :
    C8.Cal P w K mg base 18 "group_rows" (sp_group_rows K) [] := by
  refine cal_of D sc_group_rows (fun vs H Q E h => ?_) (fun f cdv A outer s H vs Q E hr h => ?_)
  · obtain ⟨_, _, _, _, _, _, rfl, _⟩ := h
    rfl
  refine ⟨_, (pss_cons (ps_set (i := 3) sc_group_rows.nd rfl (.inl rfl) (pe_ifExp (pt_truth (pv 0) (by intro _; rfl)) (C8.pe_c c_rows_by_values hr (by decide) (by rfl) (pa_cons (pv 0) (pa_cons (pv 2) pa_nil))) (pe_lst (pa_cons (pe_tup (pa_cons (pe_lst pa_nil) (pa_cons (pv 2) pa_nil))) pa_nil))))
    (pss_cons (ps_set (i := 4) sc_group_rows.nd rfl (.inl rfl) (pe_lst pa_nil))
    (pss_cons (ps_for PassesOwn.never rfl (pi_list (pv 3)) (pg_tup rfl (pgs_cons (pg_name (i := 5) sc_group_rows.nd rfl (.inl rfl)) (pgs_cons (pg_name (i := 6) sc_group_rows.nd rfl (.inr rfl)) pgs_nil)))
      (pss_one (ps_expr (pe_bm PySem.F.plainAttrs_list PySem.F.slot_list_append PySem.F.type_list_append mt_append (pv 4) (pa_cons (pe_op op_cat (pv 5) (pe_lc (own := [("value", 7)]) (g := gName 7) (tt := tYes) rfl sc_group_rows.nd (pi_seq (pv 1)) (blkOk_by (N := n_group_rows) (sc := C8.fnScope s_group_rows) (by decide +kernel)) (fun _ _ _ _ _ => pg_name (i := 7) sc_group_rows.nd rfl (Or.inl rfl)) (fun _ _ _ _ _ => pts_nil) (fun _ _ _ _ _ => (C8.pe_c c_aggregate hr (by decide) (by rfl) (pa_cons (pv 7) (pa_cons (pv 6) pa_nil)))))) pa_nil)))))
    (pss_one (ps_ret (pv 4)))))), ?_⟩
  obtain ⟨v, u, es, gs, r, L, rfl, hE, oE, hA, oA, hL, oL, q⟩ := h
  have hE0 := hE
  obtain ⟨ka, kys, rfl, kS, kD⟩ := hE
  have hkl : kys.length = es.length := by have := dps_len kD; rw [List.length_map] at this; exact this
  refine q_asgIf (G := fun p H1 => H p = none ∧ Ex H H1 ∧ Lst2 GAt H1 p (grps es L)) (b := !kys.isEmpty) (et_truS (ev_var rfl) kS) (fun hb H1 e1 Q k => ?_) (fun hb H1 e1 Q k => ?_) fun p H1 hG => ?_
  · have hne : es ≠ [] := fun z => by
      subst z
      have := List.length_eq_zero_iff.mp hkl
      subst this
      cases hb
    refine eg_rbv (ev_var rfl) (ev_var rfl) hE0 oE hL oL e1 Q fun p H2 hp e2 h2 => k p H2 ⟨fresh_back e1 hp, e1.trans e2, ?_⟩
    unfold grps
    rw [if_neg hne]
    exact h2
  · have hne : es = [] := by
      cases kys with
      | nil => exact List.length_eq_zero_iff.mp hkl.symm
      | cons x r => cases hb
    refine eg_one (ev_var rfl) e1 Q fun p t b H2 hp e2 h2 h3 h4 => k p H2 ⟨fresh_back e1 hp, e1.trans e2, ?_⟩
    unfold grps
    rw [if_pos hne]
    refine ⟨[t], h2, rfl, fun i q l a b2 => ?_⟩
    cases i with
    | zero =>
      cases a; cases b2
      exact ⟨b, r, h3, h4, hL.mono (e1.trans e2) fun q l h => RowAt.mn _ _ _ _ (e1.trans e2) h⟩
    | succ i => simp at a
  obtain ⟨hp, e1, ts, t1, t2⟩ := hG
  obtain ⟨gl, go⟩ := grps_ok oE oL
  refine q_asgL (el_lst ea_nil (by decide)) fun f H2 hf e2 h2 => ?_
  have htl : (ts.map V.ref).length = (grps es L).length := by rw [List.length_map, t2.1]
  refine q_forL (xs := ts.map V.ref) (ev_var rfl) (sq_of (e2 _ _ t1)) (fun i σ' H' => ∃ (rs : List Addr) (tv mv : Option V), σ' = [some (.ref ka), some u, some (.ref r), some (.ref p), some (.ref f), tv, mv, none] ∧ Ex H1 H' ∧ H' f = some (.lst (rs.map V.ref)) ∧ Al2 RowAt (wo f H') rs (((grps es L).take i).map (grpRow gs))) (fun H3 e3 => ⟨[], none, none, rfl, e2.trans e3, e3 _ _ h2, Al2.nil⟩) (fun i σ' H' hi pv => ?_) (fun i x σ' H' hi pv => ?_) fun σ' H' pv => ?_
  · obtain ⟨rs, tv, mv, rfl, e, hf', hA'⟩ := pv
    exact sq_of (e _ _ t1)
  · obtain ⟨rs, tv, mv, rfl, e, hf', hA'⟩ := pv
    rw [List.getElem?_map] at hi
    cases h9 : ts[i]? with
    | none => rw [h9] at hi; cases hi
    | some t =>
    rw [h9] at hi
    obtain rfl := Option.some.inj hi
    have hil : i < (grps es L).length := by rw [← t2.1]; exact (List.getElem?_eq_some_iff.mp h9).1
    have hgi := List.getElem?_eq_getElem hil
    obtain ⟨a, b, k1, k2, k3⟩ := t2.2 i t _ h9 hgi
    obtain ⟨⟨ol, oo⟩, om⟩ := go _ (List.getElem_mem hil)
    have htk : (grps es L).take (i + 1) = (grps es L).take i ++ [(grps es L)[i]] := by rw [List.take_add_one, hgi]; rfl
    rw [htk]
    generalize (grps es L)[i] = g at k2 k3 ol oo om
    have hrl : rs.length ≤ 60 := by
      have := hA'.1
      rw [List.length_map, List.length_take] at this
      omega
    obtain ⟨ua, uys, rfl, uS, uD⟩ := hA
    refine gt2 (st_of (e _ _ k1)) ?_
    have eH := e1.trans e
    refine ⟨.ref f, rfl, Or.inl ⟨rfl, _, sq_of hf'⟩, (el_catN (ev_var rfl) (e _ _ k2) (el_agS (K := K) (ev_var rfl) (uS.imp (ex_l eH) (ex_t eH)) (ex_dps eH uD) oA (k3.mono e fun q l h => RowAt.mn _ _ _ _ e h) om (fun _ => rfl) (fun x H1 _ => ev_var rfl) (fun _ => rfl)) (by rw [List.length_map]; have := oA.1; omega)) H' (Ex.refl H') _ fun n H3 hn e3 h3 => ⟨f, _, .ref n, rfl, rfl, e3 _ _ hf', sz_lt (by rw [List.length_map]; omega), ⟨rs ++ [n], _, _, rfl, Ex.mut (e.trans e3) hf, by rw [upd_same, List.map_append]; rfl, ?_⟩⟩⟩
    rw [wo_upd, List.map_append]
    have hnf : n ≠ f := fun z => by rw [z, hf'] at hn; cases hn
    refine (hA'.mono fun q l _ => RowAt.mn _ _ _ _ (wo_mono e3)).snoc ?_
    show wo f H3 n = some (.lst (grpRow gs g))
    rw [wo_ne hnf]
    exact h3
  · obtain ⟨rs, tv, mv, rfl, e, hf', hA'⟩ := pv
    rw [htl, List.take_length] at hA'
    exact s_ret (ev_var rfl) fun H3 e3 => q f H3 (fresh_back e1 hf) ((e1.trans e).trans e3) ⟨rs, e3 _ _ hf', hA'.mono fun q l _ h => e3 _ _ (wo_le _ _ _ _ h)⟩
end

--@SPLIT
/-! ### what is told is plain (of the sister law) -/
/-- the best so far -/
theorem best_step {mx : Bool} {ys : List V} {i : Nat} : PySem.argBest (btR mx ys) (i + 1) = if btR mx ys (i + 1) (PySem.argBest (btR mx ys) i) = true then i + 1 else PySem.argBest (btR mx ys) i := by
  show (if btR mx ys (i + 1) (PySem.argBest (btR mx ys) i) = true then i + 1 else PySem.argBest (btR mx ys) i) = _
  rfl
def bestN (mx : Bool) (xs : List V) : Nat → V
  | 0 => .non
  | i + 1 => xs.getD (PySem.argBest (btR mx xs) i) .non
theorem best_all {mx : Bool} {xs : List V} : bestN mx xs xs.length = if xs.isEmpty = true then .non else bestV mx xs := by
  cases xs with
  | nil => rfl
  | cons x r => rfl
theorem best_ok {mx : Bool} {xs : List V} {i : Nat} (hi : i ≤ xs.length) (hx : ∀ x ∈ xs, Ok x) : Ok (bestN mx xs i) := by
  cases i with
  | zero => exact .non
  | succ j =>
    have hb : PySem.argBest (btR mx xs) j ≤ j := best_lt _ j
    show Ok (xs.getD _ .non)
    rw [List.getD_eq_getElem?_getD, List.getElem?_eq_getElem (by omega)]
    exact hx _ (List.getElem_mem _)
theorem cutV_take {xs : List V} {k : Nat} : cutV xs none (some (k : Int)) = xs.take k := by
  unfold cutV
  rw [HT.sIx_nat, HT.sIx_none, List.drop_zero, Nat.sub_zero]
  by_cases h : k ≤ xs.length
  · rw [Nat.min_eq_left h]
  · rw [Nat.min_eq_right (by omega), List.take_of_length_le (Nat.le_refl _), List.take_of_length_le (by omega)]
theorem cutV_drop {xs : List V} {k : Nat} : cutV xs (some (k : Int)) none = xs.drop k := by
  unfold cutV
  rw [HT.sIx_nat, HT.sIx_none]
  by_cases h : k ≤ xs.length
  · rw [Nat.min_eq_left h, List.take_of_length_le (by rw [List.length_drop]; omega)]
  · rw [Nat.min_eq_right (by omega), List.drop_eq_nil_of_le (Nat.le_refl _), List.drop_eq_nil_of_le (show xs.length ≤ k by omega)]
    simp
theorem join_is (ys : List Str) : joinS ys = Str.join (PySem.Str.ofString ", ") ys := PySem.StrLaws.glued_eq_join _ _
theorem str_assoc (a b c : Str) : a ++ b ++ c = a ++ (b ++ c) := congrArg Str.mk (Array.append_assoc ..)
theorem join_more {s : Str} : ∀ {ys : List Str} {m : Str}, ys ≠ [] → Str.join s (ys ++ [m]) = Str.join s ys ++ s ++ m
  | [], m, h => absurd rfl h
  | [x], m, _ => rfl
  | x :: y :: r, m, _ => by
    have ih := join_more (s := s) (ys := y :: r) (m := m) (by simp)
    show x ++ s ++ Str.join s (y :: r ++ [m]) = x ++ s ++ Str.join s (y :: r) ++ s ++ m
    rw [ih]
    simp only [str_assoc]
theorem joinS_more {ys : List Str} {m : Str} (h : ys ≠ []) : joinS (ys ++ [m]) = joinS ys ++ PySem.Str.ofString ", " ++ m := by
  rw [join_is, join_is, join_more h]
theorem joinS_len : ∀ {ys : List Str}, ys ≠ [] → ((joinS ys).length : Int) = lenS ys
  | [], h => absurd rfl h
  | [x], _ => by
    show ((x.length : Nat) : Int) = (((([x] : List Str).map (·.length)).sum : Nat) : Int) + 2 * ((1 : Int) - 1)
    simp
  | x :: y :: r, _ => by
    have ih := joinS_len (ys := y :: r) (by simp)
    rw [join_is] at ih
    have e : joinS (x :: y :: r) = x ++ PySem.Str.ofString ", " ++ Str.join (PySem.Str.ofString ", ") (y :: r) := join_is _
    rw [e, PySem.strLen_append, PySem.strLen_append, len_commaS]
    unfold lenS at ih ⊢
    rw [List.map_cons, List.sum_cons, List.length_cons]
    omega
theorem joinS_ok : ∀ {ys : List Str}, (∀ y ∈ ys, PyData.strOk y = true) → PyData.strOk (joinS ys) = true
  | [], _ => by decide +kernel
  | [x], h => h x List.mem_cons_self
  | x :: y :: r, h => by
    have ih := joinS_ok (ys := y :: r) fun z hz => h z (List.mem_cons_of_mem _ hz)
    rw [join_is] at ih
    have e : joinS (x :: y :: r) = x ++ PySem.Str.ofString ", " ++ Str.join (PySem.Str.ofString ", ") (y :: r) := join_is _
    rw [e]
    exact strOk_app (strOk_app (h x List.mem_cons_self) (by decide +kernel)) ih
def WsOk (ws : List Str) : Prop := ws.length ≤ 60 ∧ ∀ s ∈ ws, PyData.strOk s = true ∧ s.length ≤ 10000
theorem strs_ok {xs : List V} (h : OkVs xs) : WsOk (strsOf xs) := ⟨Nat.le_trans (strs_len xs) h.1, fun s hs => by
  have := (h.2 _ (strs_mem hs)).1
  cases this with
  | str s hs => exact hs⟩
theorem ok_lim (i : Int) : Ok (limV i) := by
  unfold limV
  split
  · exact .int _
  · exact .non
theorem ok_avg (ns : List Int) : Ok (avgD ns) := by
  unfold avgD
  split
  · exact .non
  · exact ok_lim _
theorem ok_end {mx : Bool} {xs : List V} (h : ∀ x ∈ xs, Ok x) : Ok (endA mx xs) := by
  unfold endA
  rw [← best_all]
  exact best_ok (Nat.le_refl _) fun x hx => h x (List.mem_filter.mp hx).1
theorem ok_list {xs : List V} (h : OkVs xs) : Ok (listV xs) := by
  have hw := strs_ok h
  unfold listV
  split
  · exact .non
  · rename_i hn
    have h1 : sortS (strsOf xs) ≠ [] := fun z => hn (.inl z)
    have hl := joinS_len h1
    have h2 : ¬ 10000 < lenS (sortS (strsOf xs)) := fun z => hn (.inr z)
    refine .str _ ⟨joinS_ok fun y hy => ?_, by omega⟩
    rcases sortS_perm (strsOf xs) with z | z
    · exact (hw.2 y (z.subset hy)).1
    · exact absurd z h1
theorem agg_ok {nm : Str} {xs : List V} (hn : nm ∈ aggNames) (h : OkVs xs) : Ok (aggV nm xs) := by
  simp only [aggNames, List.mem_cons, List.not_mem_nil, or_false] at hn
  rcases hn with rfl | rfl | rfl | rfl | rfl | rfl | rfl | rfl | rfl | rfl
  · rw [agg_0]; exact .int _
  · rw [agg_1]; exact .int _
  · rw [agg_2]
    unfold sumV
    split
    · exact .non
    · exact ok_lim _
  · rw [agg_3]; exact ok_end fun x hx => (h.2 x hx).1
  · rw [agg_4]; exact ok_end fun x hx => (h.2 x hx).1
  · rw [agg_5]; exact ok_avg _
  · rw [agg_6]; exact ok_avg _
  · rw [agg_7]
    unfold everyV
    split
    · exact .non
    · exact .bl _
  · rw [agg_8]
    unfold someV
    split
    · exact .non
    · exact .bl _
  · rw [agg_9]; exact ok_list h

/-! ### how much is shown (of the sister law) -/
theorem sh_v {x : V} (h : OkB x) : shB (vDc x) ≤ 100002 ∧ shOk (vDc x) = true := by
  obtain ⟨h1, h2⟩ := h
  cases h1 with
  | non => exact ⟨by show 2000 ≤ 100002; decide, rfl⟩
  | bl b => exact ⟨by show 2000 ≤ 100002; decide, rfl⟩
  | int i =>
    refine ⟨by show 2000 ≤ 100002; decide, ?_⟩
    have h3 : -1152921504606846976 ≤ i ∧ i ≤ 1152921504606846976 := h2
    show decide (i.natAbs.log2 < 1920) = true
    refine decide_eq_true ?_
    by_cases z : i.natAbs = 0
    · rw [z]; decide
    · exact Nat.lt_of_lt_of_le ((Nat.log2_lt z).mpr (show i.natAbs < 2 ^ 61 by omega)) (by decide)
  | str s hs => exact ⟨by show 10 * s.length + 2 ≤ 100002; omega, hs.1⟩
theorem sh_row : ∀ {r : List V}, (∀ x ∈ r, OkB x) → shBs (r.map vDc) ≤ 100004 * r.length ∧ shOks (r.map vDc) = true
  | [], _ => ⟨Nat.le_refl _, rfl⟩
  | x :: r, h => by
    obtain ⟨a1, a2⟩ := sh_v (h x List.mem_cons_self)
    obtain ⟨b1, b2⟩ := sh_row fun y hy => h y (List.mem_cons_of_mem _ hy)
    refine ⟨?_, ?_⟩
    · show shB (vDc x) + 2 + shBs (r.map vDc) ≤ 100004 * (r.length + 1)
      omega
    · show (shOk (vDc x) && shOks (r.map vDc)) = true
      rw [a2, b2]
      rfl
def rowD (r : List V) : PyData := .list (r.map vDc)
theorem sh_rows : ∀ {L : List (List V)}, (∀ r ∈ L, r.length = 3 ∧ OkRB r) → shBs (L.map rowD) ≤ 300018 * L.length ∧ shOks (L.map rowD) = true
  | [], _ => ⟨Nat.le_refl _, rfl⟩
  | x :: r, h => by
    obtain ⟨hl, ho⟩ := h x List.mem_cons_self
    obtain ⟨a1, a2⟩ := sh_row (r := x) fun y hy => ho.2 y hy
    obtain ⟨b1, b2⟩ := sh_rows fun y hy => h y (List.mem_cons_of_mem _ hy)
    rw [hl] at a1
    refine ⟨?_, ?_⟩
    · show 4 + shBs (x.map vDc) + 2 + shBs (r.map rowD) ≤ 300018 * (r.length + 1)
      omega
    · show (shOks (x.map vDc) && shOks (r.map rowD)) = true
      rw [a2, b2]
      rfl
theorem nm_len {nm : Str} (h : nm ∈ unNames ∨ nm ∈ binNames) : nm.length ≤ 10 ∧ PyData.strOk nm = true := by
  simp only [unNames, binNames, List.mem_cons, List.not_mem_nil, or_false] at h
  rcases h with (h | h | h | h) | (h | h | h | h | h | h | h | h | h | h) <;> subst h <;> exact ⟨by decide +kernel, by decide +kernel⟩
theorem sh_cx {w : Nat} (hw : w ≤ 1000) : ∀ {e : Cnd}, e.ok w → shB e.d ≤ 100500 * 3 ^ e.dep ∧ shOk e.d = true
  | .col n, .col _ h => ⟨by show 4 + (10 * (PySem.Str.ofString "column").length + 2 + 2 + (2000 + 2 + 0)) ≤ 100500 * 3 ^ 1; decide +kernel, by
    show (PyData.strOk (PySem.Str.ofString "column") && (decide ((n : Int).natAbs.log2 < 1920) && true)) = true
    rw [show PyData.strOk (PySem.Str.ofString "column") = true from by decide +kernel]
    show (decide (n.log2 < 1920) && true) = true
    rw [decide_eq_true, Bool.and_true]
    by_cases z : n = 0
    · rw [z]; decide
    · exact Nat.lt_of_lt_of_le ((Nat.log2_lt z).mpr (show n < 2 ^ 61 by omega)) (by decide)⟩
  | .cst v, .cst _ h => by
    obtain ⟨a1, a2⟩ := sh_v h
    refine ⟨?_, ?_⟩
    · show 4 + (10 * (PySem.Str.ofString "constant").length + 2 + 2 + (shB (vDc v) + 2 + 0)) ≤ 100500 * 3 ^ 1
      have : (PySem.Str.ofString "constant").length = 8 := by decide +kernel
      rw [this]
      omega
    · show (PyData.strOk (PySem.Str.ofString "constant") && (shOk (vDc v) && true)) = true
      rw [show PyData.strOk (PySem.Str.ofString "constant") = true from by decide +kernel, a2]
      rfl
  | .un nm a, .un _ _ h ha => by
    obtain ⟨a1, a2⟩ := sh_cx hw ha
    obtain ⟨n1, n2⟩ := nm_len (.inl h)
    refine ⟨?_, ?_⟩
    · show 4 + (10 * (PySem.Str.ofString "unary").length + 2 + 2 + (10 * nm.length + 2 + 2 + (shB a.d + 2 + 0))) ≤ 100500 * 3 ^ (a.dep + 1)
      have : (PySem.Str.ofString "unary").length = 5 := by decide +kernel
      have hp : 0 < 3 ^ a.dep := Nat.pow_pos (by decide)
      rw [this, Nat.pow_succ]
      omega
    · show (PyData.strOk (PySem.Str.ofString "unary") && (PyData.strOk nm && (shOk a.d && true))) = true
      rw [show PyData.strOk (PySem.Str.ofString "unary") = true from by decide +kernel, n2, a2]
      rfl
  | .bin nm a b, .bin _ _ _ h ha hb => by
    obtain ⟨a1, a2⟩ := sh_cx hw ha
    obtain ⟨b1, b2⟩ := sh_cx hw hb
    obtain ⟨n1, n2⟩ := nm_len (.inr h)
    refine ⟨?_, ?_⟩
    · show 4 + (10 * (PySem.Str.ofString "binary").length + 2 + 2 + (10 * nm.length + 2 + 2 + (shB a.d + 2 + (shB b.d + 2 + 0)))) ≤ 100500 * 3 ^ (max a.dep b.dep + 1)
      have : (PySem.Str.ofString "binary").length = 6 := by decide +kernel
      have h1 : 3 ^ a.dep ≤ 3 ^ max a.dep b.dep := Nat.pow_le_pow_right (by decide) (by omega)
      have h2 : 3 ^ b.dep ≤ 3 ^ max a.dep b.dep := Nat.pow_le_pow_right (by decide) (by omega)
      have hp : 0 < 3 ^ max a.dep b.dep := Nat.pow_pos (by decide)
      rw [this, Nat.pow_succ]
      omega
    · show (PyData.strOk (PySem.Str.ofString "binary") && (PyData.strOk nm && (shOk a.d && (shOk b.d && true)))) = true
      rw [show PyData.strOk (PySem.Str.ofString "binary") = true from by decide +kernel, n2, a2, b2]
      rfl
theorem depth_vDc (v : V) : (vDc v).depth = 0 := by cases v <;> rfl
theorem depth_cx : ∀ e : Cnd, e.d.depth ≤ e.dep
  | .col _ => Nat.le_refl 1
  | .cst v => by
    show max 0 (max (vDc v).depth 0) + 1 ≤ 1
    rw [depth_vDc]
    decide
  | .un _ a => by
    have := depth_cx a
    show max 0 (max 0 (max a.d.depth 0)) + 1 ≤ a.dep + 1
    omega
  | .bin _ a b => by
    have h1 := depth_cx a
    have h2 := depth_cx b
    show max 0 (max 0 (max a.d.depth (max b.d.depth 0))) + 1 ≤ max a.dep b.dep + 1
    omega
theorem depths_vDc : ∀ r : List V, PyData.depthAll (r.map vDc) = 0
  | [] => rfl
  | x :: r => by
    show max (vDc x).depth (PyData.depthAll (r.map vDc)) = 0
    rw [depth_vDc, depths_vDc r]
    rfl
theorem depths_rows : ∀ L : List (List V), PyData.depthAll (L.map rowD) ≤ 1
  | [] => Nat.zero_le _
  | r :: L => by
    have := depths_rows L
    show max (PyData.depthAll (r.map vDc) + 1) (PyData.depthAll (L.map rowD)) ≤ 1
    rw [depths_vDc]
    omega
theorem dp_cells {K : PySem.W.Frag} {H : Hp} : ∀ {r : List V}, (∀ x ∈ r, OkB x) → DpAll K H r (r.map vDc)
  | [], _ => .nil
  | x :: r, h => .cons (dp_vDc (h x List.mem_cons_self).1.pl) (dp_cells fun y hy => h y (List.mem_cons_of_mem _ hy))
theorem al2_rows {K : PySem.W.Frag} {H : Hp} : ∀ {qs : List Addr} {L : List (List V)}, Al2 RowAt H qs L → (∀ r ∈ L, OkRB r) → DpAll K H (qs.map V.ref) (L.map rowD)
  | [], [], _, _ => .nil
  | [], _ :: _, h, _ => absurd h.1 (by simp)
  | _ :: _, [], h, _ => absurd h.1 (by simp)
  | q :: qs, r :: L, h, ho => .cons (.lst (sq_of (h.2 0 q r rfl rfl)) (dp_cells (ho r List.mem_cons_self).2)) (al2_rows ⟨by have := h.1; simpa using this, fun i q l a b => h.2 (i + 1) q l (by simpa using a) (by simpa using b)⟩ fun x hx => ho x (List.mem_cons_of_mem _ hx))
theorem dp_rows {K : PySem.W.Frag} {H : Hp} {p : Addr} {L : List (List V)} (h : Lst2 RowAt H p L) (ho : ∀ r ∈ L, OkRB r) : Dp K H (.ref p) (.list (L.map rowD)) := by
  obtain ⟨qs, h1, h2⟩ := h
  exact .lst (sq_of h1) (al2_rows h2 ho)

--@SPLIT
/-! ### words of the law -/
theorem hu65 {A : Around} {k : Nat} (hr : Room k A) : A.units + 65 < cLine := by
  have := hr.un
  omega
theorem noLs_cx : ∀ es : List Cnd, noLs (es.map Cnd.d) = true
  | [] => rfl
  | e :: es => by
    show (noL e.d && noLs (es.map Cnd.d)) = true
    rw [noL_cx e, noLs_cx es]
    rfl
theorem noL_ag : ∀ g : Ag, noL g.d = true
  | .rows => rfl
  | .of nm e => by
    show (true && (noL e.d && true)) = true
    rw [noL_cx e]
    rfl
theorem noLs_ag : ∀ es : List Ag, noLs (es.map Ag.d) = true
  | [] => rfl
  | e :: es => by
    show (noL e.d && noLs (es.map Ag.d)) = true
    rw [noL_ag e, noLs_ag es]
    rfl
theorem lay_rows : ∀ {L : List (List V)}, (∀ r ∈ L, OkRw r) → PyData.canLayAll0 (NestedKey.datas (L.map rowN)) = true
  | [], _ => rfl
  | r :: L, h => by
    have hs := shaped_row (h r List.mem_cons_self).2
    have hl := SeqAt.canLay_of_shaped hs
    show ((rowN r).data.canLay0 && PyData.canLayAll0 (NestedKey.datas (L.map rowN))) = true
    rw [lay_rows fun x hx => h x (List.mem_cons_of_mem _ hx), row_data (h r List.mem_cons_self).2, Bool.and_true]
    exact hl
theorem dep_rows : ∀ {L : List (List V)}, (∀ r ∈ L, OkRw r) → PyData.depthAll (NestedKey.datas (L.map rowN)) ≤ 2
  | [], _ => Nat.zero_le _
  | r :: L, h => by
    have ih := dep_rows fun x hx => h x (List.mem_cons_of_mem _ hx)
    have hd := deps_rk (h r List.mem_cons_self).2
    show max (rowN r).data.depth (PyData.depthAll (NestedKey.datas (L.map rowN))) ≤ 2
    rw [row_data (h r List.mem_cons_self).2]
    show max (PyData.depthAll (r.map rkD) + 1) _ ≤ 2
    omega
theorem sh_rowsK {L : List (List V)} (h : ∀ r ∈ L, OkRw r) : SeqAt.shaped (.list (NestedKey.datas (L.map rowN))) = true := by
  have hd := dep_rows h
  show (PyData.canLayAll0 (NestedKey.datas (L.map rowN)) && decide (PyData.depthAll (NestedKey.datas (L.map rowN)) + 1 ≤ 64)) = true
  rw [lay_rows h, decide_eq_true (by omega)]
  rfl
theorem sh_rowN1 {r : List V} (h : OkRw r) : SeqAt.shaped (rowN r).data = true := by rw [row_data h.2]; exact shaped_row h.2
theorem any_rows (L : List (List V)) (r : List V) : ((NestedKey.datas (L.map rowN)).any fun z => PyData.eqv z (rowN r).data) = L.any fun x => decide (rowN x = rowN r) := by
  rw [datas_map, List.map_map, List.any_map]
  congr 1
  funext x
  exact eqv_key _ _
section
variable {K : PySem.W.Frag} {σ : L2.St} {H : Hp} {ta tb tc td te tl tn : TE} {tr : TA} {E : XK} {D : Ends} {tz : TS}
theorem q_rowlist {i : Nat} {a : Addr} {ms : List Nat} {at_ c : Nat} (h : EvA tr σ H [.ref a, .int (at_ : Int), .int (c : Int), .int ((3 : Nat) : Int)]) (hS : SqL K H a (ms.map fun m : Nat => V.int (m : Int))) (hc : at_ + c ≤ ms.length) (hc2 : c ≤ 1000)
    (k : ∀ p H1 L, H p = none → Ex H H1 → Lst2 RowAt H1 p L → L.length = c → (∀ r ∈ L, r.length = 3 ∧ OkRB r) → tz D (σ.set i (some (.ref p))) H1) : tSeq (tAsg (tCall (sp__law_rowlist K) [] E tr) (gName i)) tz D σ H :=
  h H (Ex.refl H) _ fun H1 e1 => ⟨a, ms, at_, c, 3, rfl, ex_l e1 hS, hc, hc2, by decide, fun p H2 L hp e2 hL hl ho => by
    obtain ⟨qs, h1, h2⟩ := hL
    exact k p H2 L (fresh_back e1 hp) (e1.trans e2) ⟨qs, nu_le _ _ h1, h2.mono fun q l _ h => nu_le _ _ (wo_le _ _ _ _ h)⟩ hl ho⟩
/-- [an expression for k in range(n)] -/
theorem x_lcCx {j : Nat} {vs : List Nat} {n w dp : Nat} (hn : Ev tn σ H (.int (n : Int))) (hm : n ≤ 10000) (hw : ∀ x, wipe ((wipe σ vs).set j (some x)) vs = wipe σ vs)
    (he : ∀ (i : Nat) (H1 : Hp), i < n → Ex H H1 → EvCx K w dp te ((wipe σ vs).set j (some (.int (i : Int)))) H1) {H0 : Hp} (e : Ex H H0) (Q : VK)
    (q : ∀ p H2 ys (es : List Cnd), H0 p = none → Ex H0 H2 → H2 p = some (.lst ys) → DpAll K H2 ys (es.map Cnd.d) → es.length = n → (∀ e ∈ es, e.ok w ∧ e.dep ≤ dp) → Q (.ref p) H2) : tLc (iRng1 (tCons tn tNil)) (gName j) tYes te vs σ H0 Q :=
  hn H0 e _ fun H1 e1 => ⟨(n : Int), rfl, by omega, by omega, fun Dl hD => by
    refine lc_range (lo := 0) (n := ((n : Int)).toNat) (fun i H' => H1 Dl = none ∧ Ex H1 H' ∧ ∃ (ys : List V) (es : List Cnd), H' Dl = some (.lst ys) ∧ DpAll K H' ys (es.map Cnd.d) ∧ es.length = i ∧ ∀ e ∈ es, e.ok w ∧ e.dep ≤ dp) ⟨hD, Ex.new hD, [], [], upd_same, .nil, rfl, fun e he => nomatch he⟩ (fun i H' hi pv => ?_) (fun H' pv => ?_)
    · obtain ⟨p1, p2, ys, es, p3, p4, p5, p6⟩ := pv
      have e0 : (0 : Int) + (i : Int) = (i : Int) := Int.zero_add _
      show wipe ((wipe σ vs).set j (some (.int ((0 : Int) + (i : Int))))) vs = wipe σ vs ∧ te ((wipe σ vs).set j (some (.int ((0 : Int) + (i : Int))))) H' fun y H4 => ∃ acc, H4 Dl = some (.lst acc) ∧ acc.length < sizeLine ∧ _
      rw [e0]
      refine ⟨hw _, he i H' (by omega) ((e.trans e1).trans p2) H' (Ex.refl H') _ fun y H4 c e4 hd hok hdep => ⟨ys, e4 _ _ p3, sz_lt ?_, p1, Ex.mut (p2.trans e4) p1, ys ++ [y], es ++ [c], upd_same, ?_, by rw [List.length_append, p5]; rfl, fun x hx => ?_⟩⟩
      · have := dps_len p4
        rw [List.length_map] at this
        omega
      · have hno : noLs (es.map Cnd.d ++ [c.d]) = true := by
          have := noLs_cx (es ++ [c])
          rw [List.map_append] at this
          exact this
        rw [List.map_append]
        exact dps_upd (e4 _ _ p3) hno (dps_snoc (ex_dps e4 p4) hd)
      · rcases List.mem_append.mp hx with h | h
        · exact p6 x h
        · rw [List.mem_singleton.mp h]; exact ⟨hok, hdep⟩
    · obtain ⟨p1, p2, ys, es, p3, p4, p5, p6⟩ := pv
      exact q Dl H' ys es (fresh_back e1 p1) (e1.trans p2) p3 p4 (by rw [p5]; exact Int.toNat_natCast n) p6⟩
theorem rn_L {xs : List V} (h : EvL te σ H xs) : EvRn (fun H p => RowAt H p xs) te σ H := fun H1 e Q q => h H1 e _ fun p H2 hp e2 h2 => q p H2 hp e2 (nu_at hp h2)
/-- [a new object for k in range(n)] -/
theorem er_lcRg {α : Type} {R : Hp → Addr → α → Prop} (hm : Mn R) {j : Nat} {vs : List Nat} {n : Nat} (f : Nat → α) (hn : Ev tn σ H (.int (n : Int))) (hz : n ≤ 10000) (hw : ∀ x, wipe ((wipe σ vs).set j (some x)) vs = wipe σ vs)
    (he : ∀ (i : Nat) (H1 : Hp), i < n → Ex H H1 → EvRn (fun H q => R H q (f i)) te ((wipe σ vs).set j (some (.int (i : Int)))) H1) : EvRn (fun H p => Lst2 R H p ((List.range n).map f)) (tLc (iRng1 (tCons tn tNil)) (gName j) tYes te vs) σ H := fun H0 e0 Q q =>
  hn H0 e0 _ fun H1 e1 => ⟨(n : Int), rfl, by omega, by omega, fun D hD => by
    refine lc_range (lo := 0) (n := ((n : Int)).toNat) (fun i H' => H1 D = none ∧ Ex H1 H' ∧ ∃ qs, H' D = some (.lst (qs.map V.ref)) ∧ Al2 R (wo D (nu H0 H')) qs ((List.range i).map f)) ⟨hD, Ex.new hD, [], upd_same, Al2.nil⟩ (fun i H' hi p => ?_) (fun H' p => ?_)
    · obtain ⟨p1, p2, qs, p3, p4⟩ := p
      have e9 : (0 : Int) + (i : Int) = (i : Int) := Int.zero_add _
      show wipe ((wipe σ vs).set j (some (.int ((0 : Int) + (i : Int))))) vs = wipe σ vs ∧ te ((wipe σ vs).set j (some (.int ((0 : Int) + (i : Int))))) H' fun y H4 => ∃ acc, H4 D = some (.lst acc) ∧ acc.length < sizeLine ∧ _
      rw [e9]
      refine ⟨hw _, he i H' (by omega) ((e0.trans e1).trans p2) H' (Ex.refl H') _ fun r H4 hr e4 hR => ⟨_, e4 _ _ p3, sz_lt ?_, p1, Ex.mut (p2.trans e4) p1, qs ++ [r], by rw [upd_same, List.map_append]; rfl, ?_⟩⟩
      · have := p4.1
        rw [List.length_map, List.length_range] at this
        rw [List.length_map]
        omega
      · rw [wo_nu_upd, List.range_succ, List.map_append]
        exact (p4.mono fun q l _ => hm _ _ _ _ (wo_mono (nu_mono e4))).snoc (hm _ _ _ _ (nu_wo2 p3 (e1.trans p2)) hR)
    · obtain ⟨p1, p2, qs, p3, p4⟩ := p
      rw [Int.toNat_natCast] at p4
      have hD0 := fresh_back e1 p1
      exact q D H' hD0 (e1.trans p2) ⟨qs, nu_at hD0 p3, p4.mono fun q l _ => hm _ _ _ _ (wo_le _ _)⟩⟩
/-- ranks in a list of ranks -/
theorem ev_inRows {s : Addr} {ys : List V} {L : List (List V)} {r : List V} (ha : EvK ta σ H (rowN r)) (hb : ∀ H1, Ex H H1 → Ev tb σ H1 (.ref s)) (hs : H s = some (.lst ys)) (hk : NKeys H (L.map rowN) ys) (hL : ∀ r ∈ L, OkRw r) (hr : OkRw r) : Ev (tOp (rInD K) ta tb) σ H (.bl (L.any fun x => decide (rowN x = rowN r))) := fun H1 e Q q =>
  ha H1 e _ fun p H2 hp e2 h2 => hb H2 (e.trans e2) H2 (Ex.refl H2) _ fun H3 e3 => by
    have x3 := (e.trans e2).trans e3
    refine ⟨(rowN r).data, NestedKey.datas (L.map rowN), dp_key (h2.ex e3), .lst (sq_of (x3 _ _ hs)) (dp_keys (NKeys.mono (fun b xs q => x3 b _ q) hk)), sh_rowN1 hr, sh_rowsK hL, ?_⟩
    rw [any_rows]
    exact q H3 (e2.trans e3)
theorem ev_indexRows {i j : Nat} {s : Addr} {ys : List V} {L : List (List V)} {r x : List V} (h0 : σ[i]? = some (some (.ref s))) (hb : EvK tb σ H (rowN r)) (hs : H s = some (.lst ys)) (hk : NKeys H (L.map rowN) ys) (hL : ∀ r ∈ L, OkRw r) (hr : OkRw r) (hj : L[j]? = some x) (hx : rowN x = rowN r) (hf : ∀ (m : Nat) (z : List V), m < j → L[m]? = some z → rowN z ≠ rowN r) :
    Ev (tBM K "list" (rIndexD K) (tVar i) (tCons tb tNil)) σ H (.int (j : Int)) := fun H1 e Q q => ⟨.ref s, h0, Or.inl ⟨rfl, _, sq_of (e _ _ hs)⟩, hb H1 e _ fun p H2 hp e2 h2 => by
    have x2 := e.trans e2
    have hd : NestedKey.datas (L.map rowN) = L.map fun x => (rowN x).data := by rw [datas_map, List.map_map]; rfl
    refine ⟨s, .ref p, (rowN r).data, NestedKey.datas (L.map rowN), j, (rowN x).data, rfl, rfl, .lst (sq_of (x2 _ _ hs)) (dp_keys (NKeys.mono (fun b xs q => x2 b _ q) hk)), dp_key h2, sh_rowsK hL, sh_rowN1 hr, by rw [hd, List.getElem?_map, hj]; rfl, ?_, fun m z hm hz => ?_, q H2 e2⟩
    · rw [eqv_key, decide_eq_true hx]
    · rw [hd, List.getElem?_map] at hz
      cases h9 : L[m]? with
      | none => rw [h9] at hz; cases hz
      | some y =>
        rw [h9] at hz
        obtain rfl := Option.some.inj hz
        rw [eqv_key, decide_eq_false (hf m y hm h9)]⟩
theorem ek_lr {a : Addr} {xs : List V} (ha : Ev ta σ H (.ref a)) (hS : SqL K H a xs) (hx : OkRw xs) : EvK (tCall (sp__law_ranks K) [] E (tCons ta tNil)) σ H (rowN xs) := ek_lranks ha hS hx
theorem ec_slist {p q : Addr} {L : List (List V)} (ha : Ev ta σ H (.ref p)) (hb : ∀ H1, Ex H H1 → Ev tb σ H1 (.ref q)) (hp : Lst2 RowAt H p L) (hq : Lst2 RowAt H q L) (hl : L.length ≤ 1000) (ho : ∀ r ∈ L, OkRw r) : Ev (tCall (sp__law_same_list K) [] E (tCons ta (tCons tb tNil))) σ H (.bl true) := fun H1 e Q k =>
  ha H1 e _ fun H2 e2 => hb H2 (e.trans e2) H2 (Ex.refl H2) _ fun H3 e3 => ⟨p, q, L, rfl, hp.mono ((e.trans e2).trans e3) fun q l h => RowAt.mn _ _ _ _ ((e.trans e2).trans e3) h, hq.mono ((e.trans e2).trans e3) fun q l h => RowAt.mn _ _ _ _ ((e.trans e2).trans e3) h, hl, ho, fun H4 e4 => k H4 ((e2.trans e3).trans e4)⟩
end

--@SPLIT
/-! ### what the law draws: values over rows; how much of it is shown -/
def AgS : Ag → Prop
  | .rows => True
  | .of nm e => nm ∈ aggNames ∧ e.ok 3 ∧ e.dep ≤ 2
theorem AgS.ok {g : Ag} (h : AgS g) : g.ok := by
  cases g with
  | rows => exact .rows
  | of nm e => exact .of nm e 3 h.1 h.2.1 (by have := h.2.2; omega)
theorem agg_len {nm : Str} (h : nm ∈ aggNames) : nm.length ≤ 20 ∧ PyData.strOk nm = true := by
  simp only [aggNames, List.mem_cons, List.not_mem_nil, or_false] at h
  rcases h with h | h | h | h | h | h | h | h | h | h <;> subst h <;> exact ⟨by decide +kernel, by decide +kernel⟩
theorem sh_ag {g : Ag} (h : AgS g) : shB g.d ≤ 905000 ∧ shOk g.d = true ∧ g.d.depth ≤ 3 := by
  cases g with
  | rows => exact ⟨by decide +kernel, by decide +kernel, by decide +kernel⟩
  | of nm e =>
    obtain ⟨h1, h2, h3⟩ := h
    obtain ⟨n1, n2⟩ := agg_len h1
    obtain ⟨b1, b2⟩ := sh_cx (by decide) h2
    have hp : 3 ^ e.dep ≤ 3 ^ 2 := Nat.pow_le_pow_right (by decide) h3
    have hd := depth_cx e
    refine ⟨?_, ?_, ?_⟩
    · show 4 + (10 * nm.length + 2 + 2 + (shB e.d + 2 + 0)) ≤ 905000
      omega
    · show (PyData.strOk nm && (shOk e.d && true)) = true
      rw [n2, b2]
      rfl
    · show max 0 (max e.d.depth 0) + 1 ≤ 3
      omega
theorem sh_ags : ∀ {gs : List Ag}, (∀ g ∈ gs, AgS g) → shBs (gs.map Ag.d) ≤ 905002 * gs.length ∧ shOks (gs.map Ag.d) = true ∧ PyData.depthAll (gs.map Ag.d) ≤ 3
  | [], _ => ⟨Nat.le_refl _, rfl, Nat.zero_le _⟩
  | g :: gs, h => by
    obtain ⟨a1, a2, a3⟩ := sh_ag (h g List.mem_cons_self)
    obtain ⟨b1, b2, b3⟩ := sh_ags fun x hx => h x (List.mem_cons_of_mem _ hx)
    refine ⟨?_, ?_, ?_⟩
    · show shB g.d + 2 + shBs (gs.map Ag.d) ≤ 905002 * (gs.length + 1)
      omega
    · show (shOk g.d && shOks (gs.map Ag.d)) = true
      rw [a2, b2]
      rfl
    · show max g.d.depth (PyData.depthAll (gs.map Ag.d)) ≤ 3
      omega
theorem sh_cxs : ∀ {es : List Cnd}, (∀ e ∈ es, e.ok 3 ∧ e.dep ≤ 2) → shBs (es.map Cnd.d) ≤ 904502 * es.length ∧ shOks (es.map Cnd.d) = true ∧ PyData.depthAll (es.map Cnd.d) ≤ 3
  | [], _ => ⟨Nat.le_refl _, rfl, Nat.zero_le _⟩
  | e :: es, h => by
    obtain ⟨h1, h2⟩ := h e List.mem_cons_self
    obtain ⟨a1, a2⟩ := sh_cx (by decide) h1
    have hp : 3 ^ e.dep ≤ 3 ^ 2 := Nat.pow_le_pow_right (by decide) h2
    have hd := depth_cx e
    obtain ⟨b1, b2, b3⟩ := sh_cxs fun x hx => h x (List.mem_cons_of_mem _ hx)
    refine ⟨?_, ?_, ?_⟩
    · show shB e.d + 2 + shBs (es.map Cnd.d) ≤ 904502 * (es.length + 1)
      omega
    · show (shOk e.d && shOks (es.map Cnd.d)) = true
      rw [a2, b2]
      rfl
    · show max e.d.depth (PyData.depthAll (es.map Cnd.d)) ≤ 3
      omega
def keptD (L : List (List V)) (es : List Cnd) (gs : List Ag) : PyData := .tuple [.list (L.map rowD), .tuple (es.map Cnd.d), .list (gs.map Ag.d)]
theorem kept_sh {L : List (List V)} {es : List Cnd} {gs : List Ag} (hL : L.length ≤ 14) (hr : ∀ r ∈ L, r.length = 3 ∧ OkRB r) (hes : es.length ≤ 2) (he : ∀ e ∈ es, e.ok 3 ∧ e.dep ≤ 2) (hgs : gs.length ≤ 3) (hg : ∀ g ∈ gs, AgS g) : shOk (keptD L es gs) = true ∧ shB (keptD L es gs) ≤ 10000000 ∧ (keptD L es gs).depth ≤ 60 := by
  obtain ⟨a1, a2⟩ := sh_rows hr
  obtain ⟨b1, b2, b3⟩ := sh_cxs he
  obtain ⟨c1, c2, c3⟩ := sh_ags hg
  refine ⟨?_, ?_, ?_⟩
  · show (shOks (L.map rowD) && (shOks (es.map Cnd.d) && (shOks (gs.map Ag.d) && true))) = true
    rw [a2, b2, c2]
    rfl
  · show 4 + (4 + shBs (L.map rowD) + 2 + (4 + shBs (es.map Cnd.d) + 2 + (4 + shBs (gs.map Ag.d) + 2 + 0))) ≤ 10000000
    omega
  · have h1 := depths_rows L
    show max (PyData.depthAll (L.map rowD) + 1) (max (PyData.depthAll (es.map Cnd.d) + 1) (max (PyData.depthAll (gs.map Ag.d) + 1) 0)) + 1 ≤ 60
    omega
section
variable {K : PySem.W.Frag} {σ : L2.St} {H : Hp} {ta tb tc td te tl tn : TE} {tr : TA} {E : XK} {D : Ends} {tz : TS}
theorem ev_shownL {d : PyData} (ha : EvD K ta σ H d) (hr : ∀ v H1, Dp K H1 v d → ∃ a, v = .ref a) (h1 : shOk d = true) (h2 : shB d ≤ 10000000) (h3 : d.depth ≤ 60) : Ev (tCB (rRepr K) (tCons ta tNil)) σ H (.str d.shown) := fun H1 e Q q =>
  ha H1 e _ fun v H2 e2 hd => by
    obtain ⟨a, rfl⟩ := hr v H2 hd
    obtain ⟨a1, a2, a3⟩ := shown_le d h1
    exact ⟨a, d, rfl, hd, a2, a3, h3, Nat.le_trans a1 (Nat.le_trans h2 (by decide)), q H2 e2⟩
theorem q_tupX {i : Nat} {P : List Cnd → Prop} (h : ∀ Q : VK, (∀ p H2 ys (es : List Cnd), H p = none → Ex H H2 → H2 p = some (.lst ys) → DpAll K H2 ys (es.map Cnd.d) → P es → Q (.ref p) H2) → tl σ H Q)
    (k : ∀ p H2 ys (es : List Cnd), H p = none → Ex H H2 → H2 p = some (.tup ys) → DpAll K H2 ys (es.map Cnd.d) → P es → tz D (σ.set i (some (.ref p))) H2) :
    tSeq (tAsg (tCB (fun xs H Q => ∃ p ys, xs = [.ref p] ∧ ((SqL K H p ys ∧ ∀ l, H l = none → Q (.ref l) (upd H l (.tup ys))) ∨ (SqT K H p ys ∧ Q (.ref p) H))) (tCons tl tNil)) (gName i)) tz D σ H :=
  h _ fun p H2 ys es hp e h2 hd hP => ⟨p, ys, rfl, .inl ⟨sq_of h2, fun l hl => k l _ ys es (fresh_back e hl) (e.trans (Ex.new hl)) upd_same (ex_dps (Ex.new hl) hd) hP⟩⟩
/-- (name, [an expression, None][int(..)]) -/
theorem x_ag {nm : Str} {b : Bool} (h7 : Ev ta σ H (.str nm)) (hc : EvCx K 3 2 tc σ H) (hi : ∀ H1, Ev tb σ H1 (.int (if b then 1 else 0))) (hb : b = true → nm = "rows") (hn : b = false → nm ∈ aggNames) {H1 : Hp} (e : Ex H H1) (Q : VK) (k : ∀ t H2 g, Ex H1 H2 → Dp K H2 (.ref t) g.d → AgS g → Q (.ref t) H2) :
    tTup (tCons ta (tCons (tOp (rIxL K) (tLst (tCons tc (tCons (tC .non) tNil))) tb) tNil)) σ H1 Q :=
  h7 H1 e (fun x Ha => (tOp (rIxL K) (tLst (tCons tc (tCons (tC .non) tNil))) tb) σ Ha fun y Hb => [x, y].length ≤ sizeLine ∧ ∀ p, Hb p = none → Q (.ref p) (upd Hb p (.tup [x, y]))) fun H2 e2 =>
    hc H2 (e.trans e2) (fun x Ha => (tC .non) σ Ha fun z Hb => [x, z].length ≤ sizeLine ∧ ∀ p, Hb p = none → tb σ (upd Hb p (.lst [x, z])) fun y Hc => rIxL K (.ref p) y Hc fun y Hd => [V.str nm, y].length ≤ sizeLine ∧ ∀ p, Hd p = none → Q (.ref p) (upd Hd p (.tup [V.str nm, y]))) fun v H3 c e3 hd ho hdep =>
      (ev_c (σ := σ) (v := .non)) H3 (Ex.refl H3) _ fun H4 e4 => ⟨sz_of (by show 2 ≤ 100000; decide), fun p hp => hi _ _ (Ex.refl _) _ fun H5 e5 => by
        have x5 : Ex H4 H5 := (Ex.new hp).trans e5
        have hl : H5 p = some (.lst [v, .non]) := e5 _ _ upd_same
        cases b with
        | true =>
          have hnm := hb rfl
          subst hnm
          exact (rv_ixL (K := K) (sq_of hl) (atI_nat (j := 1) rfl)) H5 (Ex.refl H5) _ fun H6 e6 => ⟨sz_of (by show 2 ≤ 100000; decide), fun t ht => k t _ .rows ((((e2.trans e3).trans e4).trans (x5.trans e6)).trans (Ex.new ht)) (.tup (st_of upd_same) (.cons (.str _) (.cons .non .nil))) trivial⟩
        | false =>
          exact (rv_ixL (K := K) (sq_of hl) (atI_nat (j := 0) rfl)) H5 (Ex.refl H5) _ fun H6 e6 => ⟨sz_of (by show 2 ≤ 100000; decide), fun t ht => k t _ (.of nm c) ((((e2.trans e3).trans e4).trans (x5.trans e6)).trans (Ex.new ht)) (.tup (st_of upd_same) (.cons (.str _) (.cons (ex_dp (((e4.trans x5).trans e6).trans (Ex.new ht)) hd) .nil))) ⟨hn rfl, ho, hdep⟩⟩⟩
end

--@SPLIT
/-! ### the law's own groups -/
theorem first_of {α : Type} {p : α → Bool} : ∀ {l : List α}, l.any p = true → ∃ (j : Nat) (x : α), l[j]? = some x ∧ p x = true ∧ ∀ (m : Nat) (z : α), m < j → l[m]? = some z → p z = false
  | [], h => by cases h
  | x :: l, h => by
    cases hx : p x with
    | true => exact ⟨0, x, rfl, hx, fun m z hm => by omega⟩
    | false =>
      rw [List.any_cons, hx, Bool.false_or] at h
      obtain ⟨j, y, h1, h2, h3⟩ := first_of h
      refine ⟨j + 1, y, by simpa using h1, h2, fun m z hm hz => ?_⟩
      cases m with
      | zero =>
        obtain rfl := Option.some.inj hz
        exact hx
      | succ m => exact h3 m z (by omega) (by simpa using hz)
theorem Al2.set {α : Type} {R : Hp → Addr → α → Prop} {H : Hp} {qs : List Addr} {L : List α} {q : Addr} {l : α} (h : Al2 R H qs L) (j : Nat) (hr : R H q l) : Al2 R H (qs.set j q) (L.set j l) := ⟨by rw [List.length_set, List.length_set]; exact h.1, fun i x y a b => by
  rw [List.getElem?_set] at a b
  by_cases z : j = i
  · subst z
    rw [if_pos rfl] at a b
    split at a
    · rename_i hlt
      rw [if_pos (by rw [← h.1]; exact hlt)] at b
      cases a; cases b
      exact hr
    · cases a
  · rw [if_neg z] at a b
    exact h.2 i x y a b⟩
theorem al_at {α : Type} {R : Hp → Addr → α → Prop} {H : Hp} {qs : List Addr} {L : List α} {j : Nat} {l : α} (h : Al2 R H qs L) (hl : L[j]? = some l) : ∃ q, qs[j]? = some q ∧ R H q l := by
  have hlt : j < qs.length := by rw [h.1]; exact (List.getElem?_eq_some_iff.mp hl).1
  exact ⟨qs[j], List.getElem?_eq_getElem hlt, h.2 j _ l (List.getElem?_eq_getElem hlt) hl⟩
theorem fst_set {G : List Grp} {j : Nat} {g : Grp} {x : List (List V)} (h : G[j]? = some g) : (G.set j (g.1, x)).map (·.1) = G.map (·.1) := by
  apply List.ext_getElem?
  intro i
  rw [List.getElem?_map, List.getElem?_map, List.getElem?_set]
  by_cases z : j = i
  · subst z
    have hlt := (List.getElem?_eq_some_iff.mp h).1
    rw [if_pos rfl, if_pos hlt, h]
    rfl
  · rw [if_neg z]
/-- without the three lists that grow -/
def w3 (d s m : Addr) (H : Hp) : Hp := wo d (wo s (wo m H))
theorem w3_le (d s m : Addr) (H : Hp) : Ex (w3 d s m H) H := (wo_le _ _).trans ((wo_le _ _).trans (wo_le _ _))
theorem w3_mono {d s m : Addr} {H H' : Hp} (e : Ex H H') : Ex (w3 d s m H) (w3 d s m H') := wo_mono (wo_mono (wo_mono e))
theorem w3_at {d s m a : Addr} {H : Hp} {o : HO} (h : H a = some o) (h1 : a ≠ d) (h2 : a ≠ s) (h3 : a ≠ m) : w3 d s m H a = some o := by
  unfold w3
  rw [wo_ne h1, wo_ne h2, wo_ne h3]
  exact h
theorem w3_updm {d s m : Addr} {H : Hp} {o : HO} : w3 d s m (upd H m o) = w3 d s m H := by
  unfold w3
  rw [wo_upd]
theorem w3_upds {d s m : Addr} {H : Hp} {o : HO} : w3 d s m (upd H s o) = w3 d s m H := by
  funext a
  unfold w3 wo
  by_cases z : a = s
  · subst z
    simp
  · simp only [if_neg z]
    rw [upd_ne z]
theorem w3_updd {d s m : Addr} {H : Hp} {o : HO} : w3 d s m (upd H d o) = w3 d s m H := by
  funext a
  unfold w3 wo
  by_cases z : a = d
  · subst z
    simp
  · simp only [if_neg z]
    rw [upd_ne z]
section
variable {K : PySem.W.Frag} {σ : L2.St} {H : Hp} {ta tb tc td te tl tn : TE} {tr : TA} {E : XK} {D : Ends} {tz : TS} {g : TG}
theorem s_asgGs {xs : List V} (h : EvL te σ H xs) (k : ∀ n H1, H n = none → Ex H H1 → H1 n = some (.lst xs) → g (.ref n) σ H1 fun σ' H' => D.nx σ' H') : tAsg te g D σ H := h H (Ex.refl H) _ k
theorem ev_lenTT {a : Addr} {xs : List V} (h : Ev te σ H (.ref a)) (hx : SqT K H a xs) : Ev (tCB (fun xs H Q => ∃ p ys, xs = [.ref p] ∧ (SqL K H p ys ∨ SqT K H p ys) ∧ Q (.int ys.length) H) (tCons te tNil)) σ H (.int xs.length) := fun H1 e Q q => h H1 e _ fun H2 e2 => ⟨a, xs, rfl, .inr (ex_t (e.trans e2) hx), q H2 e2⟩
def EvEs (K : PySem.W.Frag) (te : TE) (σ : L2.St) (H : Hp) (es : List Cnd) : Prop := ∀ H1, Ex H H1 → ∀ Q : VK, (∀ u H2, Ex H1 H2 → EsAt K H2 u es → Q u H2) → te σ H1 Q
def EvAs (K : PySem.W.Frag) (te : TE) (σ : L2.St) (H : Hp) (gs : List Ag) : Prop := ∀ H1, Ex H H1 → ∀ Q : VK, (∀ u H2, Ex H1 H2 → AsAt K H2 u gs → Q u H2) → te σ H1 Q
theorem es_val {v : V} {es : List Cnd} (h : Ev te σ H v) (hE : EsAt K H v es) : EvEs K te σ H es := fun H1 e Q q => h H1 e _ fun H2 e2 => q v H2 e2 (hE.ex (e.trans e2))
theorem as_val {v : V} {es : List Ag} (h : Ev te σ H v) (hE : AsAt K H v es) : EvAs K te σ H es := fun H1 e Q q => h H1 e _ fun H2 e2 => q v H2 e2 (hE.ex (e.trans e2))
theorem as_tup {a : Addr} {ys : List V} {gs : List Ag} (h : Ev te σ H (.ref a)) (hS : SqL K H a ys) (hd : DpAll K H ys (gs.map Ag.d)) : EvAs K (tCB (fun xs H Q => ∃ p ys, xs = [.ref p] ∧ ((SqL K H p ys ∧ ∀ l, H l = none → Q (.ref l) (upd H l (.tup ys))) ∨ (SqT K H p ys ∧ Q (.ref p) H))) (tCons te tNil)) σ H gs := fun H1 e Q q =>
  h H1 e _ fun H2 e2 => ⟨a, ys, rfl, .inl ⟨ex_l (e.trans e2) hS, fun l hl => q _ _ (e2.trans (Ex.new hl)) ⟨l, ys, rfl, .inr (st_of upd_same), ex_dps ((e.trans e2).trans (Ex.new hl)) hd⟩⟩⟩
theorem es_lst {a : Addr} {ys : List V} {es : List Cnd} (h : Ev te σ H (.ref a)) (hS : SqT K H a ys) (hd : DpAll K H ys (es.map Cnd.d)) : EvEs K (tCB (fun xs H Q => ∃ p ys, xs = [.ref p] ∧ (SqL K H p ys ∨ SqT K H p ys) ∧ ∀ l, H l = none → Q (.ref l) (upd H l (.lst ys))) (tCons te tNil)) σ H es := fun H1 e Q q =>
  h H1 e _ fun H2 e2 => ⟨a, ys, rfl, .inr (ex_t (e.trans e2) hS), fun l hl => q _ _ (e2.trans (Ex.new hl)) ⟨l, ys, rfl, .inl (sq_of upd_same), ex_dps ((e.trans e2).trans (Ex.new hl)) hd⟩⟩
theorem eg_gr {es : List Cnd} {gs : List Ag} {r : Addr} {L : List (List V)} (ha : EvEs K ta σ H es) (hb : EvAs K tb σ H gs) (hc : Ev tc σ H (.ref r)) (oE : EsOk es) (oA : AsOk gs) (hL : Lst2 RowAt H r L) (oL : OkRs L) : EvR (fun H p => Lst2 RowAt H p (grpRows es gs L)) (tCall (sp_group_rows K) [] E (tCons ta (tCons tb (tCons tc tNil)))) σ H := fun H1 e Q q =>
  ha H1 e _ fun v H2 e2 h2 => hb H2 (e.trans e2) _ fun u H3 e3 h3 => hc H3 ((e.trans e2).trans e3) _ fun H4 e4 => ⟨v, u, es, gs, r, L, rfl, h2.ex (e3.trans e4), oE, h3.ex e4, oA, hL.mono (((e.trans e2).trans e3).trans e4) fun q l h => RowAt.mn _ _ _ _ (((e.trans e2).trans e3).trans e4) h, oL, fun p H5 hp e5 h5 => q p H5 (fresh_back ((e2.trans e3).trans e4) hp) (((e2.trans e3).trans e4).trans e5) h5⟩
theorem ec_slistR {q : Addr} {L : List (List V)} (ha : EvR (fun H p => Lst2 RowAt H p L) ta σ H) (hb : ∀ H1, Ex H H1 → Ev tb σ H1 (.ref q)) (hq : Lst2 RowAt H q L) (hl : L.length ≤ 1000) (ho : ∀ r ∈ L, OkRw r) : Ev (tCall (sp__law_same_list K) [] E (tCons ta (tCons tb tNil))) σ H (.bl true) := fun H1 e Q k =>
  ha H1 e _ fun p H2 hp e2 h2 => hb H2 (e.trans e2) H2 (Ex.refl H2) _ fun H3 e3 => ⟨p, q, L, rfl, h2.mono e3 fun q l h => RowAt.mn _ _ _ _ e3 h, hq.mono ((e.trans e2).trans e3) fun q l h => RowAt.mn _ _ _ _ ((e.trans e2).trans e3) h, hl, ho, fun H4 e4 => k H4 ((e2.trans e3).trans e4)⟩
theorem q_asgR3 {i : Nat} {R : Hp → Addr → Prop} (h : EvR R te σ H) (k : ∀ p H1, H p = none → Ex H H1 → R H1 p → tz D (σ.set i (some (.ref p))) H1) : tSeq (tAsg te (gName i)) tz D σ H := h H (Ex.refl H) _ k
end
theorem ok_ag {g : Ag} {L : List (List V)} (h : AgS g) (oL : OkRs L) : Ok (agV g L) := by
  cases g with
  | rows => exact .int _
  | of nm e => exact agg_ok h.1 (oL.vs h.2.1)
theorem ok_grpRows {es : List Cnd} {gs : List Ag} {L : List (List V)} (oE : EsOk es) (hg : ∀ g ∈ gs, AgS g) (hgl : gs.length ≤ 10) (oL : OkRs L) : (grpRows es gs L).length ≤ 1000 ∧ ∀ r ∈ grpRows es gs L, OkRw r := by
  obtain ⟨h1, h2⟩ := grps_ok oE oL
  refine ⟨by unfold grpRows; rw [List.length_map]; omega, fun r hr => ?_⟩
  obtain ⟨g, hgm, rfl⟩ := List.mem_map.mp hr
  obtain ⟨⟨a1, a2⟩, a3⟩ := h2 g hgm
  refine ⟨?_, fun x hx => ?_⟩
  · show (g.1 ++ gs.map fun a => agV a g.2).length ≤ 1000
    rw [List.length_append, List.length_map]
    omega
  · rcases List.mem_append.mp (show x ∈ g.1 ++ gs.map fun a => agV a g.2 from hx) with z | z
    · exact a2 x z
    · obtain ⟨a, ha, rfl⟩ := List.mem_map.mp z
      exact ok_ag (hg a ha) a3

--@SPLIT
/-! ### the law -/
section
variable {P : Program} {w : World} {K : PySem.W.Frag} {mg : Str → Option Value} {base : Heap}
theorem ok_law {fa : Addr} {s : Shared} {H : Hp} {a : Addr} {ns : List Int} {cdv : Value} (c__law_numbers : C8.Cal P w K mg base 1 "_law_numbers" (sp__law_numbers K) []) (c__law_ranks : C8.Cal P w K mg base 2 "_law_ranks" (sp__law_ranks K) []) (c__law_rowlist : C8.Cal P w K mg base 2 "_law_rowlist" (sp__law_rowlist K) []) (c__law_same_list : C8.Cal P w K mg base 3 "_law_same_list" (sp__law_same_list K) []) (c__law_simple : C8.Cal P w K mg base 1 "_law_simple" (sp__law_simple K) []) (c_aggregate : C8.Cal P w K mg base 16 "aggregate" (sp_aggregate K) []) (c_evaluate : C8.Cal P w K mg base 15 "evaluate" (sp_evaluate K) []) (c_group_rows : C8.Cal P w K mg base 18 "group_rows" (sp_group_rows K) []) (z_int : mg "int" = none) (z_len : mg "len" = none) (z_list : mg "list" = none) (z_range : mg "range" = none) (z_repr : mg "repr" = none) (z_tuple : mg "tuple" = none) (h63 : ns.length ≤ 63) (hS : SqL K H a (ns.map V.int))
    (hr : Room 18 (callerA.deeper (envOfC "law" (C8.fnScope s_law) s.heap.objs.size fa cdv))) :
    ∃ t, PSs (cxOf C8.CX0 P w K mg base n_law "law" (C8.fnScope s_law) fa cdv callerA [] s H C8.E0).nox (C8.fnBody s_law) t ∧ t { nx := fun _ _ => V.non = .bl true, rt := fun v _ => v = .bl true } (start n_law [.ref a]) H := by
  refine ⟨_, (pss_cons (ps_set (i := 1) sc_law.nd rfl (.inr rfl) (C8.pe_c c__law_numbers hr (by decide) (by rfl) (pa_cons (pv 0) (pa_cons pe_int pa_nil))))
    (pss_cons (ps_set (i := 2) sc_law.nd rfl (.inl rfl) (C8.pe_c c__law_rowlist hr (by decide) (by rfl) (pa_cons (pv 1) (pa_cons pe_int (pa_cons (pe_op op_mod (pe_callTy call_int1 (by rfl) z_int (by decide +kernel) (pa_cons (pe_ix ix_list (pv 1) pe_int (fun _ _ => rfl)) pa_nil)) pe_int) (pa_cons pe_int pa_nil))))))
    (pss_cons (ps_set (i := 3) sc_law.nd rfl (.inl rfl) (pe_callTy call_tuple_of (by rfl) z_tuple (by decide +kernel) (pa_cons (pe_lc (own := [("k", 6)]) (g := gName 6) (tt := tYes) rfl sc_law.nd (pi_range1 rfl z_range (pa_cons (pe_op op_mod (pe_op op_fdiv (pe_callTy call_int1 (by rfl) z_int (by decide +kernel) (pa_cons (pe_ix ix_list (pv 1) pe_int (fun _ _ => rfl)) pa_nil)) pe_int) pe_int) pa_nil)) (blkOk_by (N := n_law) (sc := C8.fnScope s_law) (by decide +kernel)) (fun _ _ _ _ _ => pg_name (i := 6) sc_law.nd rfl (Or.inl rfl)) (fun _ _ _ _ _ => pts_nil) (fun _ _ _ _ _ => (C8.pe_c c__law_simple hr (by decide) (by rfl) (pa_cons (pe_op op_fdiv (pe_ix (ix_listK (K := K) rfl) (pv 1) pe_int (fun _ _ => rfl)) (pe_op op_add (pe_op op_mul pe_int (pv 6)) pe_int)) (pa_cons pe_int pa_nil))))) pa_nil)))
    (pss_cons (ps_set (i := 4) sc_law.nd rfl (.inl rfl) (pe_lst (pa_cons pe_str (pa_cons pe_str (pa_cons pe_str (pa_cons pe_str (pa_cons pe_str (pa_cons pe_str (pa_cons pe_str (pa_cons pe_str (pa_cons pe_str pa_nil)))))))))))
    (pss_cons (ps_set (i := 5) sc_law.nd rfl (.inr rfl) (pe_lst pa_nil))
    (pss_cons (ps_for PassesOwn.never rfl (pi_range1 rfl z_range (pa_cons (pe_op op_mod (pe_op op_fdiv (pe_callTy call_int1 (by rfl) z_int (by decide +kernel) (pa_cons (pe_ix ix_list (pv 1) pe_int (fun _ _ => rfl)) pa_nil)) pe_int) pe_int) pa_nil)) (pg_name (i := 6) sc_law.nd rfl (.inl rfl))
      (pss_cons (ps_set (i := 7) sc_law.nd rfl (.inl rfl) (pe_ix ix_list (pv 4) (pe_op op_mod (pe_op op_fdiv (pe_callTy call_int1 (by rfl) z_int (by decide +kernel) (pa_cons (pe_ix ix_list (pv 1) pe_int (fun _ _ => rfl)) pa_nil)) (pe_op op_add (pe_op op_mul pe_int (pv 6)) pe_int)) pe_int) (fun _ _ => rfl)))
    (pss_one (ps_expr (pe_bm PySem.F.plainAttrs_list PySem.F.slot_list_append PySem.F.type_list_append mt_append (pv 5) (pa_cons (pe_tup (pa_cons (pv 7) (pa_cons (pe_ix ix_list (pe_lst (pa_cons (C8.pe_c c__law_simple hr (by decide) (by rfl) (pa_cons (pe_op op_fdiv (pe_ix ix_list (pv 1) pe_int (fun _ _ => rfl)) (pe_op op_add (pe_op op_mul pe_int (pv 6)) pe_int)) (pa_cons pe_int pa_nil))) (pa_cons pe_non pa_nil))) (pe_callTy call_int1 (by rfl) z_int (by decide +kernel) (pa_cons (pe_cmpR op_eq (pv 7) pe_str (nomark _)) pa_nil)) (fun _ _ => rfl)) pa_nil))) pa_nil))))))
    (pss_cons (ps_set (i := 8) sc_law.nd rfl (.inl rfl) (pe_callB (call_repr rfl (hu64 hr)) (by rfl) z_repr (by decide +kernel) (pa_cons (pe_tup (pa_cons (pv 2) (pa_cons (pv 3) (pa_cons (pv 5) pa_nil)))) pa_nil)))
    (pss_cons (ps_set (i := 9) sc_law.nd rfl (.inr rfl) (pe_lst pa_nil))
    (pss_cons (ps_set (i := 10) sc_law.nd rfl (.inl rfl) (pe_lst pa_nil))
    (pss_cons (ps_set (i := 11) sc_law.nd rfl (.inr rfl) (pe_lst pa_nil))
    (pss_cons (ps_for PassesOwn.never rfl (pi_list (pv 2)) (pg_name (i := 12) sc_law.nd rfl (.inr rfl))
      (pss_cons (ps_setLc (i := 13) (own := [("key", 16)]) (g := gName 16) (tt := tYes) rfl sc_law.nd rfl rfl (sw_true rfl rfl rfl (by decide +kernel)) (pi_seq (pv 3)) (blkOk_by (N := n_law) (sc := C8.fnScope s_law) (by decide +kernel)) (fun _ _ _ _ _ => pg_name (i := 16) sc_law.nd rfl (Or.inl rfl)) (fun _ _ _ _ _ => pts_nil) (fun _ _ _ _ _ => (C8.pe_c c_evaluate hr (by decide) (by rfl) (pa_cons (pv 16) (pa_cons (pv 12) pa_nil)))))
    (pss_one (ps_if (pt_cmpR (op_inD (hu65 hr)) (C8.pe_c c__law_ranks hr (by decide) (by rfl) (pa_cons (pv 13) pa_nil)) (pv 10) (by with_unfolding_all rfl))
      (pss_cons (ps_set (i := 14) sc_law.nd rfl (.inl rfl) (pe_bm PySem.F.plainAttrs_list PySem.F.slot_list_index PySem.F.type_list_index (mt_indexD (hu65 hr)) (pv 10) (pa_cons (C8.pe_c c__law_ranks hr (by decide) (by rfl) (pa_cons (pv 13) pa_nil)) pa_nil)))
    (pss_one (ps_asg (pe_op op_cat (pe_ix ix_list (pv 11) (pv 14) (fun _ _ => rfl)) (pe_lst (pa_cons (pv 12) pa_nil))) (pg_sub (pv 11) (pv 14) set_list))))
      (pss_cons (ps_expr (pe_bm PySem.F.plainAttrs_list PySem.F.slot_list_append PySem.F.type_list_append mt_append (pv 10) (pa_cons (C8.pe_c c__law_ranks hr (by decide) (by rfl) (pa_cons (pv 13) pa_nil)) pa_nil)))
    (pss_cons (ps_expr (pe_bm PySem.F.plainAttrs_list PySem.F.slot_list_append PySem.F.type_list_append mt_append (pv 9) (pa_cons (pv 13) pa_nil)))
    (pss_one (ps_expr (pe_bm PySem.F.plainAttrs_list PySem.F.slot_list_append PySem.F.type_list_append mt_append (pv 11) (pa_cons (pe_lst (pa_cons (pv 12) pa_nil)) pa_nil))))))))))
    (Evl.pss_cut (ps_if (pt_cmpR op_eq (pe_callB call_len_seq (by rfl) z_len PySem.boot_len (pa_cons (pv 3) pa_nil)) pe_int (nomark _))
      (pss_cons (ps_set (i := 9) sc_law.nd rfl (.inr rfl) (pe_lst (pa_cons (pe_lst pa_nil) pa_nil)))
    (pss_one (ps_set (i := 11) sc_law.nd rfl (.inr rfl) (pe_lst (pa_cons (pv 2) pa_nil)))))
      pss_nil)
    (pss_cons (ps_set (i := 9) sc_law.nd rfl (.inr rfl) (pe_lc (own := [("k", 6)]) (g := gName 6) (tt := tYes) rfl sc_law.nd (pi_range1 rfl z_range (pa_cons (pe_callB call_len_seq (by rfl) z_len PySem.boot_len (pa_cons (pv 9) pa_nil)) pa_nil)) (blkOk_by (N := n_law) (sc := C8.fnScope s_law) (by decide +kernel)) (fun _ _ _ _ _ => pg_name (i := 6) sc_law.nd rfl (Or.inr rfl)) (fun _ _ _ _ _ => pts_nil) (fun _ _ _ _ _ => (pe_op op_cat (pe_ix (ix_listK (K := K) rfl) (pv 9) (pv 6) (fun _ _ => rfl)) (pe_lc (own := [("value", 17)]) (g := gName 17) (tt := tYes) rfl sc_law.nd (pi_seqK (K := K) rfl (pv 5)) (blkOk_by (N := n_law) (sc := _) (by kernel_rfl)) (fun _ _ _ _ _ => pg_name (i := 17) sc_law.nd rfl (Or.inl rfl)) (fun _ _ _ _ _ => pts_nil) (fun _ _ _ _ _ => (C8.pe_c c_aggregate hr (by decide) (by rfl) (pa_cons (pv 17) (pa_cons (pe_ix (ix_listK (K := K) rfl) (pv 11) (pv 6) (fun _ _ => rfl)) pa_nil)))))))))
    (pss_cons (ps_set (i := 15) sc_law.nd rfl (.inl rfl) (C8.pe_c c_group_rows hr (by decide) (by rfl) (pa_cons (pv 3) (pa_cons (pe_callTy call_tuple_of (by rfl) z_tuple (by decide +kernel) (pa_cons (pv 5) pa_nil)) (pa_cons (pv 2) pa_nil)))))
    (pss_one (ps_ret (pe_and (C8.pe_c c__law_same_list hr (by decide) (by rfl) (pa_cons (pv 15) (pa_cons (pv 9) pa_nil))) (pe_and (C8.pe_c c__law_same_list hr (by decide) (by rfl) (pa_cons (C8.pe_c c_group_rows hr (by decide) (by rfl) (pa_cons (pe_callTy call_list_of (by rfl) z_list (by decide +kernel) (pa_cons (pv 3) pa_nil)) (pa_cons (pv 5) (pa_cons (pv 2) pa_nil)))) (pa_cons (pv 9) pa_nil))) (pe_one (pe_cmpR op_eq (pe_callB (call_repr rfl (hu64 hr)) (by rfl) z_repr (by decide +kernel) (pa_cons (pe_tup (pa_cons (pv 2) (pa_cons (pv 3) (pa_cons (pv 5) pa_nil)))) pa_nil)) (pv 8) (nomark _))))))))))))))))))))), ?_⟩
  have n1 : ∀ k, 0 ≤ cellN ns k := cellN_nn ns
  refine q_asgL (xs := (lawN ns 20).map V.int) (el_call (ea_cons (ev_var rfl) (ea_cons ev_c ea_nil)) fun H1 e Q q E => ⟨a, ns, 20, rfl, ex_l e hS, h63, by decide, q⟩) fun p1 H1 hp1 e1 h1 => ?_
  have idx : ∀ {σ : L2.St} {H' : Hp} {ta : TE} {i : Nat}, σ[1]? = some (some (V.ref p1)) → Ex H1 H' → Ev ta σ H' (.int (i : Int)) → i < 20 → Ev (tOp (rIxL K) (tVar 1) ta) σ H' (.int (cellN ns i)) := fun hσ e ha hi => ev_op (ev_var hσ) ha (rv_ixL (sq_of (e _ _ h1)) (lawN_at hi))
  obtain ⟨c0, hc0⟩ := Int.eq_ofNat_of_zero_le (n1 0)
  obtain ⟨c1, hc1⟩ := Int.eq_ofNat_of_zero_le (n1 1)
  obtain ⟨c2, hc2⟩ := Int.eq_ofNat_of_zero_le (n1 2)
  have hms : (lawN ns 20).map V.int = ((lawN ns 20).map Int.toNat).map fun m : Nat => V.int (m : Int) := by
    rw [List.map_map]
    refine List.map_congr_left fun i hi => ?_
    show V.int i = V.int ((i.toNat : Nat) : Int)
    rw [Int.toNat_of_nonneg (lawN_nn i hi)]
  have i0 : ∀ {σ : L2.St} {H' : Hp}, σ[1]? = some (some (V.ref p1)) → Ex H1 H' → Ev (tOp (rIxL K) (tVar 1) (tC (.int 0))) σ H' (.int (c0 : Int)) := fun hσ e => ev_is (idx (i := 0) hσ e ev_c (by decide)) (by rw [hc0])
  have i1 : ∀ {σ : L2.St} {H' : Hp}, σ[1]? = some (some (V.ref p1)) → Ex H1 H' → Ev (tOp (rIxL K) (tVar 1) (tC (.int 1))) σ H' (.int (c1 : Int)) := fun hσ e => ev_is (idx (i := 1) hσ e ev_c (by decide)) (by rw [hc1])
  have i2 : ∀ {σ : L2.St} {H' : Hp}, σ[1]? = some (some (V.ref p1)) → Ex H1 H' → Ev (tOp (rIxL K) (tVar 1) (tC (.int 2))) σ H' (.int (c2 : Int)) := fun hσ e => ev_is (idx (i := 2) hσ e ev_c (by decide)) (by rw [hc2])
  refine q_rowlist (K := K) (c := c0 % 15) (at_ := 3) (ms := (lawN ns 20).map Int.toNat) (ea_cons (ev_var rfl) (ea_cons ev_c (ea_cons (ev_is (ev_op (ev_int (i0 rfl (Ex.refl _))) ev_c (rv_I (by decide))) (by rw [Int.natCast_emod]; rfl)) (ea_cons ev_c ea_nil)))) (by rw [← hms]; exact sq_of h1) (by rw [List.length_map, lawN_len]; omega) (by omega) fun p H2 L hp e2 hL hl ho => ?_
  have hl14 : L.length ≤ 14 := by omega
  have oL : OkRs L := ⟨by omega, fun r hr => (ho r hr).2⟩
  obtain ⟨qs, g1, g2⟩ := hL
  refine q_tupX (P := fun es => es.length = c0 / 15 % 3 ∧ ∀ e ∈ es, e.ok 3 ∧ e.dep ≤ 2) (fun Q k => x_lcCx (n := c0 / 15 % 3) (w := 3) (dp := 2) (ev_is (ev_op (ev_op (ev_int (i0 rfl e2)) ev_c (rv_I ⟨by decide, by decide⟩)) ev_c (rv_I (by decide))) (by rw [Int.natCast_emod, Int.natCast_ediv]; rfl)) (by omega) (fun _ => rfl) (fun i H3 hi e3 => cx_simple (n := c1 / (5 * i + 1)) (w := 3) (ev_is (ev_op (i1 rfl (e2.trans e3)) (ev_op (ev_op ev_c (ev_var rfl) (rv_I (.inl ⟨by decide, by decide⟩))) ev_c rv_I0) (rv_I ⟨by omega, by omega⟩)) (by rw [Int.natCast_ediv, Int.natCast_add, Int.natCast_mul]; rfl)) ev_c (by decide) (by decide)) (Ex.refl H2) Q fun p H3 ys es hp e3 h3 hd hn he => k p H3 ys es hp e3 h3 hd ⟨hn, he⟩) fun kp H3 kys es hkp e3 h3 hkd hes => ?_
  have oE : EsOk es := ⟨by have := hes.1; omega, fun e he => ⟨⟨3, (hes.2 e he).1⟩, by have := (hes.2 e he).2; omega⟩⟩
  refine q_asgL (xs := ((["rows", "count", "distinct", "sum", "min", "max", "average", "list", "some"] : List String).map PySem.Str.ofString).map V.str) (el_lst (ea_cons ev_c (ea_cons ev_c (ea_cons ev_c (ea_cons ev_c (ea_cons ev_c (ea_cons ev_c (ea_cons ev_c (ea_cons ev_c (ea_cons ev_c ea_nil))))))))) (by show 9 ≤ 100000; decide)) fun pn H4 hpn e4 h4 => ?_
  refine q_asgL (el_lst ea_nil (by decide)) fun pw H5 hpw e5 h5 => ?_
  have x45 := e4.trans e5
  refine q_forR1 (n := ((c0 / 45 % 4 : Nat) : Int)) (ea_cons (ev_is (ev_op (ev_op (ev_int (i0 rfl ((e2.trans e3).trans x45))) ev_c (rv_I ⟨by decide, by decide⟩)) ev_c (rv_I (by decide))) (by rw [Int.natCast_emod, Int.natCast_ediv]; rfl)) ea_nil) ⟨by omega, by omega⟩ (fun i σ' H' => ∃ (kv nv : Option V) (ys : List V) (gs : List Ag), σ' = [some (.ref a), some (.ref p1), some (.ref p), some (.ref kp), some (.ref pn), some (.ref pw), kv, nv, none, none, none, none, none, none, none, none, none, none] ∧ Ex H4 H' ∧ H' pw = some (.lst ys) ∧ DpAll K H' ys (gs.map Ag.d) ∧ gs.length = i ∧ ∀ g ∈ gs, AgS g) (fun H6 e6 => ⟨none, none, [], [], rfl, e5.trans e6, e6 _ _ h5, .nil, rfl, fun g hg => nomatch hg⟩) (fun i σ' H' hi pv => ?_) fun σ' H' pv => ?_
  · obtain ⟨kv, nv, ys, gs, rfl, e, hw', hdp, hgl, hgs⟩ := pv
    have hi3 : i < 3 := by omega
    have x0 := (e2.trans e3).trans (e4.trans e)
    obtain ⟨x, hx, nm, rfl, hnm⟩ := ltn (r := c2 / (9 * i + 1)) (m := 9) (P := fun v => ∃ nm, v = .str nm ∧ (nm = "rows" ∨ nm ∈ aggNames)) (xs := (["rows", "count", "distinct", "sum", "min", "max", "average", "list", "some"] : List String).map PySem.Str.ofString |>.map V.str) (by decide) rfl fun x hx => by
      simp only [List.map_cons, List.map_nil, List.mem_cons, List.not_mem_nil, or_false] at hx
      rcases hx with rfl | rfl | rfl | rfl | rfl | rfl | rfl | rfl | rfl
      · exact ⟨_, rfl, .inl rfl⟩
      all_goals exact ⟨_, rfl, .inr (by decide +kernel)⟩
    refine q_asg (v := .str nm) (ev_op (ev_var rfl) (ev_is (w := .int ((c2 / (9 * i + 1) % 9 : Nat) : Int)) (ev_op (ev_op (ev_int (i2 rfl x0)) (ev_op (ev_op ev_c (ev_var rfl) (rv_I (.inl ⟨by decide, by decide⟩))) ev_c rv_I0) (rv_I ⟨by omega, by omega⟩)) ev_c (rv_I (by decide))) (by rw [Int.natCast_emod, Int.natCast_ediv, Int.natCast_add, Int.natCast_mul]; rfl)) (rv_ixL (sq_of (e _ _ h4)) (atI_nat hx))) fun H6 e6 => ?_
    have hw6 := e6 _ _ hw'
    refine ⟨.ref pw, rfl, Or.inl ⟨rfl, _, sq_of hw6⟩, x_ag (b := decide (V.str nm = V.str "rows")) (ev_var rfl) (cx_simple (n := c2 / (7 * i + 9)) (w := 3) (ev_is (ev_op (i2 rfl (x0.trans e6)) (ev_op (ev_op ev_c (ev_var rfl) (rv_I (.inl ⟨by decide, by decide⟩))) ev_c rv_I0) (rv_I ⟨by omega, by omega⟩)) (by rw [Int.natCast_ediv, Int.natCast_add, Int.natCast_mul]; rfl)) ev_c (by decide) (by decide)) (fun Hz => ev_intB (ev_op (ev_var rfl) ev_c (rv_eq rfl))) (fun hb => V.str.inj (of_decide_eq_true hb)) (fun hb => hnm.resolve_left fun z => of_decide_eq_false hb (by rw [z])) (Ex.refl H6) _ fun t H7 g e7 hd og => ⟨pw, ys, .ref t, rfl, rfl, e7 _ _ hw6, sz_lt ?_, ⟨_, _, ys ++ [.ref t], gs ++ [g], rfl, Ex.mut ((e.trans e6).trans e7) hpw, upd_same, ?_, by rw [List.length_append, hgl]; rfl, fun g' hg' => ?_⟩⟩⟩
    · have := dps_len hdp
      rw [List.length_map] at this
      omega
    · have hno : noLs (gs.map Ag.d ++ [g.d]) = true := by
        have := noLs_ag (gs ++ [g])
        rw [List.map_append] at this
        exact this
      rw [List.map_append]
      exact dps_upd (e7 _ _ hw6) hno (dps_snoc (ex_dps (e6.trans e7) hdp) hd)
    · rcases List.mem_append.mp hg' with h | h
      · exact hgs g' h
      · rw [List.mem_singleton.mp h]; exact og
  obtain ⟨kv, nv, ys, gs, rfl, e, hw', hdp, hgl, hgs⟩ := pv
  rw [Int.toNat_natCast] at hgl
  have gs3 : gs.length ≤ 3 := by omega
  have oA : AsOk gs := ⟨by omega, fun g hg => (hgs g hg).ok⟩
  have y3 := e4.trans e
  have y2 := e3.trans y3
  have rows : ∀ {Hx : Hp}, Ex H' Hx → Lst2 RowAt Hx p L := fun ex => ⟨qs, (y2.trans ex) _ _ g1, g2.mono fun q l _ => RowAt.mn _ _ _ _ (y2.trans ex)⟩
  have keyT : ∀ {Hx : Hp}, Ex H' Hx → SqT K Hx kp kys := fun ex => st_of ((y3.trans ex) _ _ h3)
  have keyD : ∀ {Hx : Hp}, Ex H' Hx → DpAll K Hx kys (es.map Cnd.d) := fun ex => ex_dps (y3.trans ex) hkd
  have valL : ∀ {Hx : Hp}, Ex H' Hx → SqL K Hx pw ys := fun ex => sq_of (ex _ _ hw')
  have valD : ∀ {Hx : Hp}, Ex H' Hx → DpAll K Hx ys (gs.map Ag.d) := fun ex => ex_dps ex hdp
  obtain ⟨k1, k2, k3⟩ := kept_sh hl14 ho (by have := hes.1; omega) hes.2 gs3 hgs
  have shown : ∀ {σ : L2.St} {Hx : Hp}, σ[2]? = some (some (V.ref p)) → σ[3]? = some (some (V.ref kp)) → σ[5]? = some (some (V.ref pw)) → Ex H' Hx → Ev (tCB (rRepr K) (tCons (tTup (tCons (tVar 2) (tCons (tVar 3) (tCons (tVar 5) tNil)))) tNil)) σ Hx (.str (keptD L es gs).shown) := fun h2 h3 h5 ex => ev_shownL (ed_tupU (ud_tup (ad_cons (ed_val (ev_var h2) (dp_rows (rows ex) oL.2)) (ad_cons (ed_val (ev_var h3) (.tup (keyT ex) (keyD ex))) (ad_cons (ed_val (ev_var h5) (.lst (valL ex) (valD ex))) ad_nil))) (by show 3 ≤ 100000; decide))) ref_tup k1 k2 k3
  refine q_asg (shown rfl rfl rfl (Ex.refl _)) fun H6 e6 => ?_
  refine q_asgL (el_lst ea_nil (by decide)) fun du H7 hdu e7 h7 => ?_
  refine q_asgL (el_lst ea_nil (by decide)) fun se H8 hse e8 h8 => ?_
  refine q_asgL (el_lst ea_nil (by decide)) fun me H9 hme e9 h9 => ?_
  have hne1 : du ≠ se := fun z => by rw [z, hse] at h7; cases h7
  have hne2 : du ≠ me := fun z => by have := e8 _ _ h7; rw [z, hme] at this; cases this
  have hne3 : se ≠ me := fun z => by rw [z, hme] at h8; cases h8
  have z2 := fresh_back e7 hse
  have z3 := fresh_back (e7.trans e8) hme
  have old : ∀ {q : Addr} {o : HO}, H6 q = some o → q ≠ du ∧ q ≠ se ∧ q ≠ me := fun {q o} h => ⟨(fun z => by rw [z, hdu] at h; cases h), (fun z => by rw [z, z2] at h; cases h), (fun z => by rw [z, z3] at h; cases h)⟩
  refine q_forLn (xs := qs.map V.ref) (ev_var rfl) (sq_of ((y2.trans (e6.trans (e7.trans (e8.trans e9)))) _ _ g1)) (fun i σ' Hx => ∃ (rv fv av : Option V) (as bs : List Addr) (zs : List V), σ' = [some (.ref a), some (.ref p1), some (.ref p), some (.ref kp), some (.ref pn), some (.ref pw), kv, nv, some (.str (keptD L es gs).shown), some (.ref du), some (.ref se), some (.ref me), rv, fv, av, none, none, none] ∧ Ex H6 Hx ∧ Hx du = some (.lst (as.map V.ref)) ∧ Hx se = some (.lst zs) ∧ Hx me = some (.lst (bs.map V.ref)) ∧ Al2 RowAt (w3 du se me Hx) as ((groupsOf es (L.take i)).map (·.1)) ∧ Al2 (Lst2 RowAt) (w3 du se me Hx) bs ((groupsOf es (L.take i)).map (·.2)) ∧ NKeys Hx (((groupsOf es (L.take i)).map (·.1)).map rowN) zs)
    (fun Hx ex => ⟨none, none, none, [], [], [], rfl, ((e7.trans e8).trans e9).trans ex, ((e8.trans e9).trans ex) _ _ h7, (e9.trans ex) _ _ h8, ex _ _ h9, Al2.nil, Al2.nil, .nil⟩) (fun i σ' Hx hi pv => ?_) (fun i x σ' Hx hi pv => ?_) fun σ' Hx pv => ?_
  · obtain ⟨rv, fv, av, as, bs, zs, rfl, ex, _⟩ := pv
    exact sq_of ((y2.trans (e6.trans ex)) _ _ g1)
  · obtain ⟨rv, fv, av, as, bs, zs, rfl, ex, j1, j2, j3, j4, j5, j6⟩ := pv
    obtain ⟨qa, row, rfl, hrow, hLi, hqi⟩ := al_getB g2 hi
    have oR := oL.2 row (List.mem_of_getElem? hLi)
    have hsn := groups_snoc (es := es) hLi
    have hgl2 := groups_len es L i
    have hin := groups_in es L i
    have hgs2 := groups_sum es L i
    have hi60 : i < 60 := by have := (List.getElem?_eq_some_iff.mp hLi).1; omega
    have lV : (valsOf es row).length ≤ 10 := by unfold valsOf; rw [List.length_map]; exact oE.1
    have oV : OkRw (valsOf es row) := ⟨by omega, vals_ok oE oR⟩
    have hGo : ∀ r ∈ (groupsOf es (L.take i)).map (·.1), OkRw r := fun r hr => by
      obtain ⟨g, hg, rfl⟩ := List.mem_map.mp hr
      obtain ⟨⟨r2, hr2, e1⟩, _⟩ := hin g hg
      rw [e1]
      exact ⟨by unfold valsOf; rw [List.length_map]; have := oE.1; omega, vals_ok oE (oL.2 r2 hr2)⟩
    rw [hsn]
    generalize groupsOf es (L.take i) = G at j4 j5 j6 hsn hgl2 hin hgs2 hGo
    have e6x := e6.trans ex
    have hq6 := (y2.trans e6) _ _ hrow
    obtain ⟨qn1, qn2, qn3⟩ := old hq6
    have hzl : zs.length = G.length := by have := nks_len j6; rw [List.length_map, List.length_map] at this; exact this
    have hal : as.length = G.length := by have := j4.1; rw [List.length_map] at this; exact this
    have hbl : bs.length = G.length := by have := j5.1; rw [List.length_map] at this; exact this
    refine q_asgL (xs := valsOf es row) (el_evS (K := K) (ev_var rfl) (.inr (keyT e6x)) (keyD e6x) oE (sq_of ((y2.trans e6x) _ _ hrow)) oR (fun _ => rfl) (fun x H1 => ev_var rfl) (fun _ => rfl)) fun fa Ha hfa ea ha => ?_
    refine s_if (b := (G.map (·.1)).any fun x => decide (rowN x = rowN (valsOf es row))) (et_test (ev_inRows (ek_lr (ev_var rfl) (sq_of ha) oV) (fun _ _ => ev_var rfl) (ea _ _ j2) (NKeys.mono (fun b xs q => ea b _ q) j6) hGo oV)) (fun hb Hb eb => ?_) fun hb Hb eb => ?_
    · obtain ⟨j, gx, hj, hpx, hfst⟩ := first_of hb
      rw [List.getElem?_map] at hj
      cases h9 : G[j]? with
      | none => rw [h9] at hj; cases hj
      | some g =>
      rw [h9] at hj
      obtain rfl := Option.some.inj hj
      have hk := of_decide_eq_true hpx
      have hj1 : (G.map (·.1))[j]? = some g.1 := by rw [List.getElem?_map, h9]; rfl
      have hj2 : (G.map (·.2))[j]? = some g.2 := by rw [List.getElem?_map, h9]; rfl
      have xb := ea.trans eb
      refine q_asg (v := .int (j : Int)) (ev_indexRows rfl (ek_lr (ev_var rfl) (sq_of (eb _ _ ha)) oV) (xb _ _ j2) (NKeys.mono (fun b xs q => xb b _ q) j6) hGo oV hj1 hk (fun m z hm hz => of_decide_eq_false (hfst m z hm hz))) fun Hc ec => ?_
      have xc := xb.trans ec
      obtain ⟨b, hbj, ms, m1, m2⟩ := al_at j5 hj2
      have hjl := (List.getElem?_eq_some_iff.mp hbj).1
      have hml : ms.length ≤ 60 := by
        have h1 := mem_sum (f := fun g : Grp => g.2.length) (List.mem_of_getElem? h9)
        have h2 := m2.1
        omega
      refine s_asgGs (el_catN (l := b) (ev_op (ev_var rfl) (ev_var rfl) (rv_ixL (sq_of (xc _ _ j3)) (atI_nat (by rw [List.getElem?_map, hbj]; rfl)))) (xc _ _ (w3_le _ _ _ _ _ _ m1)) (el_lst (ea_cons (ev_var rfl) ea_nil) (by show 1 ≤ 100000; decide)) (by rw [List.length_map]; show ms.length + 1 ≤ 100000; omega)) fun n Hd hn ed hd => ?_
      have xd := xc.trans ed
      refine ⟨.ref me, rfl, .int (j : Int), rfl, me, bs.map V.ref, (j : Int), j, rfl, rfl, xd _ _ j3, ?_, ?_⟩
      · unfold ixN
        rw [if_pos (by omega), if_pos (by rw [List.length_map]; omega)]
        rfl
      have hn1 : n ≠ du := fun z => by rw [z, xc _ _ j1] at hn; cases hn
      have hn2 : n ≠ se := fun z => by rw [z, xc _ _ j2] at hn; cases hn
      have hn3 : n ≠ me := fun z => by rw [z, xc _ _ j3] at hn; cases hn
      have hm3 := xd _ _ j3
      refine ⟨_, _, _, as, bs.set j n, zs, rfl, Ex.mut (ex.trans xd) z3, by rw [upd_ne hne2]; exact xd _ _ j1, by rw [upd_ne hne3]; exact xd _ _ j2, by rw [upd_same, List.map_set], ?_, ?_, ?_⟩
      · rw [addG_hit h9 hk fun m g' hm hg' => of_decide_eq_false (hfst m g'.1 hm (by rw [List.getElem?_map, hg']; rfl)), fst_set h9, w3_updm]
        exact j4.mono fun q l _ h => RowAt.mn _ _ _ _ (w3_mono xd) h
      · rw [addG_hit h9 hk fun m g' hm hg' => of_decide_eq_false (hfst m g'.1 hm (by rw [List.getElem?_map, hg']; rfl)), List.map_set, w3_updm]
        refine (j5.mono fun q l _ h => h.mono (w3_mono xd) fun q l h => RowAt.mn _ _ _ _ (w3_mono xd) h).set j ⟨ms ++ [qa], by rw [List.map_append]; exact w3_at hd hn1 hn2 hn3, (m2.mono fun q l _ h => RowAt.mn _ _ _ _ (w3_mono xd) h).snoc ?_⟩
        exact w3_at ((ex.trans xd) _ _ hq6) qn1 qn2 qn3
      · rw [addG_hit h9 hk fun m g' hm hg' => of_decide_eq_false (hfst m g'.1 hm (by rw [List.getElem?_map, hg']; rfl)), fst_set h9]
        exact NKeys.mono (keep_lst hm3) (NKeys.mono (fun b xs q => xd b _ q) j6)
    · have hmiss : ∀ g ∈ G, rowN g.1 ≠ rowN (valsOf es row) := fun g hg z => by
        have : ((G.map (·.1)).any fun x => decide (rowN x = rowN (valsOf es row))) = true := List.any_eq_true.mpr ⟨g.1, List.mem_map.mpr ⟨g, hg, rfl⟩, decide_eq_true z⟩
        rw [hb] at this
        cases this
      have xb := ea.trans eb
      refine ⟨.ref se, rfl, Or.inl ⟨rfl, _, sq_of (xb _ _ j2)⟩, ?_⟩
      refine (ek_lr (K := K) (ev_var rfl) (sq_of (eb _ _ ha)) oV) Hb (Ex.refl Hb) _ fun t Hc ht ec nk => ⟨se, zs, .ref t, rfl, rfl, (xb.trans ec) _ _ j2, sz_lt (by omega), ?_⟩
      have xc := xb.trans ec
      have u1d : upd Hc se (.lst (zs ++ [.ref t])) du = some (.lst (as.map V.ref)) := by rw [upd_ne hne1]; exact xc _ _ j1
      have u1m : upd Hc se (.lst (zs ++ [.ref t])) me = some (.lst (bs.map V.ref)) := by rw [upd_ne (Ne.symm hne3)]; exact xc _ _ j3
      have u1s : upd Hc se (.lst (zs ++ [.ref t])) se = some (.lst (zs ++ [.ref t])) := upd_same
      refine q_app (v := .ref fa) u1d (ev_var rfl) (ev_var rfl) (by rw [List.length_map]; omega) fun He ee => ?_
      have u2d : upd He du (.lst (as.map V.ref ++ [.ref fa])) du = some (.lst (as.map V.ref ++ [.ref fa])) := upd_same
      have u2m : upd He du (.lst (as.map V.ref ++ [.ref fa])) me = some (.lst (bs.map V.ref)) := by rw [upd_ne (Ne.symm hne2)]; exact ee _ _ u1m
      have u2s : upd He du (.lst (as.map V.ref ++ [.ref fa])) se = some (.lst (zs ++ [.ref t])) := by rw [upd_ne (Ne.symm hne1)]; exact ee _ _ u1s
      refine ⟨.ref me, rfl, Or.inl ⟨rfl, _, sq_of u2m⟩, (el_lst (ea_cons (ev_var rfl) ea_nil) (by show 1 ≤ 100000; decide)) _ (Ex.refl _) _ fun n Hf hn ef hf => ⟨me, bs.map V.ref, .ref n, rfl, rfl, ef _ _ u2m, sz_lt (by rw [List.length_map]; omega), ?_⟩⟩
      have hn1 : n ≠ du := fun z => by rw [z, u2d] at hn; cases hn
      have hn2 : n ≠ se := fun z => by rw [z, u2s] at hn; cases hn
      have hn3 : n ≠ me := fun z => by rw [z, u2m] at hn; cases hn
      have fn1 : fa ≠ du := fun z => by rw [z, j1] at hfa; cases hfa
      have fn2 : fa ≠ se := fun z => by rw [z, j2] at hfa; cases hfa
      have fn3 : fa ≠ me := fun z => by rw [z, j3] at hfa; cases hfa
      have w1 : Ex (w3 du se me Hc) (w3 du se me He) := by rw [← w3_upds (o := .lst (zs ++ [.ref t]))]; exact w3_mono ee
      have w2 : Ex (w3 du se me He) (w3 du se me Hf) := by rw [← w3_updd (H := He) (o := .lst (as.map V.ref ++ [.ref fa]))]; exact w3_mono ef
      have wB : Ex (w3 du se me Hb) (w3 du se me Hf) := ((w3_mono ec).trans w1).trans w2
      have wX : Ex (w3 du se me Hx) (w3 du se me Hf) := (w3_mono xb).trans wB
      have kp3 : ∀ b xs, Hc b = some (.tup xs) → upd Hf me (.lst (bs.map V.ref ++ [.ref n])) b = some (.tup xs) := fun b xs q => keep_lst (ef _ _ u2m) b xs (ef _ _ (keep_lst (ee _ _ u1d) b xs (ee _ _ (keep_lst (xc _ _ j2) b xs q))))
      refine ⟨_, _, _, as ++ [fa], bs ++ [n], zs ++ [.ref t], rfl, Ex.mut ((Ex.mut ((Ex.mut (ex.trans xc) z2).trans ee) hdu).trans ef) z3, by rw [upd_ne hne2, ef _ _ u2d, List.map_append]; rfl, by rw [upd_ne hne3]; exact ef _ _ u2s, by rw [upd_same, List.map_append]; rfl, ?_, ?_, ?_⟩
      · rw [addG_miss hmiss, List.map_append, w3_updm]
        exact (j4.mono fun q l _ h => RowAt.mn _ _ _ _ wX h).snoc (wB _ _ (w3_at (eb _ _ ha) fn1 fn2 fn3))
      · rw [addG_miss hmiss, List.map_append, w3_updm]
        refine (j5.mono fun q l _ h => h.mono wX fun q l h => RowAt.mn _ _ _ _ wX h).snoc ⟨[qa], w3_at hf hn1 hn2 hn3, rfl, fun k q l a b => ?_⟩
        cases k with
        | zero =>
          cases a; cases b
          exact wX _ _ (w3_at (ex _ _ hq6) qn1 qn2 qn3)
        | succ k => simp at a
      · rw [addG_miss hmiss, List.map_append, List.map_append]
        exact nks_snoc (NKeys.mono (fun b xs q => kp3 b xs (xc _ _ q)) j6) (NKey.mono kp3 nk)
  obtain ⟨rv, fv, av, as, bs, zs, rfl, ex, j1, j2, j3, j4, j5, j6⟩ := pv
  rw [show (qs.map V.ref).length = L.length from by rw [List.length_map, g2.1], List.take_length] at j4 j5 j6
  have e6x := e6.trans ex
  have hkl : kys.length = es.length := by have := dps_len hkd; rw [List.length_map] at this; exact this
  refine q_cut (M := fun σ' Hy => ∃ (dv mv : Addr), σ' = [some (.ref a), some (.ref p1), some (.ref p), some (.ref kp), some (.ref pn), some (.ref pw), kv, nv, some (.str (keptD L es gs).shown), some (.ref dv), some (.ref se), some (.ref mv), rv, fv, av, none, none, none] ∧ Ex Hx Hy ∧ Lst2 RowAt Hy dv ((grps es L).map (·.1)) ∧ Lst2 (Lst2 RowAt) Hy mv ((grps es L).map (·.2))) ?_ fun σ' Hy pw => ?_
  · refine s_when (b := decide (V.int (kys.length : Int) = V.int 0)) (et_test (ev_op (ev_lenTT (ev_var rfl) (keyT e6x)) ev_c (rv_eq rfl))) (fun hb Hy ey => ?_) fun hb Hy ey => ?_
    · have hz := V.int.inj (of_decide_eq_true hb)
      have he0 : es = [] := List.length_eq_zero_iff.mp (by omega)
      have eg : grps es L = [([], L)] := if_pos he0
      rw [eg]
      refine q_asgR3 (er_one (R := fun H p => H p = some (.lst [])) (fun H H' p e h => e _ _ h) (el_lst ea_nil (by decide))) fun dv Hz hdv ez hd => ?_
      obtain ⟨t, t1, t2⟩ := hd
      refine s_asgL (el_lst (ea_cons (ev_var rfl) ea_nil) (by show 1 ≤ 100000; decide)) fun mv Hw hmv ew hw => ⟨dv, mv, rfl, (ey.trans ez).trans ew, ⟨[t], ew _ _ t1, rfl, fun i q l a b => ?_⟩, ⟨[p], hw, rfl, fun i q l a b => ?_⟩⟩
      · cases i with
        | zero =>
          cases a; cases b
          exact ew _ _ t2
        | succ i => simp at a
      · cases i with
        | zero =>
          cases a; cases b
          exact rows (e6x.trans ((ey.trans ez).trans ew))
        | succ i => simp at a
    · have he0 : es ≠ [] := fun z => of_decide_eq_false hb (by rw [hkl, z]; rfl)
      have eg : grps es L = groupsOf es L := if_neg he0
      rw [eg]
      exact ⟨du, me, rfl, ey, ⟨as, ey _ _ j1, j4.mono fun q l _ h => ey _ _ (w3_le _ _ _ _ _ _ h)⟩, ⟨bs, ey _ _ j3, j5.mono fun q l _ h => h.mono ((w3_le _ _ _ _).trans ey) fun q l h => RowAt.mn _ _ _ _ ((w3_le _ _ _ _).trans ey) h⟩⟩
  obtain ⟨dv, mv, rfl, ey, ⟨das, d1, d2⟩, ⟨mbs, m1, m2⟩⟩ := pw
  have e6y := e6x.trans ey
  obtain ⟨gl, go⟩ := grps_ok oE oL
  have ogs : gs.length ≤ 10 := by omega
  refine q_asgR (er_lcRg (R := RowAt) RowAt.mn (n := (grps es L).length) (fun i => grpRow gs ((grps es L).getD i ([], []))) (ev_is (ev_len (ev_var rfl) (sq_of d1)) (by rw [List.length_map, d2.1, List.length_map])) (by omega) (fun _ => rfl) fun i Hz hi ez => ?_) fun dd Hz hdd ez hDD => ?_
  · have hgi := List.getElem?_eq_getElem hi
    obtain ⟨⟨ol, oo⟩, om⟩ := go _ (List.getElem_mem hi)
    have egd : (grps es L).getD i ([], []) = (grps es L)[i] := by rw [List.getD_eq_getElem?_getD, hgi]; rfl
    rw [egd]
    obtain ⟨ai, a1, a2⟩ := al_at d2 (j := i) (l := (grps es L)[i].1) (by rw [List.getElem?_map, hgi]; rfl)
    obtain ⟨bi, b1, b2⟩ := al_at m2 (j := i) (l := (grps es L)[i].2) (by rw [List.getElem?_map, hgi]; rfl)
    generalize (grps es L)[i] = g at ol oo om a2 b2
    exact rn_L (el_catN (l := ai) (ev_op (ev_var rfl) (ev_var rfl) (rv_ixL (sq_of (ez _ _ d1)) (atI_nat (by rw [List.getElem?_map, a1]; rfl)))) (ez _ _ a2) (el_agS (K := K) (r := bi) (L := g.2) (ev_var rfl) (.inl (valL (e6y.trans ez))) (valD (e6y.trans ez)) oA (b2.mono ez fun q l h => RowAt.mn _ _ _ _ ez h) om (fun _ => rfl) (fun x H1 e1 => ev_op (ev_var rfl) (ev_var rfl) (rv_ixL (sq_of ((ez.trans e1) _ _ m1)) (atI_nat (by rw [List.getElem?_map, b1]; rfl)))) (fun _ => rfl)) (by rw [List.length_map]; omega))
  have hD2 : Lst2 RowAt Hz dd (grpRows es gs L) := by
    have h := hDD.mono nu_le fun q l h => RowAt.mn _ _ _ _ nu_le h
    rw [range_mapG (fun g => grpRow gs g) ([], [])] at h
    exact h
  have e6z := e6y.trans ez
  refine q_asgR3 (eg_gr (K := K) (es_val (ev_var rfl) ⟨kp, kys, rfl, .inr (keyT e6z), keyD e6z⟩) (as_tup (ev_var rfl) (valL e6z) (valD e6z)) (ev_var rfl) oE oA (rows e6z) oL) fun tl Ht htl et hT => ?_
  have e6t := e6z.trans et
  obtain ⟨rl, ro⟩ := ok_grpRows oE hgs ogs oL
  have hD3 := hD2.mono et fun q l h => RowAt.mn _ _ _ _ et h
  have lst : Ex H6 Ht := ((ex.trans ey).trans ez).trans et
  exact s_ret (v := .bl true) (ev_is (ev_andV (a := true) (b := true && true) (ec_slist (ev_var rfl) (fun _ _ => ev_var rfl) hT hD3 rl ro) fun _ => ev_andV (ec_slistR (eg_gr (K := K) (es_lst (ev_var rfl) (keyT e6t) (keyD e6t)) (as_val (ev_var rfl) ⟨pw, ys, rfl, .inl (valL e6t), valD e6t⟩) (ev_var rfl) oE oA (rows e6t) oL) (fun _ _ => ev_var rfl) hD3 rl ro) fun _ => ev_is (ev_op (shown rfl rfl rfl e6t) (ev_var rfl) (rv_eq rfl)) (by rw [decide_eq_true rfl])) rfl) fun _ _ => rfl
end

theorem all_mk {P : Program} {w : World} {K : PySem.W.Frag} {h : Heap} {mg : Str → Option Value} {fa : Addr} (X : K.In h) (G : h.Ns mainGlobals mg) (hfa : mg "law" = some (.ref fa))
    {f0 : Addr} {od0 an0 : Option Addr} {sl0 : Array (Option Value)} {oc0 kV0 dc0 pm0 cd0 ct0 : Value} (a0 : PySem.W.nsIn K mainGlobals "limited" = some (some (.ref f0))) (l0 : K.lookup f0 = some ⟨oc0, od0, .func (PySem.W.fnOf "limited" "limited" (C8.fnArgs s_limited) (C8.fnBody s_limited) (C8.fnScope s_limited) .none kV0 dc0 pm0 an0 cd0 ct0), sl0⟩) (b0 : PySem.W.codeIn K cd0 "limited" = true) (k0 : PySem.W.keepIn K (.ref f0) = true)
    {f1 : Addr} {od1 an1 : Option Addr} {sl1 : Array (Option Value)} {oc1 kV1 dc1 pm1 cd1 ct1 : Value} (a1 : PySem.W.nsIn K mainGlobals "rounded" = some (some (.ref f1))) (l1 : K.lookup f1 = some ⟨oc1, od1, .func (PySem.W.fnOf "rounded" "rounded" (C8.fnArgs s_rounded) (C8.fnBody s_rounded) (C8.fnScope s_rounded) .none kV1 dc1 pm1 an1 cd1 ct1), sl1⟩) (b1 : PySem.W.codeIn K cd1 "rounded" = true) (k1 : PySem.W.keepIn K (.ref f1) = true)
    {f2 : Addr} {od2 an2 : Option Addr} {sl2 : Array (Option Value)} {oc2 kV2 dc2 pm2 cd2 ct2 : Value} (a2 : PySem.W.nsIn K mainGlobals "kind_rank" = some (some (.ref f2))) (l2 : K.lookup f2 = some ⟨oc2, od2, .func (PySem.W.fnOf "kind_rank" "kind_rank" (C8.fnArgs s_kind_rank) (C8.fnBody s_kind_rank) (C8.fnScope s_kind_rank) .none kV2 dc2 pm2 an2 cd2 ct2), sl2⟩) (b2 : PySem.W.codeIn K cd2 "kind_rank" = true) (k2 : PySem.W.keepIn K (.ref f2) = true)
    {f3 : Addr} {od3 an3 : Option Addr} {sl3 : Array (Option Value)} {oc3 kV3 dc3 pm3 cd3 ct3 : Value} (a3 : PySem.W.nsIn K mainGlobals "is_integer" = some (some (.ref f3))) (l3 : K.lookup f3 = some ⟨oc3, od3, .func (PySem.W.fnOf "is_integer" "is_integer" (C8.fnArgs s_is_integer) (C8.fnBody s_is_integer) (C8.fnScope s_is_integer) .none kV3 dc3 pm3 an3 cd3 ct3), sl3⟩) (b3 : PySem.W.codeIn K cd3 "is_integer" = true) (k3 : PySem.W.keepIn K (.ref f3) = true)
    {f4 : Addr} {od4 an4 : Option Addr} {sl4 : Array (Option Value)} {oc4 kV4 dc4 pm4 cd4 ct4 : Value} (a4 : PySem.W.nsIn K mainGlobals "rank" = some (some (.ref f4))) (l4 : K.lookup f4 = some ⟨oc4, od4, .func (PySem.W.fnOf "rank" "rank" (C8.fnArgs s_rank) (C8.fnBody s_rank) (C8.fnScope s_rank) .none kV4 dc4 pm4 an4 cd4 ct4), sl4⟩) (b4 : PySem.W.codeIn K cd4 "rank" = true) (k4 : PySem.W.keepIn K (.ref f4) = true)
    {f5 : Addr} {od5 an5 : Option Addr} {sl5 : Array (Option Value)} {oc5 kV5 dc5 pm5 cd5 ct5 : Value} (a5 : PySem.W.nsIn K mainGlobals "row_rank" = some (some (.ref f5))) (l5 : K.lookup f5 = some ⟨oc5, od5, .func (PySem.W.fnOf "row_rank" "row_rank" (C8.fnArgs s_row_rank) (C8.fnBody s_row_rank) (C8.fnScope s_row_rank) .none kV5 dc5 pm5 an5 cd5 ct5), sl5⟩) (b5 : PySem.W.codeIn K cd5 "row_rank" = true) (k5 : PySem.W.keepIn K (.ref f5) = true)
    {f6 : Addr} {od6 an6 : Option Addr} {sl6 : Array (Option Value)} {oc6 kV6 dc6 pm6 cd6 ct6 : Value} (a6 : PySem.W.nsIn K mainGlobals "same" = some (some (.ref f6))) (l6 : K.lookup f6 = some ⟨oc6, od6, .func (PySem.W.fnOf "same" "same" (C8.fnArgs s_same) (C8.fnBody s_same) (C8.fnScope s_same) .none kV6 dc6 pm6 an6 cd6 ct6), sl6⟩) (b6 : PySem.W.codeIn K cd6 "same" = true) (k6 : PySem.W.keepIn K (.ref f6) = true)
    {f7 : Addr} {od7 an7 : Option Addr} {sl7 : Array (Option Value)} {oc7 kV7 dc7 pm7 cd7 ct7 : Value} (a7 : PySem.W.nsIn K mainGlobals "before" = some (some (.ref f7))) (l7 : K.lookup f7 = some ⟨oc7, od7, .func (PySem.W.fnOf "before" "before" (C8.fnArgs s_before) (C8.fnBody s_before) (C8.fnScope s_before) .none kV7 dc7 pm7 an7 cd7 ct7), sl7⟩) (b7 : PySem.W.codeIn K cd7 "before" = true) (k7 : PySem.W.keepIn K (.ref f7) = true)
    {f8 : Addr} {od8 an8 : Option Addr} {sl8 : Array (Option Value)} {oc8 kV8 dc8 pm8 cd8 ct8 : Value} (a8 : PySem.W.nsIn K mainGlobals "negated" = some (some (.ref f8))) (l8 : K.lookup f8 = some ⟨oc8, od8, .func (PySem.W.fnOf "negated" "negated" (C8.fnArgs s_negated) (C8.fnBody s_negated) (C8.fnScope s_negated) .none kV8 dc8 pm8 an8 cd8 ct8), sl8⟩) (b8 : PySem.W.codeIn K cd8 "negated" = true) (k8 : PySem.W.keepIn K (.ref f8) = true)
    {f9 : Addr} {od9 an9 : Option Addr} {sl9 : Array (Option Value)} {oc9 kV9 dc9 pm9 cd9 ct9 : Value} (a9 : PySem.W.nsIn K mainGlobals "both" = some (some (.ref f9))) (l9 : K.lookup f9 = some ⟨oc9, od9, .func (PySem.W.fnOf "both" "both" (C8.fnArgs s_both) (C8.fnBody s_both) (C8.fnScope s_both) .none kV9 dc9 pm9 an9 cd9 ct9), sl9⟩) (b9 : PySem.W.codeIn K cd9 "both" = true) (k9 : PySem.W.keepIn K (.ref f9) = true)
    {f10 : Addr} {od10 an10 : Option Addr} {sl10 : Array (Option Value)} {oc10 kV10 dc10 pm10 cd10 ct10 : Value} (a10 : PySem.W.nsIn K mainGlobals "either" = some (some (.ref f10))) (l10 : K.lookup f10 = some ⟨oc10, od10, .func (PySem.W.fnOf "either" "either" (C8.fnArgs s_either) (C8.fnBody s_either) (C8.fnScope s_either) .none kV10 dc10 pm10 an10 cd10 ct10), sl10⟩) (b10 : PySem.W.codeIn K cd10 "either" = true) (k10 : PySem.W.keepIn K (.ref f10) = true)
    {f11 : Addr} {od11 an11 : Option Addr} {sl11 : Array (Option Value)} {oc11 kV11 dc11 pm11 cd11 ct11 : Value} (a11 : PySem.W.nsIn K mainGlobals "_negate" = some (some (.ref f11))) (l11 : K.lookup f11 = some ⟨oc11, od11, .func (PySem.W.fnOf "_negate" "_negate" (C8.fnArgs s__negate) (C8.fnBody s__negate) (C8.fnScope s__negate) .none kV11 dc11 pm11 an11 cd11 ct11), sl11⟩) (b11 : PySem.W.codeIn K cd11 "_negate" = true) (k11 : PySem.W.keepIn K (.ref f11) = true)
    {f12 : Addr} {od12 an12 : Option Addr} {sl12 : Array (Option Value)} {oc12 kV12 dc12 pm12 cd12 ct12 : Value} (a12 : PySem.W.nsIn K mainGlobals "_length" = some (some (.ref f12))) (l12 : K.lookup f12 = some ⟨oc12, od12, .func (PySem.W.fnOf "_length" "_length" (C8.fnArgs s__length) (C8.fnBody s__length) (C8.fnScope s__length) .none kV12 dc12 pm12 an12 cd12 ct12), sl12⟩) (b12 : PySem.W.codeIn K cd12 "_length" = true) (k12 : PySem.W.keepIn K (.ref f12) = true)
    {f13 : Addr} {od13 an13 : Option Addr} {sl13 : Array (Option Value)} {oc13 kV13 dc13 pm13 cd13 ct13 : Value} (a13 : PySem.W.nsIn K mainGlobals "value_of_one" = some (some (.ref f13))) (l13 : K.lookup f13 = some ⟨oc13, od13, .func (PySem.W.fnOf "value_of_one" "value_of_one" (C8.fnArgs s_value_of_one) (C8.fnBody s_value_of_one) (C8.fnScope s_value_of_one) .none kV13 dc13 pm13 an13 cd13 ct13), sl13⟩) (b13 : PySem.W.codeIn K cd13 "value_of_one" = true) (k13 : PySem.W.keepIn K (.ref f13) = true)
    {f14 : Addr} {od14 an14 : Option Addr} {sl14 : Array (Option Value)} {oc14 kV14 dc14 pm14 cd14 ct14 : Value} (a14 : PySem.W.nsIn K mainGlobals "_both" = some (some (.ref f14))) (l14 : K.lookup f14 = some ⟨oc14, od14, .func (PySem.W.fnOf "_both" "_both" (C8.fnArgs s__both) (C8.fnBody s__both) (C8.fnScope s__both) .none kV14 dc14 pm14 an14 cd14 ct14), sl14⟩) (b14 : PySem.W.codeIn K cd14 "_both" = true) (k14 : PySem.W.keepIn K (.ref f14) = true)
    {f15 : Addr} {od15 an15 : Option Addr} {sl15 : Array (Option Value)} {oc15 kV15 dc15 pm15 cd15 ct15 : Value} (a15 : PySem.W.nsIn K mainGlobals "_either" = some (some (.ref f15))) (l15 : K.lookup f15 = some ⟨oc15, od15, .func (PySem.W.fnOf "_either" "_either" (C8.fnArgs s__either) (C8.fnBody s__either) (C8.fnScope s__either) .none kV15 dc15 pm15 an15 cd15 ct15), sl15⟩) (b15 : PySem.W.codeIn K cd15 "_either" = true) (k15 : PySem.W.keepIn K (.ref f15) = true)
    {f16 : Addr} {od16 an16 : Option Addr} {sl16 : Array (Option Value)} {oc16 kV16 dc16 pm16 cd16 ct16 : Value} (a16 : PySem.W.nsIn K mainGlobals "_same" = some (some (.ref f16))) (l16 : K.lookup f16 = some ⟨oc16, od16, .func (PySem.W.fnOf "_same" "_same" (C8.fnArgs s__same) (C8.fnBody s__same) (C8.fnScope s__same) .none kV16 dc16 pm16 an16 cd16 ct16), sl16⟩) (b16 : PySem.W.codeIn K cd16 "_same" = true) (k16 : PySem.W.keepIn K (.ref f16) = true)
    {f17 : Addr} {od17 an17 : Option Addr} {sl17 : Array (Option Value)} {oc17 kV17 dc17 pm17 cd17 ct17 : Value} (a17 : PySem.W.nsIn K mainGlobals "_first_known" = some (some (.ref f17))) (l17 : K.lookup f17 = some ⟨oc17, od17, .func (PySem.W.fnOf "_first_known" "_first_known" (C8.fnArgs s__first_known) (C8.fnBody s__first_known) (C8.fnScope s__first_known) .none kV17 dc17 pm17 an17 cd17 ct17), sl17⟩) (b17 : PySem.W.codeIn K cd17 "_first_known" = true) (k17 : PySem.W.keepIn K (.ref f17) = true)
    {f18 : Addr} {od18 an18 : Option Addr} {sl18 : Array (Option Value)} {oc18 kV18 dc18 pm18 cd18 ct18 : Value} (a18 : PySem.W.nsIn K mainGlobals "_equal" = some (some (.ref f18))) (l18 : K.lookup f18 = some ⟨oc18, od18, .func (PySem.W.fnOf "_equal" "_equal" (C8.fnArgs s__equal) (C8.fnBody s__equal) (C8.fnScope s__equal) .none kV18 dc18 pm18 an18 cd18 ct18), sl18⟩) (b18 : PySem.W.codeIn K cd18 "_equal" = true) (k18 : PySem.W.keepIn K (.ref f18) = true)
    {f19 : Addr} {od19 an19 : Option Addr} {sl19 : Array (Option Value)} {oc19 kV19 dc19 pm19 cd19 ct19 : Value} (a19 : PySem.W.nsIn K mainGlobals "_less" = some (some (.ref f19))) (l19 : K.lookup f19 = some ⟨oc19, od19, .func (PySem.W.fnOf "_less" "_less" (C8.fnArgs s__less) (C8.fnBody s__less) (C8.fnScope s__less) .none kV19 dc19 pm19 an19 cd19 ct19), sl19⟩) (b19 : PySem.W.codeIn K cd19 "_less" = true) (k19 : PySem.W.keepIn K (.ref f19) = true)
    {f20 : Addr} {od20 an20 : Option Addr} {sl20 : Array (Option Value)} {oc20 kV20 dc20 pm20 cd20 ct20 : Value} (a20 : PySem.W.nsIn K mainGlobals "_at_most" = some (some (.ref f20))) (l20 : K.lookup f20 = some ⟨oc20, od20, .func (PySem.W.fnOf "_at_most" "_at_most" (C8.fnArgs s__at_most) (C8.fnBody s__at_most) (C8.fnScope s__at_most) .none kV20 dc20 pm20 an20 cd20 ct20), sl20⟩) (b20 : PySem.W.codeIn K cd20 "_at_most" = true) (k20 : PySem.W.keepIn K (.ref f20) = true)
    {f21 : Addr} {od21 an21 : Option Addr} {sl21 : Array (Option Value)} {oc21 kV21 dc21 pm21 cd21 ct21 : Value} (a21 : PySem.W.nsIn K mainGlobals "least_of_two" = some (some (.ref f21))) (l21 : K.lookup f21 = some ⟨oc21, od21, .func (PySem.W.fnOf "_least" "_least" (C8.fnArgs s_least_of_two) (C8.fnBody s_least_of_two) (C8.fnScope s_least_of_two) .none kV21 dc21 pm21 an21 cd21 ct21), sl21⟩) (b21 : PySem.W.codeIn K cd21 "_least" = true) (k21 : PySem.W.keepIn K (.ref f21) = true)
    {f22 : Addr} {od22 an22 : Option Addr} {sl22 : Array (Option Value)} {oc22 kV22 dc22 pm22 cd22 ct22 : Value} (a22 : PySem.W.nsIn K mainGlobals "_add" = some (some (.ref f22))) (l22 : K.lookup f22 = some ⟨oc22, od22, .func (PySem.W.fnOf "_add" "_add" (C8.fnArgs s__add) (C8.fnBody s__add) (C8.fnScope s__add) .none kV22 dc22 pm22 an22 cd22 ct22), sl22⟩) (b22 : PySem.W.codeIn K cd22 "_add" = true) (k22 : PySem.W.keepIn K (.ref f22) = true)
    {f23 : Addr} {od23 an23 : Option Addr} {sl23 : Array (Option Value)} {oc23 kV23 dc23 pm23 cd23 ct23 : Value} (a23 : PySem.W.nsIn K mainGlobals "_join" = some (some (.ref f23))) (l23 : K.lookup f23 = some ⟨oc23, od23, .func (PySem.W.fnOf "_join" "_join" (C8.fnArgs s__join) (C8.fnBody s__join) (C8.fnScope s__join) .none kV23 dc23 pm23 an23 cd23 ct23), sl23⟩) (b23 : PySem.W.codeIn K cd23 "_join" = true) (k23 : PySem.W.keepIn K (.ref f23) = true)
    {f24 : Addr} {od24 an24 : Option Addr} {sl24 : Array (Option Value)} {oc24 kV24 dc24 pm24 cd24 ct24 : Value} (a24 : PySem.W.nsIn K mainGlobals "_are_alike" = some (some (.ref f24))) (l24 : K.lookup f24 = some ⟨oc24, od24, .func (PySem.W.fnOf "_are_alike" "_are_alike" (C8.fnArgs s__are_alike) (C8.fnBody s__are_alike) (C8.fnScope s__are_alike) .none kV24 dc24 pm24 an24 cd24 ct24), sl24⟩) (b24 : PySem.W.codeIn K cd24 "_are_alike" = true) (k24 : PySem.W.keepIn K (.ref f24) = true)
    {f25 : Addr} {od25 an25 : Option Addr} {sl25 : Array (Option Value)} {oc25 kV25 dc25 pm25 cd25 ct25 : Value} (a25 : PySem.W.nsIn K mainGlobals "value_of_two" = some (some (.ref f25))) (l25 : K.lookup f25 = some ⟨oc25, od25, .func (PySem.W.fnOf "value_of_two" "value_of_two" (C8.fnArgs s_value_of_two) (C8.fnBody s_value_of_two) (C8.fnScope s_value_of_two) .none kV25 dc25 pm25 an25 cd25 ct25), sl25⟩) (b25 : PySem.W.codeIn K cd25 "value_of_two" = true) (k25 : PySem.W.keepIn K (.ref f25) = true)
    {f26 : Addr} {od26 an26 : Option Addr} {sl26 : Array (Option Value)} {oc26 kV26 dc26 pm26 cd26 ct26 : Value} (a26 : PySem.W.nsIn K mainGlobals "unary" = some (some (.ref f26))) (l26 : K.lookup f26 = some ⟨oc26, od26, .func (PySem.W.fnOf "unary" "unary" (C8.fnArgs s_unary) (C8.fnBody s_unary) (C8.fnScope s_unary) .none kV26 dc26 pm26 an26 cd26 ct26), sl26⟩) (b26 : PySem.W.codeIn K cd26 "unary" = true) (k26 : PySem.W.keepIn K (.ref f26) = true)
    {f27 : Addr} {od27 an27 : Option Addr} {sl27 : Array (Option Value)} {oc27 kV27 dc27 pm27 cd27 ct27 : Value} (a27 : PySem.W.nsIn K mainGlobals "binary" = some (some (.ref f27))) (l27 : K.lookup f27 = some ⟨oc27, od27, .func (PySem.W.fnOf "binary" "binary" (C8.fnArgs s_binary) (C8.fnBody s_binary) (C8.fnScope s_binary) .none kV27 dc27 pm27 an27 cd27 ct27), sl27⟩) (b27 : PySem.W.codeIn K cd27 "binary" = true) (k27 : PySem.W.keepIn K (.ref f27) = true)
    {f28 : Addr} {od28 an28 : Option Addr} {sl28 : Array (Option Value)} {oc28 kV28 dc28 pm28 cd28 ct28 : Value} (a28 : PySem.W.nsIn K mainGlobals "evaluate" = some (some (.ref f28))) (l28 : K.lookup f28 = some ⟨oc28, od28, .func (PySem.W.fnOf "evaluate" "evaluate" (C8.fnArgs s_evaluate) (C8.fnBody s_evaluate) (C8.fnScope s_evaluate) .none kV28 dc28 pm28 an28 cd28 ct28), sl28⟩) (b28 : PySem.W.codeIn K cd28 "evaluate" = true) (k28 : PySem.W.keepIn K (.ref f28) = true)
    {f29 : Addr} {od29 an29 : Option Addr} {sl29 : Array (Option Value)} {oc29 kV29 dc29 pm29 cd29 ct29 : Value} (a29 : PySem.W.nsIn K mainGlobals "evaluate_all" = some (some (.ref f29))) (l29 : K.lookup f29 = some ⟨oc29, od29, .func (PySem.W.fnOf "evaluate_all" "evaluate_all" (C8.fnArgs s_evaluate_all) (C8.fnBody s_evaluate_all) (C8.fnScope s_evaluate_all) .none kV29 dc29 pm29 an29 cd29 ct29), sl29⟩) (b29 : PySem.W.codeIn K cd29 "evaluate_all" = true) (k29 : PySem.W.keepIn K (.ref f29) = true)
    {f30 : Addr} {od30 an30 : Option Addr} {sl30 : Array (Option Value)} {oc30 kV30 dc30 pm30 cd30 ct30 : Value} (a30 : PySem.W.nsIn K mainGlobals "_known" = some (some (.ref f30))) (l30 : K.lookup f30 = some ⟨oc30, od30, .func (PySem.W.fnOf "_known" "_known" (C8.fnArgs s__known) (C8.fnBody s__known) (C8.fnScope s__known) .none kV30 dc30 pm30 an30 cd30 ct30), sl30⟩) (b30 : PySem.W.codeIn K cd30 "_known" = true) (k30 : PySem.W.keepIn K (.ref f30) = true)
    {f31 : Addr} {od31 an31 : Option Addr} {sl31 : Array (Option Value)} {oc31 kV31 dc31 pm31 cd31 ct31 : Value} (a31 : PySem.W.nsIn K mainGlobals "_integers" = some (some (.ref f31))) (l31 : K.lookup f31 = some ⟨oc31, od31, .func (PySem.W.fnOf "_integers" "_integers" (C8.fnArgs s__integers) (C8.fnBody s__integers) (C8.fnScope s__integers) .none kV31 dc31 pm31 an31 cd31 ct31), sl31⟩) (b31 : PySem.W.codeIn K cd31 "_integers" = true) (k31 : PySem.W.keepIn K (.ref f31) = true)
    {f32 : Addr} {od32 an32 : Option Addr} {sl32 : Array (Option Value)} {oc32 kV32 dc32 pm32 cd32 ct32 : Value} (a32 : PySem.W.nsIn K mainGlobals "_booleans" = some (some (.ref f32))) (l32 : K.lookup f32 = some ⟨oc32, od32, .func (PySem.W.fnOf "_booleans" "_booleans" (C8.fnArgs s__booleans) (C8.fnBody s__booleans) (C8.fnScope s__booleans) .none kV32 dc32 pm32 an32 cd32 ct32), sl32⟩) (b32 : PySem.W.codeIn K cd32 "_booleans" = true) (k32 : PySem.W.keepIn K (.ref f32) = true)
    {f33 : Addr} {od33 an33 : Option Addr} {sl33 : Array (Option Value)} {oc33 kV33 dc33 pm33 cd33 ct33 : Value} (a33 : PySem.W.nsIn K mainGlobals "_count" = some (some (.ref f33))) (l33 : K.lookup f33 = some ⟨oc33, od33, .func (PySem.W.fnOf "_count" "_count" (C8.fnArgs s__count) (C8.fnBody s__count) (C8.fnScope s__count) .none kV33 dc33 pm33 an33 cd33 ct33), sl33⟩) (b33 : PySem.W.codeIn K cd33 "_count" = true) (k33 : PySem.W.keepIn K (.ref f33) = true)
    {f34 : Addr} {od34 an34 : Option Addr} {sl34 : Array (Option Value)} {oc34 kV34 dc34 pm34 cd34 ct34 : Value} (a34 : PySem.W.nsIn K mainGlobals "_distinct" = some (some (.ref f34))) (l34 : K.lookup f34 = some ⟨oc34, od34, .func (PySem.W.fnOf "_distinct" "_distinct" (C8.fnArgs s__distinct) (C8.fnBody s__distinct) (C8.fnScope s__distinct) .none kV34 dc34 pm34 an34 cd34 ct34), sl34⟩) (b34 : PySem.W.codeIn K cd34 "_distinct" = true) (k34 : PySem.W.keepIn K (.ref f34) = true)
    {f35 : Addr} {od35 an35 : Option Addr} {sl35 : Array (Option Value)} {oc35 kV35 dc35 pm35 cd35 ct35 : Value} (a35 : PySem.W.nsIn K mainGlobals "_sum" = some (some (.ref f35))) (l35 : K.lookup f35 = some ⟨oc35, od35, .func (PySem.W.fnOf "_sum" "_sum" (C8.fnArgs s__sum) (C8.fnBody s__sum) (C8.fnScope s__sum) .none kV35 dc35 pm35 an35 cd35 ct35), sl35⟩) (b35 : PySem.W.codeIn K cd35 "_sum" = true) (k35 : PySem.W.keepIn K (.ref f35) = true)
    {f36 : Addr} {od36 an36 : Option Addr} {sl36 : Array (Option Value)} {oc36 kV36 dc36 pm36 cd36 ct36 : Value} (a36 : PySem.W.nsIn K mainGlobals "_least" = some (some (.ref f36))) (l36 : K.lookup f36 = some ⟨oc36, od36, .func (PySem.W.fnOf "_least" "_least" (C8.fnArgs s__least) (C8.fnBody s__least) (C8.fnScope s__least) .none kV36 dc36 pm36 an36 cd36 ct36), sl36⟩) (b36 : PySem.W.codeIn K cd36 "_least" = true) (k36 : PySem.W.keepIn K (.ref f36) = true)
    {f37 : Addr} {od37 an37 : Option Addr} {sl37 : Array (Option Value)} {oc37 kV37 dc37 pm37 cd37 ct37 : Value} (a37 : PySem.W.nsIn K mainGlobals "_greatest" = some (some (.ref f37))) (l37 : K.lookup f37 = some ⟨oc37, od37, .func (PySem.W.fnOf "_greatest" "_greatest" (C8.fnArgs s__greatest) (C8.fnBody s__greatest) (C8.fnScope s__greatest) .none kV37 dc37 pm37 an37 cd37 ct37), sl37⟩) (b37 : PySem.W.codeIn K cd37 "_greatest" = true) (k37 : PySem.W.keepIn K (.ref f37) = true)
    {f38 : Addr} {od38 an38 : Option Addr} {sl38 : Array (Option Value)} {oc38 kV38 dc38 pm38 cd38 ct38 : Value} (a38 : PySem.W.nsIn K mainGlobals "_average_decimal" = some (some (.ref f38))) (l38 : K.lookup f38 = some ⟨oc38, od38, .func (PySem.W.fnOf "_average_decimal" "_average_decimal" (C8.fnArgs s__average_decimal) (C8.fnBody s__average_decimal) (C8.fnScope s__average_decimal) .none kV38 dc38 pm38 an38 cd38 ct38), sl38⟩) (b38 : PySem.W.codeIn K cd38 "_average_decimal" = true) (k38 : PySem.W.keepIn K (.ref f38) = true)
    {f39 : Addr} {od39 an39 : Option Addr} {sl39 : Array (Option Value)} {oc39 kV39 dc39 pm39 cd39 ct39 : Value} (a39 : PySem.W.nsIn K mainGlobals "_average" = some (some (.ref f39))) (l39 : K.lookup f39 = some ⟨oc39, od39, .func (PySem.W.fnOf "_average" "_average" (C8.fnArgs s__average) (C8.fnBody s__average) (C8.fnScope s__average) .none kV39 dc39 pm39 an39 cd39 ct39), sl39⟩) (b39 : PySem.W.codeIn K cd39 "_average" = true) (k39 : PySem.W.keepIn K (.ref f39) = true)
    {f40 : Addr} {od40 an40 : Option Addr} {sl40 : Array (Option Value)} {oc40 kV40 dc40 pm40 cd40 ct40 : Value} (a40 : PySem.W.nsIn K mainGlobals "_every" = some (some (.ref f40))) (l40 : K.lookup f40 = some ⟨oc40, od40, .func (PySem.W.fnOf "_every" "_every" (C8.fnArgs s__every) (C8.fnBody s__every) (C8.fnScope s__every) .none kV40 dc40 pm40 an40 cd40 ct40), sl40⟩) (b40 : PySem.W.codeIn K cd40 "_every" = true) (k40 : PySem.W.keepIn K (.ref f40) = true)
    {f41 : Addr} {od41 an41 : Option Addr} {sl41 : Array (Option Value)} {oc41 kV41 dc41 pm41 cd41 ct41 : Value} (a41 : PySem.W.nsIn K mainGlobals "_some" = some (some (.ref f41))) (l41 : K.lookup f41 = some ⟨oc41, od41, .func (PySem.W.fnOf "_some" "_some" (C8.fnArgs s__some) (C8.fnBody s__some) (C8.fnScope s__some) .none kV41 dc41 pm41 an41 cd41 ct41), sl41⟩) (b41 : PySem.W.codeIn K cd41 "_some" = true) (k41 : PySem.W.keepIn K (.ref f41) = true)
    {f42 : Addr} {od42 an42 : Option Addr} {sl42 : Array (Option Value)} {oc42 kV42 dc42 pm42 cd42 ct42 : Value} (a42 : PySem.W.nsIn K mainGlobals "_list" = some (some (.ref f42))) (l42 : K.lookup f42 = some ⟨oc42, od42, .func (PySem.W.fnOf "_list" "_list" (C8.fnArgs s__list) (C8.fnBody s__list) (C8.fnScope s__list) .none kV42 dc42 pm42 an42 cd42 ct42), sl42⟩) (b42 : PySem.W.codeIn K cd42 "_list" = true) (k42 : PySem.W.keepIn K (.ref f42) = true)
    {f43 : Addr} {od43 an43 : Option Addr} {sl43 : Array (Option Value)} {oc43 kV43 dc43 pm43 cd43 ct43 : Value} (a43 : PySem.W.nsIn K mainGlobals "aggregate" = some (some (.ref f43))) (l43 : K.lookup f43 = some ⟨oc43, od43, .func (PySem.W.fnOf "aggregate" "aggregate" (C8.fnArgs s_aggregate) (C8.fnBody s_aggregate) (C8.fnScope s_aggregate) .none kV43 dc43 pm43 an43 cd43 ct43), sl43⟩) (b43 : PySem.W.codeIn K cd43 "aggregate" = true) (k43 : PySem.W.keepIn K (.ref f43) = true)
    {f44 : Addr} {od44 an44 : Option Addr} {sl44 : Array (Option Value)} {oc44 kV44 dc44 pm44 cd44 ct44 : Value} (a44 : PySem.W.nsIn K mainGlobals "rows_by_values" = some (some (.ref f44))) (l44 : K.lookup f44 = some ⟨oc44, od44, .func (PySem.W.fnOf "rows_by_values" "rows_by_values" (C8.fnArgs s_rows_by_values) (C8.fnBody s_rows_by_values) (C8.fnScope s_rows_by_values) .none kV44 dc44 pm44 an44 cd44 ct44), sl44⟩) (b44 : PySem.W.codeIn K cd44 "rows_by_values" = true) (k44 : PySem.W.keepIn K (.ref f44) = true)
    {f45 : Addr} {od45 an45 : Option Addr} {sl45 : Array (Option Value)} {oc45 kV45 dc45 pm45 cd45 ct45 : Value} (a45 : PySem.W.nsIn K mainGlobals "group_rows" = some (some (.ref f45))) (l45 : K.lookup f45 = some ⟨oc45, od45, .func (PySem.W.fnOf "group_rows" "group_rows" (C8.fnArgs s_group_rows) (C8.fnBody s_group_rows) (C8.fnScope s_group_rows) .none kV45 dc45 pm45 an45 cd45 ct45), sl45⟩) (b45 : PySem.W.codeIn K cd45 "group_rows" = true) (k45 : PySem.W.keepIn K (.ref f45) = true)
    {f46 : Addr} {od46 an46 : Option Addr} {sl46 : Array (Option Value)} {oc46 kV46 dc46 pm46 cd46 ct46 : Value} (a46 : PySem.W.nsIn K mainGlobals "_law_numbers" = some (some (.ref f46))) (l46 : K.lookup f46 = some ⟨oc46, od46, .func (PySem.W.fnOf "_law_numbers" "_law_numbers" (C8.fnArgs s__law_numbers) (C8.fnBody s__law_numbers) (C8.fnScope s__law_numbers) .none kV46 dc46 pm46 an46 cd46 ct46), sl46⟩) (b46 : PySem.W.codeIn K cd46 "_law_numbers" = true) (k46 : PySem.W.keepIn K (.ref f46) = true)
    {f47 : Addr} {od47 an47 : Option Addr} {sl47 : Array (Option Value)} {oc47 kV47 dc47 pm47 cd47 ct47 : Value} (a47 : PySem.W.nsIn K mainGlobals "_law_rank" = some (some (.ref f47))) (l47 : K.lookup f47 = some ⟨oc47, od47, .func (PySem.W.fnOf "_law_rank" "_law_rank" (C8.fnArgs s__law_rank) (C8.fnBody s__law_rank) (C8.fnScope s__law_rank) .none kV47 dc47 pm47 an47 cd47 ct47), sl47⟩) (b47 : PySem.W.codeIn K cd47 "_law_rank" = true) (k47 : PySem.W.keepIn K (.ref f47) = true)
    {f48 : Addr} {od48 an48 : Option Addr} {sl48 : Array (Option Value)} {oc48 kV48 dc48 pm48 cd48 ct48 : Value} (a48 : PySem.W.nsIn K mainGlobals "_law_cells" = some (some (.ref f48))) (l48 : K.lookup f48 = some ⟨oc48, od48, .func (PySem.W.fnOf "_law_cells" "_law_cells" (C8.fnArgs s__law_cells) (C8.fnBody s__law_cells) (C8.fnScope s__law_cells) .none kV48 dc48 pm48 an48 cd48 ct48), sl48⟩) (b48 : PySem.W.codeIn K cd48 "_law_cells" = true) (k48 : PySem.W.keepIn K (.ref f48) = true)
    {f49 : Addr} {od49 an49 : Option Addr} {sl49 : Array (Option Value)} {oc49 kV49 dc49 pm49 cd49 ct49 : Value} (a49 : PySem.W.nsIn K mainGlobals "_law_rowlist" = some (some (.ref f49))) (l49 : K.lookup f49 = some ⟨oc49, od49, .func (PySem.W.fnOf "_law_rowlist" "_law_rowlist" (C8.fnArgs s__law_rowlist) (C8.fnBody s__law_rowlist) (C8.fnScope s__law_rowlist) .none kV49 dc49 pm49 an49 cd49 ct49), sl49⟩) (b49 : PySem.W.codeIn K cd49 "_law_rowlist" = true) (k49 : PySem.W.keepIn K (.ref f49) = true)
    {f50 : Addr} {od50 an50 : Option Addr} {sl50 : Array (Option Value)} {oc50 kV50 dc50 pm50 cd50 ct50 : Value} (a50 : PySem.W.nsIn K mainGlobals "_law_ranks" = some (some (.ref f50))) (l50 : K.lookup f50 = some ⟨oc50, od50, .func (PySem.W.fnOf "_law_ranks" "_law_ranks" (C8.fnArgs s__law_ranks) (C8.fnBody s__law_ranks) (C8.fnScope s__law_ranks) .none kV50 dc50 pm50 an50 cd50 ct50), sl50⟩) (b50 : PySem.W.codeIn K cd50 "_law_ranks" = true) (k50 : PySem.W.keepIn K (.ref f50) = true)
    {f51 : Addr} {od51 an51 : Option Addr} {sl51 : Array (Option Value)} {oc51 kV51 dc51 pm51 cd51 ct51 : Value} (a51 : PySem.W.nsIn K mainGlobals "_law_same_list" = some (some (.ref f51))) (l51 : K.lookup f51 = some ⟨oc51, od51, .func (PySem.W.fnOf "_law_same_list" "_law_same_list" (C8.fnArgs s__law_same_list) (C8.fnBody s__law_same_list) (C8.fnScope s__law_same_list) .none kV51 dc51 pm51 an51 cd51 ct51), sl51⟩) (b51 : PySem.W.codeIn K cd51 "_law_same_list" = true) (k51 : PySem.W.keepIn K (.ref f51) = true)
    {f52 : Addr} {od52 an52 : Option Addr} {sl52 : Array (Option Value)} {oc52 kV52 dc52 pm52 cd52 ct52 : Value} (a52 : PySem.W.nsIn K mainGlobals "_law_simple" = some (some (.ref f52))) (l52 : K.lookup f52 = some ⟨oc52, od52, .func (PySem.W.fnOf "_law_simple" "_law_simple" (C8.fnArgs s__law_simple) (C8.fnBody s__law_simple) (C8.fnScope s__law_simple) .none kV52 dc52 pm52 an52 cd52 ct52), sl52⟩) (b52 : PySem.W.codeIn K cd52 "_law_simple" = true) (k52 : PySem.W.keepIn K (.ref f52) = true)
    {f53 : Addr} {od53 an53 : Option Addr} {sl53 : Array (Option Value)} {oc53 kV53 dc53 pm53 cd53 ct53 : Value} (a53 : PySem.W.nsIn K mainGlobals "law" = some (some (.ref f53))) (l53 : K.lookup f53 = some ⟨oc53, od53, .func (PySem.W.fnOf "law" "law" (C8.fnArgs s_law) (C8.fnBody s_law) (C8.fnScope s_law) .none kV53 dc53 pm53 an53 cd53 ct53), sl53⟩) (b53 : PySem.W.codeIn K cd53 "law" = true) (k53 : PySem.W.keepIn K (.ref f53) = true)
    (z_abs : PySem.W.nsIn K mainGlobals "abs" = some none)
    (z_all : PySem.W.nsIn K mainGlobals "all" = some none)
    (z_any : PySem.W.nsIn K mainGlobals "any" = some none)
    (z_bool : PySem.W.nsIn K mainGlobals "bool" = some none)
    (z_int : PySem.W.nsIn K mainGlobals "int" = some none)
    (z_isinstance : PySem.W.nsIn K mainGlobals "isinstance" = some none)
    (z_len : PySem.W.nsIn K mainGlobals "len" = some none)
    (z_list : PySem.W.nsIn K mainGlobals "list" = some none)
    (z_max : PySem.W.nsIn K mainGlobals "max" = some none)
    (z_min : PySem.W.nsIn K mainGlobals "min" = some none)
    (z_range : PySem.W.nsIn K mainGlobals "range" = some none)
    (z_repr : PySem.W.nsIn K mainGlobals "repr" = some none)
    (z_sorted : PySem.W.nsIn K mainGlobals "sorted" = some none)
    (z_str : PySem.W.nsIn K mainGlobals "str" = some none)
    (z_sum : PySem.W.nsIn K mainGlobals "sum" = some none)
    (z_tuple : PySem.W.nsIn K mainGlobals "tuple" = some none)
    {t_GREATEST : Tok} (q_GREATEST : PySem.W.nsIn K mainGlobals "GREATEST" = some (some (.int (1000000000000000) t_GREATEST)))
    {t_MOST : Tok} (q_MOST : PySem.W.nsIn K mainGlobals "MOST" = some (some (.int (10000) t_MOST)))
    {p_OF_INTEGERS_of_one : Addr} {es_OF_INTEGERS_of_one : Array DictEntry} {n_OF_INTEGERS_of_one : Nat} (q_OF_INTEGERS_of_one : PySem.W.nsIn K mainGlobals "OF_INTEGERS_of_one" = some (some (.ref p_OF_INTEGERS_of_one))) (ka_OF_INTEGERS_of_one : K.lookup p_OF_INTEGERS_of_one = some ⟨.type "dict", none, .dict es_OF_INTEGERS_of_one n_OF_INTEGERS_of_one, #[]⟩) (kl_OF_INTEGERS_of_one : PySem.W.KeysLit w.params es_OF_INTEGERS_of_one.toList) (ko_OF_INTEGERS_of_one : (p_OF_INTEGERS_of_one == sysModules) = false)
    (e_OF_INTEGERS_of_one_0 : PySem.W.nsIn K p_OF_INTEGERS_of_one "negate" = some (some (.ref f11)))
    (e_OF_INTEGERS_of_one_1 : PySem.W.nsIn K p_OF_INTEGERS_of_one "length" = some none)
    {p_OF_INTEGERS_of_two : Addr} {es_OF_INTEGERS_of_two : Array DictEntry} {n_OF_INTEGERS_of_two : Nat} (q_OF_INTEGERS_of_two : PySem.W.nsIn K mainGlobals "OF_INTEGERS_of_two" = some (some (.ref p_OF_INTEGERS_of_two))) (ka_OF_INTEGERS_of_two : K.lookup p_OF_INTEGERS_of_two = some ⟨.type "dict", none, .dict es_OF_INTEGERS_of_two n_OF_INTEGERS_of_two, #[]⟩) (kl_OF_INTEGERS_of_two : PySem.W.KeysLit w.params es_OF_INTEGERS_of_two.toList) (ko_OF_INTEGERS_of_two : (p_OF_INTEGERS_of_two == sysModules) = false)
    (e_OF_INTEGERS_of_two_0 : PySem.W.nsIn K p_OF_INTEGERS_of_two "add" = some (some (.ref f22)))
    (e_OF_INTEGERS_of_two_1 : PySem.W.nsIn K p_OF_INTEGERS_of_two "join" = some none)
    {p_OF_TEXTS_of_one : Addr} {es_OF_TEXTS_of_one : Array DictEntry} {n_OF_TEXTS_of_one : Nat} (q_OF_TEXTS_of_one : PySem.W.nsIn K mainGlobals "OF_TEXTS_of_one" = some (some (.ref p_OF_TEXTS_of_one))) (ka_OF_TEXTS_of_one : K.lookup p_OF_TEXTS_of_one = some ⟨.type "dict", none, .dict es_OF_TEXTS_of_one n_OF_TEXTS_of_one, #[]⟩) (kl_OF_TEXTS_of_one : PySem.W.KeysLit w.params es_OF_TEXTS_of_one.toList) (ko_OF_TEXTS_of_one : (p_OF_TEXTS_of_one == sysModules) = false)
    (e_OF_TEXTS_of_one_0 : PySem.W.nsIn K p_OF_TEXTS_of_one "length" = some (some (.ref f12)))
    {p_OF_TEXTS_of_two : Addr} {es_OF_TEXTS_of_two : Array DictEntry} {n_OF_TEXTS_of_two : Nat} (q_OF_TEXTS_of_two : PySem.W.nsIn K mainGlobals "OF_TEXTS_of_two" = some (some (.ref p_OF_TEXTS_of_two))) (ka_OF_TEXTS_of_two : K.lookup p_OF_TEXTS_of_two = some ⟨.type "dict", none, .dict es_OF_TEXTS_of_two n_OF_TEXTS_of_two, #[]⟩) (kl_OF_TEXTS_of_two : PySem.W.KeysLit w.params es_OF_TEXTS_of_two.toList) (ko_OF_TEXTS_of_two : (p_OF_TEXTS_of_two == sysModules) = false)
    (e_OF_TEXTS_of_two_0 : PySem.W.nsIn K p_OF_TEXTS_of_two "join" = some (some (.ref f23)))
    {t_SCALE_aggregates : Tok} (q_SCALE_aggregates : PySem.W.nsIn K mainGlobals "SCALE_aggregates" = some (some (.int (10000) t_SCALE_aggregates)))
    {p__OF_ALIKE : Addr} {es__OF_ALIKE : Array DictEntry} {n__OF_ALIKE : Nat} (q__OF_ALIKE : PySem.W.nsIn K mainGlobals "_OF_ALIKE" = some (some (.ref p__OF_ALIKE))) (ka__OF_ALIKE : K.lookup p__OF_ALIKE = some ⟨.type "dict", none, .dict es__OF_ALIKE n__OF_ALIKE, #[]⟩) (kl__OF_ALIKE : PySem.W.KeysLit w.params es__OF_ALIKE.toList) (ko__OF_ALIKE : (p__OF_ALIKE == sysModules) = false)
    (e__OF_ALIKE_0 : PySem.W.nsIn K p__OF_ALIKE "equal" = some (some (.ref f18)))
    (e__OF_ALIKE_1 : PySem.W.nsIn K p__OF_ALIKE "less" = some (some (.ref f19)))
    (e__OF_ALIKE_2 : PySem.W.nsIn K p__OF_ALIKE "at most" = some (some (.ref f20)))
    (e__OF_ALIKE_3 : PySem.W.nsIn K p__OF_ALIKE "least" = some (some (.ref f21)))
    (e__OF_ALIKE_4 : PySem.W.nsIn K p__OF_ALIKE "add" = some none)
    (e__OF_ALIKE_5 : PySem.W.nsIn K p__OF_ALIKE "join" = some none)
    {p__OF_ANY : Addr} {es__OF_ANY : Array DictEntry} {n__OF_ANY : Nat} (q__OF_ANY : PySem.W.nsIn K mainGlobals "_OF_ANY" = some (some (.ref p__OF_ANY))) (ka__OF_ANY : K.lookup p__OF_ANY = some ⟨.type "dict", none, .dict es__OF_ANY n__OF_ANY, #[]⟩) (kl__OF_ANY : PySem.W.KeysLit w.params es__OF_ANY.toList) (ko__OF_ANY : (p__OF_ANY == sysModules) = false)
    (e__OF_ANY_0 : PySem.W.nsIn K p__OF_ANY "and" = some (some (.ref f14)))
    (e__OF_ANY_1 : PySem.W.nsIn K p__OF_ANY "or" = some (some (.ref f15)))
    (e__OF_ANY_2 : PySem.W.nsIn K p__OF_ANY "same" = some (some (.ref f16)))
    (e__OF_ANY_3 : PySem.W.nsIn K p__OF_ANY "coalesce" = some (some (.ref f17)))
    (e__OF_ANY_4 : PySem.W.nsIn K p__OF_ANY "equal" = some none)
    (e__OF_ANY_5 : PySem.W.nsIn K p__OF_ANY "less" = some none)
    (e__OF_ANY_6 : PySem.W.nsIn K p__OF_ANY "at most" = some none)
    (e__OF_ANY_7 : PySem.W.nsIn K p__OF_ANY "add" = some none)
    (e__OF_ANY_8 : PySem.W.nsIn K p__OF_ANY "join" = some none)
    (e__OF_ANY_9 : PySem.W.nsIn K p__OF_ANY "least" = some none)
    {p__OVER_VALUES : Addr} {es__OVER_VALUES : Array DictEntry} {n__OVER_VALUES : Nat} (q__OVER_VALUES : PySem.W.nsIn K mainGlobals "_OVER_VALUES" = some (some (.ref p__OVER_VALUES))) (ka__OVER_VALUES : K.lookup p__OVER_VALUES = some ⟨.type "dict", none, .dict es__OVER_VALUES n__OVER_VALUES, #[]⟩) (kl__OVER_VALUES : PySem.W.KeysLit w.params es__OVER_VALUES.toList) (ko__OVER_VALUES : (p__OVER_VALUES == sysModules) = false)
    (e__OVER_VALUES_0 : PySem.W.nsIn K p__OVER_VALUES "count" = some (some (.ref f33)))
    (e__OVER_VALUES_1 : PySem.W.nsIn K p__OVER_VALUES "distinct" = some (some (.ref f34)))
    (e__OVER_VALUES_2 : PySem.W.nsIn K p__OVER_VALUES "sum" = some (some (.ref f35)))
    (e__OVER_VALUES_3 : PySem.W.nsIn K p__OVER_VALUES "min" = some (some (.ref f36)))
    (e__OVER_VALUES_4 : PySem.W.nsIn K p__OVER_VALUES "max" = some (some (.ref f37)))
    (e__OVER_VALUES_5 : PySem.W.nsIn K p__OVER_VALUES "average" = some (some (.ref f39)))
    (e__OVER_VALUES_6 : PySem.W.nsIn K p__OVER_VALUES "average decimal" = some (some (.ref f38)))
    (e__OVER_VALUES_7 : PySem.W.nsIn K p__OVER_VALUES "every" = some (some (.ref f40)))
    (e__OVER_VALUES_8 : PySem.W.nsIn K p__OVER_VALUES "some" = some (some (.ref f41)))
    (e__OVER_VALUES_9 : PySem.W.nsIn K p__OVER_VALUES "list" = some (some (.ref f42)))
    : ∃ fd : FuncData, C8.Def K mg "law" s_law fa fd ∧ (∀ (s : Shared) (u : Value), BindsTo s fd ⟨[u], []⟩ [("script", u)]) ∧ ∀ (base : Heap) (s : Shared) (H : Hp) (a : Addr) (ns : List Int) (cdv : Value), K.In base → base.Ns mainGlobals mg → ns.length ≤ 63 → SqL K H a (ns.map V.int) → Room 18 (callerA.deeper (envOfC "law" (C8.fnScope s_law) s.heap.objs.size fa cdv)) → ∃ t, PSs (cxOf C8.CX0 P w K mg base n_law "law" (C8.fnScope s_law) fa cdv callerA [] s H C8.E0).nox (C8.fnBody s_law) t ∧ t { nx := fun _ _ => V.non = .bl true, rt := fun v _ => v = .bl true } (start n_law [.ref a]) H := by
  have D_limited : Dn K mg "limited" s_limited ["number"] := dn_mk l0 b0 k0 (PySem.W.mg_of X G a0) (fun _ _ _ _ _ _ us hl => match us, hl with | [_], _ => rfl)
  have D_rounded : Dn K mg "rounded" s_rounded ["number", "divisor"] := dn_mk l1 b1 k1 (PySem.W.mg_of X G a1) (fun _ _ _ _ _ _ us hl => match us, hl with | [_, _], _ => rfl)
  have D_kind_rank : Dn K mg "kind_rank" s_kind_rank ["value"] := dn_mk l2 b2 k2 (PySem.W.mg_of X G a2) (fun _ _ _ _ _ _ us hl => match us, hl with | [_], _ => rfl)
  have D_is_integer : Dn K mg "is_integer" s_is_integer ["value"] := dn_mk l3 b3 k3 (PySem.W.mg_of X G a3) (fun _ _ _ _ _ _ us hl => match us, hl with | [_], _ => rfl)
  have D_rank : Dn K mg "rank" s_rank ["value"] := dn_mk l4 b4 k4 (PySem.W.mg_of X G a4) (fun _ _ _ _ _ _ us hl => match us, hl with | [_], _ => rfl)
  have D_row_rank : Dn K mg "row_rank" s_row_rank ["row"] := dn_mk l5 b5 k5 (PySem.W.mg_of X G a5) (fun _ _ _ _ _ _ us hl => match us, hl with | [_], _ => rfl)
  have D_same : Dn K mg "same" s_same ["first", "second"] := dn_mk l6 b6 k6 (PySem.W.mg_of X G a6) (fun _ _ _ _ _ _ us hl => match us, hl with | [_, _], _ => rfl)
  have D_before : Dn K mg "before" s_before ["first", "second"] := dn_mk l7 b7 k7 (PySem.W.mg_of X G a7) (fun _ _ _ _ _ _ us hl => match us, hl with | [_, _], _ => rfl)
  have D_negated : Dn K mg "negated" s_negated ["value"] := dn_mk l8 b8 k8 (PySem.W.mg_of X G a8) (fun _ _ _ _ _ _ us hl => match us, hl with | [_], _ => rfl)
  have D_both : Dn K mg "both" s_both ["first", "second"] := dn_mk l9 b9 k9 (PySem.W.mg_of X G a9) (fun _ _ _ _ _ _ us hl => match us, hl with | [_, _], _ => rfl)
  have D_either : Dn K mg "either" s_either ["first", "second"] := dn_mk l10 b10 k10 (PySem.W.mg_of X G a10) (fun _ _ _ _ _ _ us hl => match us, hl with | [_, _], _ => rfl)
  have D__negate : Dn K mg "_negate" s__negate ["number"] := dn_mk l11 b11 k11 (PySem.W.mg_of X G a11) (fun _ _ _ _ _ _ us hl => match us, hl with | [_], _ => rfl)
  have D__length : Dn K mg "_length" s__length ["text"] := dn_mk l12 b12 k12 (PySem.W.mg_of X G a12) (fun _ _ _ _ _ _ us hl => match us, hl with | [_], _ => rfl)
  have D_value_of_one : Dn K mg "value_of_one" s_value_of_one ["name", "value"] := dn_mk l13 b13 k13 (PySem.W.mg_of X G a13) (fun _ _ _ _ _ _ us hl => match us, hl with | [_, _], _ => rfl)
  have D__both : Dn K mg "_both" s__both ["first", "second"] := dn_mk l14 b14 k14 (PySem.W.mg_of X G a14) (fun _ _ _ _ _ _ us hl => match us, hl with | [_, _], _ => rfl)
  have D__either : Dn K mg "_either" s__either ["first", "second"] := dn_mk l15 b15 k15 (PySem.W.mg_of X G a15) (fun _ _ _ _ _ _ us hl => match us, hl with | [_, _], _ => rfl)
  have D__same : Dn K mg "_same" s__same ["first", "second"] := dn_mk l16 b16 k16 (PySem.W.mg_of X G a16) (fun _ _ _ _ _ _ us hl => match us, hl with | [_, _], _ => rfl)
  have D__first_known : Dn K mg "_first_known" s__first_known ["first", "second"] := dn_mk l17 b17 k17 (PySem.W.mg_of X G a17) (fun _ _ _ _ _ _ us hl => match us, hl with | [_, _], _ => rfl)
  have D__equal : Dn K mg "_equal" s__equal ["first", "second"] := dn_mk l18 b18 k18 (PySem.W.mg_of X G a18) (fun _ _ _ _ _ _ us hl => match us, hl with | [_, _], _ => rfl)
  have D__less : Dn K mg "_less" s__less ["first", "second"] := dn_mk l19 b19 k19 (PySem.W.mg_of X G a19) (fun _ _ _ _ _ _ us hl => match us, hl with | [_, _], _ => rfl)
  have D__at_most : Dn K mg "_at_most" s__at_most ["first", "second"] := dn_mk l20 b20 k20 (PySem.W.mg_of X G a20) (fun _ _ _ _ _ _ us hl => match us, hl with | [_, _], _ => rfl)
  have D_least_of_two : DnA K f21 "_least" s_least_of_two ["first", "second"] := dnA_mk l21 b21 k21 (fun _ _ _ _ _ _ us hl => match us, hl with | [_, _], _ => rfl)
  have D__add : Dn K mg "_add" s__add ["first", "second"] := dn_mk l22 b22 k22 (PySem.W.mg_of X G a22) (fun _ _ _ _ _ _ us hl => match us, hl with | [_, _], _ => rfl)
  have D__join : Dn K mg "_join" s__join ["first", "second"] := dn_mk l23 b23 k23 (PySem.W.mg_of X G a23) (fun _ _ _ _ _ _ us hl => match us, hl with | [_, _], _ => rfl)
  have D__are_alike : Dn K mg "_are_alike" s__are_alike ["first", "second"] := dn_mk l24 b24 k24 (PySem.W.mg_of X G a24) (fun _ _ _ _ _ _ us hl => match us, hl with | [_, _], _ => rfl)
  have D_value_of_two : Dn K mg "value_of_two" s_value_of_two ["name", "first", "second"] := dn_mk l25 b25 k25 (PySem.W.mg_of X G a25) (fun _ _ _ _ _ _ us hl => match us, hl with | [_, _, _], _ => rfl)
  have D_unary : Dn K mg "unary" s_unary ["name", "value"] := dn_mk l26 b26 k26 (PySem.W.mg_of X G a26) (fun _ _ _ _ _ _ us hl => match us, hl with | [_, _], _ => rfl)
  have D_binary : Dn K mg "binary" s_binary ["name", "first", "second"] := dn_mk l27 b27 k27 (PySem.W.mg_of X G a27) (fun _ _ _ _ _ _ us hl => match us, hl with | [_, _, _], _ => rfl)
  have D_evaluate : Dn K mg "evaluate" s_evaluate ["expression", "row"] := dn_mk l28 b28 k28 (PySem.W.mg_of X G a28) (fun _ _ _ _ _ _ us hl => match us, hl with | [_, _], _ => rfl)
  have D_evaluate_all : Dn K mg "evaluate_all" s_evaluate_all ["expressions", "row"] := dn_mk l29 b29 k29 (PySem.W.mg_of X G a29) (fun _ _ _ _ _ _ us hl => match us, hl with | [_, _], _ => rfl)
  have D__known : Dn K mg "_known" s__known ["values"] := dn_mk l30 b30 k30 (PySem.W.mg_of X G a30) (fun _ _ _ _ _ _ us hl => match us, hl with | [_], _ => rfl)
  have D__integers : Dn K mg "_integers" s__integers ["values"] := dn_mk l31 b31 k31 (PySem.W.mg_of X G a31) (fun _ _ _ _ _ _ us hl => match us, hl with | [_], _ => rfl)
  have D__booleans : Dn K mg "_booleans" s__booleans ["values"] := dn_mk l32 b32 k32 (PySem.W.mg_of X G a32) (fun _ _ _ _ _ _ us hl => match us, hl with | [_], _ => rfl)
  have D__count : Dn K mg "_count" s__count ["values"] := dn_mk l33 b33 k33 (PySem.W.mg_of X G a33) (fun _ _ _ _ _ _ us hl => match us, hl with | [_], _ => rfl)
  have D__distinct : Dn K mg "_distinct" s__distinct ["values"] := dn_mk l34 b34 k34 (PySem.W.mg_of X G a34) (fun _ _ _ _ _ _ us hl => match us, hl with | [_], _ => rfl)
  have D__sum : Dn K mg "_sum" s__sum ["values"] := dn_mk l35 b35 k35 (PySem.W.mg_of X G a35) (fun _ _ _ _ _ _ us hl => match us, hl with | [_], _ => rfl)
  have D__least : Dn K mg "_least" s__least ["values"] := dn_mk l36 b36 k36 (PySem.W.mg_of X G a36) (fun _ _ _ _ _ _ us hl => match us, hl with | [_], _ => rfl)
  have D__greatest : Dn K mg "_greatest" s__greatest ["values"] := dn_mk l37 b37 k37 (PySem.W.mg_of X G a37) (fun _ _ _ _ _ _ us hl => match us, hl with | [_], _ => rfl)
  have D__average_decimal : Dn K mg "_average_decimal" s__average_decimal ["values"] := dn_mk l38 b38 k38 (PySem.W.mg_of X G a38) (fun _ _ _ _ _ _ us hl => match us, hl with | [_], _ => rfl)
  have D__average : Dn K mg "_average" s__average ["values"] := dn_mk l39 b39 k39 (PySem.W.mg_of X G a39) (fun _ _ _ _ _ _ us hl => match us, hl with | [_], _ => rfl)
  have D__every : Dn K mg "_every" s__every ["values"] := dn_mk l40 b40 k40 (PySem.W.mg_of X G a40) (fun _ _ _ _ _ _ us hl => match us, hl with | [_], _ => rfl)
  have D__some : Dn K mg "_some" s__some ["values"] := dn_mk l41 b41 k41 (PySem.W.mg_of X G a41) (fun _ _ _ _ _ _ us hl => match us, hl with | [_], _ => rfl)
  have D__list : Dn K mg "_list" s__list ["values"] := dn_mk l42 b42 k42 (PySem.W.mg_of X G a42) (fun _ _ _ _ _ _ us hl => match us, hl with | [_], _ => rfl)
  have D_aggregate : Dn K mg "aggregate" s_aggregate ["value", "rows"] := dn_mk l43 b43 k43 (PySem.W.mg_of X G a43) (fun _ _ _ _ _ _ us hl => match us, hl with | [_, _], _ => rfl)
  have D_rows_by_values : Dn K mg "rows_by_values" s_rows_by_values ["expressions", "rows"] := dn_mk l44 b44 k44 (PySem.W.mg_of X G a44) (fun _ _ _ _ _ _ us hl => match us, hl with | [_, _], _ => rfl)
  have D_group_rows : Dn K mg "group_rows" s_group_rows ["keys", "values", "rows"] := dn_mk l45 b45 k45 (PySem.W.mg_of X G a45) (fun _ _ _ _ _ _ us hl => match us, hl with | [_, _, _], _ => rfl)
  have D__law_numbers : Dn K mg "_law_numbers" s__law_numbers ["script", "count"] := dn_mk l46 b46 k46 (PySem.W.mg_of X G a46) (fun _ _ _ _ _ _ us hl => match us, hl with | [_, _], _ => rfl)
  have D__law_rank : Dn K mg "_law_rank" s__law_rank ["value"] := dn_mk l47 b47 k47 (PySem.W.mg_of X G a47) (fun _ _ _ _ _ _ us hl => match us, hl with | [_], _ => rfl)
  have D__law_cells : Dn K mg "_law_cells" s__law_cells ["number", "width"] := dn_mk l48 b48 k48 (PySem.W.mg_of X G a48) (fun _ _ _ _ _ _ us hl => match us, hl with | [_, _], _ => rfl)
  have D__law_rowlist : Dn K mg "_law_rowlist" s__law_rowlist ["numbers", "at", "count", "width"] := dn_mk l49 b49 k49 (PySem.W.mg_of X G a49) (fun _ _ _ _ _ _ us hl => match us, hl with | [_, _, _, _], _ => rfl)
  have D__law_ranks : Dn K mg "_law_ranks" s__law_ranks ["row"] := dn_mk l50 b50 k50 (PySem.W.mg_of X G a50) (fun _ _ _ _ _ _ us hl => match us, hl with | [_], _ => rfl)
  have D__law_same_list : Dn K mg "_law_same_list" s__law_same_list ["told", "due"] := dn_mk l51 b51 k51 (PySem.W.mg_of X G a51) (fun _ _ _ _ _ _ us hl => match us, hl with | [_, _], _ => rfl)
  have D__law_simple : Dn K mg "_law_simple" s__law_simple ["number", "width"] := dn_mk l52 b52 k52 (PySem.W.mg_of X G a52) (fun _ _ _ _ _ _ us hl => match us, hl with | [_, _], _ => rfl)
  have y_abs : mg "abs" = none := PySem.W.mg_none_of X G z_abs
  have y_all : mg "all" = none := PySem.W.mg_none_of X G z_all
  have y_any : mg "any" = none := PySem.W.mg_none_of X G z_any
  have y_bool : mg "bool" = none := PySem.W.mg_none_of X G z_bool
  have y_int : mg "int" = none := PySem.W.mg_none_of X G z_int
  have y_isinstance : mg "isinstance" = none := PySem.W.mg_none_of X G z_isinstance
  have y_len : mg "len" = none := PySem.W.mg_none_of X G z_len
  have y_list : mg "list" = none := PySem.W.mg_none_of X G z_list
  have y_max : mg "max" = none := PySem.W.mg_none_of X G z_max
  have y_min : mg "min" = none := PySem.W.mg_none_of X G z_min
  have y_range : mg "range" = none := PySem.W.mg_none_of X G z_range
  have y_repr : mg "repr" = none := PySem.W.mg_none_of X G z_repr
  have y_sorted : mg "sorted" = none := PySem.W.mg_none_of X G z_sorted
  have y_str : mg "str" = none := PySem.W.mg_none_of X G z_str
  have y_sum : mg "sum" = none := PySem.W.mg_none_of X G z_sum
  have y_tuple : mg "tuple" = none := PySem.W.mg_none_of X G z_tuple
  have v_GREATEST : ∃ u, mg "GREATEST" = some u ∧ RelV (.int (1000000000000000)) u := ⟨_, PySem.W.mg_of X G q_GREATEST, ⟨_, rfl⟩⟩
  have v_MOST : ∃ u, mg "MOST" = some u ∧ RelV (.int (10000)) u := ⟨_, PySem.W.mg_of X G q_MOST, ⟨_, rfl⟩⟩
  have v_OF_INTEGERS_of_one : ∃ u, mg "OF_INTEGERS_of_one" = some u ∧ RelV (.ref p_OF_INTEGERS_of_one) u := ⟨_, PySem.W.mg_of X G q_OF_INTEGERS_of_one, rfl⟩
  have w_OF_INTEGERS_of_one : KDict K w p_OF_INTEGERS_of_one es_OF_INTEGERS_of_one n_OF_INTEGERS_of_one := ⟨ka_OF_INTEGERS_of_one, kl_OF_INTEGERS_of_one, ko_OF_INTEGERS_of_one⟩
  have v_OF_INTEGERS_of_two : ∃ u, mg "OF_INTEGERS_of_two" = some u ∧ RelV (.ref p_OF_INTEGERS_of_two) u := ⟨_, PySem.W.mg_of X G q_OF_INTEGERS_of_two, rfl⟩
  have w_OF_INTEGERS_of_two : KDict K w p_OF_INTEGERS_of_two es_OF_INTEGERS_of_two n_OF_INTEGERS_of_two := ⟨ka_OF_INTEGERS_of_two, kl_OF_INTEGERS_of_two, ko_OF_INTEGERS_of_two⟩
  have v_OF_TEXTS_of_one : ∃ u, mg "OF_TEXTS_of_one" = some u ∧ RelV (.ref p_OF_TEXTS_of_one) u := ⟨_, PySem.W.mg_of X G q_OF_TEXTS_of_one, rfl⟩
  have w_OF_TEXTS_of_one : KDict K w p_OF_TEXTS_of_one es_OF_TEXTS_of_one n_OF_TEXTS_of_one := ⟨ka_OF_TEXTS_of_one, kl_OF_TEXTS_of_one, ko_OF_TEXTS_of_one⟩
  have v_OF_TEXTS_of_two : ∃ u, mg "OF_TEXTS_of_two" = some u ∧ RelV (.ref p_OF_TEXTS_of_two) u := ⟨_, PySem.W.mg_of X G q_OF_TEXTS_of_two, rfl⟩
  have w_OF_TEXTS_of_two : KDict K w p_OF_TEXTS_of_two es_OF_TEXTS_of_two n_OF_TEXTS_of_two := ⟨ka_OF_TEXTS_of_two, kl_OF_TEXTS_of_two, ko_OF_TEXTS_of_two⟩
  have v_SCALE_aggregates : ∃ u, mg "SCALE_aggregates" = some u ∧ RelV (.int (10000)) u := ⟨_, PySem.W.mg_of X G q_SCALE_aggregates, ⟨_, rfl⟩⟩
  have v__OF_ALIKE : ∃ u, mg "_OF_ALIKE" = some u ∧ RelV (.ref p__OF_ALIKE) u := ⟨_, PySem.W.mg_of X G q__OF_ALIKE, rfl⟩
  have w__OF_ALIKE : KDict K w p__OF_ALIKE es__OF_ALIKE n__OF_ALIKE := ⟨ka__OF_ALIKE, kl__OF_ALIKE, ko__OF_ALIKE⟩
  have v__OF_ANY : ∃ u, mg "_OF_ANY" = some u ∧ RelV (.ref p__OF_ANY) u := ⟨_, PySem.W.mg_of X G q__OF_ANY, rfl⟩
  have w__OF_ANY : KDict K w p__OF_ANY es__OF_ANY n__OF_ANY := ⟨ka__OF_ANY, kl__OF_ANY, ko__OF_ANY⟩
  have v__OVER_VALUES : ∃ u, mg "_OVER_VALUES" = some u ∧ RelV (.ref p__OVER_VALUES) u := ⟨_, PySem.W.mg_of X G q__OVER_VALUES, rfl⟩
  have w__OVER_VALUES : KDict K w p__OVER_VALUES es__OVER_VALUES n__OVER_VALUES := ⟨ka__OVER_VALUES, kl__OVER_VALUES, ko__OVER_VALUES⟩
  have e := hfa.symm.trans (PySem.W.mg_of X G a53)
  cases e
  have D_law := def_mk (x := "law") (st := s_law) l53 b53 k53 hfa
  refine ⟨_, D_law, fun s v => .of_eq rfl, fun base s H a ns cdv _ _ h63 hS hr => ?_⟩
  have c_limited := ok_limited (P := P) (w := w) (base := base) D_limited v_GREATEST 
  have c_rounded := ok_rounded (P := P) (w := w) (base := base) D_rounded y_abs 
  have c_kind_rank := ok_kind_rank (P := P) (w := w) (base := base) D_kind_rank y_bool y_int y_isinstance 
  have c_is_integer := ok_is_integer (P := P) (w := w) (base := base) D_is_integer y_bool y_int y_isinstance 
  have c_rank := ok_rank (P := P) (w := w) (base := base) D_rank c_kind_rank y_int 
  have c_row_rank := ok_row_rank (P := P) (w := w) (base := base) D_row_rank c_rank y_tuple 
  have c_same := ok_same (P := P) (w := w) (base := base) D_same c_rank 
  have c_before := ok_before (P := P) (w := w) (base := base) D_before c_rank 
  have c_negated := ok_negated (P := P) (w := w) (base := base) D_negated 
  have c_both := ok_both (P := P) (w := w) (base := base) D_both 
  have c_either := ok_either (P := P) (w := w) (base := base) D_either 
  have c__negate := ok__negate (P := P) (w := w) (base := base) D__negate 
  have c__length := ok__length (P := P) (w := w) (base := base) D__length y_len 
  have hNg := held_of (k := 4) c__negate (PySem.W.mg_of X G a11) (by decide)
  have hLn := held_of (k := 4) c__length (PySem.W.mg_of X G a12) (by decide)
  have c_value_of_one := ok_value_of_one (P := P) (w := w) (base := base) D_value_of_one c_is_integer c_negated y_isinstance y_str v_OF_INTEGERS_of_one w_OF_INTEGERS_of_one v_OF_TEXTS_of_one w_OF_TEXTS_of_one e_OF_INTEGERS_of_one_0 hNg e_OF_INTEGERS_of_one_1 e_OF_TEXTS_of_one_0 hLn
  have c__both := ok__both (P := P) (w := w) (base := base) D__both c_both 
  have c__either := ok__either (P := P) (w := w) (base := base) D__either c_either 
  have c__same := ok__same (P := P) (w := w) (base := base) D__same c_same 
  have c__first_known := ok__first_known (P := P) (w := w) (base := base) D__first_known 
  have c__equal := ok__equal (P := P) (w := w) (base := base) D__equal c_same 
  have c__less := ok__less (P := P) (w := w) (base := base) D__less c_before 
  have c__at_most := ok__at_most (P := P) (w := w) (base := base) D__at_most c_before 
  have c_least_of_two := ok_least_of_two (P := P) (w := w) (base := base) D_least_of_two c_before 
  have c__add := ok__add (P := P) (w := w) (base := base) D__add c_limited 
  have c__join := ok__join (P := P) (w := w) (base := base) D__join y_len v_MOST 
  have c__are_alike := ok__are_alike (P := P) (w := w) (base := base) D__are_alike c_kind_rank 
  have tab : ∀ nm x y, nm ∈ binNames → Ok x → Ok y → Opr2 P w K mg base p__OF_ANY p__OF_ALIKE p_OF_INTEGERS_of_two p_OF_TEXTS_of_two nm x y (binV nm x y) := by
    intro nm x y h hx hy
    simp only [binNames, List.mem_cons, List.not_mem_nil, or_false] at h
    rcases h with rfl | rfl | rfl | rfl | rfl | rfl | rfl | rfl | rfl | rfl
    · exact .any e__OF_ANY_0 (held_of c__both (PySem.W.mg_of X G a14) (by decide)) trivial
    · exact .any e__OF_ANY_1 (held_of c__either (PySem.W.mg_of X G a15) (by decide)) trivial
    · exact .alike e__OF_ANY_4 e__OF_ALIKE_0 (held_of c__equal (PySem.W.mg_of X G a18) (by decide))
    · exact .alike e__OF_ANY_5 e__OF_ALIKE_1 (held_of c__less (PySem.W.mg_of X G a19) (by decide))
    · exact .alike e__OF_ANY_6 e__OF_ALIKE_2 (held_of c__at_most (PySem.W.mg_of X G a20) (by decide))
    · exact .any e__OF_ANY_2 (held_of c__same (PySem.W.mg_of X G a16) (by decide)) ⟨hx, hy⟩
    · exact .any e__OF_ANY_3 (held_of c__first_known (PySem.W.mg_of X G a17) (by decide)) trivial
    · exact .nums e__OF_ANY_7 e__OF_ALIKE_4 e_OF_INTEGERS_of_two_0 (held_of c__add (PySem.W.mg_of X G a22) (by decide))
    · exact .wrds e__OF_ANY_8 e__OF_ALIKE_5 e_OF_INTEGERS_of_two_1 e_OF_TEXTS_of_two_0 (held_of c__join (PySem.W.mg_of X G a23) (by decide))
    · exact .alike e__OF_ANY_9 e__OF_ALIKE_3 c_least_of_two
  have c_value_of_two := ok_value_of_two (P := P) (w := w) (base := base) D_value_of_two c__are_alike c_is_integer y_isinstance y_str v_OF_INTEGERS_of_two w_OF_INTEGERS_of_two v_OF_TEXTS_of_two w_OF_TEXTS_of_two v__OF_ALIKE w__OF_ALIKE v__OF_ANY w__OF_ANY tab
  have c_unary := ok_unary (P := P) (w := w) (base := base) D_unary c_value_of_one 
  have c_binary := ok_binary (P := P) (w := w) (base := base) D_binary c_value_of_two 
  have c_evaluate_0 : C8.Cal P w K mg base 7 "evaluate" (spR_evaluate 0 K) [] := cal_no D_evaluate sc_evaluate (fun _ _ _ _ h => h.elim)
  have c_evaluate_1 := ok_evaluate (P := P) (w := w) (base := base) (rn := 0) D_evaluate c_binary c_unary y_len  c_evaluate_0
  have c_evaluate_2 := ok_evaluate (P := P) (w := w) (base := base) (rn := 1) D_evaluate c_binary c_unary y_len  c_evaluate_1
  have c_evaluate_3 := ok_evaluate (P := P) (w := w) (base := base) (rn := 2) D_evaluate c_binary c_unary y_len  c_evaluate_2
  have c_evaluate_4 := ok_evaluate (P := P) (w := w) (base := base) (rn := 3) D_evaluate c_binary c_unary y_len  c_evaluate_3
  have c_evaluate_5 := ok_evaluate (P := P) (w := w) (base := base) (rn := 4) D_evaluate c_binary c_unary y_len  c_evaluate_4
  have c_evaluate_6 := ok_evaluate (P := P) (w := w) (base := base) (rn := 5) D_evaluate c_binary c_unary y_len  c_evaluate_5
  have c_evaluate_7 := ok_evaluate (P := P) (w := w) (base := base) (rn := 6) D_evaluate c_binary c_unary y_len  c_evaluate_6
  have c_evaluate_8 := ok_evaluate (P := P) (w := w) (base := base) (rn := 7) D_evaluate c_binary c_unary y_len  c_evaluate_7
  have c_evaluate : C8.Cal P w K mg base 15 "evaluate" (sp_evaluate K) [] := c_evaluate_8
  have c_evaluate_all := ok_evaluate_all (P := P) (w := w) (base := base) D_evaluate_all c_evaluate 
  have c__known := ok__known (P := P) (w := w) (base := base) D__known 
  have c__integers := ok__integers (P := P) (w := w) (base := base) D__integers c_is_integer 
  have c__booleans := ok__booleans (P := P) (w := w) (base := base) D__booleans y_bool y_isinstance 
  have c__count := ok__count (P := P) (w := w) (base := base) D__count c__known y_len 
  have c__distinct := ok__distinct (P := P) (w := w) (base := base) D__distinct c__known c_rank y_len 
  have c__sum := ok__sum (P := P) (w := w) (base := base) D__sum c__integers c_limited y_sum 
  have c__least := ok__least (P := P) (w := w) (base := base) D__least c__known c_rank y_min 
  have c__greatest := ok__greatest (P := P) (w := w) (base := base) D__greatest c__known c_rank y_max 
  have c__average_decimal := ok__average_decimal (P := P) (w := w) (base := base) D__average_decimal c__integers c_limited c_rounded y_len y_sum 
  have c__average := ok__average (P := P) (w := w) (base := base) D__average c__average_decimal c__integers v_SCALE_aggregates 
  have c__every := ok__every (P := P) (w := w) (base := base) D__every c__booleans y_all 
  have c__some := ok__some (P := P) (w := w) (base := base) D__some c__booleans y_any 
  have c__list := ok__list (P := P) (w := w) (base := base) D__list y_isinstance y_len y_sorted y_str y_sum v_MOST 
  have tabA : ∀ nm, nm ∈ aggNames → ∃ f, PySem.W.nsIn K p__OVER_VALUES nm = some (some (.ref f)) ∧ L2.Held P w K mg base 15 f (spVs (aggV nm) K) := by
    have hE : ∀ {nm : Str} {f : List V → V} {a : Addr}, aggV nm = f → L2.Held P w K mg base 15 a (spVs f K) → L2.Held P w K mg base 15 a (spVs (aggV nm) K) := fun e h => by rw [e]; exact h
    intro nm h
    simp only [aggNames, List.mem_cons, List.not_mem_nil, or_false] at h
    rcases h with rfl | rfl | rfl | rfl | rfl | rfl | rfl | rfl | rfl | rfl
    · exact ⟨_, e__OVER_VALUES_0, hE agg_0 (held_of c__count (PySem.W.mg_of X G a33) (by decide))⟩
    · exact ⟨_, e__OVER_VALUES_1, hE agg_1 (held_of c__distinct (PySem.W.mg_of X G a34) (by decide))⟩
    · exact ⟨_, e__OVER_VALUES_2, hE agg_2 (held_of c__sum (PySem.W.mg_of X G a35) (by decide))⟩
    · exact ⟨_, e__OVER_VALUES_3, hE agg_3 (held_of c__least (PySem.W.mg_of X G a36) (by decide))⟩
    · exact ⟨_, e__OVER_VALUES_4, hE agg_4 (held_of c__greatest (PySem.W.mg_of X G a37) (by decide))⟩
    · exact ⟨_, e__OVER_VALUES_5, hE agg_5 (held_of c__average (PySem.W.mg_of X G a39) (by decide))⟩
    · exact ⟨_, e__OVER_VALUES_6, hE agg_6 (heldI (held_of c__average_decimal (PySem.W.mg_of X G a38) (by decide)) avgD_imp)⟩
    · exact ⟨_, e__OVER_VALUES_7, hE agg_7 (held_of c__every (PySem.W.mg_of X G a40) (by decide))⟩
    · exact ⟨_, e__OVER_VALUES_8, hE agg_8 (held_of c__some (PySem.W.mg_of X G a41) (by decide))⟩
    · exact ⟨_, e__OVER_VALUES_9, hE agg_9 (held_of c__list (PySem.W.mg_of X G a42) (by decide))⟩
  have c_aggregate := ok_aggregate (P := P) (w := w) (base := base) D_aggregate c_evaluate y_len v__OVER_VALUES w__OVER_VALUES tabA
  have c_rows_by_values := ok_rows_by_values (P := P) (w := w) (base := base) D_rows_by_values c_evaluate_all c_row_rank y_list 
  have c_group_rows := ok_group_rows (P := P) (w := w) (base := base) D_group_rows c_aggregate c_rows_by_values 
  have c__law_numbers := ok__law_numbers (P := P) (w := w) (base := base) D__law_numbers y_int y_len y_range 
  have c__law_rank := ok__law_rank (P := P) (w := w) (base := base) D__law_rank y_isinstance y_str 
  have c__law_cells := ok__law_cells (P := P) (w := w) (base := base) D__law_cells y_int y_range 
  have c__law_rowlist := ok__law_rowlist (P := P) (w := w) (base := base) D__law_rowlist c__law_cells y_int y_len y_list y_range 
  have c__law_ranks := ok__law_ranks (P := P) (w := w) (base := base) D__law_ranks c__law_rank y_tuple 
  have c__law_same_list := ok__law_same_list (P := P) (w := w) (base := base) D__law_same_list c__law_ranks y_isinstance y_len y_list y_range 
  have c__law_simple := ok__law_simple (P := P) (w := w) (base := base) D__law_simple y_int 
  exact ok_law (P := P) (w := w) (base := base)  c__law_numbers c__law_ranks c__law_rowlist c__law_same_list c__law_simple c_aggregate c_evaluate c_group_rows y_int y_len y_list y_range y_repr y_tuple  h63 hS hr
end My
open PySem PySem.W PyProof.Rows
set_option maxHeartbeats 0 in
theorem PySem.Challenge.cw_stylobate_k38_groups_of_rows_holds : PySem.Challenge.rw_stylobate_k38_groups_of_rows.Holds := by
  w_on; o_law; k_head; (case hw => w_witness2)
  k_fill
  refine My.walk_here (l := PySem.Challenge.rw_stylobate_k38_groups_of_rows) (n := 63) (k := 18) rfl (by decide) rfl ⟨rfl, by decide, by decide⟩ (fun w h Y => PySem.W.kIn_of Y) My.sc_law ?F
  case F =>
    intro w mg fa h KX G hmg
    refine' My.all_mk KX G hmg ?a0 ?l0 ?b0 ?k0 ?a1 ?l1 ?b1 ?k1 ?a2 ?l2 ?b2 ?k2 ?a3 ?l3 ?b3 ?k3 ?a4 ?l4 ?b4 ?k4 ?a5 ?l5 ?b5 ?k5 ?a6 ?l6 ?b6 ?k6 ?a7 ?l7 ?b7 ?k7 ?a8 ?l8 ?b8 ?k8 ?a9 ?l9 ?b9 ?k9 ?a10 ?l10 ?b10 ?k10 ?a11 ?l11 ?b11 ?k11 ?a12 ?l12 ?b12 ?k12 ?a13 ?l13 ?b13 ?k13 ?a14 ?l14 ?b14 ?k14 ?a15 ?l15 ?b15 ?k15 ?a16 ?l16 ?b16 ?k16 ?a17 ?l17 ?b17 ?k17 ?a18 ?l18 ?b18 ?k18 ?a19 ?l19 ?b19 ?k19 ?a20 ?l20 ?b20 ?k20 ?a21 ?l21 ?b21 ?k21 ?a22 ?l22 ?b22 ?k22 ?a23 ?l23 ?b23 ?k23 ?a24 ?l24 ?b24 ?k24 ?a25 ?l25 ?b25 ?k25 ?a26 ?l26 ?b26 ?k26 ?a27 ?l27 ?b27 ?k27 ?a28 ?l28 ?b28 ?k28 ?a29 ?l29 ?b29 ?k29 ?a30 ?l30 ?b30 ?k30 ?a31 ?l31 ?b31 ?k31 ?a32 ?l32 ?b32 ?k32 ?a33 ?l33 ?b33 ?k33 ?a34 ?l34 ?b34 ?k34 ?a35 ?l35 ?b35 ?k35 ?a36 ?l36 ?b36 ?k36 ?a37 ?l37 ?b37 ?k37 ?a38 ?l38 ?b38 ?k38 ?a39 ?l39 ?b39 ?k39 ?a40 ?l40 ?b40 ?k40 ?a41 ?l41 ?b41 ?k41 ?a42 ?l42 ?b42 ?k42 ?a43 ?l43 ?b43 ?k43 ?a44 ?l44 ?b44 ?k44 ?a45 ?l45 ?b45 ?k45 ?a46 ?l46 ?b46 ?k46 ?a47 ?l47 ?b47 ?k47 ?a48 ?l48 ?b48 ?k48 ?a49 ?l49 ?b49 ?k49 ?a50 ?l50 ?b50 ?k50 ?a51 ?l51 ?b51 ?k51 ?a52 ?l52 ?b52 ?k52 ?a53 ?l53 ?b53 ?k53 ?z_abs ?z_all ?z_any ?z_bool ?z_int ?z_isinstance ?z_len ?z_list ?z_max ?z_min ?z_range ?z_repr ?z_sorted ?z_str ?z_sum ?z_tuple ?q_GREATEST ?q_MOST ?q_OF_INTEGERS_of_one ?ka_OF_INTEGERS_of_one ?kl_OF_INTEGERS_of_one ?ko_OF_INTEGERS_of_one ?e_OF_INTEGERS_of_one_0 ?e_OF_INTEGERS_of_one_1 ?q_OF_INTEGERS_of_two ?ka_OF_INTEGERS_of_two ?kl_OF_INTEGERS_of_two ?ko_OF_INTEGERS_of_two ?e_OF_INTEGERS_of_two_0 ?e_OF_INTEGERS_of_two_1 ?q_OF_TEXTS_of_one ?ka_OF_TEXTS_of_one ?kl_OF_TEXTS_of_one ?ko_OF_TEXTS_of_one ?e_OF_TEXTS_of_one_0 ?q_OF_TEXTS_of_two ?ka_OF_TEXTS_of_two ?kl_OF_TEXTS_of_two ?ko_OF_TEXTS_of_two ?e_OF_TEXTS_of_two_0 ?q_SCALE_aggregates ?q__OF_ALIKE ?ka__OF_ALIKE ?kl__OF_ALIKE ?ko__OF_ALIKE ?e__OF_ALIKE_0 ?e__OF_ALIKE_1 ?e__OF_ALIKE_2 ?e__OF_ALIKE_3 ?e__OF_ALIKE_4 ?e__OF_ALIKE_5 ?q__OF_ANY ?ka__OF_ANY ?kl__OF_ANY ?ko__OF_ANY ?e__OF_ANY_0 ?e__OF_ANY_1 ?e__OF_ANY_2 ?e__OF_ANY_3 ?e__OF_ANY_4 ?e__OF_ANY_5 ?e__OF_ANY_6 ?e__OF_ANY_7 ?e__OF_ANY_8 ?e__OF_ANY_9 ?q__OVER_VALUES ?ka__OVER_VALUES ?kl__OVER_VALUES ?ko__OVER_VALUES ?e__OVER_VALUES_0 ?e__OVER_VALUES_1 ?e__OVER_VALUES_2 ?e__OVER_VALUES_3 ?e__OVER_VALUES_4 ?e__OVER_VALUES_5 ?e__OVER_VALUES_6 ?e__OVER_VALUES_7 ?e__OVER_VALUES_8 ?e__OVER_VALUES_9
    (case a0 => k_is); (case l0 => k_is); (case b0 => k_is); (case k0 => k_is); (case a1 => k_is); (case l1 => k_is); (case b1 => k_is); (case k1 => k_is); (case a2 => k_is); (case l2 => k_is); (case b2 => k_is); (case k2 => k_is); (case a3 => k_is); (case l3 => k_is); (case b3 => k_is); (case k3 => k_is); (case a4 => k_is); (case l4 => k_is); (case b4 => k_is); (case k4 => k_is); (case a5 => k_is); (case l5 => k_is); (case b5 => k_is); (case k5 => k_is); (case a6 => k_is); (case l6 => k_is); (case b6 => k_is); (case k6 => k_is); (case a7 => k_is); (case l7 => k_is); (case b7 => k_is); (case k7 => k_is); (case a8 => k_is); (case l8 => k_is); (case b8 => k_is); (case k8 => k_is); (case a9 => k_is); (case l9 => k_is); (case b9 => k_is); (case k9 => k_is); (case a10 => k_is); (case l10 => k_is); (case b10 => k_is); (case k10 => k_is); (case a11 => k_is); (case l11 => k_is); (case b11 => k_is); (case k11 => k_is); (case a12 => k_is); (case l12 => k_is); (case b12 => k_is); (case k12 => k_is); (case a13 => k_is); (case l13 => k_is); (case b13 => k_is); (case k13 => k_is); (case a14 => k_is); (case l14 => k_is); (case b14 => k_is); (case k14 => k_is); (case a15 => k_is); (case l15 => k_is); (case b15 => k_is); (case k15 => k_is); (case a16 => k_is); (case l16 => k_is); (case b16 => k_is); (case k16 => k_is); (case a17 => k_is); (case l17 => k_is); (case b17 => k_is); (case k17 => k_is); (case a18 => k_is); (case l18 => k_is); (case b18 => k_is); (case k18 => k_is); (case a19 => k_is); (case l19 => k_is); (case b19 => k_is); (case k19 => k_is); (case a20 => k_is); (case l20 => k_is); (case b20 => k_is); (case k20 => k_is); (case a21 => k_is); (case l21 => k_is); (case b21 => k_is); (case k21 => k_is); (case a22 => k_is); (case l22 => k_is); (case b22 => k_is); (case k22 => k_is); (case a23 => k_is); (case l23 => k_is); (case b23 => k_is); (case k23 => k_is); (case a24 => k_is); (case l24 => k_is); (case b24 => k_is); (case k24 => k_is); (case a25 => k_is); (case l25 => k_is); (case b25 => k_is); (case k25 => k_is); (case a26 => k_is); (case l26 => k_is); (case b26 => k_is); (case k26 => k_is); (case a27 => k_is); (case l27 => k_is); (case b27 => k_is); (case k27 => k_is); (case a28 => k_is); (case l28 => k_is); (case b28 => k_is); (case k28 => k_is); (case a29 => k_is); (case l29 => k_is); (case b29 => k_is); (case k29 => k_is); (case a30 => k_is); (case l30 => k_is); (case b30 => k_is); (case k30 => k_is); (case a31 => k_is); (case l31 => k_is); (case b31 => k_is); (case k31 => k_is); (case a32 => k_is); (case l32 => k_is); (case b32 => k_is); (case k32 => k_is); (case a33 => k_is); (case l33 => k_is); (case b33 => k_is); (case k33 => k_is); (case a34 => k_is); (case l34 => k_is); (case b34 => k_is); (case k34 => k_is); (case a35 => k_is); (case l35 => k_is); (case b35 => k_is); (case k35 => k_is); (case a36 => k_is); (case l36 => k_is); (case b36 => k_is); (case k36 => k_is); (case a37 => k_is); (case l37 => k_is); (case b37 => k_is); (case k37 => k_is); (case a38 => k_is); (case l38 => k_is); (case b38 => k_is); (case k38 => k_is); (case a39 => k_is); (case l39 => k_is); (case b39 => k_is); (case k39 => k_is); (case a40 => k_is); (case l40 => k_is); (case b40 => k_is); (case k40 => k_is); (case a41 => k_is); (case l41 => k_is); (case b41 => k_is); (case k41 => k_is); (case a42 => k_is); (case l42 => k_is); (case b42 => k_is); (case k42 => k_is); (case a43 => k_is); (case l43 => k_is); (case b43 => k_is); (case k43 => k_is); (case a44 => k_is); (case l44 => k_is); (case b44 => k_is); (case k44 => k_is); (case a45 => k_is); (case l45 => k_is); (case b45 => k_is); (case k45 => k_is); (case a46 => k_is); (case l46 => k_is); (case b46 => k_is); (case k46 => k_is); (case a47 => k_is); (case l47 => k_is); (case b47 => k_is); (case k47 => k_is); (case a48 => k_is); (case l48 => k_is); (case b48 => k_is); (case k48 => k_is); (case a49 => k_is); (case l49 => k_is); (case b49 => k_is); (case k49 => k_is); (case a50 => k_is); (case l50 => k_is); (case b50 => k_is); (case k50 => k_is); (case a51 => k_is); (case l51 => k_is); (case b51 => k_is); (case k51 => k_is); (case a52 => k_is); (case l52 => k_is); (case b52 => k_is); (case k52 => k_is); (case a53 => k_is); (case l53 => k_is); (case b53 => k_is); (case k53 => k_is); (case z_abs => k_is); (case z_all => k_is); (case z_any => k_is); (case z_bool => k_is); (case z_int => k_is); (case z_isinstance => k_is); (case z_len => k_is); (case z_list => k_is); (case z_max => k_is); (case z_min => k_is); (case z_range => k_is); (case z_repr => k_is); (case z_sorted => k_is); (case z_str => k_is); (case z_sum => k_is); (case z_tuple => k_is); (case q_GREATEST => k_is); (case q_MOST => k_is); (case q_OF_INTEGERS_of_one => k_is); (case ka_OF_INTEGERS_of_one => k_is); (case e_OF_INTEGERS_of_one_0 => k_is); (case e_OF_INTEGERS_of_one_1 => k_is); (case q_OF_INTEGERS_of_two => k_is); (case ka_OF_INTEGERS_of_two => k_is); (case e_OF_INTEGERS_of_two_0 => k_is); (case e_OF_INTEGERS_of_two_1 => k_is); (case q_OF_TEXTS_of_one => k_is); (case ka_OF_TEXTS_of_one => k_is); (case e_OF_TEXTS_of_one_0 => k_is); (case q_OF_TEXTS_of_two => k_is); (case ka_OF_TEXTS_of_two => k_is); (case e_OF_TEXTS_of_two_0 => k_is); (case q_SCALE_aggregates => k_is); (case q__OF_ALIKE => k_is); (case ka__OF_ALIKE => k_is); (case e__OF_ALIKE_0 => k_is); (case e__OF_ALIKE_1 => k_is); (case e__OF_ALIKE_2 => k_is); (case e__OF_ALIKE_3 => k_is); (case e__OF_ALIKE_4 => k_is); (case e__OF_ALIKE_5 => k_is); (case q__OF_ANY => k_is); (case ka__OF_ANY => k_is); (case e__OF_ANY_0 => k_is); (case e__OF_ANY_1 => k_is); (case e__OF_ANY_2 => k_is); (case e__OF_ANY_3 => k_is); (case e__OF_ANY_4 => k_is); (case e__OF_ANY_5 => k_is); (case e__OF_ANY_6 => k_is); (case e__OF_ANY_7 => k_is); (case e__OF_ANY_8 => k_is); (case e__OF_ANY_9 => k_is); (case q__OVER_VALUES => k_is); (case ka__OVER_VALUES => k_is); (case e__OVER_VALUES_0 => k_is); (case e__OVER_VALUES_1 => k_is); (case e__OVER_VALUES_2 => k_is); (case e__OVER_VALUES_3 => k_is); (case e__OVER_VALUES_4 => k_is); (case e__OVER_VALUES_5 => k_is); (case e__OVER_VALUES_6 => k_is); (case e__OVER_VALUES_7 => k_is); (case e__OVER_VALUES_8 => k_is); (case e__OVER_VALUES_9 => k_is)
    (case kl_OF_INTEGERS_of_one => k_keys)
    (case ko_OF_INTEGERS_of_one => decide)
    (case kl_OF_INTEGERS_of_two => k_keys)
    (case ko_OF_INTEGERS_of_two => decide)
    (case kl_OF_TEXTS_of_one => k_keys)
    (case ko_OF_TEXTS_of_one => decide)
    (case kl_OF_TEXTS_of_two => k_keys)
    (case ko_OF_TEXTS_of_two => decide)
    (case kl__OF_ALIKE => k_keys)
    (case ko__OF_ALIKE => decide)
    (case kl__OF_ANY => k_keys)
    (case ko__OF_ANY => decide)
    (case kl__OVER_VALUES => k_keys)
    (case ko__OVER_VALUES => decide)

