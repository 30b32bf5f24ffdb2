import PyProof.Rows.All
import Wide.All
import OpenK.AllK
import Wide.FinOn
import HandS.ForMost
import HandS.Codes
import HandS.Evl
import HandS.IsInst
import HandS.Wide
import HandS.Defaults
import HandS.Walk
import HandS.Flow
import HandS.TupAny
import HandS.Zip
import HandS.Property
import HandS.OwnEq
import HandS.Deep
import HandS.WideBits
import HandS.Iter
import HandS.Rev
import HandS.SortKw
import HandS.TupLe
import HandS.Dict
import HandS.Text
import HandS.StrMore
import HandS.FStr
import HandS.Style
import HandS.More
import HandS.CallLocal
import HandS.Conv
import KE.KEqSeq
import KE.KeyNested
import KE.KDictKeyed
import KE.DataEq
import PyProof.StrOps2
import PyProof.StrLawsFrom
import KE.RegKIsAll
import PySem.Challenge.RW_stylobate_k61_rows_written_by_groups
set_option Elab.async false
set_option linter.all false
set_option maxRecDepth 100000
set_option maxHeartbeats 4000000
namespace My
open PySem PySem.Spec PyProof.Rows L2 Evl
/-! ### defs of the text, promises, the end -/
def Dn (K : PySem.W.Frag) (mg : Str → Option Value) (x : Str) (st : Stmt) (ps : List Str) : Prop := ∃ f fd, C8.Def K mg x st f fd ∧ Binds K fd ps []
section
variable {P : Program} {w : World} {K : PySem.W.Frag} {mg : Str → Option Value} {base : Heap}
theorem cal_of {x : Str} {st : Stmt} {N ps : List Str} {k : Nat} {sp : Sp} (D : Dn K mg x st ps) (S : FnScope N ps (C8.fnScope st)) (len : ∀ vs H Q E, sp vs H Q E → vs.length = ps.length)
    (hbody : ∀ (f : Addr) (cdv : Value) (A : Around) (outer : List Env) (s : Shared) (H : Hp) (vs : List V) (Q : VK) (E : XK), Room k (A.deeper (envOfC x (C8.fnScope st) s.heap.objs.size f cdv)) → sp vs H Q E →
      ∃ t, PSs (cxOf C8.CX0 P w K mg base N x (C8.fnScope st) f cdv A outer s H E).nox (C8.fnBody st) t ∧ t { nx := fun _ H' => Q .non H', rt := Q } (start N vs) H) : C8.Cal P w K mg base (k + 1) x sp [] := by
  obtain ⟨f, fd, F, b⟩ := D
  exact C8.cal0 F b .nil S len (hbody f)
theorem def_mk {x : Str} {st : Stmt} {f : Addr} {oc : Value} {od an : Option Addr} {osl : Array (Option Value)} {kV doc pm cdv ct : Value}
    (l : K.lookup f = some ⟨oc, od, .func (PySem.W.fnOf x x (C8.fnArgs st) (C8.fnBody st) (C8.fnScope st) .none kV doc pm an cdv ct), osl⟩)
    (c : PySem.W.codeIn K cdv x = true) (k : PySem.W.keepIn K (.ref f) = true) (m : mg x = some (.ref f)) : C8.Def K mg x st f (PySem.W.fnOf x x (C8.fnArgs st) (C8.fnBody st) (C8.fnScope st) .none kV doc pm an cdv ct) :=
  ⟨⟨oc, od, .none, kV, doc, pm, an, cdv, ct, osl, rfl, l, c⟩, m, k⟩
theorem dn_mk {x : Str} {st : Stmt} {f : Addr} {oc : Value} {od an : Option Addr} {osl : Array (Option Value)} {kV doc pm cdv ct : Value} {ps : List Str}
    (l : K.lookup f = some ⟨oc, od, .func (PySem.W.fnOf x x (C8.fnArgs st) (C8.fnBody st) (C8.fnScope st) .none kV doc pm an cdv ct), osl⟩)
    (c : PySem.W.codeIn K cdv x = true) (k : PySem.W.keepIn K (.ref f) = true) (m : mg x = some (.ref f))
    (h : ∀ (kV doc pm : Value) (an : Option Addr) (cdv ct : Value) (us : List Value), us.length = ps.length → bindArgs (PySem.W.fnOf x x (C8.fnArgs st) (C8.fnBody st) (C8.fnScope st) .none kV doc pm an cdv ct) ⟨us, []⟩ = pure (ps.zip us)) : Dn K mg x st ps :=
  ⟨f, _, def_mk l c k m, C8.Fun.binds (def_mk l c k m).fn rfl h⟩
end
/-! ### x is True, x is False, of any value -/
def rIsT : R2 := fun x y H Q => ∃ b : Bool, y = .bl b ∧ Q (.bl (decide (x = .bl b))) H
def rNotT : R2 := fun x y H Q => ∃ b : Bool, y = .bl b ∧ Q (.bl (!decide (x = .bl b))) H
section
variable {X : Cx}
theorem rel_bl {x : V} {v : Value} {b : Bool} (rx : RelV x v) : PySem.plainIs v (.bool b) = true ∧ (v == .bool b) = decide (x = .bl b) ∨ ∃ n, v = .builtin n := by
  cases x with
  | non => cases (show v = Value.none from rx); exact .inl ⟨rfl, rfl⟩
  | bl c => cases (show v = Value.bool c from rx); exact .inl ⟨rfl, by cases b <;> cases c <;> rfl⟩
  | int i => obtain ⟨t, e⟩ := (show ∃ t, v = Value.int i t from rx); cases e; exact .inl ⟨rfl, rfl⟩
  | str i => obtain ⟨t, e⟩ := (show ∃ t, v = Value.str i t from rx); cases e; exact .inl ⟨rfl, rfl⟩
  | byt i => obtain ⟨t, e⟩ := (show ∃ t, v = Value.bytes i t from rx); cases e; exact .inl ⟨rfl, rfl⟩
  | flt i => obtain ⟨t, e⟩ := (show ∃ t, v = Value.float i t from rx); cases e; exact .inl ⟨rfl, rfl⟩
  | ref a => cases (show v = Value.ref a from rx); exact .inl ⟨rfl, rfl⟩
  | ty n => cases (show v = Value.type n from rx); exact .inl ⟨rfl, rfl⟩
theorem rel_bl' {x : V} {v : Value} {b : Bool} (rx : RelV x v) : PySem.plainIs v (.bool b) = true ∧ (v == .bool b) = decide (x = .bl b) := by
  rcases rel_bl (b := b) rx with h | ⟨n, rfl⟩
  · exact h
  · cases x <;> first | exact nomatch (rx : Value.builtin n = _) | (obtain ⟨t, e⟩ := rx; exact nomatch e)
theorem op_isTF : OpR X (compareOp .Is) rIsT := by
  intro pins s σ H x y v u Q I rx ry h
  obtain ⟨b, rfl, q⟩ := h
  cases (show u = Value.bool b from ry)
  obtain ⟨h1, h2⟩ := rel_bl' (b := b) rx
  exact wpAny_is_plain h1 ⟨.bl _, H, I, rfl, by rw [h2]; exact q⟩
theorem op_notTF : OpR X (compareOp .IsNot) rNotT := by
  intro pins s σ H x y v u Q I rx ry h
  obtain ⟨b, rfl, q⟩ := h
  cases (show u = Value.bool b from ry)
  obtain ⟨h1, h2⟩ := rel_bl' (b := b) rx
  exact wpAny_isNot_plain h1 ⟨.bl _, H, I, rfl, by rw [h2]; exact q⟩
end
/-! ### what evaluates to what: further -/
section
variable {K : PySem.W.Frag} {σ : L2.St} {H H' : Hp} {ta tb te tx : TE} {t u : TT} {x y z v : V} {r : R2}
theorem rv_isT {b : Bool} : RV rIsT x (.bl b) H (.bl (decide (x = .bl b))) := fun H1 _ _ q => ⟨b, rfl, q H1 (Ex.refl H1)⟩
theorem rv_notT {b : Bool} : RV rNotT x (.bl b) H (.bl (!decide (x = .bl b))) := fun H1 _ _ q => ⟨b, rfl, q H1 (Ex.refl H1)⟩
theorem rv_isN : RV (fun x y H Q => y = .non ∧ Q (.bl (decide (x = .non))) H) x .non H (.bl (decide (x = .non))) := fun H1 _ _ q => ⟨rfl, q H1 (Ex.refl H1)⟩
theorem rv_notN : RV (fun x y H Q => y = .non ∧ Q (.bl (!decide (x = .non))) H) x .non H (.bl (!decide (x = .non))) := fun H1 _ _ q => ⟨rfl, q H1 (Ex.refl H1)⟩
theorem ev_int {i : Int} (h : Ev ta σ H (.int i)) : Ev (tCB (fun xs H Q => (∃ i, xs = [.int i] ∧ Q (.int i) H) ∨ ∃ k, xs = [.bl k] ∧ Q (.int (if k then 1 else 0)) H) (tCons ta tNil)) σ H (.int i) :=
  fun H1 e Q q => h H1 e _ fun H2 e2 => .inl ⟨i, rfl, q H2 e2⟩
theorem ev_intB {b : Bool} (h : Ev ta σ H (.bl b)) : Ev (tCB (fun xs H Q => (∃ i, xs = [.int i] ∧ Q (.int i) H) ∨ ∃ k, xs = [.bl k] ∧ Q (.int (if k then 1 else 0)) H) (tCons ta tNil)) σ H (.int (if b then 1 else 0)) :=
  fun H1 e Q q => h H1 e _ fun H2 e2 => .inr ⟨b, rfl, q H2 e2⟩
theorem ev_abs {i : Int} (h : Ev ta σ H (.int i)) : Ev (tCB (fun xs H Q => ∃ i, xs = [.int i] ∧ Q (.int (if i < 0 then -i else i)) H) (tCons ta tNil)) σ H (.int (if i < 0 then -i else i)) :=
  fun H1 e Q q => h H1 e _ fun H2 e2 => ⟨i, rfl, q H2 e2⟩
theorem ev_min2 {i j : Int} (ha : Ev ta σ H (.int i)) (hb : Ev tb σ H (.int j)) : Ev (tCB (fun xs H Q => ∃ i j, xs = [.int i, .int j] ∧ Q (.int (if j < i then j else i)) H) (tCons ta (tCons tb tNil))) σ H (.int (if j < i then j else i)) := fun H1 e Q q =>
  ha H1 e _ fun H2 e2 => hb H2 (e.trans e2) _ fun H3 e3 => ⟨i, j, rfl, q H3 (e2.trans e3)⟩
theorem ev_lenS {s : Str} (h : Ev ta σ H (.str s)) (hz : s.length ≤ 100000) : Ev (tCB (fun xs H Q => ∃ z, xs = [.str z] ∧ z.length ≤ sizeLine ∧ Q (.int z.length) H) (tCons ta tNil)) σ H (.int s.length) :=
  fun H1 e Q q => h H1 e _ fun H2 e2 => ⟨s, rfl, sz_of hz, q H2 e2⟩
/-- isinstance(x, T) of a plain value -/
def tyOf : V → String
  | .non => "NoneType"
  | .bl _ => "bool"
  | .int _ => "int"
  | .str _ => "str"
  | .byt _ => "bytes"
  | .flt _ => "float"
  | _ => "?"
def isTy (x : V) (T : String) : Bool := ((kitB (tyOf x) T).getD false)
theorem ev_isi {T : String} {tn : String} {b : Bool} (ha : Ev ta σ H x) (ht : ∀ H1, TyX K H1 x (.type tn)) (hk : kitB tn T = some b) : Ev (tCB (rIsi K) (tCons ta (tCons (tC (.ty T)) tNil))) σ H (.bl b) :=
  fun H1 e Q q => ha H1 e _ fun H2 e2 => ⟨x, .ty T, .type tn, .type T, b, rfl, .ty T, ht H2, kit_ty hk, q H2 e2⟩
theorem tx_int (i : Int) (H1 : Hp) : TyX K H1 (.int i) (.type "int") := .base (.int i)
theorem tx_bl (i : Bool) (H1 : Hp) : TyX K H1 (.bl i) (.type "bool") := .base (.bl i)
theorem tx_str (i : Str) (H1 : Hp) : TyX K H1 (.str i) (.type "str") := .base (.str i)
theorem tx_non (H1 : Hp) : TyX K H1 .non (.type "NoneType") := .base .non
section
variable {D : Ends} {tz : TS}
/-- if c: x = e, an int: told by the value x has behind it -/
theorem q_ifI {b : Bool} {i : Nat} {p q : Int} (h : EvT t σ H b) (h1 : b = true → Ev te σ H (.int p)) (h0 : σ[i]? = some (some (.int q))) (k : ∀ H1, Ex H H1 → tz D (σ.set i (some (.int (if b = true then p else q)))) H1) : tSeq (tIfS t (tAsg te (gName i)) tNext) tz D σ H := by
  refine q_ifAsg h (fun hb => ?_) (fun hb => ?_) k
  · rw [if_pos hb]
    exact h1 hb
  · rw [hb]
    show σ.set i (some (V.int q)) = σ
    apply List.ext_getElem?
    intro j
    rw [List.getElem?_set]
    split
    · rename_i e
      subst e
      rw [h0]
      have := (List.getElem?_eq_some_iff.mp h0).1
      rw [if_pos this]
    · rfl
end
/-- a promise of one value, all else as it was -/
theorem spv {sp : Sp} {vs : List V} (h : ∀ H1, Ex H H1 → ∀ Q : VK, (∀ H2, Ex H1 H2 → Q z H2) → ∀ E : XK, sp vs H1 Q E) : SpV sp vs H z := h
end
local macro_rules | `(tactic| walk_at "side") => `(tactic| first
  | exact .inr ⟨by decide, by decide⟩
  | exact .inl ⟨by decide, by decide⟩
  | exact .inl ⟨by omega, by omega⟩
  | exact .inr ⟨by omega, by omega⟩
  | exact ⟨by decide, by decide⟩
  | exact ⟨by omega, by omega⟩
  | decide
  | (show (_ : Int) < _; omega)
  | omega)
local macro_rules | `(tactic| walk_at "rv") => `(tactic| first
  | exact rv_I0
  | ((refine' rv_I ?k1); (case k1 => walk_at "side"))
  | exact rv_isT
  | exact rv_notT
  | exact rv_isN
  | exact rv_notN
  | exact rv_eq rfl
  | exact rv_ne rfl)
local macro_rules | `(tactic| walk_at "sq") => `(tactic| first | assumption | exact ex_l (by assumption) (by assumption) | exact sq_of (by assumption))
/-- what a part gives, read off its form -/
local macro_rules | `(tactic| walk_at "ev") => `(tactic| first
  | exact ev_var rfl
  | exact ev_c
  | ((with_reducible refine' ev_op ?k1 ?k2 ?k3); (case k1 => walk_at "ev"); (case k2 => walk_at "ev"); (case k3 => walk_at "rv"))
  | ((with_reducible refine' ev_un ?k1 ?k2); (case k1 => walk_at "ev"); (case k2 => exact ru_neg))
  | ((with_reducible refine' ev_int ?k1); (case k1 => walk_at "ev"))
  | ((with_reducible refine' ev_abs ?k1); (case k1 => walk_at "ev"))
  | ((with_reducible refine' ev_andV ?k1 ?k2); (case k1 => walk_at "ev"); (case k2 => intro _; walk_at "ev"))
  | ((with_reducible refine' ev_orV ?k1 ?k2); (case k1 => walk_at "ev"); (case k2 => intro _; walk_at "ev"))
  | ((with_reducible refine' ev_notV ?k1); (case k1 => walk_at "ev"))
  | ((refine' ev_len ?k1 ?k2); (case k1 => walk_at "ev"); (case k2 => walk_at "sq")))
local macro_rules | `(tactic| walk_at "et") => `(tactic| first
  | ((with_reducible refine' et_or ?k1 ?k2); (case k1 => walk_at "et"); (case k2 => intro _; walk_at "et"))
  | ((with_reducible refine' et_and ?k1 ?k2); (case k1 => walk_at "et"); (case k2 => intro _; walk_at "et"))
  | ((with_reducible refine' et_not ?k1); (case k1 => walk_at "et"))
  | (refine' et_test ?k1; (case k1 => walk_at "ev"))
  | (refine' et_B ?k1; (case k1 => walk_at "ev")))

/-! ### tuples made, tuples read, data compared -/
def SpU (sp : Sp) (vs : List V) (H : Hp) (xs : List V) : Prop := ∀ H1, Ex H H1 → ∀ Q : VK, (∀ p H2, H1 p = none → Ex H1 H2 → H2 p = some (.tup xs) → Q (.ref p) H2) → ∀ E : XK, sp vs H1 Q E
section
variable {K : PySem.W.Frag} {σ : L2.St} {H H' : Hp} {ta tb te : TE} {x y z v : V}
theorem eu_call {sp : Sp} {dvs vs xs : List V} {E : XK} {ta : TA} (h : EvA ta σ H vs) (hs : SpU sp (vs ++ dvs) H xs) : EvU (tCall sp dvs E ta) σ H xs := fun H1 e Q q =>
  h H1 e _ fun H2 e2 => hs H2 (e.trans e2) Q (fun p H3 hp e3 h3 => q p H3 (fresh_back e2 hp) (e2.trans e3) h3) E
theorem ev_lenT {p : Addr} {xs : List V} (ha : Ev ta σ H (.ref p)) (h : SqT K H p xs) : Ev (tCB (fun xs H Q => ∃ p ys, xs = [.ref p] ∧ (SqL K H p ys ∨ SqT K H p ys) ∧ Q (.int ys.length) H) (tCons ta tNil)) σ H (.int (xs.length : Int)) := fun H1 e Q q =>
  ha H1 e _ fun H2 e2 => ⟨p, xs, rfl, Or.inr (ex_t (e.trans e2) h), q H2 e2⟩
theorem eu_divmod {i j : Int} (ha : Ev ta σ H (.int i)) (hb : Ev tb σ H (.int j)) (hc : CDiv i j) :
    EvU (tCB (fun xs H Q => ∃ i j, xs = [.int i, .int j] ∧ CDiv i j ∧ ∀ p, H p = none → Q (.ref p) (upd H p (.tup [.int (i / j), .int (i % j)]))) (tCons ta (tCons tb tNil))) σ H [.int (i / j), .int (i % j)] := fun H1 e Q q =>
  ha H1 e _ fun H2 e2 => hb H2 (e.trans e2) _ fun H3 e3 => ⟨i, j, rfl, hc, fun p hp => q p _ (fresh_back (e2.trans e3) hp) ((e2.trans e3).trans (Ex.new hp)) upd_same⟩
theorem dp_ints : ∀ ns : List Int, DpAll K H (ns.map V.int) (ns.map PyData.int)
  | [] => .nil
  | n :: r => .cons (.int n) (dp_ints r)
theorem eqv_ints : ∀ ns ms : List Int, PyData.eqv (.tuple (ns.map PyData.int)) (.tuple (ms.map PyData.int)) = decide (ns = ms)
  | [], [] => rfl
  | [], _ :: _ => rfl
  | _ :: _, [] => rfl
  | n :: r, m :: t => by
    have ih := eqv_ints r t
    show ((n == m) && PyData.eqv (.tuple (r.map PyData.int)) (.tuple (t.map PyData.int))) = _
    rw [ih, Bool.eq_iff_iff, Bool.and_eq_true, decide_eq_true_eq, decide_eq_true_eq, beq_iff_eq, List.cons.injEq]
theorem dp_tup {p : Addr} {ns : List Int} (h : SqT K H p (ns.map V.int)) : Dp K H (.ref p) (.tuple (ns.map PyData.int)) := .tup h (dp_ints ns)
def shI (n : Nat) : Bool := SeqAt.shaped (.tuple ((List.replicate n 0).map PyData.int))
theorem rv_neT {p q : Addr} {ns ms : List Int} (hp : SqT K H p (ns.map V.int)) (hq : SqT K H q (ms.map V.int)) (s1 : SeqAt.shaped (.tuple (ns.map PyData.int)) = true) (s2 : SeqAt.shaped (.tuple (ms.map PyData.int)) = true) : RV (rNeD K) (.ref p) (.ref q) H (.bl (!decide (ns = ms))) := fun H1 e Q k =>
  ⟨_, _, dp_tup (ex_t e hp), dp_tup (ex_t e hq), s1, s2, by rw [eqv_ints]; exact k H1 (Ex.refl H1)⟩
theorem tx_tup {a : Addr} {xs : List V} (h : H a = some (.tup xs)) : ∀ H1, Ex H H1 → TyX K H1 (.ref a) (.type "tuple") := fun H1 e => .base (.tup (e _ _ h))
theorem ev_isi' {T : String} {tn : String} {b : Bool} (ha : Ev ta σ H x) (ht : ∀ H1, Ex H H1 → TyX K H1 x (.type tn)) (hk : kitB tn T = some b) : Ev (tCB (rIsi K) (tCons ta (tCons (tC (.ty T)) tNil))) σ H (.bl b) :=
  fun H1 e Q q => ha H1 e _ fun H2 e2 => ⟨x, .ty T, .type tn, .type T, b, rfl, .ty T, ht H2 (e.trans e2), kit_ty hk, q H2 e2⟩
theorem ev_chain {r r' : R2} {tc : TE} {b c : Bool} (ha : Ev ta σ H x) (hb : Ev tb σ H y) (hr : RV r x y H (.bl b)) (hc : b = true → Ev tc σ H z) (hr' : b = true → RV r' y z H (.bl c)) : Ev (tChain r r' ta tb tc) σ H (.bl (b && c)) := fun H1 e Q q =>
  ha H1 e _ fun H2 e2 => hb H2 (e.trans e2) _ fun H3 e3 => hr H3 ((e.trans e2).trans e3) _ fun H4 e4 => ⟨b, rfl, by
    cases b with
    | true =>
      show tc σ H4 fun w' H5 => r' y w' H5 Q
      exact hc rfl H4 (((e.trans e2).trans e3).trans e4) _ fun H5 e5 => hr' rfl H5 ((((e.trans e2).trans e3).trans e4).trans e5) Q fun H6 e6 => q H6 ((((e2.trans e3).trans e4).trans e5).trans e6)
    | false =>
      show Q (.bl false) H4
      exact q H4 ((e2.trans e3).trans e4)⟩
/-- a, b = (..): a new tuple unpacked into names -/
theorem gt2 {p : Addr} {i j : Nat} (h : SqT K H p [x, y]) {Q : L2.St → Hp → Prop} (k : Q ((σ.set i (some x)).set j (some y)) H) : gTup K 2 (gCons (gName i) (gCons (gName j) gNil)) (.ref p) σ H Q :=
  ⟨p, [x, y], rfl, h, rfl, x, [y], rfl, y, [], rfl, rfl, k⟩
theorem gt3 {p : Addr} {i j l : Nat} (h : SqT K H p [x, y, z]) {Q : L2.St → Hp → Prop} (k : Q (((σ.set i (some x)).set j (some y)).set l (some z)) H) : gTup K 3 (gCons (gName i) (gCons (gName j) (gCons (gName l) gNil))) (.ref p) σ H Q :=
  ⟨p, [x, y, z], rfl, h, rfl, x, [y, z], rfl, y, [z], rfl, z, [], rfl, rfl, k⟩
end
theorem hu64 {A : Around} {k : Nat} (hr : Room k A) : A.units + 64 < cLine := by
  have := hr.un
  omega
section
variable {K : PySem.W.Frag} {σ : L2.St} {H : Hp} {te : TE} {D : Ends} {tz : TS} {g : TG} {xs : List V}
theorem q_asgG (h : EvU te σ H xs) (k : ∀ p H1, H p = none → Ex H H1 → H1 p = some (.tup xs) → g (.ref p) σ H1 (tz D)) : tSeq (tAsg te g) tz D σ H := h H (Ex.refl H) _ fun p H1 hp e h1 => k p H1 hp e h1
theorem q_asgV {v : V} (h : Ev te σ H v) (k : ∀ H1, Ex H H1 → g v σ H1 (tz D)) : tSeq (tAsg te g) tz D σ H := h H (Ex.refl H) _ fun H1 e => k H1 e
end
/-! ### plain values and their types -/
inductive Pl : V → Prop where
  | non : Pl .non
  | bl (b : Bool) : Pl (.bl b)
  | int (i : Int) : Pl (.int i)
  | str (s : Str) : Pl (.str s)
def tyN : V → String
  | .bl _ => "bool"
  | .int _ => "int"
  | .str _ => "str"
  | _ => "NoneType"
def isInt : V → Bool
  | .int _ => true
  | _ => false
theorem tx_pl {K : PySem.W.Frag} {x : V} (h : Pl x) (H1 : Hp) : TyX K H1 x (.type (tyN x)) := by
  cases h with
  | non => exact .base .non
  | bl b => exact .base (.bl b)
  | int i => exact .base (.int i)
  | str s => exact .base (.str s)
theorem ev_isiP {K : PySem.W.Frag} {σ : L2.St} {H : Hp} {ta : TE} {x : V} {T : String} {b : Bool} (ha : Ev ta σ H x) (hx : Pl x) (hk : kitB (tyN x) T = some b) : Ev (tCB (rIsi K) (tCons ta (tCons (tC (.ty T)) tNil))) σ H (.bl b) :=
  ev_isi ha (tx_pl hx) hk
/-- isinstance(x, int) and not isinstance(x, bool) -/
theorem ev_isInt {K : PySem.W.Frag} {σ : L2.St} {H : Hp} {ta tb : TE} {x : V} (ha : Ev ta σ H x) (hb : Ev tb σ H x) (hx : Pl x) :
    Ev (tAndV (tCB (rIsi K) (tCons ta (tCons (tC (.ty "int")) tNil))) (tNotV (tCB (rIsi K) (tCons tb (tCons (tC (.ty "bool")) tNil))))) σ H (.bl (isInt x)) := by
  cases hx with
  | non => exact ev_is (ev_andV (ev_isiP (b := false) ha .non (by decide +kernel)) fun z => nomatch z) (show V.bl (false && true) = _ from rfl)
  | bl b => exact ev_is (ev_andV (ev_isiP (b := true) ha (.bl b) (by show kitB "bool" "int" = some true; decide +kernel)) fun _ => ev_notV (ev_isiP (b := true) hb (.bl b) (by show kitB "bool" "bool" = some true; decide +kernel))) rfl
  | int i => exact ev_is (ev_andV (ev_isiP (b := true) ha (.int i) (by show kitB "int" "int" = some true; decide +kernel)) fun _ => ev_notV (ev_isiP (b := false) hb (.int i) (by show kitB "int" "bool" = some false; decide +kernel))) rfl
  | str s => exact ev_is (ev_andV (ev_isiP (b := false) ha (.str s) (by show kitB "str" "int" = some false; decide +kernel)) fun z => nomatch z) (show V.bl (false && true) = _ from rfl)

/-! ### the order of tuples that need not be alike behind the first difference -/
section
open PySem.SeqAt PySem.MeetsSeq PySem.MeetsSeq2 PySem.MeetsSeq3
open PySem.AutoSeq1 (wpAny_loadPart')
/-- pairs walked from the left: the first that differ decide; z where none do -/
inductive Lx (A : Around) (s : Shared) (z : Bool) : List (Value × Value) → Bool → Prop
  | nil : Lx A s z [] z
  | eq {y x : Value} {ps : List (Value × Value)} {c : Bool} : EqAt A s y x true → Lx A s z ps c → Lx A s z ((y, x) :: ps) c
  | lt {y x : Value} {ps : List (Value × Value)} {c : Bool} : EqAt A s y x false → Ob.RcOp .Lt A s y x c → Lx A s z ((y, x) :: ps) c
theorem lt_meets (l b : Addr) (us vs : Array Value) (n m : Nat) (dl db : Option Addr) (sl sb : Array (Option Value)) :
    Meets (Builtin.«tuple.__lt__» ⟨[.ref l, .ref b], []⟩)
      (fun A R s => s.heap.get? l = some { cls := .type "tuple", dict := dl, data := .seq us n, slots := sl } ∧ s.heap.get? b = some { cls := .type "tuple", dict := db, data := .seq vs m, slots := sb } ∧
        ∃ c, Lx A.in1 s (decide (us.size < vs.size)) (us.toList.zip vs.toList) c ∧ R (.ok (.ret (.bool c))) s) := by
  refine .of_wp fun prog w A R s h => ?_
  obtain ⟨hp, g, d, tk, os⟩ := s
  obtain ⟨hl, hb, c, hx, h⟩ := h
  have f2 := AutoSeq1.sub_tuple_tuple
  wp_walk using wpAny_loadPart' hl, wpAny_loadPart' hb, wpAny_forIn_list _ (fun ps b s' => b.1 = none ∧ s' = ⟨hp, g, d, tk, os⟩ ∧ ∃ c, Lx A.in1 ⟨hp, g, d, tk, os⟩ (decide (us.size < vs.size)) ps c ∧ R (.ok (.ret (.bool c))) ⟨hp, g, d, tk, os⟩) _
  case turn =>
    rintro ⟨y, x⟩ ps b s' ⟨hb', rfl, c, hz, hR⟩
    cases hz with
    | eq he ht =>
      refine wpAny_bind (he prog w _ _ ?_)
      wp_walk
      exact ⟨rfl, rfl, c, ht, hR⟩
    | lt he hr =>
      refine wpAny_bind (he prog w _ _ ?_)
      have hri := hr prog w
      wp_walk using hri
      exact ⟨_, rfl, hR⟩
  case fin =>
    rintro ⟨b1, b2⟩ s' ⟨hb', rfl, c, hz, hR⟩
    simp only at hb'
    subst hb'
    cases hz
    wp_walk
    exact ⟨_, rfl, by simpa [Builtin.Tuple.tupleCompareSizes] using hR⟩
  case h => exact ⟨rfl, rfl, c, hx, h⟩
theorem lt_tuples {A : Around} {s : Shared} {l b : Addr} {us vs : Array Value} {c : Bool} (hl : s.heap.IsTuple l us) (hb : s.heap.IsTuple b vs) (hu : A.units < cLine) (hx : Lx A.in1 s (decide (us.size < vs.size)) (us.toList.zip vs.toList) c) :
    Ob.RcOp .Lt A s (.ref l) (.ref b) c := by
  intro prog w E Q h
  obtain ⟨⟨k1, dl, da, sl⟩, ho, hc, n, hd⟩ := hl
  obtain ⟨⟨k2, db, da2, sb⟩, ho2, hc2, m, hd2⟩ := hb
  simp only at hc hd hc2 hd2
  subst hc hd hc2 hd2
  exact richCompare_meets_room (op := .Lt) ⟨_, ho, rfl⟩ ⟨_, ho2, rfl⟩ F.slot_tuple_lt F.entry_tuple_lt (F.args_tuple_lt_2 _ _) (lt_meets l b us vs n m dl db sl sb) ⟨ho, ho2, c, hx, ⟨(fun z => nomatch z), h⟩⟩ hu
end
mutual
/-- less, of data -/
def ltD : PyData → PyData → Bool
  | .int a, .int b => decide (a < b)
  | .str x, .str y => decide (x.cps.toList < y.cps.toList)
  | .tuple xs, .tuple ys => ltDs xs ys
  | _, _ => false
def ltDs : List PyData → List PyData → Bool
  | [], [] => false
  | [], _ :: _ => true
  | _ :: _, [] => false
  | x :: xs, y :: ys => if PyData.eqv x y then ltDs xs ys else ltD x y
end
mutual
/-- may be compared by less -/
def ordD : PyData → PyData → Bool
  | .int _, .int _ => true
  | .str _, .str _ => true
  | .tuple xs, .tuple ys => ordDs xs ys
  | _, _ => false
def ordDs : List PyData → List PyData → Bool
  | [], _ => true
  | _ :: _, [] => true
  | x :: xs, y :: ys => if PyData.eqv x y then ordDs xs ys else ordD x y
end
theorem reads_len {h : Heap} : ∀ {ds : List PyData} {us : List Value} {as : List Addr}, ReadsAll h us ds as → us.length = ds.length
  | [], _, _, r => by cases r; rfl
  | _ :: ds, _, _, r => by
    cases r with
    | cons r1 r2 => exact congrArg (· + 1) (reads_len r2)
theorem lt_list {n : Nat} (IH : ∀ (d e : PyData) (A : Around) (s : Shared) (u v : Value) (as bs : List Addr), d.depth ≤ n → Reads s.heap u d as → Reads s.heap v e bs → d.canLay0 = true → e.canLay0 = true → ordD d e = true →
    A.units + d.depth < cLine → Ob.RcOp .Lt A s u v (ltD d e)) (A : Around) (s : Shared) : ∀ (xs ys : List PyData) (us vs : List Value) (as bs : List Addr), PyData.depthAll xs ≤ n → ReadsAll s.heap us xs as → ReadsAll s.heap vs ys bs →
    PyData.canLayAll0 xs = true → PyData.canLayAll0 ys = true → ordDs xs ys = true → A.units + PyData.depthAll xs < cLine → Lx A s (decide (xs.length < ys.length)) (us.zip vs) (ltDs xs ys) := by
  intro xs
  induction xs with
  | nil =>
    intro ys us vs as bs hn r1 r2 c1 c2 ho hu
    cases r1
    cases ys with
    | nil => exact .nil
    | cons y ys =>
      rw [show decide (([] : List PyData).length < (y :: ys).length) = true from decide_eq_true (Nat.zero_lt_succ _)]
      show Lx A s true [] true
      exact .nil
  | cons x xs ih =>
    intro ys us vs as bs hn r1 r2 c1 c2 ho hu
    cases ys with
    | nil =>
      cases r2
      rw [show decide ((x :: xs).length < ([] : List PyData).length) = false from decide_eq_false (Nat.not_lt_zero _), List.zip_nil_right]
      exact .nil
    | cons y ys =>
      have a1 : x.canLay0 = true ∧ PyData.canLayAll0 xs = true := by simpa [PyData.canLayAll0] using c1
      have a2 : y.canLay0 = true ∧ PyData.canLayAll0 ys = true := by simpa [PyData.canLayAll0] using c2
      have hd : A.units + max x.depth (PyData.depthAll xs) < cLine := hu
      have hn' : max x.depth (PyData.depthAll xs) ≤ n := hn
      rw [show decide ((x :: xs).length < (y :: ys).length) = decide (xs.length < ys.length) by simp]
      cases r1 with
      | cons p1 q1 =>
        cases r2 with
        | cons p2 q2 =>
          have he := PySem.SeqAt.eqAt_reads x y A s _ _ _ _ p1 p2 a1.1 a2.1 (by omega)
          by_cases c : PyData.eqv x y = true
          · have o : ordDs xs ys = true := by rw [ordDs, if_pos c] at ho; exact ho
            rw [show ltDs (x :: xs) (y :: ys) = ltDs xs ys by rw [ltDs, if_pos c]]
            rw [c] at he
            exact .eq he (ih ys _ _ _ _ (by omega) q1 q2 a1.2 a2.2 o (by omega))
          · have o : ordD x y = true := by rw [ordDs, if_neg c] at ho; exact ho
            rw [show ltDs (x :: xs) (y :: ys) = ltD x y by rw [ltDs, if_neg c]]
            rw [Bool.not_eq_true] at c
            rw [c] at he
            exact .lt he (IH x y A s _ _ _ _ (by omega) p1 p2 a1.1 a2.1 o (by omega))
theorem lt_reads : ∀ (n : Nat) (d e : PyData) (A : Around) (s : Shared) (u v : Value) (as bs : List Addr), d.depth ≤ n → Reads s.heap u d as → Reads s.heap v e bs → d.canLay0 = true → e.canLay0 = true → ordD d e = true →
    A.units + d.depth < cLine → Ob.RcOp .Lt A s u v (ltD d e) := by
  intro n
  induction n with
  | zero =>
    intro d e A s u v as bs hn r1 r2 c1 c2 ho hu
    cases r1 with
    | int a t =>
      cases r2 with
      | int b t' => rw [ltD]; exact Ob.RcOp.lt_int _ _ _ _
      | _ => simp [ordD] at ho
    | str a t =>
      cases r2 with
      | str b t' => rw [ltD]; exact fun prog w E Q h => lt_str h
      | _ => simp [ordD] at ho
    | tuple => simp [PyData.depth] at hn
    | _ => simp [ordD] at ho
  | succ n ih =>
    intro d e A s u v as bs hn r1 r2 c1 c2 ho hu
    cases r1 with
    | int a t =>
      cases r2 with
      | int b t' => rw [ltD]; exact Ob.RcOp.lt_int _ _ _ _
      | _ => simp [ordD] at ho
    | str a t =>
      cases r2 with
      | str b t' => rw [ltD]; exact fun prog w E Q h => lt_str h
      | _ => simp [ordD] at ho
    | tuple h1 h2 h3 h4 =>
      cases r2 with
      | tuple k1 k2 k3 k4 =>
        rename_i xs _ _ _ _ _ ys
        simp only [PyData.depth] at hn hu
        have l1 := reads_len h4
        have l2 := reads_len k4
        rw [ltD]
        refine lt_tuples ⟨_, h1, h2, _, h3⟩ ⟨_, k1, k2, _, k3⟩ (by omega) ?_
        rw [← Array.length_toList, ← Array.length_toList, l1, l2]
        exact lt_list ih A.in1 s _ _ _ _ _ _ (by omega) h4 k4 (by simpa [PyData.canLay0] using c1) (by simpa [PyData.canLay0] using c2) (by simpa [ordD] using ho) (by show A.units + 1 + _ < _; omega)
      | _ => simp [ordD] at ho
    | _ => simp [ordD] at ho
def rLtD (K : PySem.W.Frag) : R2 := fun x y H Q => ∃ d e, Dp K H x d ∧ Dp K H y e ∧ d.canLay0 = true ∧ e.canLay0 = true ∧ ordD d e = true ∧ d.depth ≤ 60 ∧ Q (.bl (ltD d e)) H
theorem op_ltD {X : Cx} (hu : X.A.units + 64 < cLine) : OpR X (compareOp .Lt) (rLtD X.K) := by
  intro pins s σ H x y v u Q I rx ry h
  obtain ⟨d, e, hd, he, c1, c2, o, dp, q⟩ := h
  obtain ⟨as, r1⟩ := Dp.reads I d x v hd rx
  obtain ⟨bs, r2⟩ := Dp.reads I e y u he ry
  exact lt_reads _ d e X.A s v u as bs (Nat.le_refl _) r1 r2 c1 c2 o (by omega) X.prog X.w _ _ ⟨.bl _, H, I, rfl, q⟩

/-! ### parts that give data -/
section
variable {K : PySem.W.Frag}
mutual
theorem ex_dp {H H' : Hp} (e : Ex H H') : ∀ {v : V} {d : PyData}, Dp K H v d → Dp K H' v d
  | _, _, .non => .non
  | _, _, .bl b => .bl b
  | _, _, .int i => .int i
  | _, _, .str x => .str x
  | _, _, .lst h a => .lst (ex_l e h) (ex_dps e a)
  | _, _, .tup h a => .tup (ex_t e h) (ex_dps e a)
theorem ex_dps {H H' : Hp} (e : Ex H H') : ∀ {vs : List V} {ds : List PyData}, DpAll K H vs ds → DpAll K H' vs ds
  | _, _, .nil => .nil
  | _, _, .cons h t => .cons (ex_dp e h) (ex_dps e t)
end
def EvD (K : PySem.W.Frag) (te : TE) (σ : L2.St) (H : Hp) (d : PyData) : Prop := ∀ H1, Ex H H1 → ∀ Q : VK, (∀ v H2, Ex H1 H2 → Dp K H2 v d → Q v H2) → te σ H1 Q
/-- a new list, a new tuple of data -/
def EvLD (K : PySem.W.Frag) (te : TE) (σ : L2.St) (H : Hp) (ds : List PyData) : Prop := ∀ H1, Ex H H1 → ∀ Q : VK, (∀ p H2 ys, H1 p = none → Ex H1 H2 → H2 p = some (.lst ys) → DpAll K H2 ys ds → Q (.ref p) H2) → te σ H1 Q
def EvUD (K : PySem.W.Frag) (te : TE) (σ : L2.St) (H : Hp) (ds : List PyData) : Prop := ∀ H1, Ex H H1 → ∀ Q : VK, (∀ p H2 ys, H1 p = none → Ex H1 H2 → H2 p = some (.tup ys) → DpAll K H2 ys ds → Q (.ref p) H2) → te σ H1 Q
def EvAD (K : PySem.W.Frag) (ta : TA) (σ : L2.St) (H : Hp) (ds : List PyData) : Prop := ∀ H1, Ex H H1 → ∀ Q : List V → Hp → Prop, (∀ vs H2, Ex H1 H2 → DpAll K H2 vs ds → Q vs H2) → ta σ H1 Q
variable {σ : L2.St} {H H' : Hp} {ta tb te : TE} {tr : TA} {x y z v : V} {d e : PyData} {ds es : List PyData}
theorem ed_val (h : Ev te σ H v) (hd : Dp K H v d) : EvD K te σ H d := fun H1 e Q q => h H1 e _ fun H2 e2 => q v H2 e2 (ex_dp (e.trans e2) hd)
theorem ed_tupU (h : EvUD K te σ H ds) : EvD K te σ H (.tuple ds) := fun H1 e Q q => h H1 e _ fun p H2 ys _ e2 h2 hd => q _ H2 e2 (.tup (st_of h2) hd)
theorem ed_lst (h : EvLD K te σ H ds) : EvD K te σ H (.list ds) := fun H1 e Q q => h H1 e _ fun p H2 ys _ e2 h2 hd => q _ H2 e2 (.lst (sq_of h2) hd)
theorem ad_nil : EvAD K tNil σ H [] := fun H1 _ _ q => q [] H1 (Ex.refl H1) .nil
theorem ad_cons (h : EvD K te σ H d) (hr : EvAD K tr σ H ds) : EvAD K (tCons te tr) σ H (d :: ds) := fun H1 e Q q =>
  h H1 e _ fun v H2 e2 hd => hr H2 (e.trans e2) _ fun vs H3 e3 hds => q (v :: vs) H3 (e2.trans e3) (.cons (ex_dp e3 hd) hds)
theorem dps_len : ∀ {vs : List V} {ds : List PyData} {H : Hp}, DpAll K H vs ds → vs.length = ds.length
  | _, _, _, .nil => rfl
  | _, _, _, .cons _ t => congrArg (· + 1) (dps_len t)
theorem ud_tup (h : EvAD K tr σ H ds) (hl : ds.length ≤ 100000) : EvUD K (tTup tr) σ H ds := fun H1 e Q q =>
  h H1 e _ fun vs H2 e2 hd => ⟨sz_of (by rw [dps_len hd]; exact hl), fun p hp => q p _ vs (fresh_back e2 hp) (e2.trans (Ex.new hp)) upd_same (ex_dps (Ex.new hp) hd)⟩
theorem ld_lst (h : EvAD K tr σ H ds) (hl : ds.length ≤ 100000) : EvLD K (tLst tr) σ H ds := fun H1 e Q q =>
  h H1 e _ fun vs H2 e2 hd => ⟨sz_of (by rw [dps_len hd]; exact hl), fun p hp => q p _ vs (fresh_back e2 hp) (e2.trans (Ex.new hp)) upd_same (ex_dps (Ex.new hp) hd)⟩
def SpD (K : PySem.W.Frag) (sp : Sp) (vs : List V) (H : Hp) (d : PyData) : Prop := ∀ H1, Ex H H1 → ∀ Q : VK, (∀ v H2, Ex H1 H2 → Dp K H2 v d → Q v H2) → ∀ E : XK, sp vs H1 Q E
def SpUD (K : PySem.W.Frag) (sp : Sp) (vs : List V) (H : Hp) (ds : List PyData) : Prop := ∀ H1, Ex H H1 → ∀ Q : VK, (∀ p H2 ys, H1 p = none → Ex H1 H2 → H2 p = some (.tup ys) → DpAll K H2 ys ds → Q (.ref p) H2) → ∀ E : XK, sp vs H1 Q E
theorem ud_call {sp : Sp} {dvs vs : List V} {E : XK} {ta : TA} (h : EvA ta σ H vs) (hs : SpUD K sp (vs ++ dvs) H ds) : EvUD K (tCall sp dvs E ta) σ H ds := fun H1 e Q q =>
  h H1 e _ fun H2 e2 => hs H2 (e.trans e2) Q (fun p H3 ys hp e3 h3 hd => q p H3 ys (fresh_back e2 hp) (e2.trans e3) h3 hd) E
/-- == , != , < of data -/
theorem ev_eqD (ha : EvD K ta σ H d) (hb : EvD K tb σ H e) (s1 : SeqAt.shaped d = true) (s2 : SeqAt.shaped e = true) : Ev (tOp (rEqD K) ta tb) σ H (.bl (PyData.eqv d e)) := fun H1 ex Q q =>
  ha H1 ex _ fun x H2 e2 h2 => hb H2 (ex.trans e2) _ fun y H3 e3 h3 => ⟨d, e, ex_dp e3 h2, h3, s1, s2, q H3 (e2.trans e3)⟩
theorem ev_neD (ha : EvD K ta σ H d) (hb : EvD K tb σ H e) (s1 : SeqAt.shaped d = true) (s2 : SeqAt.shaped e = true) : Ev (tOp (rNeD K) ta tb) σ H (.bl (!PyData.eqv d e)) := fun H1 ex Q q =>
  ha H1 ex _ fun x H2 e2 h2 => hb H2 (ex.trans e2) _ fun y H3 e3 h3 => ⟨d, e, ex_dp e3 h2, h3, s1, s2, q H3 (e2.trans e3)⟩
theorem ev_ltD (ha : EvD K ta σ H d) (hb : EvD K tb σ H e) (s1 : SeqAt.shaped d = true) (s2 : SeqAt.shaped e = true) (o : ordD d e = true) (dp : d.depth ≤ 60) : Ev (tOp (rLtD K) ta tb) σ H (.bl (ltD d e)) := fun H1 ex Q q =>
  ha H1 ex _ fun x H2 e2 h2 => hb H2 (ex.trans e2) _ fun y H3 e3 h3 => ⟨d, e, ex_dp e3 h2, h3, SeqAt.canLay_of_shaped s1, SeqAt.canLay_of_shaped s2, o, dp, q H3 (e2.trans e3)⟩
/-- tuple(a new list) -/
theorem ud_tuple {tl : TE} (h : EvLD K tl σ H ds) : EvUD K (tCB (fun xs H Q => ∃ p ys, xs = [.ref p] ∧ ((SqL K H p ys ∧ ∀ l, H l = none → Q (.ref l) (upd H l (.tup ys))) ∨ (SqT K H p ys ∧ Q (.ref p) H))) (tCons tl tNil)) σ H ds := fun H1 e Q q =>
  h H1 e _ fun p H2 ys _ e2 h2 hd => ⟨p, ys, rfl, .inl ⟨sq_of h2, fun l hl => q l _ ys (fresh_back e2 hl) (e2.trans (Ex.new hl)) upd_same (ex_dps (Ex.new hl) hd)⟩⟩
mutual
/-- no list within -/
def noL : PyData → Bool
  | .list _ => false
  | .tuple xs => noLs xs
  | .dict _ => false
  | .none | .bool _ | .int _ | .str _ => true
def noLs : List PyData → Bool
  | [] => true
  | x :: xs => noL x && noLs xs
end
mutual
theorem dp_upd {H : Hp} {D : Addr} {ys zs : List V} (hD : H D = some (.lst ys)) : ∀ {v : V} {d : PyData}, noL d = true → Dp K H v d → Dp K (upd H D (.lst zs)) v d
  | _, _, _, .non => .non
  | _, _, _, .bl b => .bl b
  | _, _, _, .int i => .int i
  | _, _, _, .str x => .str x
  | _, _, n, .lst h a => by simp [noL] at n
  | _, _, n, .tup h a => by
    refine .tup ?_ (dps_upd hD (by simpa [noL] using n) a)
    rcases h with (h | ⟨o, h⟩) | h
    · exact .inl (.inl (by rw [upd_ne (by intro z; rw [z, hD] at h; cases h)]; exact h))
    · exact .inl (.inr ⟨o, by rw [upd_ne (by intro z; rw [z, hD] at h; cases h)]; exact h⟩)
    · exact .inr h
theorem dps_upd {H : Hp} {D : Addr} {ys zs : List V} (hD : H D = some (.lst ys)) : ∀ {vs : List V} {ds : List PyData}, noLs ds = true → DpAll K H vs ds → DpAll K (upd H D (.lst zs)) vs ds
  | _, _, _, .nil => .nil
  | _, _, n, .cons h t => by
    have n' : (noL _ && noLs _) = true := n
    rw [Bool.and_eq_true] at n'
    exact .cons (dp_upd hD n'.1 h) (dps_upd hD n'.2 t)
end
theorem noLs_map {f : Nat → PyData} (h : ∀ i, noL (f i) = true) : ∀ l : List Nat, noLs (l.map f) = true
  | [] => rfl
  | i :: l => by
    show (noL (f i) && noLs (l.map f)) = true
    rw [h i, noLs_map h l]
    rfl
/-- [f(x) for x in xs] -/
theorem dps_snoc : ∀ {vs : List V} {ds : List PyData} {H : Hp} {v : V} {d : PyData}, DpAll K H vs ds → Dp K H v d → DpAll K H (vs ++ [v]) (ds ++ [d])
  | _, _, _, _, _, .nil, h => .cons h .nil
  | _, _, _, _, _, .cons a t, h => .cons a (dps_snoc t h)
theorem ld_lcL {a : Addr} {xs : List V} {tl : TE} {j : Nat} {vs : List Nat} (f : Nat → PyData) (h : Ev tl σ H (.ref a)) (hx : SqL K H a xs) (hz : xs.length ≤ 40000) (hn : ∀ i, noL (f i) = true) (hw : ∀ x, wipe ((wipe σ vs).set j (some x)) vs = wipe σ vs)
    (he : ∀ (i : Nat) (x : V) H1, Ex H H1 → xs[i]? = some x → EvD K te ((wipe σ vs).set j (some x)) H1 (f i)) :
    EvLD K (tLc (iList K tl) (gName j) tYes te vs) σ H ((List.range xs.length).map f) := fun H0 e0 Q q => h H0 e0 _ fun H1 e1 => ⟨a, rfl, ⟨xs, ex_l (e0.trans e1) hx⟩, fun D hD =>
  lc_list (xs := xs) (fun i H' => H1 D = none ∧ Ex H1 H' ∧ ∃ ys, H' D = some (.lst ys) ∧ DpAll K H' ys ((List.range i).map f)) ⟨hD, Ex.new hD, [], upd_same, .nil⟩ (fun i H' _ p => ex_l ((e0.trans e1).trans p.2.1) hx)
    (fun i x H' hi p => by
      obtain ⟨p1, p2, ys, p3, p4⟩ := p
      refine ⟨hw x, ?_⟩
      show te ((wipe σ vs).set j (some x)) H' fun y H4 => ∃ acc, H4 D = some (.lst acc) ∧ acc.length < sizeLine ∧ _
      refine he i x H' ((e0.trans e1).trans p2) hi H' (Ex.refl H') _ fun y H4 e4 hy => ⟨ys, e4 _ _ p3, sz_lt ?_, p1, Ex.mut (p2.trans e4) p1, ys ++ [y], upd_same, ?_⟩
      · have := dps_len p4
        rw [List.length_map, List.length_range] at this
        have := (List.getElem?_eq_some_iff.mp hi).1
        omega
      · rw [List.range_succ, List.map_append]
        exact dps_snoc (dps_upd (e4 _ _ p3) (noLs_map hn _) (ex_dps e4 p4)) (dp_upd (e4 _ _ p3) (hn i) hy))
    (fun H' p => by
      obtain ⟨p1, p2, ys, p3, p4⟩ := p
      exact q D H' ys (fresh_back e1 p1) (e1.trans p2) p3 p4)⟩
end

/-! ### a call of a local that holds a def -/
def tCallH (P : Program) (w : World) (K : PySem.W.Frag) (mg : Str → Option Value) (base : Heap) (i k : Nat) (t : TA) : TE := fun σ H Q => ∃ f sp, σ[i]? = some (some (.ref f)) ∧ L2.Held P w K mg base k f sp ∧ t σ H fun vs H1 => sp vs H1 Q (fun _ _ _ => False)
theorem pe_callH {X : Cx} {x : Str} {p pos : Pos} {e : Expr} {es : List Expr} {t : TA} {i k : Nat} (hr : Room k X.A) (hN : X.N[i]? = some x) (hv : Vis X.env.scope x) (ha : PA X (e :: es) t)
    (hdb : (x == ("__debug__" : Str)) = false := by decide) (hcd : (x == ("__classdict__" : Str)) = false := by decide)
    (he : starEach (e :: es) X.env = (false, eval e X.env) :: starEach es X.env := by rfl) (hpl : (backTo pos (starEach es X.env)).any (·.1) = false := by rfl) : PE X (.Call (.Name x p) (e :: es) [] pos) (tCallH X.prog X.w X.K X.mg X.base i k t) := by
  refine ⟨fun pins s σ H Q I h => ?_⟩
  obtain ⟨f, sp, hs, hH, ht⟩ := h
  refine (L2.pe_callA (S := fun g => if g = f then some sp else none) (fun g sq z => ?_) hr hN hv ha hdb hcd he hpl).run pins s σ H Q I ⟨f, sp, hs, if_pos rfl, ht⟩
  by_cases e : g = f
  · rw [if_pos e] at z
    cases z
    rw [e]
    exact hH
  · rw [if_neg e] at z
    cases z
theorem held_of {P : Program} {w : World} {K : PySem.W.Frag} {mg : Str → Option Value} {base : Heap} {j k : Nat} {x : Str} {sp : Sp} {f : Addr} (c : C8.Cal P w K mg base j x sp []) (m : mg x = some (.ref f)) (h : j ≤ k) : L2.Held P w K mg base k f sp := by
  obtain ⟨f', fd, ps, ds, F, hm, kp, b, v⟩ := c.ex
  rw [m] at hm
  cases hm
  cases v
  exact ⟨fd, ps, F.mono h, kp, b⟩
/-- a def of two values that gives a value -/
def spBin (pre : V → V → Prop) (op : V → V → V) : Sp := fun vs H Q _ => ∃ x y : V, vs = [x, y] ∧ pre x y ∧ ∀ H', Ex H H' → Q (op x y) H'
theorem ec_held {P : Program} {w : World} {K : PySem.W.Frag} {mg : Str → Option Value} {base : Heap} {i k : Nat} {σ : L2.St} {H : Hp} {ta tb : TE} {f : Addr} {pre : V → V → Prop} {op : V → V → V} {x y : V} (hσ : σ[i]? = some (some (.ref f))) (h : L2.Held P w K mg base k f (spBin pre op)) (hp : pre x y) (ha : Ev ta σ H x) (hb : Ev tb σ H y) :
    Ev (tCallH P w K mg base i k (tCons ta (tCons tb tNil))) σ H (op x y) := fun H1 e Q q => ⟨f, _, hσ, h, ha H1 e _ fun H2 e2 => hb H2 (e.trans e2) _ fun H3 e3 => ⟨x, y, rfl, hp, fun H' e' => q H' ((e2.trans e3).trans e')⟩⟩

/-! ### classes of the program -/
def clsAt (K : PySem.W.Frag) (x : Str) : Addr := match PySem.W.nsIn K mainGlobals x with
  | some (some (.ref a)) => a
  | _ => 0
def NoAts (K : PySem.W.Frag) (C : Addr) : List Str → Prop
  | [] => True
  | f :: r => NoAttr K C f ∧ NoAts K C r
/-- a class by its name: plain, and none of these names stands in it -/
structure ClsD (K : PySem.W.Frag) (mg : Str → Option Value) (x : Str) (fs : List Str) : Prop where
  cl : Cls K (clsAt K x)
  at_ : mg x = some (.ref (clsAt K x))
  mks : PySem.W.makesIn K (clsAt K x) = true
  kc : PySem.W.keepIn K (.ref (clsAt K x)) = true
  na : NoAts K (clsAt K x) fs
/-- a method's def -/
def MetD (K : PySem.W.Frag) (x m qual : Str) (st : Stmt) (ps : List Str) : Prop := ∃ f fd, Meth K (clsAt K x) m f ∧ C8.Fun K m qual st f fd ∧ Binds K fd ps []
/-- a property's getter -/
def PrpD (K : PySem.W.Frag) (x m qual : Str) (st : Stmt) (ps : List Str) : Prop := ∃ p f fd, PropOf K (clsAt K x) m p f ∧ C8.Fun K m qual st f fd ∧ Binds K fd ps []
def Prp (P : Program) (w : World) (K : PySem.W.Frag) (mg : Str → Option Value) (base : Heap) (k : Nat) (C : Addr) (m : Str) (sp : Sp) : Prop := ∃ p f fd ps, Cls K C ∧ PropOf K C m p f ∧ FnOk P w K mg base C8.CX0 k f fd ps sp ∧ Binds K fd ps []
section
variable {P : Program} {w : World} {K : PySem.W.Frag} {mg : Str → Option Value} {base : Heap} {x m qual : Str} {st : Stmt} {ps N fs : List Str} {k : Nat} {sp : Sp}
theorem clsD_mk {C : Addr} (h : PySem.W.nsIn K mainGlobals x = some (some (.ref C))) (hm : mg x = some (.ref C)) (pg : PySem.W.plainGet K C Str.empty = true) (hd : PySem.W.hasDictIn K C = true) (po : PySem.W.plainOver K C = true) (sa : PySem.W.findIn K (.ref C) "__setattr__" = some (some (.builtin "object.__setattr__"))) (mk : PySem.W.makesIn K C = true) (kc : PySem.W.keepIn K (.ref C) = true) (na : NoAts K C fs) : ClsD K mg x fs := by
  have e : clsAt K x = C := by unfold clsAt; rw [h]
  exact ⟨by rw [e]; exact ⟨pg, hd, po, sa⟩, by rw [e]; exact hm, by rw [e]; exact mk, by rw [e]; exact kc, by rw [e]; exact na⟩
theorem metD_mk {C f : Addr} {fd : FuncData} (h : PySem.W.nsIn K mainGlobals x = some (some (.ref C))) (a : PySem.W.findIn K (.ref C) m = some (some (.ref f))) (i : PySem.W.isFn K (.ref f) = true) (kp : PySem.W.keepIn K (.ref f) = true) (F : C8.Fun K m qual st f fd) (b : Binds K fd ps []) : MetD K x m qual st ps := by
  have e : clsAt K x = C := by unfold clsAt; rw [h]
  exact ⟨f, fd, by rw [e]; exact ⟨a, i, kp⟩, F, b⟩
theorem prpD_mk {C p f : Addr} {fd : FuncData} {r : List Value} (h : PySem.W.nsIn K mainGlobals x = some (some (.ref C))) (a : PySem.W.findIn K (.ref C) m = some (some (.ref p))) (g : PySem.W.specialIn K (.ref p) "__get__" = some (some (.builtin "property.__get__"))) (tk : PySem.W.takesIn K (.ref p) = some true) (rc : PySem.W.recIn K p "property" = some (.ref f :: r)) (F : C8.Fun K m qual st f fd) (b : Binds K fd ps []) : PrpD K x m qual st ps := by
  have e : clsAt K x = C := by unfold clsAt; rw [h]
  exact ⟨p, f, fd, by rw [e]; exact ⟨a, g, tk, r, rc⟩, F, b⟩
theorem met_of (C : ClsD K mg x fs) (D : MetD K x m qual st ps) (S : FnScope N ps (C8.fnScope st)) (len : ∀ vs H Q E, sp vs H Q E → vs.length = ps.length)
    (hbody : ∀ (f : Addr) (cdv : Value) (A : Around) (outer : List Env) (s : Shared) (H : Hp) (vs : List V) (Q : VK) (E : XK), Room k (A.deeper (envOfC qual (C8.fnScope st) s.heap.objs.size f cdv)) → sp vs H Q E →
      ∃ t, PSs (cxOf C8.CX0 P w K mg base N qual (C8.fnScope st) f cdv A outer s H E).nox (C8.fnBody st) t ∧ t { nx := fun _ H' => Q .non H', rt := Q } (start N vs) H) : C8.Met P w K mg base (k + 1) (clsAt K x) m sp [] := by
  obtain ⟨f, fd, M, F, b⟩ := D
  exact C8.met0 C.cl M F b S len (hbody f)
theorem prp_of (C : ClsD K mg x fs) (D : PrpD K x m qual st ps) (S : FnScope N ps (C8.fnScope st)) (len : ∀ vs H Q E, sp vs H Q E → vs.length = ps.length)
    (hbody : ∀ (f : Addr) (cdv : Value) (A : Around) (outer : List Env) (s : Shared) (H : Hp) (vs : List V) (Q : VK) (E : XK), Room k (A.deeper (envOfC qual (C8.fnScope st) s.heap.objs.size f cdv)) → sp vs H Q E →
      ∃ t, PSs (cxOf C8.CX0 P w K mg base N qual (C8.fnScope st) f cdv A outer s H E).nox (C8.fnBody st) t ∧ t { nx := fun _ H' => Q .non H', rt := Q } (start N vs) H) : Prp P w K mg base (k + 1) (clsAt K x) m sp := by
  obtain ⟨p, f, fd, M, F, b⟩ := D
  exact ⟨p, f, fd, ps, C.cl, M, C8.fn0 F S len (hbody f), b⟩
theorem mak_of (C : ClsD K mg x fs) (D : MetD K x "__init__" qual st ps) (S : FnScope N ps (C8.fnScope st)) (len : ∀ vs H Q E, sp vs H Q E → vs.length = ps.length)
    (hbody : ∀ (f : Addr) (cdv : Value) (A : Around) (outer : List Env) (s : Shared) (H : Hp) (vs : List V) (Q : VK) (E : XK), Room k (A.deeper (envOfC qual (C8.fnScope st) s.heap.objs.size f cdv)) → sp vs H Q E →
      ∃ t, PSs (cxOf C8.CX0 P w K mg base N qual (C8.fnScope st) f cdv A outer s H E).nox (C8.fnBody st) t ∧ t { nx := fun _ H' => Q .non H', rt := Q } (start N vs) H) : C8.Mak P w K mg base (k + 1) x (clsAt K x) sp [] := by
  obtain ⟨f, fd, M, F, b⟩ := D
  exact C8.mak0 ⟨C.mks, M.at_, M.fn, C.kc⟩ C.at_ F b .nil S len (hbody f)
end
section
variable {X : Cx} {k j : Nat} {C : Addr} {m : Str} {sp : Sp} {e : Expr} {pos : Pos} {ta : TE}
theorem pe_pr (c : Prp X.prog X.w X.K X.mg X.base k C m sp) (hr : Room j X.A) (hk : k + 1 ≤ j) (he : PE X e ta) (hab : attributeBase e m X.env (eval e X.env) = eval e X.env) : PE X (.Attribute e m pos) (tProp C sp [] C8.E0 ta) := by
  obtain ⟨p, f, fd, ps, hc, hp, F, b⟩ := c
  exact pe_prop he hc hp F (hr.mono hk) b .nil C8.pass0 hab
end

/-! ### further loops: reversed(a list), range(n - 1, -1, -1), a new tuple -/
section
variable {K : PySem.W.Frag} {σ : L2.St} {H H' : Hp} {D : Ends} {tz tu : TS} {te tl : TE} {g : TG}
theorem s_break (h : D.bk σ H) : tBreak D σ H := h
theorem q_forRev {a : Addr} {xs : List V} {tr : TA} {j : Nat} (h : EvA tr σ H [.ref a]) (hS : SqL K H a xs) (Pv : Nat → L2.St → Hp → Prop) (h0 : ∀ H1, Ex H H1 → Pv 0 σ H1) (hl : ∀ i σ' H', Pv i σ' H' → SqL K H' a xs)
    (hs : ∀ (i : Nat) x σ' H', i < xs.length → xs[xs.length - 1 - i]? = some x → Pv i σ' H' → tu { D with nx := Pv (i + 1), ct := Pv (i + 1), bk := tz D } (σ'.set j (some x)) H') (hd : ∀ σ' H', Pv xs.length σ' H' → tz D σ' H') : tSeq (tFor (iRev K tr) (gName j) tu) tz D σ H :=
  h H (Ex.refl H) _ fun H1 e => ⟨a, xs, rfl, ex_l e hS, RT.for_Itv (D := { D with nx := tz D }) Pv (h0 H1 e) hl hs hd⟩
theorem s_forDown {tr : TA} {j n : Nat} (h : EvA tr σ H [.int ((n : Int) - 1), .int (-1), .int (-1)]) (hn : n ≤ 100000) (Pv : Nat → L2.St → Hp → Prop) (h0 : ∀ H1, Ex H H1 → Pv 0 σ H1)
    (hs : ∀ (i : Nat) σ' H', i < n → Pv i σ' H' → tu { D with nx := Pv (i + 1), ct := Pv (i + 1), bk := D.nx } (σ'.set j (some (.int (((n - 1 - i : Nat) : Int))))) H') (hd : ∀ σ' H', Pv n σ' H' → D.nx σ' H') : tFor (iRng3 tr) (gName j) tu D σ H := by
  refine h H (Ex.refl H) _ fun H1 e => ⟨(n : Int) - 1, -1, -1, ((n : Int) - 1 - (-1)).toNat, rfl, RgC.neg (by omega) (by omega) (by omega) (by omega), for_rangeC Pv (h0 H1 e) (fun i σ' H' hi p => ?_) fun σ' H' p => hd σ' H' ?_⟩
  · have e0 : (n : Int) - 1 + (i : Nat) * (-1) = ((n - 1 - i : Nat) : Int) := by omega
    show tu { D with nx := Pv (i + 1), ct := Pv (i + 1), bk := D.nx } (σ'.set j (some (.int ((n : Int) - 1 + (i : Nat) * (-1))))) H'
    rw [e0]
    exact hs i σ' H' (by omega) p
  · rw [show ((n : Int) - 1 - (-1)).toNat = n by omega] at p
    exact p
theorem q_forDown {tr : TA} {j n : Nat} (h : EvA tr σ H [.int ((n : Int) - 1), .int (-1), .int (-1)]) (hn : n ≤ 100000) (Pv : Nat → L2.St → Hp → Prop) (h0 : ∀ H1, Ex H H1 → Pv 0 σ H1)
    (hs : ∀ (i : Nat) σ' H', i < n → Pv i σ' H' → tu { D with nx := Pv (i + 1), ct := Pv (i + 1), bk := tz D } (σ'.set j (some (.int (((n - 1 - i : Nat) : Int))))) H') (hd : ∀ σ' H', Pv n σ' H' → tz D σ' H') : tSeq (tFor (iRng3 tr) (gName j) tu) tz D σ H :=
  s_forDown (D := { D with nx := tz D }) h hn Pv h0 hs hd
/-- over a new tuple: the turns' word speaks of what grows out of H1 -/
theorem q_forU {xs : List V} {j : Nat} (h : EvU tl σ H xs) (Pv : Nat → L2.St → Hp → Prop) (h0 : Pv 0 σ H) (hm : ∀ i σ' H1 H2, Pv i σ' H1 → Ex H1 H2 → Pv i σ' H2)
    (hs : ∀ i x σ' H1, xs[i]? = some x → Pv i σ' H1 → ∀ N : L2.St → Hp → Prop, (∀ σ2 H2, Pv (i + 1) σ2 H2 → Ex H1 H2 → N σ2 H2) → tu { D with nx := N, ct := N, bk := tz D } (σ'.set j (some x)) H1) (hd : ∀ σ' H', Pv xs.length σ' H' → tz D σ' H') : tSeq (tFor (iTup K tl) (gName j) tu) tz D σ H :=
  h H (Ex.refl H) _ fun p H1 hp e h1 => ⟨p, rfl, ⟨xs, st_of h1⟩, for_tup (D := { D with nx := tz D }) (fun i σ' H' => Pv i σ' H' ∧ H' p = some (.tup xs)) ⟨hm _ _ _ _ h0 e, h1⟩ (fun i σ' H' _ q => st_of q.2)
    (fun i x σ' H' hx q => hs i x σ' H' hx q.1 _ fun σ2 H2 q2 e2 => ⟨q2, e2 _ _ q.2⟩) fun σ' H' q => hd σ' H' q.1⟩
end

/-! ### defs with keyword-only parameters, called with all of them -/
def DnK (K : PySem.W.Frag) (mg : Str → Option Value) (x : Str) (st : Stmt) (ps : List Str) (n : Nat) (ks : List Str) : Prop := ∃ f fd, C8.Def K mg x st f fd ∧ L2.KBn K fd ps n ks (fun us ws => us ++ ws) fun vs zs => vs ++ zs
structure CalK (P : Program) (w : World) (K : PySem.W.Frag) (mg : Str → Option Value) (base : Heap) (k : Nat) (x : Str) (n : Nat) (ks : List Str) (sp : Sp) : Prop where
  ex : ∃ (f : Addr) (fd : FuncData) (ps : List Str), FnOk P w K mg base C8.CX0 k f fd ps sp ∧ mg x = some (.ref f) ∧ PySem.W.keepIn K (.ref f) = true ∧ L2.KBn K fd ps n ks (fun us ws => us ++ ws) fun vs zs => vs ++ zs
section
variable {P : Program} {w : World} {K : PySem.W.Frag} {mg : Str → Option Value} {base : Heap}
theorem dnK_mk {x : Str} {st : Stmt} {f : Addr} {oc : Value} {od an : Option Addr} {osl : Array (Option Value)} {kV doc pm cdv ct : Value} {ps ks : List Str} {n : Nat}
    (l : K.lookup f = some ⟨oc, od, .func (PySem.W.fnOf x x (C8.fnArgs st) (C8.fnBody st) (C8.fnScope st) .none kV doc pm an cdv ct), osl⟩)
    (c : PySem.W.codeIn K cdv x = true) (k : PySem.W.keepIn K (.ref f) = true) (m : mg x = some (.ref f))
    (h : ∀ (us ws : List Value), us.length = n → ws.length = ks.length → bindArgs (PySem.W.fnOf x x (C8.fnArgs st) (C8.fnBody st) (C8.fnScope st) .none kV doc pm an cdv ct) ⟨us, ks.zip ws⟩ = pure (ps.zip (us ++ ws))) : DnK K mg x st ps n ks :=
  ⟨f, _, def_mk l c k m, ⟨fun s us ws _ l1 l2 => .of_eq (h us ws l1 l2), fun r1 r2 => r1.append r2⟩⟩
theorem calK_of {x : Str} {st : Stmt} {N ps ks : List Str} {k n : Nat} {sp : Sp} (D : DnK K mg x st ps n ks) (S : FnScope N ps (C8.fnScope st)) (len : ∀ vs H Q E, sp vs H Q E → vs.length = ps.length)
    (hbody : ∀ (f : Addr) (cdv : Value) (A : Around) (outer : List Env) (s : Shared) (H : Hp) (vs : List V) (Q : VK) (E : XK), Room k (A.deeper (envOfC x (C8.fnScope st) s.heap.objs.size f cdv)) → sp vs H Q E →
      ∃ t, PSs (cxOf C8.CX0 P w K mg base N x (C8.fnScope st) f cdv A outer s H E).nox (C8.fnBody st) t ∧ t { nx := fun _ H' => Q .non H', rt := Q } (start N vs) H) : CalK P w K mg base (k + 1) x n ks sp := by
  obtain ⟨f, fd, F, b⟩ := D
  exact ⟨f, fd, ps, C8.fn0 F.fn S len (hbody f), F.mgf, F.kp, b⟩
end
theorem pe_cK {X : L2.Cx} {k j n : Nat} {x : Str} {ks : List Str} {sp : Sp} {p pos : Pos} {e : Expr} {es : List Expr} {kws : List Keyword} {t tk : TA} (c : CalK X.prog X.w X.K X.mg X.base k x n ks sp) (hr : Room j X.A) (hk : k ≤ j) (hg : Gl X x) (ha : PA X (e :: es) t) (hkw : PK X kws tk)
    (hall : (backToKw pos (keywordEach kws X.env)).all (·.1.isSome) = true := by rfl) (hks : (backToKw pos (keywordEach kws X.env)).filterMap (·.1) = ks := by rfl)
    (hdb : (x == ("__debug__" : Str)) = false := by decide) (he : starEach (e :: es) X.env = (false, eval e X.env) :: starEach es X.env := by rfl)
    (hpl : ((backTo pos (starEach (e :: es) X.env)).any (·.1) || (backToKw pos (keywordEach kws X.env)).any (·.1.isNone)) = false := by rfl) :
    PE X (.Call (.Name x p) (e :: es) kws pos) (tCallN n ks.length sp (fun vs zs => vs ++ zs) C8.E0 t tk) := by
  obtain ⟨f, fd, ps, F, hm, kp, b⟩ := c.ex
  exact pe_callN F (hr.mono hk) hg hm kp b C8.pass0 ha hkw hall hks hdb he hpl

def limV (n : Int) : V := if -1000000000000000 ≤ n ∧ n ≤ 1000000000000000 then .int n else .non
/-! ### the mathematics: digits -/
abbrev dval : List Nat → Nat := NumText.digitsVal
def isD (c : Nat) : Bool := decide (48 ≤ c) && decide (c ≤ 57)
def digs (l : List Nat) : Bool := !l.isEmpty && l.all isD
theorem uni_dig : ∀ c : Fin 128, Unicode.isDigit c.1 = isD c.1 := by decide +kernel
theorem all_dig : ∀ l : List Nat, (l.all Unicode.isDigit && l.all fun c => decide (c < 128)) = l.all isD
  | [] => rfl
  | c :: r => by
    have ih := all_dig r
    rw [List.all_cons, List.all_cons, List.all_cons, ← ih]
    by_cases h : c < 128
    · rw [decide_eq_true h, show Unicode.isDigit c = isD c from uni_dig ⟨c, h⟩]
      cases isD c <;> cases r.all Unicode.isDigit <;> simp
    · have : isD c = false := by
        unfold isD
        rw [decide_eq_false (show ¬ c ≤ 57 by omega), Bool.and_false]
      rw [this, decide_eq_false h]
      simp
theorem digs_txt (l : List Nat) : (Txt.isdigit (SX.S l) && Txt.isascii (SX.S l)) = digs l := by
  unfold Txt.isdigit Txt.isascii digs
  rw [SX.S_len, show (SX.S l).cps.all Unicode.isDigit = l.all Unicode.isDigit from List.all_toArray, show ((SX.S l).cps.all fun c => decide (c < 128)) = l.all fun c => decide (c < 128) from List.all_toArray, Bool.and_assoc, all_dig]
  cases l <;> rfl
theorem mem_dig {l : List Nat} (h : l.all isD = true) : NumText.AllDigits l := fun c hc => by
  have := List.all_eq_true.mp h c hc
  unfold isD at this
  rw [Bool.and_eq_true, decide_eq_true_eq, decide_eq_true_eq] at this
  exact this
theorem fold_app (l : List Nat) : ∀ a : Nat, l.foldl (fun acc c => acc * 10 + (c - 48)) a = a * 10 ^ l.length + dval l := by
  induction l with
  | nil => intro a; simp [dval, NumText.digitsVal]
  | cons c r ih =>
    intro a
    show r.foldl _ (a * 10 + (c - 48)) = _ + r.foldl _ (0 * 10 + (c - 48))
    rw [ih, ih, List.length_cons, Nat.pow_succ, Nat.add_mul, Nat.zero_mul, Nat.zero_add, Nat.mul_assoc, Nat.mul_comm 10, Nat.add_assoc]
theorem dval_app (l r : List Nat) : dval (l ++ r) = dval l * 10 ^ r.length + dval r := by
  show (l ++ r).foldl _ 0 = _
  rw [List.foldl_append, fold_app]
  rfl
theorem dval_cons (c : Nat) (r : List Nat) : dval (c :: r) = (c - 48) * 10 ^ r.length + dval r := by
  have := dval_app [c] r
  rw [show dval [c] = c - 48 from by show 0 * 10 + (c - 48) = _; omega] at this
  exact this
theorem dval_lt : ∀ l : List Nat, l.all isD = true → dval l < 10 ^ l.length
  | [], _ => by decide
  | c :: r, h => by
    rw [List.all_cons, Bool.and_eq_true] at h
    have ih := dval_lt r h.2
    have hc := mem_dig (l := [c]) (by rw [List.all_cons, h.1]; rfl) c (List.mem_singleton.mpr rfl)
    rw [dval_cons, List.length_cons, Nat.pow_succ]
    have : (c - 48) * 10 ^ r.length ≤ 9 * 10 ^ r.length := Nat.mul_le_mul_right _ (by omega)
    omega
def noZ (l : List Nat) : List Nat := l.dropWhile (fun c => c == 48)
theorem dval_noZ : ∀ l : List Nat, dval (noZ l) = dval l
  | [] => rfl
  | c :: r => by
    unfold noZ
    rw [List.dropWhile_cons]
    split
    · rename_i h
      rw [show List.dropWhile (fun c => c == 48) r = noZ r from rfl, dval_noZ r, dval_cons, beq_iff_eq.mp h, Nat.sub_self, Nat.zero_mul, Nat.zero_add]
    · rfl
theorem all_noZ : ∀ {l : List Nat}, l.all isD = true → (noZ l).all isD = true
  | [], _ => rfl
  | c :: r, h => by
    unfold noZ
    rw [List.dropWhile_cons]
    split
    · exact all_noZ (by rw [List.all_cons, Bool.and_eq_true] at h; exact h.2)
    · exact h
theorem noZ_len (l : List Nat) : (noZ l).length ≤ l.length := (List.dropWhile_suffix _).length_le
/-- more than sixteen digits behind the zeros: beyond every limit -/
theorem noZ_big {l : List Nat} (h : l.all isD = true) (hl : 16 < (noZ l).length) : 10 ^ 16 ≤ dval l := by
  have ha := all_noZ h
  rw [← dval_noZ]
  have hd : ∀ c r, noZ l = c :: r → ¬ c = 48 := fun c r e hc => by
    have := List.head?_dropWhile_not (fun c => c == 48) l
    rw [show List.dropWhile (fun c => c == 48) l = c :: r from e] at this
    simp [hc] at this
  generalize noZ l = z at *
  cases z with
  | nil => simp at hl
  | cons c r =>
    have hc := mem_dig (l := [c]) (by rw [List.all_cons, Bool.and_eq_true] at ha; rw [List.all_cons, ha.1]; rfl) c (List.mem_singleton.mpr rfl)
    have hn := hd c r rfl
    rw [dval_cons]
    have h1 : 10 ^ 16 ≤ 10 ^ r.length := Nat.pow_le_pow_right (by decide) (by simp at hl; omega)
    have h2 : 1 * 10 ^ r.length ≤ (c - 48) * 10 ^ r.length := Nat.mul_le_mul_right _ (by omega)
    omega
theorem con48 : (SX.S [48]).cps.contains = fun c => c == 48 := by
  funext c
  show (#[48] : Array Nat).contains c = _
  rw [Bool.eq_iff_iff]
  simp
theorem tl_S (l : List Nat) : TL.tl (SX.S l) = l := TL.tl_mk l
theorem lstrip_S (l : List Nat) : Txt.lstripChars (SX.S l) (SX.S [48]) = SX.S (noZ l) := by
  unfold Txt.lstripChars
  rw [PySem.W.stripBy_eq, con48]
  apply TL.ext_tl
  unfold PySem.W.stripped
  simp only [if_true, Bool.false_eq_true, if_false]
  rw [TL.tl_strSub, TL.len_tl, tl_S, tl_S]
  show List.take _ (List.drop (List.takeWhile (fun c => c == 48) l).length l) = _
  have e : List.drop (List.takeWhile (fun c => c == 48) l).length l = noZ l := by
    have h := List.takeWhile_append_dropWhile (p := fun c => c == 48) (l := l)
    conv => lhs; arg 2; rw [← h]
    rw [List.drop_left]
    rfl
  rw [e]
  apply List.take_of_length_le
  have h := congrArg List.length (List.takeWhile_append_dropWhile (p := fun c => c == 48) (l := l))
  rw [List.length_append] at h
  have : (noZ l).length = (List.dropWhile (fun c => c == 48) l).length := rfl
  omega
/-- without zeros at the end -/
def noE (l : List Nat) : List Nat := (noZ l.reverse).reverse
theorem rstrip_S (l : List Nat) : Txt.rstripChars (SX.S l) (SX.S [48]) = SX.S (noE l) := by
  unfold Txt.rstripChars
  rw [PySem.W.stripBy_eq, con48]
  apply TL.ext_tl
  unfold PySem.W.stripped
  simp only [if_true, Bool.false_eq_true, if_false]
  rw [TL.tl_strSub, SX.S_len, tl_S, tl_S]
  show List.take (l.length - (List.takeWhile (fun c => c == 48) (List.drop 0 l).reverse).length - 0) (List.drop 0 l) = _
  rw [List.drop_zero, Nat.sub_zero]
  have h := List.takeWhile_append_dropWhile (p := fun c => c == 48) (l := l.reverse)
  have h2 : l = noE l ++ (List.takeWhile (fun c => c == 48) l.reverse).reverse := by
    have := congrArg List.reverse h
    rw [List.reverse_append, List.reverse_reverse] at this
    exact this.symm
  have h3 := congrArg List.length h2
  rw [List.length_append, List.length_reverse] at h3
  conv => lhs; arg 2; rw [h2]
  rw [show l.length - (List.takeWhile (fun c => c == 48) l.reverse).length = (noE l).length by omega, List.take_left]
theorem starts_S (l : List Nat) : Txt.startswith (SX.S l) (SX.S [45]) = decide (l.head? = some 45) := by
  cases l with
  | nil => rfl
  | cons c r =>
    unfold Txt.startswith
    rw [SX.S_len, SX.S_len, decide_eq_true (by simp), Bool.true_and]
    rw [Bool.eq_iff_iff, decide_eq_true_eq]
    show Builtin.Str.subAt (SX.S (c :: r)) (SX.S [45]) 0 = true ↔ some c = some 45
    unfold Builtin.Str.subAt
    simp
    show List.take 1 (c :: r) = [45] ↔ c = 45
    simp
/-- the text without a minus sign in front -/
def noM (l : List Nat) : List Nat := if l.head? = some 45 then l.drop 1 else l
def sgI (l : List Nat) (n : Nat) : Int := if l.head? = some 45 then -(n : Int) else (n : Int)
def rdI (l : List Nat) : V := if digs (noM l) = true then limV (sgI l (dval (noM l))) else .non
theorem numL_pad {r : Nat} (h : r < 10000) : List.replicate (4 - (TL.numL r).length) 48 ++ TL.numL r = [48 + r / 1000, 48 + r / 100 % 10, 48 + r / 10 % 10, 48 + r % 10] := by
  by_cases h1 : r < 10
  · rw [TL.numL_lt h1, show r / 1000 = 0 by omega, show r / 100 = 0 by omega, show r / 10 = 0 by omega, show r % 10 = r by omega]
    rfl
  by_cases h2 : r < 100
  · rw [TL.numL_step (by omega), TL.numL_lt (by omega), show r / 1000 = 0 by omega, show r / 100 = 0 by omega, show r / 10 % 10 = r / 10 by omega]
    rfl
  by_cases h3 : r < 1000
  · rw [TL.numL_step (by omega), TL.numL_step (by omega), TL.numL_lt (by omega), show r / 1000 = 0 by omega, show r / 10 / 10 = r / 100 by omega, show r / 100 % 10 = r / 100 by omega]
    rfl
  · rw [TL.numL_step (by omega), TL.numL_step (by omega), TL.numL_step (by omega), TL.numL_lt (by omega), show r / 10 / 10 / 10 = r / 1000 by omega, show r / 10 / 10 = r / 100 by omega]
    rfl
def four (r : Nat) : List Nat := [48 + r / 1000, 48 + r / 100 % 10, 48 + r / 10 % 10, 48 + r % 10]
theorem zfill_S {r : Nat} (h : r < 10000) : Txt.zfill (SX.S (TL.numL r)) 4 = SX.S (four r) := by
  unfold Txt.zfill four
  rw [← numL_pad h, SX.S_len]
  split
  · rename_i hl
    rw [show 4 - (TL.numL r).length = 0 by omega]
    rfl
  · unfold zfilled
    have hd := TL.numL_digits r
    cases e : TL.numL r with
    | nil => exact absurd e (TL.numL_ne r)
    | cons c t =>
      have hc := hd c (by rw [e]; exact List.mem_cons_self)
      have eg : (SX.S (c :: t)).cps[0]? = some c := rfl
      have e43 : ¬ c = 43 := by omega
      have e45 : ¬ c = 45 := by omega
      rw [eg]
      split
      · rename_i h; exact absurd (Option.some.inj h) e43
      · rename_i h; exact absurd (Option.some.inj h) e45
      · rw [Builtin.Str.padded.eq_1]
        apply TL.ext_tl
        rw [tl_S]
        show ((Array.replicate _ 48 ++ (SX.S (c :: t)).cps ++ Array.replicate 0 0) : Array Nat).toList = _
        simp [SX.S]
def dtx (n : Int) : List Nat := (if n < 0 then [45] else []) ++ (TL.numL (n.natAbs / 10000) ++ (if n.natAbs % 10000 = 0 then [] else 46 :: noE (four (n.natAbs % 10000))))

/-! ### texts as lists of codes: further words -/
theorem c48 : PySem.Str.ofString "0" = SX.S [48] := by decide +kernel
theorem c45 : PySem.Str.ofString "-" = SX.S [45] := by decide +kernel
theorem c46 : PySem.Str.ofString "." = SX.S [46] := by decide +kernel
theorem c00 : PySem.Str.ofString "" = SX.S [] := by decide +kernel
theorem mt_ljustF {X : Cx} : MtR X "str.ljust" fun x xs H Q => ∃ (a f : Str) (i : Int), x = .str a ∧ xs = [.int i, .str f] ∧ PadOk i = true ∧ f.length = 1 ∧ Q (.str (Txt.ljustF a i (f.cps.getD 0 0))) H := by
  intro pins s σ H x xs v us Q I rx rv h
  obtain ⟨a, f, i, rfl, rfl, hp, hf, q⟩ := h
  obtain ⟨t, rfl⟩ := (show ∃ t, v = Value.str a t from rx)
  cases rv with
  | cons r1 rv =>
    cases rv with
    | cons r2 rv =>
      cases rv
      obtain ⟨u, rfl⟩ := r1
      obtain ⟨u2, rfl⟩ := r2
      exact ljust_fill hp hf fun t' k => ⟨.str _, H, I.tok k, ⟨t', rfl⟩, q⟩
section
variable {K : PySem.W.Frag} {σ : L2.St} {H : Hp} {D : Ends} {te ta tl th tb : TE}
theorem ev_m0 {r : V → List V → Hp → VK → Prop} {a : Str} {z : V} (h : Ev ta σ H (.str a)) (hr : ∀ H1 Q, (∀ H2, Ex H1 H2 → Q z H2) → r (.str a) [] H1 Q) : Ev (tM0 r ta) σ H z := fun H1 e Q q => h H1 e _ fun H2 e2 => ⟨⟨_, rfl⟩, hr H2 Q fun H3 e3 => q H3 (e2.trans e3)⟩
theorem ev_m1 {r : V → List V → Hp → VK → Prop} {a : Str} {y z : V} (h : Ev ta σ H (.str a)) (hb : Ev tb σ H y) (hr : ∀ H1 Q, (∀ H2, Ex H1 H2 → Q z H2) → r (.str a) [y] H1 Q) : Ev (tM1 r ta tb) σ H z := fun H1 e Q q =>
  h H1 e _ fun H2 e2 => ⟨⟨_, rfl⟩, hb H2 (e.trans e2) _ fun H3 e3 => hr H3 Q fun H4 e4 => q H4 ((e2.trans e3).trans e4)⟩
theorem ev_bmS {r : V → List V → Hp → VK → Prop} {a : Str} {z : V} {tr : TA} {ys : List V} (h : Ev ta σ H (.str a)) (hb : EvA tr σ H ys) (hr : ∀ H1 Q, (∀ H2, Ex H1 H2 → Q z H2) → r (.str a) ys H1 Q) : Ev (tBM K "str" r ta tr) σ H z := fun H1 e Q q =>
  h H1 e _ fun H2 e2 => ⟨rfl, hb H2 (e.trans e2) _ fun H3 e3 => hr H3 Q fun H4 e4 => q H4 ((e2.trans e3).trans e4)⟩
theorem ev_intS {a : Str} {n : Int} (h : Ev ta σ H (.str a)) (hn : intText? a = some n) (hl : a.length ≤ 640) : Ev (tCB (fun xs H Q => ∃ a n, xs = [.str a] ∧ intText? a = some n ∧ a.length ≤ 640 ∧ Q (.int n) H) (tCons ta tNil)) σ H (.int n) := fun H1 e Q q =>
  h H1 e _ fun H2 e2 => ⟨a, n, rfl, hn, hl, q H2 e2⟩
theorem ev_slF {to : TO} {l : List Nat} {i : Nat} (ha : Ev ta σ H (.str (SX.S l))) (hl : Ev tl σ H (.int (i : Int))) (hn : ∀ σ H Q, Q none H → to σ H Q) (hz : l.length ≤ 100000) : Ev (tSl C8.rSlX ta (tPart tl) to) σ H (.str (SX.S (l.drop i))) := fun H1 e Q q =>
  ha H1 e _ fun H2 e2 => hl H2 (e.trans e2) _ fun H3 e3 => ⟨_, rfl, hn _ _ _ ⟨SX.S l, rfl, by rw [SX.S_len]; exact sz_of hz, by rw [SX.slice_from (by omega), Int.toNat_natCast]; exact q H3 (e2.trans e3)⟩⟩
theorem eu_part {a b : Str} (ha : Ev ta σ H (.str a)) (hb : Ev tb σ H (.str b)) (h1 : (b.length == 0) = false) (hz : a.length ≤ 100000) : EvU (tM1 (fun x xs H Q => ∃ a b, x = .str a ∧ xs = [.str b] ∧ (b.length == 0) = false ∧ a.length ≤ sizeLine ∧ ∀ p, H p = none → Q (.ref p) (upd H p (.tup [.str (Txt.partition a b).1, .str (Txt.partition a b).2.1, .str (Txt.partition a b).2.2]))) ta tb) σ H [.str (Txt.partition a b).1, .str (Txt.partition a b).2.1, .str (Txt.partition a b).2.2] := fun H1 e Q q =>
  ha H1 e _ fun H2 e2 => ⟨⟨_, rfl⟩, hb H2 (e.trans e2) _ fun H3 e3 => ⟨a, b, rfl, rfl, h1, sz_of hz, fun p hp => q p _ (fresh_back (e2.trans e3) hp) ((e2.trans e3).trans (Ex.new hp)) upd_same⟩⟩
end
theorem js_str {t : TE} {ts : List TE} {acc y : Str} {σ : L2.St} {H : Hp} {Q : Str → Hp → Prop} (h : Ev t σ H (.str y)) (hz : (acc ++ y).length ≤ 100000) (k : ∀ H1, Ex H H1 → tJs ts (acc ++ y) σ H1 Q) : tJs (t :: ts) acc σ H Q := h H (Ex.refl H) _ fun H1 e1 => ⟨y, rfl, sz_of hz, k H1 e1⟩
theorem pre1 {c : Nat} {l : List Nat} {i : Nat} : TL.pre [c] (l.drop i) = true ↔ l[i]? = some c := by
  by_cases h : i < l.length
  · rw [List.drop_eq_getElem_cons h, List.getElem?_eq_getElem h]
    constructor
    · intro e
      by_cases e2 : l[i] = c
      · rw [e2]
      · rw [TL.pre_of_head [] _ e2] at e
        exact nomatch e
    · intro e
      rw [Option.some.inj e]
      exact TL.pre_self [c] _
  · rw [List.drop_eq_nil_of_le (by omega), List.getElem?_eq_none (by omega), TL.pre_nil (List.cons_ne_nil _ _)]
    simp
theorem find1 (l : List Nat) (c : Nat) : (Txt.find (SX.S l) (SX.S [c]) = -1 ∧ ∀ i : Nat, ¬ l[i]? = some c) ∨ ∃ i : Nat, Txt.find (SX.S l) (SX.S [c]) = (i : Int) ∧ l[i]? = some c ∧ ∀ k : Nat, k < i → ¬ l[k]? = some c := by
  have ha : ∀ i, StrLaws.At (SX.S l) (SX.S [c]) (SX.S l).length i ↔ l[i]? = some c := fun i => by
    rw [TL.at_iff (by rw [tl_S]; exact List.cons_ne_nil _ _), tl_S, tl_S, pre1]
  rcases StrLaws.occ_head (SX.S l) (SX.S [c]) 1 (Nat.le_refl 1) with ⟨h1, h2⟩ | ⟨i, r, h1, h2, h3⟩
  · refine .inl ⟨?_, fun i h => h2 i ((ha i).mpr h)⟩
    unfold Txt.find
    rw [h1]
  · refine .inr ⟨i, ?_, (ha i).mp h2, fun k hk h => h3 k hk ((ha k).mpr h)⟩
    unfold Txt.find
    rw [h1]
def tenL : List Nat := [48, 49, 50, 51, 52, 53, 54, 55, 56, 57]
theorem cTen : PySem.Str.ofString "0123456789" = SX.S tenL := by decide +kernel
theorem ten_at {i : Nat} (h : i < 10) : tenL[i]? = some (48 + i) := by
  have : ∀ i : Fin 10, tenL[i.1]? = some (48 + i.1) := by decide
  exact this ⟨i, h⟩
theorem ten_in {i c : Nat} (h : tenL[i]? = some c) : c = 48 + i ∧ i < 10 := by
  have hi : i < 10 := (List.getElem?_eq_some_iff.mp h).1
  rw [ten_at hi] at h
  exact ⟨(Option.some.inj h).symm, hi⟩
theorem find_ten (c : Nat) : (isD c = false ∧ Txt.find (SX.S tenL) (SX.S [c]) = -1) ∨ (isD c = true ∧ Txt.find (SX.S tenL) (SX.S [c]) = ((c - 48 : Nat) : Int)) := by
  rcases find1 tenL c with ⟨h1, h2⟩ | ⟨i, h1, h2, _⟩
  · refine .inl ⟨?_, h1⟩
    cases h : isD c with
    | false => rfl
    | true =>
      unfold isD at h
      rw [Bool.and_eq_true, decide_eq_true_eq, decide_eq_true_eq] at h
      exact absurd (by rw [ten_at (by omega), show 48 + (c - 48) = c by omega]) (h2 (c - 48))
  · obtain ⟨e, hi⟩ := ten_in h2
    refine .inr ⟨?_, by rw [h1, show c - 48 = i by omega]⟩
    unfold isD
    rw [decide_eq_true (by omega), decide_eq_true (by omega)]
    rfl
section
variable {σ : L2.St} {H : Hp} {ta tb tl : TE} {K : PySem.W.Frag}
theorem ev_ixN {xs : List V} {i : Int} {v : V} (ha : EvL ta σ H xs) (hb : Ev tb σ H (.int i)) (hi : atI xs i = some v) : Ev (tOp (rIxL K) ta tb) σ H v := fun H1 e Q q =>
  ha H1 e _ fun p H2 hp e2 h2 => hb H2 (e.trans e2) _ fun H3 e3 => rv_ixL (sq_of (e3 _ _ h2)) hi H3 (Ex.refl H3) Q fun H4 e4 => q H4 ((e2.trans e3).trans e4)
theorem ev_ten {i : Nat} (h : i < 10) (hb : Ev tb σ H (.int (i : Int))) : Ev (tOp rIxS (tC (.str (PySem.Str.ofString "0123456789"))) tb) σ H (.str (SX.S [48 + i])) :=
  ev_op (x := .str (SX.S tenL)) (ev_is ev_c (by rw [cTen])) hb (rv_ixS (by decide) (atI_nat (ten_at h)))
theorem ev_slT {to : TO} {l : List Nat} {i : Nat} (ha : Ev ta σ H (.str (SX.S l))) (hn : ∀ σ H Q, Q none H → to σ H Q) (hl : Ev tl σ H (.int (i : Int))) (hz : l.length ≤ 100000) : Ev (tSl C8.rSlX ta to (tPart tl)) σ H (.str (SX.S (l.take i))) := fun H1 e Q q =>
  ha H1 e _ fun H2 e2 => hn _ _ _ (hl H2 (e.trans e2) _ fun H3 e3 => ⟨_, rfl, SX.S l, rfl, by rw [SX.S_len]; exact sz_of hz, by rw [SX.slice_to (by omega), Int.toNat_natCast]; exact q H3 (e2.trans e3)⟩)
end
theorem ev_lenX {σ : L2.St} {H : Hp} {ta : TE} {w : List Nat} (ha : Ev ta σ H (.str (SX.S w))) (hz : w.length ≤ 100000) : Ev (tCB (fun xs H Q => ∃ z, xs = [.str z] ∧ z.length ≤ sizeLine ∧ Q (.int z.length) H) (tCons ta tNil)) σ H (.int (w.length : Int)) :=
  ev_is (ev_lenS ha (by rw [SX.S_len]; exact hz)) (by rw [SX.S_len])
section
variable {K : PySem.W.Frag} {σ : L2.St} {H : Hp} {ta tb : TE}
theorem ev_cat {a b : Str} (ha : Ev ta σ H (.str a)) (hb : Ev tb σ H (.str b)) (h : a.length + b.length ≤ 100000) : Ev (tOp (fun x y H Q => ∃ i j, x = .str i ∧ y = .str j ∧ i.length + j.length ≤ sizeLine ∧ Q (.str (i ++ j)) H) ta tb) σ H (.str (a ++ b)) := fun H1 e Q q =>
  ha H1 e _ fun H2 e2 => hb H2 (e.trans e2) _ fun H3 e3 => ⟨a, b, rfl, rfl, sz_of h, q H3 (e2.trans e3)⟩
end
section
variable {σ : L2.St} {H : Hp} {D : Ends} {tz : TS} {te : TE}
theorem q_forX {tu : TS} {j : Nat} {w : List Nat} (h : Ev te σ H (.str (SX.S w))) (Pv : Nat → L2.St → Hp → Prop) (h0 : ∀ H1, Ex H H1 → Pv 0 σ H1)
    (hs : ∀ (i : Nat) (c : Nat) σ' H', w[i]? = some c → Pv i σ' H' → tu { nx := Pv (i + 1), rt := D.rt, bk := tz D, ct := Pv (i + 1) } (σ'.set j (some (.str ⟨#[c]⟩))) H')
    (hd : ∀ σ' H', Pv w.length σ' H' → tz D σ' H') : tSeq (tFor (iStr te) (gName j) tu) tz D σ H := by
  have ec : ∀ i, (SX.S w).cps[i]? = w[i]? := fun i => List.getElem?_toArray
  have es : (SX.S w).cps.size = w.length := List.size_toArray
  refine h H (Ex.refl H) _ fun H1 e1 => ⟨SX.S w, rfl, fun i m σ' H' => Pv i σ' H' ∧ i ≤ w.length ∧ w.length - i ≤ m, ⟨_, h0 H1 e1, Nat.zero_le _, Nat.le_refl _⟩, fun i m σ' H' p => ?_⟩
  obtain ⟨p, hi, hm⟩ := p
  by_cases hlt : i < w.length
  · refine .inr ⟨by show i < (SX.S w).cps.size; omega, fun σ2 H2 => Pv (i + 1) σ2 H2, fun σ2 H2 q => ⟨m - 1, by omega, q, hlt, by omega⟩, ?_⟩
    rintro x H2 ⟨rfl, c, hc, rfl⟩
    rw [ec] at hc
    exact hs i c σ' _ hc p
  · refine .inl ⟨by show (SX.S w).cps.size ≤ i; omega, ?_⟩
    rw [show i = w.length by omega] at p
    exact hd _ _ p
theorem q_callG {sp : Sp} {dvs vs : List V} {E : XK} {tr : TA} {g : TG} (h : EvA tr σ H vs) (k : ∀ H1, Ex H H1 → sp (vs ++ dvs) H1 (fun x H2 => g x σ H2 (tz D)) E) : tSeq (tAsg (tCall sp dvs E tr) g) tz D σ H := h H (Ex.refl H) _ fun H1 e1 => k H1 e1
end
theorem slice_mid {a : List Nat} {i j : Nat} (h : i ≤ j) (hj : j ≤ a.length) : Txt.slice (SX.S a) (some (i : Int)) (some (j : Int)) = SX.S ((a.drop i).take (j - i)) := by
  rw [← C8.cutS_slice]
  unfold cutS
  rw [SX.S_len, HT.sIx_nat, HT.sIx_nat, Nat.min_eq_left hj, Nat.min_eq_left (show i ≤ a.length by omega)]
theorem ev_slM {σ : L2.St} {H : Hp} {ta tl th : TE} {l : List Nat} {i j : Nat} (ha : Ev ta σ H (.str (SX.S l))) (hl : Ev tl σ H (.int (i : Int))) (hh : Ev th σ H (.int (j : Int))) (h : i ≤ j) (hj : j ≤ l.length) (hz : l.length ≤ 100000) : Ev (tSl C8.rSlX ta (tPart tl) (tPart th)) σ H (.str (SX.S ((l.drop i).take (j - i)))) := fun H1 e Q q =>
  ha H1 e _ fun H2 e2 => hl H2 (e.trans e2) _ fun H3 e3 => ⟨_, rfl, hh H3 ((e.trans e2).trans e3) _ fun H4 e4 => ⟨_, rfl, SX.S l, rfl, by rw [SX.S_len]; exact sz_of hz, by rw [slice_mid h hj]; exact q H4 ((e2.trans e3).trans e4)⟩⟩
theorem q_par2 {σ : L2.St} {H : Hp} {ta : TA} {D : Ends} {tz : TS} {i j : Nat} {x y : V} (h : EvA ta σ H [x, y]) (k : ∀ H1, Ex H H1 → tz D ((σ.set i (some x)).set j (some y)) H1) : tSeq (tPar i j ta) tz D σ H := h H (Ex.refl H) _ fun H1 e => ⟨x, y, rfl, k H1 e⟩
theorem q_par3 {σ : L2.St} {H : Hp} {ta : TA} {D : Ends} {tz : TS} {i j l : Nat} {x y z : V} (h : EvA ta σ H [x, y, z]) (k : ∀ H1, Ex H H1 → tz D (((σ.set i (some x)).set j (some y)).set l (some z)) H1) : tSeq (tPar3 i j l ta) tz D σ H := h H (Ex.refl H) _ fun H1 e => ⟨x, y, z, rfl, k H1 e⟩

/-! ### dicts whose keys are nested tuples -/
abbrev NK := PySem.NestedKey
mutual
inductive NKey (H : Hp) : NK → V → Prop where
  | non : NKey H .none .non
  | num (i : Int) : NKey H (.num i) (.int i)
  | text (x : Str) : NKey H (.text x) (.str x)
  | tup {a : Addr} {xs : List V} {ks : List NK} (h : H a = some (.tup xs)) (hs : NKeys H ks xs) : NKey H (.tup ks) (.ref a)
inductive NKeys (H : Hp) : List NK → List V → Prop where
  | nil : NKeys H [] []
  | cons {k : NK} {v : V} {ks : List NK} {vs : List V} (h : NKey H k v) (hs : NKeys H ks vs) : NKeys H (k :: ks) (v :: vs)
end
mutual
theorem NKey.mono {H H' : Hp} (t : ∀ b xs, H b = some (.tup xs) → H' b = some (.tup xs)) : ∀ {k : NK} {v : V}, NKey H k v → NKey H' k v
  | _, _, .non => .non
  | _, _, .num i => .num i
  | _, _, .text x => .text x
  | _, _, .tup h hs => .tup (t _ _ h) (NKeys.mono t hs)
theorem NKeys.mono {H H' : Hp} (t : ∀ b xs, H b = some (.tup xs) → H' b = some (.tup xs)) : ∀ {ks : List NK} {vs : List V}, NKeys H ks vs → NKeys H' ks vs
  | _, _, .nil => .nil
  | _, _, .cons h hs => .cons (NKey.mono t h) (NKeys.mono t hs)
end
theorem NKey.ex {H H' : Hp} {k : NK} {v : V} (h : NKey H k v) (e : Ex H H') : NKey H' k v := h.mono fun b xs q => e b _ q
mutual
theorem NKey.is {P : Program} {w : World} {H : Hp} {h : Heap} (ok : HOk P w H h) : ∀ {k : NK} {v : V} {u : Value}, NKey H k v → RelV v u → PySem.NestedIs h k u
  | _, _, u, .non, r => by cases (show u = Value.none from r); exact .none
  | _, _, u, .num i, r => by obtain ⟨t, rfl⟩ := (show ∃ t, u = Value.int i t from r); exact .int i t
  | _, _, u, .text x, r => by obtain ⟨t, rfl⟩ := (show ∃ t, u = Value.str x t from r); exact .text x t
  | _, _, u, .tup (a := a) e hs, r => by
    cases (show u = Value.ref a from r)
    obtain ⟨_, its, rr, o, h1, h2, n, h3⟩ := (show ObjOk P w H h a (.tup _) from ok a _ e)
    exact .tup h1 h2 h3 (by simpa using NKeys.is ok hs rr)
theorem NKeys.is {P : Program} {w : World} {H : Hp} {h : Heap} (ok : HOk P w H h) : ∀ {ks : List NK} {vs : List V} {us : List Value}, NKeys H ks vs → Vals vs us → PySem.NestedAll h ks us
  | _, _, _, .nil, r => by cases r; exact .nil
  | _, _, _, .cons k ks, r => by
    cases r with
    | cons r1 r2 => exact .cons (NKey.is ok k r1) (NKeys.is ok ks r2)
end
def nkd (P : Program) (w : World) : PySem.HeapKind P w NK := PySem.nestedKind P w
def NObj (P : Program) (w : World) (d : Addr) (xs : List (NK × Addr × Value)) : HO := .ext fun h => (d == sysModules) = false ∧ ∃ o es ep, h.get? d = some o ∧ o.ExactDict ∧ o.data = .dict es ep ∧ es.toList = xs.map (entryOfKey (nkd P w)) ∧ (xs.map (·.1)).Nodup
/-- at d stands a dict with the keys and values kvs, in the order of insertion -/
def NDict (P : Program) (w : World) (H : Hp) (d : Addr) (kvs : List (NK × V)) : Prop :=
  ∃ xs : List (NK × Addr × Value), H d = some (NObj P w d xs) ∧ (∀ x ∈ xs, NKey H x.1 (.ref x.2.1) ∧ x.1.depth ≤ 8) ∧ KV kvs (PySem.pairsH xs) ∧ kvs.length ≤ sizeLine
theorem NDict.ex {P : Program} {w : World} {H H' : Hp} {d : Addr} {kvs : List (NK × V)} (h : NDict P w H d kvs) (e : Ex H H') : NDict P w H' d kvs := by
  obtain ⟨xs, h1, h2, h3⟩ := h
  exact ⟨xs, e _ _ h1, fun x hx => ⟨(h2 x hx).1.ex e, (h2 x hx).2⟩, h3⟩
theorem NDict.upd {P : Program} {w : World} {H : Hp} {d p : Addr} {o u : HO} {kvs : List (NK × V)} (h : NDict P w H d kvs) (hp : H p = some u) (hu : ∀ xs, u ≠ .tup xs) (hd : d ≠ p) : NDict P w (upd H p o) d kvs := by
  obtain ⟨xs, h1, h2, h3⟩ := h
  refine ⟨xs, by rw [upd_ne hd]; exact h1, fun x hx => ⟨(h2 x hx).1.mono fun b ys q => ?_, (h2 x hx).2⟩, h3⟩
  rw [upd_ne fun z => ?_]
  · exact q
  · rw [z, hp] at q
    exact hu _ (Option.some.inj q)
theorem NDict.ne {P : Program} {w : World} {H : Hp} {d p : Addr} {o : HO} {kvs : List (NK × V)} (h : NDict P w H d kvs) (hp : H p = some o) (ho : ∀ φ, o ≠ .ext φ) : d ≠ p := fun z => by
  obtain ⟨xs, h1, _⟩ := h
  rw [z, hp] at h1
  exact ho _ (Option.some.inj h1)
theorem NDict.some {P : Program} {w : World} {H : Hp} {d : Addr} {kvs : List (NK × V)} (h : NDict P w H d kvs) : ∃ o, H d = some o := by
  obtain ⟨xs, h1, _⟩ := h
  exact ⟨_, h1⟩
section
variable {P : Program} {w : World} {H : Hp} {h : Heap} {d : Addr} {kvs : List (NK × V)}
theorem NDict.of (ok : HOk P w H h) (e : NDict P w H d kvs) : (d == sysModules) = false ∧ ∃ xs, H d = Option.some (NObj P w d xs) ∧ (∀ x ∈ xs, NKey H x.1 (.ref x.2.1) ∧ x.1.depth ≤ 8) ∧ KV kvs (PySem.pairsH xs) ∧ kvs.length ≤ sizeLine ∧ h.DictOfH (nkd P w) d xs := by
  obtain ⟨xs, h1, h2, h3, h4⟩ := e
  obtain ⟨⟨q1, o, es, ep, q2, q3, q4, q5, q6⟩, _⟩ := (show ObjOk P w H h d (NObj P w d xs) from ok d _ h1)
  exact ⟨q1, xs, h1, h2, h3, h4, o, es, ep, q2, q3, q4, q5, fun x hx => ⟨NKey.is ok (h2 x hx).1 (show RelV (.ref x.2.1) (.ref x.2.1) from rfl), (h2 x hx).2⟩, q6⟩
theorem nobj_ok {xs : List (NK × Addr × Value)} (hd : (d == sysModules) = false) (x : h.DictOfH (nkd P w) d xs) : ObjOk P w H h d (NObj P w d xs) := by
  obtain ⟨o, es, ep, q2, q3, q4, q5, _, q6⟩ := x
  refine ⟨⟨hd, o, es, ep, q2, q3, q4, q5, q6⟩, ⟨o, q2⟩, ?_⟩
  rintro h1 h2 ⟨w1, o, es, ep, w2, w3⟩ k
  exact ⟨w1, o, es, ep, k _ w2, w3⟩
end
/-! the operations -/
def rNIn (P : Program) (w : World) (neg : Bool) : R2 := fun y x H Q => ∃ d kvs k, x = .ref d ∧ NDict P w H d kvs ∧ NKey H k y ∧ (∃ b, y = .ref b) ∧ k.depth ≤ 8 ∧ Q (.bl (if neg then !(valV kvs k).isSome else (valV kvs k).isSome)) H
def tNGet (P : Program) (w : World) (td ty : TE) : TE := fun σ H Q => td σ H fun x H1 => ty σ H1 fun y H2 => ∃ d kvs k b v, x = .ref d ∧ y = .ref b ∧ NDict P w H2 d kvs ∧ NKey H2 k y ∧ k.depth ≤ 8 ∧ valV kvs k = some v ∧ Q v H2
def sNPut (P : Program) (w : World) (td ty tv : TE) : TS := fun D σ H => tv σ H fun v H1 => td σ H1 fun x H2 => ty σ H2 fun y H3 => ∃ d kvs k b, x = .ref d ∧ y = .ref b ∧ NDict P w H3 d kvs ∧ NKey H3 k y ∧ k.depth ≤ 8 ∧ kvs.length < sizeLine ∧
  ∀ xs, NDict P w (upd H3 d (NObj P w d xs)) d (putK kvs k v) → D.nx σ (upd H3 d (NObj P w d xs))
def rNGetOr (P : Program) (w : World) : V → List V → Hp → VK → Prop := fun x xs H Q => ∃ d kvs k b z, x = .ref d ∧ xs = [.ref b, z] ∧ NDict P w H d kvs ∧ NKey H k (.ref b) ∧ k.depth ≤ 8 ∧ Q ((valV kvs k).getD z) H
def tDNewN (P : Program) (w : World) : TE := fun _ H Q => ∀ d, H d = none → NDict P w (upd H d (NObj P w d [])) d [] → Q (.ref d) (upd H d (NObj P w d []))
theorem mem_storedH {xs : List (NK × Addr × Value)} {k : NK} {a : Addr} {v : Value} : ∀ x ∈ storedH xs k a v, (∃ y ∈ xs, x.1 = y.1 ∧ x.2.1 = y.2.1) ∨ (x.1 = k ∧ x.2.1 = a) := by
  intro x hx
  unfold storedH at hx
  split at hx
  · obtain ⟨y, hy, rfl⟩ := List.mem_map.mp hx
    refine .inl ⟨y, hy, ?_⟩
    unfold putAt
    split <;> exact ⟨rfl, rfl⟩
  · rcases List.mem_append.mp hx with q | q
    · exact .inl ⟨x, q, rfl, rfl⟩
    · rw [List.mem_singleton.mp q]
      exact .inr ⟨rfl, rfl⟩
section
variable {X : Cx} {o i e f value : Expr} {pos pos' tpos apos cpos : Pos} {td ty tv tx : TE}
theorem nroom {A : Around} (hu : A.units + 64 < cLine) (P : Program) (w : World) : (nkd P w).room A.in1 := by
  show A.in1.units + 8 < cLine
  rw [Around.in1_units]
  omega
theorem op_nin (hu : X.A.units + 64 < cLine) : OpR X (compareOp .In) (rNIn X.prog X.w false) := by
  intro pins s σ H x y v u Q I rx ry h
  obtain ⟨d, kvs, k, rfl, nd, nk, ⟨b, rfl⟩, kd, q⟩ := h
  obtain rfl : u = Value.ref d := ry
  obtain ⟨hd, xs, _, _, kv, _, dd⟩ := NDict.of I.hok nd
  have hk := NKey.is I.hok nk rx
  cases (show v = Value.ref b from rx)
  refine wpAny_in_heap (knd := nkd X.prog X.w) (nroom hu _ _) ⟨hk, kd⟩ hd dd ?_
  have e := (kv.val k).isSome_eq
  rw [PySem.valueAt_pairsH, Option.isSome_map] at e
  refine ⟨_, H, I.tok _, ?_, q⟩
  show Value.bool _ = Value.bool _
  rw [← e]
  rfl
theorem op_nnotin (hu : X.A.units + 64 < cLine) : OpR X (compareOp .NotIn) (rNIn X.prog X.w true) := by
  intro pins s σ H x y v u Q I rx ry h
  obtain ⟨d, kvs, k, rfl, nd, nk, ⟨b, rfl⟩, kd, q⟩ := h
  obtain rfl : u = Value.ref d := ry
  obtain ⟨hd, xs, _, _, kv, _, dd⟩ := NDict.of I.hok nd
  have hk := NKey.is I.hok nk rx
  cases (show v = Value.ref b from rx)
  refine PySem.notIn_keyed (knd := nkd X.prog X.w) (nroom hu _ _) ⟨hk, kd⟩ hd ⟨xs, dd, rfl⟩ ?_
  have e := (kv.val k).isSome_eq
  refine ⟨_, H, I.tok _, ?_, q⟩
  show Value.bool _ = Value.bool _
  rw [← e]
  rfl
theorem pe_nget (hu : X.A.units + 64 < cLine) (ho : PE X o td) (hi : PE X i ty) (hs : NoSl i) : PE X (.Subscript o i pos) (tNGet X.prog X.w td ty) := by
  refine ⟨fun pins s σ H Q I h => ?_⟩
  refine subD_of PySem.F.slot_dict_getitem.lookup hs (thn (ho.run pins s σ H _ I h) fun u s1 ⟨x, H1, I1, rx, q1⟩ => thn (hi.run pins s1 σ H1 _ I1 q1) fun iv s2 ⟨y, H2, I2, ry, d, kvs, k, b, v, ex, ey, nd, nk, kd, hv, q2⟩ => ?_)
  subst ex ey
  obtain rfl : u = Value.ref d := rx
  obtain ⟨hd, xs, _, _, kv, _, dd⟩ := NDict.of I2.hok nd
  have hk := NKey.is I2.hok nk ry
  obtain rfl : iv = Value.ref b := ry
  obtain ⟨w', hw, rw'⟩ := RelO.some_of (v := v) (o := valueAt (PySem.pairsH xs) k) (by rw [← hv]; exact kv.val k)
  refine ⟨dd.typeIs, PySem.getItem_keyed (knd := nkd X.prog X.w) (nroom hu _ _) ⟨hk, kd⟩ ⟨xs, dd, rfl⟩ hw ⟨v, H2, I2.tok _, rw', q2⟩⟩
theorem ps_nput (hu : X.A.units + 64 < cLine) (ho : PE X o td) (hi : PE X i ty) (hv : PE X value tv) (hs : swapsWith value (some (.Subscript o i pos')) pos.line X.env = pure false) :
    PS X (.Assign [.Subscript o i pos'] value pos) (sNPut X.prog X.w td ty tv) := by
  refine ⟨fun pins s σ H D I h => ?_⟩
  refine wpAny_Assign_Subscript (thn (hv.run pins s σ H _ I h) fun r s1 ⟨v, H1, I1, rv, q1⟩ => thn (ho.run pins s1 σ H1 _ I1 q1) fun u s2 ⟨x, H2, I2, rx, q2⟩ => thn (hi.run pins s2 σ H2 _ I2 q2) fun iv s3 ⟨y, H3, I3, ry, d, kvs, k, b, ex, ey, nd, nk, kd, hl, q3⟩ => ?_) hs
  subst ex ey
  obtain rfl : u = Value.ref d := rx
  obtain ⟨hd, xs, hH, hks, kv, hz, dd⟩ := NDict.of I3.hok nd
  have hk := NKey.is I3.hok nk ry
  obtain rfl : iv = Value.ref b := ry
  have hx : xs.length ≤ sizeLine := by
    have := kv.length
    rw [PySem.pairsH_length] at this
    omega
  refine wpAny_setItem_heap (knd := nkd X.prog X.w) (hsz := hx) (nroom hu _ _) ⟨hk, kd⟩ dd fun h' dd' hs' => ?_
  have he : ∃ q, h'.get? d = some q := let ⟨q, _, _, hq, _⟩ := dd'; ⟨q, hq⟩
  refine ⟨σ, _, d_write (ob := NObj X.prog X.w d (storedH xs k b r)) I3 (by rw [hH]; exact True.intro) hs' he (nobj_ok hd dd'), q3 _ ⟨_, upd_same, fun x hx' => ?_, ?_, ?_⟩⟩
  · have keep : ∀ b ys, H3 b = some (.tup ys) → upd H3 d (NObj X.prog X.w d (storedH xs k b r)) b = some (.tup ys) := fun b ys q => by
      rw [upd_ne fun z => ?_]
      · exact q
      · rw [z, hH] at q
        cases q
    have keep2 : ∀ c ys, H3 c = some (.tup ys) → upd H3 d (NObj X.prog X.w d (storedH xs k b r)) c = some (.tup ys) := fun c ys q => by
      rw [upd_ne fun z => ?_]
      · exact q
      · rw [z, hH] at q
        cases q
    rcases mem_storedH x hx' with ⟨z, hz1, e1, e2⟩ | ⟨e1, e2⟩
    · rw [e1, e2]
      exact ⟨(hks z hz1).1.mono keep2, (hks z hz1).2⟩
    · rw [e1, e2]
      exact ⟨nk.mono keep2, kd⟩
  · rw [PySem.pairsH_storedH]
    exact kv.put k rv
  · have := length_putK kvs k v
    omega
theorem mt_ngetOr (hu : X.A.units + 64 < cLine) : MtR X "dict.get" (rNGetOr X.prog X.w) := by
  intro pins s σ H x xs v us Q I rx rs h
  obtain ⟨d, kvs, k, b, z, rfl, rfl, nd, nk, kd, q⟩ := h
  obtain rfl : v = Value.ref d := rx
  cases rs with
  | cons r1 rs =>
    cases rs with
    | cons r2 rs =>
      cases rs
      obtain ⟨hd, xs, _, _, kv, _, dd⟩ := NDict.of I.hok nd
      have hk := NKey.is I.hok nk r1
      cases r1
      refine PySem.getOr_keyed (knd := nkd X.prog X.w) (nroom hu _ _) ⟨hk, kd⟩ hd ⟨xs, dd, rfl⟩ ⟨_, H, I.tok _, (kv.val k).getD r2, q⟩
theorem dn_empty {P : Program} {w : World} {H : Hp} (h : Heap) (hb : sysModules < h.objs.size) : ObjOk P w H (h.push { cls := .type "dict", data := .dict #[] }) h.objs.size (NObj P w h.objs.size []) :=
  nobj_ok (beq_eq_false_iff_ne.mpr (Ne.symm (Nat.ne_of_lt hb))) (Heap.DictOfH.new h)
theorem pe_dnewN : PE X (.Dict [] [] pos) (tDNewN X.prog X.w) := ⟨fun pins s σ H Q I h =>
  wpAny_Dict_empty ⟨.ref s.heap.objs.size, _, I.laid (a := s.heap.objs.size) (o := NObj X.prog X.w s.heap.objs.size []) (t' := s.toks) (fun _ _ q => Heap.get?_push_of_some _ q) (Nat.le_refl _) (dn_empty s.heap I.big), rfl, h _ (I.hok.fresh (Nat.le_refl _)) ⟨[], upd_same, fun x hx => (by cases hx), Paired.nil, Nat.zero_le _⟩⟩⟩
end
section
variable {P : Program} {w : World} {K : PySem.W.Frag} {σ : L2.St} {H : Hp} {ta tb te tl : TE} {D : Ends} {tz : TS} {d : Addr} {kvs : List (NK × V)} {k : NK} {v x : V}
theorem ev_nin {neg : Bool} {b : Addr} (ha : Ev ta σ H (.ref b)) (hb : Ev tb σ H (.ref d)) (nd : NDict P w H d kvs) (nk : NKey H k (.ref b)) (hd : k.depth ≤ 8) : Ev (tOp (rNIn P w neg) ta tb) σ H (.bl (if neg then !(valV kvs k).isSome else (valV kvs k).isSome)) := fun H1 e Q q =>
  ha H1 e _ fun H2 e2 => hb H2 (e.trans e2) _ fun H3 e3 => ⟨d, kvs, k, rfl, nd.ex ((e.trans e2).trans e3), nk.ex ((e.trans e2).trans e3), ⟨b, rfl⟩, hd, q H3 (e2.trans e3)⟩
theorem ev_nget {b : Addr} (hb : Ev tb σ H (.ref d)) (ha : Ev ta σ H (.ref b)) (nd : NDict P w H d kvs) (nk : NKey H k (.ref b)) (hd : k.depth ≤ 8) (hv : valV kvs k = some v) : Ev (tNGet P w tb ta) σ H v := fun H1 e Q q =>
  hb H1 e _ fun H2 e2 => ha H2 (e.trans e2) _ fun H3 e3 => ⟨d, kvs, k, b, v, rfl, rfl, nd.ex ((e.trans e2).trans e3), nk.ex ((e.trans e2).trans e3), hd, hv, q H3 (e2.trans e3)⟩
theorem s_nput {b : Addr} (hv : Ev te σ H v) (hb : Ev tb σ H (.ref d)) (ha : Ev ta σ H (.ref b)) (nd : NDict P w H d kvs) (nk : NKey H k (.ref b)) (hd : k.depth ≤ 8) (hz : kvs.length < 100000)
    (q : ∀ H1 xs, Ex H H1 → NDict P w (upd H1 d (NObj P w d xs)) d (putK kvs k v) → D.nx σ (upd H1 d (NObj P w d xs))) : sNPut P w tb ta te D σ H :=
  hv H (Ex.refl H) _ fun H1 e1 => hb H1 e1 _ fun H2 e2 => ha H2 (e1.trans e2) _ fun H3 e3 => ⟨d, kvs, k, b, rfl, rfl, nd.ex ((e1.trans e2).trans e3), nk.ex ((e1.trans e2).trans e3), hd, sz_lt hz, fun xs n => q H3 xs ((e1.trans e2).trans e3) n⟩
theorem q_nput {b : Addr} (hv : Ev te σ H v) (hb : Ev tb σ H (.ref d)) (ha : Ev ta σ H (.ref b)) (nd : NDict P w H d kvs) (nk : NKey H k (.ref b)) (hd : k.depth ≤ 8) (hz : kvs.length < 100000)
    (q : ∀ H1 xs, Ex H H1 → NDict P w (upd H1 d (NObj P w d xs)) d (putK kvs k v) → tz D σ (upd H1 d (NObj P w d xs))) : tSeq (sNPut P w tb ta te) tz D σ H := s_nput (D := { D with nx := tz D }) hv hb ha nd nk hd hz q
theorem q_dnewN {i : Nat} (q : ∀ d H1, H d = none → Ex H H1 → NDict P w H1 d [] → tz D (σ.set i (some (.ref d))) H1) : tSeq (tAsg (tDNewN P w) (gName i)) tz D σ H := fun d hd n => q d _ hd (Ex.new hd) n
end

def topS (i : Nat) : Stmt := PySem.Challenge.pw_stylobate_k61_rows_written_by_groups.main.body.getD i (.Pass ⟨0, 0, 0, 0⟩)
abbrev s_is_digits : Stmt := topS 2
abbrev n_is_digits : List Str := ["text"]
theorem sc_is_digits : FnScope n_is_digits ["text"] (C8.fnScope s_is_digits) := C8.fnScope_by (by decide +kernel)
abbrev s__pattern_parts : Stmt := topS 3
abbrev n__pattern_parts : List Str := ["pattern", "signs", "stars", "at", "sign"]
theorem sc__pattern_parts : FnScope n__pattern_parts ["pattern"] (C8.fnScope s__pattern_parts) := C8.fnScope_by (by decide +kernel)
abbrev s__places_of : Stmt := topS 4
abbrev n__places_of : List Str := ["signs", "wanted", "bits", "at", "sign"]
theorem sc__places_of : FnScope n__places_of ["signs", "wanted"] (C8.fnScope s__places_of) := C8.fnScope_by (by decide +kernel)
abbrev s_is_like : Stmt := topS 5
abbrev n_is_like : List Str := ["text", "pattern", "signs", "stars", "loops", "at", "star", "takes", "reached", "sign"]
theorem sc_is_like : FnScope n_is_like ["text", "pattern"] (C8.fnScope s_is_like) := C8.fnScope_by (by decide +kernel)
abbrev s_pieces : Stmt := topS 6
abbrev n_pieces : List Str := ["text", "separator"]
theorem sc_pieces : FnScope n_pieces ["text", "separator"] (C8.fnScope s_pieces) := C8.fnScope_by (by decide +kernel)
abbrev s_lowered : Stmt := topS 7
abbrev n_lowered : List Str := ["text"]
theorem sc_lowered : FnScope n_lowered ["text"] (C8.fnScope s_lowered) := C8.fnScope_by (by decide +kernel)
abbrev s_raised : Stmt := topS 8
abbrev n_raised : List Str := ["text"]
theorem sc_raised : FnScope n_raised ["text"] (C8.fnScope s_raised) := C8.fnScope_by (by decide +kernel)
abbrev s_limited : Stmt := topS 13
abbrev n_limited : List Str := ["number"]
theorem sc_limited : FnScope n_limited ["number"] (C8.fnScope s_limited) := C8.fnScope_by (by decide +kernel)
abbrev s_rounded : Stmt := topS 14
abbrev n_rounded : List Str := ["number", "divisor", "size"]
theorem sc_rounded : FnScope n_rounded ["number", "divisor"] (C8.fnScope s_rounded) := C8.fnScope_by (by decide +kernel)
abbrev s_quotient : Stmt := topS 15
abbrev n_quotient : List Str := ["number", "divisor", "size"]
theorem sc_quotient : FnScope n_quotient ["number", "divisor"] (C8.fnScope s_quotient) := C8.fnScope_by (by decide +kernel)
abbrev s_decimal_text : Stmt := topS 16
abbrev n_decimal_text : List Str := ["number", "whole", "rest", "sign", "digits"]
theorem sc_decimal_text : FnScope n_decimal_text ["number"] (C8.fnScope s_decimal_text) := C8.fnScope_by (by decide +kernel)
abbrev s_read_digits : Stmt := topS 17
abbrev n_read_digits : List Str := ["digits", "needed"]
theorem sc_read_digits : FnScope n_read_digits ["digits"] (C8.fnScope s_read_digits) := C8.fnScope_by (by decide +kernel)
abbrev s__signed : Stmt := topS 18
abbrev n__signed : List Str := ["sign", "digits", "size"]
theorem sc__signed : FnScope n__signed ["sign", "digits"] (C8.fnScope s__signed) := C8.fnScope_by (by decide +kernel)
abbrev s_read_integer : Stmt := topS 19
abbrev n_read_integer : List Str := ["text", "sign", "digits"]
theorem sc_read_integer : FnScope n_read_integer ["text"] (C8.fnScope s_read_integer) := C8.fnScope_by (by decide +kernel)
abbrev s_read_decimal : Stmt := topS 20
abbrev n_read_decimal : List Str := ["text", "sign", "size", "whole", "dot", "part"]
theorem sc_read_decimal : FnScope n_read_decimal ["text"] (C8.fnScope s_read_decimal) := C8.fnScope_by (by decide +kernel)
abbrev s_kind_rank : Stmt := topS 22
abbrev n_kind_rank : List Str := ["value"]
theorem sc_kind_rank : FnScope n_kind_rank ["value"] (C8.fnScope s_kind_rank) := C8.fnScope_by (by decide +kernel)
abbrev s_is_integer : Stmt := topS 23
abbrev n_is_integer : List Str := ["value"]
theorem sc_is_integer : FnScope n_is_integer ["value"] (C8.fnScope s_is_integer) := C8.fnScope_by (by decide +kernel)
abbrev s_rank : Stmt := topS 24
abbrev n_rank : List Str := ["value", "kind"]
theorem sc_rank : FnScope n_rank ["value"] (C8.fnScope s_rank) := C8.fnScope_by (by decide +kernel)
abbrev s_row_rank : Stmt := topS 25
abbrev n_row_rank : List Str := ["row", "value"]
theorem sc_row_rank : FnScope n_row_rank ["row"] (C8.fnScope s_row_rank) := C8.fnScope_by (by decide +kernel)
abbrev s_same : Stmt := topS 26
abbrev n_same : List Str := ["first", "second"]
theorem sc_same : FnScope n_same ["first", "second"] (C8.fnScope s_same) := C8.fnScope_by (by decide +kernel)
abbrev s_before : Stmt := topS 27
abbrev n_before : List Str := ["first", "second"]
theorem sc_before : FnScope n_before ["first", "second"] (C8.fnScope s_before) := C8.fnScope_by (by decide +kernel)
abbrev s_is_day : Stmt := topS 37
abbrev n_is_day : List Str := ["value"]
theorem sc_is_day : FnScope n_is_day ["value"] (C8.fnScope s_is_day) := C8.fnScope_by (by decide +kernel)
abbrev s__is_leap : Stmt := topS 38
abbrev n__is_leap : List Str := ["year"]
theorem sc__is_leap : FnScope n__is_leap ["year"] (C8.fnScope s__is_leap) := C8.fnScope_by (by decide +kernel)
abbrev s_month_length : Stmt := topS 39
abbrev n_month_length : List Str := ["year", "month"]
theorem sc_month_length : FnScope n_month_length ["year", "month"] (C8.fnScope s_month_length) := C8.fnScope_by (by decide +kernel)
abbrev s_day_of : Stmt := topS 40
abbrev n_day_of : List Str := ["year", "month", "date", "gone", "days", "earlier"]
theorem sc_day_of : FnScope n_day_of ["year", "month", "date"] (C8.fnScope s_day_of) := C8.fnScope_by (by decide +kernel)
abbrev s_date_of : Stmt := topS 41
abbrev n_date_of : List Str := ["day", "cycles", "rest", "centuries", "fours", "years", "year", "month"]
theorem sc_date_of : FnScope n_date_of ["day"] (C8.fnScope s_date_of) := C8.fnScope_by (by decide +kernel)
abbrev s_date_text : Stmt := topS 42
abbrev n_date_text : List Str := ["day", "year", "month", "date"]
theorem sc_date_text : FnScope n_date_text ["day"] (C8.fnScope s_date_text) := C8.fnScope_by (by decide +kernel)
abbrev s_read_date : Stmt := topS 43
abbrev n_read_date : List Str := ["text", "year", "month", "date"]
theorem sc_read_date : FnScope n_read_date ["text"] (C8.fnScope s_read_date) := C8.fnScope_by (by decide +kernel)
abbrev s_negated : Stmt := topS 45
abbrev n_negated : List Str := ["value"]
theorem sc_negated : FnScope n_negated ["value"] (C8.fnScope s_negated) := C8.fnScope_by (by decide +kernel)
abbrev s_both : Stmt := topS 46
abbrev n_both : List Str := ["first", "second"]
theorem sc_both : FnScope n_both ["first", "second"] (C8.fnScope s_both) := C8.fnScope_by (by decide +kernel)
abbrev s_either : Stmt := topS 47
abbrev n_either : List Str := ["first", "second"]
theorem sc_either : FnScope n_either ["first", "second"] (C8.fnScope s_either) := C8.fnScope_by (by decide +kernel)
abbrev s__negate : Stmt := topS 49
abbrev n__negate : List Str := ["number"]
theorem sc__negate : FnScope n__negate ["number"] (C8.fnScope s__negate) := C8.fnScope_by (by decide +kernel)
abbrev s__size : Stmt := topS 50
abbrev n__size : List Str := ["number"]
theorem sc__size : FnScope n__size ["number"] (C8.fnScope s__size) := C8.fnScope_by (by decide +kernel)
abbrev s__sign : Stmt := topS 51
abbrev n__sign : List Str := ["number"]
theorem sc__sign : FnScope n__sign ["number"] (C8.fnScope s__sign) := C8.fnScope_by (by decide +kernel)
abbrev s__value : Stmt := topS 52
abbrev n__value : List Str := ["value"]
theorem sc__value : FnScope n__value ["value"] (C8.fnScope s__value) := C8.fnScope_by (by decide +kernel)
abbrev s__to_decimal : Stmt := topS 53
abbrev n__to_decimal : List Str := ["number"]
theorem sc__to_decimal : FnScope n__to_decimal ["number"] (C8.fnScope s__to_decimal) := C8.fnScope_by (by decide +kernel)
abbrev s__to_integer : Stmt := topS 54
abbrev n__to_integer : List Str := ["number"]
theorem sc__to_integer : FnScope n__to_integer ["number"] (C8.fnScope s__to_integer) := C8.fnScope_by (by decide +kernel)
abbrev s__integer_text : Stmt := topS 55
abbrev n__integer_text : List Str := ["number"]
theorem sc__integer_text : FnScope n__integer_text ["number"] (C8.fnScope s__integer_text) := C8.fnScope_by (by decide +kernel)
abbrev s__decimal_text : Stmt := topS 56
abbrev n__decimal_text : List Str := ["number"]
theorem sc__decimal_text : FnScope n__decimal_text ["number"] (C8.fnScope s__decimal_text) := C8.fnScope_by (by decide +kernel)
abbrev s__lower : Stmt := topS 57
abbrev n__lower : List Str := ["text"]
theorem sc__lower : FnScope n__lower ["text"] (C8.fnScope s__lower) := C8.fnScope_by (by decide +kernel)
abbrev s__upper : Stmt := topS 58
abbrev n__upper : List Str := ["text"]
theorem sc__upper : FnScope n__upper ["text"] (C8.fnScope s__upper) := C8.fnScope_by (by decide +kernel)
abbrev s__length : Stmt := topS 59
abbrev n__length : List Str := ["text"]
theorem sc__length : FnScope n__length ["text"] (C8.fnScope s__length) := C8.fnScope_by (by decide +kernel)
abbrev s__trim : Stmt := topS 60
abbrev n__trim : List Str := ["text"]
theorem sc__trim : FnScope n__trim ["text"] (C8.fnScope s__trim) := C8.fnScope_by (by decide +kernel)
abbrev s__read_integer : Stmt := topS 61
abbrev n__read_integer : List Str := ["text"]
theorem sc__read_integer : FnScope n__read_integer ["text"] (C8.fnScope s__read_integer) := C8.fnScope_by (by decide +kernel)
abbrev s__read_decimal : Stmt := topS 62
abbrev n__read_decimal : List Str := ["text"]
theorem sc__read_decimal : FnScope n__read_decimal ["text"] (C8.fnScope s__read_decimal) := C8.fnScope_by (by decide +kernel)
abbrev s__read_date : Stmt := topS 63
abbrev n__read_date : List Str := ["text"]
theorem sc__read_date : FnScope n__read_date ["text"] (C8.fnScope s__read_date) := C8.fnScope_by (by decide +kernel)
abbrev s__year : Stmt := topS 64
abbrev n__year : List Str := ["day"]
theorem sc__year : FnScope n__year ["day"] (C8.fnScope s__year) := C8.fnScope_by (by decide +kernel)
abbrev s__month : Stmt := topS 65
abbrev n__month : List Str := ["day"]
theorem sc__month : FnScope n__month ["day"] (C8.fnScope s__month) := C8.fnScope_by (by decide +kernel)
abbrev s__date : Stmt := topS 66
abbrev n__date : List Str := ["day"]
theorem sc__date : FnScope n__date ["day"] (C8.fnScope s__date) := C8.fnScope_by (by decide +kernel)
abbrev s__weekday : Stmt := topS 67
abbrev n__weekday : List Str := ["day"]
theorem sc__weekday : FnScope n__weekday ["day"] (C8.fnScope s__weekday) := C8.fnScope_by (by decide +kernel)
abbrev s__month_start : Stmt := topS 68
abbrev n__month_start : List Str := ["day", "year", "month", "_"]
theorem sc__month_start : FnScope n__month_start ["day"] (C8.fnScope s__month_start) := C8.fnScope_by (by decide +kernel)
abbrev s__year_start : Stmt := topS 69
abbrev n__year_start : List Str := ["day"]
theorem sc__year_start : FnScope n__year_start ["day"] (C8.fnScope s__year_start) := C8.fnScope_by (by decide +kernel)
abbrev s__week_start : Stmt := topS 70
abbrev n__week_start : List Str := ["day"]
theorem sc__week_start : FnScope n__week_start ["day"] (C8.fnScope s__week_start) := C8.fnScope_by (by decide +kernel)
abbrev s__date_text : Stmt := topS 71
abbrev n__date_text : List Str := ["day"]
theorem sc__date_text : FnScope n__date_text ["day"] (C8.fnScope s__date_text) := C8.fnScope_by (by decide +kernel)
abbrev s_value_of_one : Stmt := topS 75
abbrev n_value_of_one : List Str := ["name", "value", "action"]
theorem sc_value_of_one : FnScope n_value_of_one ["name", "value"] (C8.fnScope s_value_of_one) := C8.fnScope_by (by decide +kernel)
abbrev s__part : Stmt := topS 77
abbrev n__part : List Str := ["text", "start", "count", "first", "behind"]
theorem sc__part : FnScope n__part ["text", "start", "count"] (C8.fnScope s__part) := C8.fnScope_by (by decide +kernel)
abbrev s__split : Stmt := topS 78
abbrev n__split : List Str := ["text", "separator", "number", "found"]
theorem sc__split : FnScope n__split ["text", "separator", "number"] (C8.fnScope s__split) := C8.fnScope_by (by decide +kernel)
abbrev s__replace : Stmt := topS 79
abbrev n__replace : List Str := ["text", "old", "new", "found", "length", "piece"]
theorem sc__replace : FnScope n__replace ["text", "old", "new"] (C8.fnScope s__replace) := C8.fnScope_by (by decide +kernel)
abbrev s__pad : Stmt := topS 80
abbrev n__pad : List Str := ["text", "sign", "length"]
theorem sc__pad : FnScope n__pad ["text", "sign", "length"] (C8.fnScope s__pad) := C8.fnScope_by (by decide +kernel)
abbrev s_value_of_three : Stmt := topS 82
abbrev n_value_of_three : List Str := ["name", "first", "second", "third", "action"]
theorem sc_value_of_three : FnScope n_value_of_three ["name", "first", "second", "third"] (C8.fnScope s_value_of_three) := C8.fnScope_by (by decide +kernel)
abbrev s__both : Stmt := topS 84
abbrev n__both : List Str := ["first", "second"]
theorem sc__both : FnScope n__both ["first", "second"] (C8.fnScope s__both) := C8.fnScope_by (by decide +kernel)
abbrev s__either : Stmt := topS 85
abbrev n__either : List Str := ["first", "second"]
theorem sc__either : FnScope n__either ["first", "second"] (C8.fnScope s__either) := C8.fnScope_by (by decide +kernel)
abbrev s__same : Stmt := topS 86
abbrev n__same : List Str := ["first", "second"]
theorem sc__same : FnScope n__same ["first", "second"] (C8.fnScope s__same) := C8.fnScope_by (by decide +kernel)
abbrev s__first_known : Stmt := topS 87
abbrev n__first_known : List Str := ["first", "second"]
theorem sc__first_known : FnScope n__first_known ["first", "second"] (C8.fnScope s__first_known) := C8.fnScope_by (by decide +kernel)
abbrev s__equal : Stmt := topS 88
abbrev n__equal : List Str := ["first", "second"]
theorem sc__equal : FnScope n__equal ["first", "second"] (C8.fnScope s__equal) := C8.fnScope_by (by decide +kernel)
abbrev s__less : Stmt := topS 89
abbrev n__less : List Str := ["first", "second"]
theorem sc__less : FnScope n__less ["first", "second"] (C8.fnScope s__less) := C8.fnScope_by (by decide +kernel)
abbrev s__at_most : Stmt := topS 90
abbrev n__at_most : List Str := ["first", "second"]
theorem sc__at_most : FnScope n__at_most ["first", "second"] (C8.fnScope s__at_most) := C8.fnScope_by (by decide +kernel)
abbrev s__least : Stmt := topS 91
abbrev n__least : List Str := ["first", "second"]
theorem sc__least : FnScope n__least ["first", "second"] (C8.fnScope s__least) := C8.fnScope_by (by decide +kernel)
abbrev s__greatest : Stmt := topS 92
abbrev n__greatest : List Str := ["first", "second"]
theorem sc__greatest : FnScope n__greatest ["first", "second"] (C8.fnScope s__greatest) := C8.fnScope_by (by decide +kernel)
abbrev s__add : Stmt := topS 93
abbrev n__add : List Str := ["first", "second"]
theorem sc__add : FnScope n__add ["first", "second"] (C8.fnScope s__add) := C8.fnScope_by (by decide +kernel)
abbrev s__subtract : Stmt := topS 94
abbrev n__subtract : List Str := ["first", "second"]
theorem sc__subtract : FnScope n__subtract ["first", "second"] (C8.fnScope s__subtract) := C8.fnScope_by (by decide +kernel)
abbrev s__multiply : Stmt := topS 95
abbrev n__multiply : List Str := ["first", "second"]
theorem sc__multiply : FnScope n__multiply ["first", "second"] (C8.fnScope s__multiply) := C8.fnScope_by (by decide +kernel)
abbrev s__divide : Stmt := topS 96
abbrev n__divide : List Str := ["first", "second"]
theorem sc__divide : FnScope n__divide ["first", "second"] (C8.fnScope s__divide) := C8.fnScope_by (by decide +kernel)
abbrev s__rest : Stmt := topS 97
abbrev n__rest : List Str := ["first", "second"]
theorem sc__rest : FnScope n__rest ["first", "second"] (C8.fnScope s__rest) := C8.fnScope_by (by decide +kernel)
abbrev s__multiply_decimals : Stmt := topS 98
abbrev n__multiply_decimals : List Str := ["first", "second"]
theorem sc__multiply_decimals : FnScope n__multiply_decimals ["first", "second"] (C8.fnScope s__multiply_decimals) := C8.fnScope_by (by decide +kernel)
abbrev s__divide_decimals : Stmt := topS 99
abbrev n__divide_decimals : List Str := ["first", "second"]
theorem sc__divide_decimals : FnScope n__divide_decimals ["first", "second"] (C8.fnScope s__divide_decimals) := C8.fnScope_by (by decide +kernel)
abbrev s__join : Stmt := topS 100
abbrev n__join : List Str := ["first", "second"]
theorem sc__join : FnScope n__join ["first", "second"] (C8.fnScope s__join) := C8.fnScope_by (by decide +kernel)
abbrev s__like : Stmt := topS 101
abbrev n__like : List Str := ["first", "second"]
theorem sc__like : FnScope n__like ["first", "second"] (C8.fnScope s__like) := C8.fnScope_by (by decide +kernel)
abbrev s__position : Stmt := topS 102
abbrev n__position : List Str := ["first", "second"]
theorem sc__position : FnScope n__position ["first", "second"] (C8.fnScope s__position) := C8.fnScope_by (by decide +kernel)
abbrev s__add_days : Stmt := topS 103
abbrev n__add_days : List Str := ["day", "many", "later"]
theorem sc__add_days : FnScope n__add_days ["day", "many"] (C8.fnScope s__add_days) := C8.fnScope_by (by decide +kernel)
abbrev s__add_months : Stmt := topS 104
abbrev n__add_months : List Str := ["day", "many", "year", "month", "date", "years", "before_it"]
theorem sc__add_months : FnScope n__add_months ["day", "many"] (C8.fnScope s__add_months) := C8.fnScope_by (by decide +kernel)
abbrev s__are_alike : Stmt := topS 110
abbrev n__are_alike : List Str := ["first", "second"]
theorem sc__are_alike : FnScope n__are_alike ["first", "second"] (C8.fnScope s__are_alike) := C8.fnScope_by (by decide +kernel)
abbrev s_value_of_two : Stmt := topS 111
abbrev n_value_of_two : List Str := ["name", "first", "second", "action"]
theorem sc_value_of_two : FnScope n_value_of_two ["name", "first", "second"] (C8.fnScope s_value_of_two) := C8.fnScope_by (by decide +kernel)
abbrev s_unary : Stmt := topS 113
abbrev n_unary : List Str := ["name", "value"]
theorem sc_unary : FnScope n_unary ["name", "value"] (C8.fnScope s_unary) := C8.fnScope_by (by decide +kernel)
abbrev s_binary : Stmt := topS 114
abbrev n_binary : List Str := ["name", "first", "second"]
theorem sc_binary : FnScope n_binary ["name", "first", "second"] (C8.fnScope s_binary) := C8.fnScope_by (by decide +kernel)
abbrev s_ternary : Stmt := topS 115
abbrev n_ternary : List Str := ["name", "first", "second", "third"]
theorem sc_ternary : FnScope n_ternary ["name", "first", "second", "third"] (C8.fnScope s_ternary) := C8.fnScope_by (by decide +kernel)
abbrev s_evaluate : Stmt := topS 117
abbrev n_evaluate : List Str := ["expression", "row", "form", "number", "chosen", "first", "second", "third"]
theorem sc_evaluate : FnScope n_evaluate ["expression", "row"] (C8.fnScope s_evaluate) := C8.fnScope_by (by decide +kernel)
abbrev s_evaluate_all : Stmt := topS 118
abbrev n_evaluate_all : List Str := ["expressions", "row", "expression"]
theorem sc_evaluate_all : FnScope n_evaluate_all ["expressions", "row"] (C8.fnScope s_evaluate_all) := C8.fnScope_by (by decide +kernel)
abbrev s__text_hash : Stmt := topS 130
abbrev n__text_hash : List Str := ["text", "number", "sign"]
theorem sc__text_hash : FnScope n__text_hash ["text"] (C8.fnScope s__text_hash) := C8.fnScope_by (by decide +kernel)
abbrev s__value_hash : Stmt := topS 131
abbrev n__value_hash : List Str := ["value"]
theorem sc__value_hash : FnScope n__value_hash ["value"] (C8.fnScope s__value_hash) := C8.fnScope_by (by decide +kernel)
abbrev s_hash_of : Stmt := topS 132
abbrev n_hash_of : List Str := ["values", "number", "value"]
theorem sc_hash_of : FnScope n_hash_of ["values"] (C8.fnScope s_hash_of) := C8.fnScope_by (by decide +kernel)
abbrev s_part_of : Stmt := topS 133
abbrev n_part_of : List Str := ["number", "time"]
theorem sc_part_of : FnScope n_part_of ["number", "time"] (C8.fnScope s_part_of) := C8.fnScope_by (by decide +kernel)
abbrev s_sort_written : Stmt := topS 135
abbrev n_sort_written : List Str := ["rows", "memory"]
theorem sc_sort_written : FnScope n_sort_written ["rows", "memory"] (C8.fnScope s_sort_written) := C8.fnScope_by (by decide +kernel)
abbrev s__held_and_parts : Stmt := topS 137
abbrev n__held_and_parts : List Str := ["pairs", "time", "memory", "hashed", "held", "kept", "parts", "values", "row", "key", "_"]
theorem sc__held_and_parts : FnScope n__held_and_parts ["pairs", "time", "memory", "hashed"] (C8.fnScope s__held_and_parts) := C8.fnScope_by (by decide +kernel)
abbrev s__divided : Stmt := topS 138
abbrev n__divided : List Str := ["pairs", "memory", "hashed", "found", "written", "waiting", "part", "time", "kept", "parts", "_", "row", "rest"]
theorem sc__divided : FnScope n__divided ["pairs", "memory", "hashed"] (C8.fnScope s__divided) := C8.fnScope_by (by decide +kernel)
abbrev s__with_keys : Stmt := topS 139
abbrev n__with_keys : List Str := ["keys", "rows", "row"]
theorem sc__with_keys : FnScope n__with_keys ["keys", "rows"] (C8.fnScope s__with_keys) := C8.fnScope_by (by decide +kernel)
abbrev s__with_themselves : Stmt := topS 140
abbrev n__with_themselves : List Str := ["rows", "row"]
theorem sc__with_themselves : FnScope n__with_themselves ["rows"] (C8.fnScope s__with_themselves) := C8.fnScope_by (by decide +kernel)
abbrev s_group_written : Stmt := topS 141
abbrev n_group_written : List Str := ["way", "keys", "rows", "memory", "hashed", "_", "written"]
theorem sc_group_written : FnScope n_group_written ["way", "keys", "rows", "memory", "hashed"] (C8.fnScope s_group_written) := C8.fnScope_by (by decide +kernel)
abbrev s_distinct_written : Stmt := topS 142
abbrev n_distinct_written : List Str := ["way", "rows", "memory", "hashed", "_", "written"]
theorem sc_distinct_written : FnScope n_distinct_written ["way", "rows", "memory", "hashed"] (C8.fnScope s_distinct_written) := C8.fnScope_by (by decide +kernel)
abbrev s__law_cell : Stmt := topS 144
abbrev n__law_cell : List Str := ["script", "k"]
theorem sc__law_cell : FnScope n__law_cell ["script", "k"] (C8.fnScope s__law_cell) := C8.fnScope_by (by decide +kernel)
abbrev s__law_state : Stmt := topS 145
abbrev n__law_state : List Str := ["cell", "k", "prime", "first", "second", "third", "fourth"]
theorem sc__law_state : FnScope n__law_state ["cell", "k"] (C8.fnScope s__law_state) := C8.fnScope_by (by decide +kernel)
abbrev s__law_digit : Stmt := topS 146
abbrev n__law_digit : List Str := ["state", "many", "digit"]
theorem sc__law_digit : FnScope n__law_digit ["state", "many"] (C8.fnScope s__law_digit) := C8.fnScope_by (by decide +kernel)
abbrev s__law_is_integer : Stmt := topS 147
abbrev n__law_is_integer : List Str := ["told"]
theorem sc__law_is_integer : FnScope n__law_is_integer ["told"] (C8.fnScope s__law_is_integer) := C8.fnScope_by (by decide +kernel)
abbrev s__law_rank : Stmt := topS 148
abbrev n__law_rank : List Str := ["value"]
theorem sc__law_rank : FnScope n__law_rank ["value"] (C8.fnScope s__law_rank) := C8.fnScope_by (by decide +kernel)
abbrev s__law_ranks : Stmt := topS 149
abbrev n__law_ranks : List Str := ["row", "value"]
theorem sc__law_ranks : FnScope n__law_ranks ["row"] (C8.fnScope s__law_ranks) := C8.fnScope_by (by decide +kernel)
abbrev s__law_text : Stmt := topS 150
abbrev n__law_text : List Str := ["state", "signs", "k"]
theorem sc__law_text : FnScope n__law_text ["state"] (C8.fnScope s__law_text) := C8.fnScope_by (by decide +kernel)
abbrev s__law_value : Stmt := topS 151
abbrev n__law_value : List Str := ["state", "kind"]
theorem sc__law_value : FnScope n__law_value ["state"] (C8.fnScope s__law_value) := C8.fnScope_by (by decide +kernel)
abbrev s__law_rows : Stmt := topS 152
abbrev n__law_rows : List Str := ["script", "first", "most", "width", "rows", "k", "state", "row", "j"]
theorem sc__law_rows : FnScope n__law_rows ["script", "first", "most", "width"] (C8.fnScope s__law_rows) := C8.fnScope_by (by decide +kernel)
abbrev s__law_zero : Stmt := topS 153
abbrev n__law_zero : List Str := ["values"]
theorem sc__law_zero : FnScope n__law_zero ["values"] (C8.fnScope s__law_zero) := C8.fnScope_by (by decide +kernel)
abbrev s__law_by_size : Stmt := topS 154
abbrev n__law_by_size : List Str := ["values", "value"]
theorem sc__law_by_size : FnScope n__law_by_size ["values"] (C8.fnScope s__law_by_size) := C8.fnScope_by (by decide +kernel)
abbrev s__law_spread : Stmt := topS 155
abbrev n__law_spread : List Str := ["values", "total", "value"]
theorem sc__law_spread : FnScope n__law_spread ["values"] (C8.fnScope s__law_spread) := C8.fnScope_by (by decide +kernel)
abbrev s__law_hash : Stmt := topS 156
abbrev n__law_hash : List Str := ["kind"]
theorem sc__law_hash : FnScope n__law_hash ["kind"] (C8.fnScope s__law_hash) := C8.fnScope_by (by decide +kernel)
abbrev s__law_worths : Stmt := topS 157
abbrev n__law_worths : List Str := ["state", "names", "worths", "k", "name", "expression"]
theorem sc__law_worths : FnScope n__law_worths ["state"] (C8.fnScope s__law_worths) := C8.fnScope_by (by decide +kernel)
abbrev s__law_key_list : Stmt := topS 158
abbrev n__law_key_list : List Str := ["state", "keys", "k"]
theorem sc__law_key_list : FnScope n__law_key_list ["state"] (C8.fnScope s__law_key_list) := C8.fnScope_by (by decide +kernel)
abbrev s__law_written : Stmt := topS 159
abbrev n__law_written : List Str := ["keys", "rows", "time", "memory", "hashed", "held", "rest", "row", "found", "rank_v", "parts", "total", "part", "k", "key"]
theorem sc__law_written : FnScope n__law_written ["keys", "rows", "time", "memory", "hashed"] (C8.fnScope s__law_written) := C8.fnScope_by (by decide +kernel)
abbrev s_law : Stmt := topS 160
abbrev n_law : List Str := ["script", "rows", "k", "state", "keys", "memory", "hashed", "sort", "due", "told"]
theorem sc_law : FnScope n_law ["script"] (C8.fnScope s_law) := C8.fnScope_by (by decide +kernel)
/-! ### a list that is drawn from: its one object may change -/
def wo (p : Addr) (H : Hp) : Hp := fun a => if a = p then none else H a
theorem wo_self (p : Addr) (H : Hp) : wo p H p = none := if_pos rfl
theorem wo_ne {p a : Addr} {H : Hp} (h : a ≠ p) : wo p H a = H a := if_neg h
theorem wo_le (p : Addr) (H : Hp) : Ex (wo p H) H := fun a o h => by
  unfold wo at h
  split at h
  · cases h
  · exact h
theorem wx_of {p : Addr} {H H' : Hp} (e : Ex H H') : Ex (wo p H) H' := (wo_le p H).trans e
theorem wx_trans {p : Addr} {H1 H2 H3 : Hp} (a : Ex (wo p H1) H2) (b : Ex (wo p H2) H3) : Ex (wo p H1) H3 := fun x o h => b x o (by
  have hx : x ≠ p := fun z => by
    rw [z, wo_self] at h
    cases h
  rw [wo_ne hx]
  exact a x o h)
theorem wx_back {p : Addr} {H0 H1 H2 : Hp} (h : H0 p = none) (e : Ex H0 H1) (x : Ex (wo p H1) H2) : Ex H0 H2 := fun a o ha => x a o (by
  have hx : a ≠ p := fun z => by
    rw [z, h] at ha
    cases ha
  rw [wo_ne hx]
  exact e a o ha)
theorem wx_to {p : Addr} {H0 H1 : Hp} (h : H0 p = none) (e : Ex H0 H1) : Ex H0 (wo p H1) := wx_back h e (fun _ _ z => z)
theorem wx_mut {p : Addr} {H1 H2 : Hp} {o : HO} (e : Ex (wo p H1) H2) : Ex (wo p H1) (upd H2 p o) := Ex.mut e (wo_self p H1)
def Dr (p : Addr) (H : Hp) : Prop := ∃ s : Int, 0 ≤ s ∧ H p = some (.lst [.int s])
theorem Dr.ex {p : Addr} {H H' : Hp} (d : Dr p H) (e : Ex H H') : Dr p H' := by
  obtain ⟨s, h0, h⟩ := d
  exact ⟨s, h0, e _ _ h⟩
/-- a value that is drawn: one of those with the word P -/
def EvD1 (te : TE) (σ : L2.St) (p : Addr) (H : Hp) (P : V → Prop) : Prop := ∀ H1, Ex (wo p H) H1 → Dr p H1 → ∀ Q : VK, (∀ v H2, P v → Ex (wo p H1) H2 → Dr p H2 → Q v H2) → te σ H1 Q
def EvDT (tt : TT) (σ : L2.St) (p : Addr) (H : Hp) (P : Bool → Prop) : Prop := ∀ H1, Ex (wo p H) H1 → Dr p H1 → ∀ Q : Bool → Hp → Prop, (∀ b H2, P b → Ex (wo p H1) H2 → Dr p H2 → Q b H2) → tt σ H1 Q
def ZP (P : Int → Prop) : V → Prop := fun v => ∃ i, v = .int i ∧ P i
/-- a value of which a word alone is known, all else as it was -/
def EvN (te : TE) (σ : L2.St) (H : Hp) (P : V → Prop) : Prop := ∀ H1, Ex H H1 → ∀ Q : VK, (∀ v H2, P v → Ex H1 H2 → Q v H2) → te σ H1 Q
/-- a new list to draw from -/
def EvC (te : TE) (σ : L2.St) (H : Hp) : Prop := ∀ H1, Ex H H1 → ∀ Q : VK, (∀ p H2, H1 p = none → Ex H1 H2 → Dr p H2 → Q (.ref p) H2) → te σ H1 Q
def sp__law_cell (K : PySem.W.Frag) : Sp := fun vs H Q _ => ∃ (a : Addr) (ns : List Int) (k : Int), vs = [.ref a, .int k] ∧ SqL K H a (ns.map V.int) ∧ 0 ≤ k ∧ ∀ H', Ex H H' → Q (.int (ns.getD k.toNat 0)) H'
def sp__law_state (K : PySem.W.Frag) : Sp := fun vs H Q _ => ∃ c k : Int, vs = [.int c, .int k] ∧ ∀ p H', H p = none → Ex H H' → Dr p H' → Q (.ref p) H'
def sp__law_digit (K : PySem.W.Frag) : Sp := fun vs H Q _ => ∃ (p : Addr) (m : Int), vs = [.ref p, .int m] ∧ Dr p H ∧ 0 < m ∧ m < 2 ^ 400 ∧ ∀ d H', 0 ≤ d → d < m → Ex (wo p H) H' → Dr p H' → Q (.int d) H'
section
variable {K : PySem.W.Frag} {σ : L2.St} {H H' : Hp} {p : Addr} {ta tb te tx : TE} {t u : TT} {x y z v : V} {r : R2} {P R S : V → Prop} {PI RI SI : Int → Prop} {D : Ends} {tz tu tw : TS} {E : XK}
theorem e1_pure (h : Ev te σ (wo p H) v) (hv : P v) : EvD1 te σ p H P := fun H1 e d Q q => h H1 e Q fun H2 e2 => q v H2 hv (wx_of e2) (d.ex e2)
theorem e1_int {i : Int} (h : Ev te σ (wo p H) (.int i)) (hv : PI i) : EvD1 te σ p H (ZP PI) := e1_pure h ⟨i, rfl, hv⟩
theorem e1_mono (h : EvD1 te σ p H P) (k : ∀ v, P v → R v) : EvD1 te σ p H R := fun H1 e d Q q => h H1 e d Q fun v H2 hv e2 d2 => q v H2 (k v hv) e2 d2
theorem ez_mono (h : EvD1 te σ p H (ZP PI)) (k : ∀ i, PI i → RI i) : EvD1 te σ p H (ZP RI) := e1_mono h fun v ⟨i, e, hi⟩ => ⟨i, e, k i hi⟩
theorem ez_op {C : Int → Int → Prop} {g : Int → Int → Int} (ha : EvD1 ta σ p H (ZP PI)) (hb : EvD1 tb σ p H (ZP RI)) (hc : ∀ i j, PI i → RI j → C i j ∧ SI (g i j)) : EvD1 (tOp (rI C fun i j => .int (g i j)) ta tb) σ p H (ZP SI) := fun H1 e d Q q =>
  ha H1 e d _ fun v H2 ⟨i, ev, hi⟩ e2 d2 => hb H2 (wx_trans e e2) d2 _ fun w H3 ⟨j, ew, hj⟩ e3 d3 => ⟨i, j, ev, ew, (hc i j hi hj).1, q _ H3 ⟨_, rfl, (hc i j hi hj).2⟩ (wx_trans e2 e3) d3⟩
theorem ez_op0 {g : Int → Int → Int} (ha : EvD1 ta σ p H (ZP PI)) (hb : EvD1 tb σ p H (ZP RI)) (hc : ∀ i j, PI i → RI j → SI (g i j)) : EvD1 (tOp (rI0 fun i j => .int (g i j)) ta tb) σ p H (ZP SI) := fun H1 e d Q q =>
  ha H1 e d _ fun v H2 ⟨i, ev, hi⟩ e2 d2 => hb H2 (wx_trans e e2) d2 _ fun w H3 ⟨j, ew, hj⟩ e3 d3 => ⟨i, j, ev, ew, q _ H3 ⟨_, rfl, hc i j hi hj⟩ (wx_trans e2 e3) d3⟩
theorem ez_cmp {g : Int → Int → Bool} (ha : EvD1 ta σ p H (ZP PI)) (hb : EvD1 tb σ p H (ZP RI)) : EvD1 (tOp (rI0 fun i j => .bl (g i j)) ta tb) σ p H (fun v => ∃ b, v = .bl b) := fun H1 e d Q q =>
  ha H1 e d _ fun v H2 ⟨i, ev, hi⟩ e2 d2 => hb H2 (wx_trans e e2) d2 _ fun w H3 ⟨j, ew, hj⟩ e3 d3 => ⟨i, j, ev, ew, q _ H3 ⟨_, rfl⟩ (wx_trans e2 e3) d3⟩
theorem ez_eq (ha : EvD1 ta σ p H (ZP PI)) (hb : EvD1 tb σ p H (ZP RI)) : EvD1 (tOp rEq ta tb) σ p H (fun v => ∃ b, v = .bl b) := fun H1 e d Q q =>
  ha H1 e d _ fun v H2 ⟨i, ev, hi⟩ e2 d2 => hb H2 (wx_trans e e2) d2 _ fun w H3 ⟨j, ew, hj⟩ e3 d3 => by
    subst ev ew
    exact ⟨rfl, q _ H3 ⟨_, rfl⟩ (wx_trans e2 e3) d3⟩
theorem ez_int (h : EvD1 ta σ p H (ZP PI)) : EvD1 (tCB (fun xs H Q => (∃ i, xs = [.int i] ∧ Q (.int i) H) ∨ ∃ k, xs = [.bl k] ∧ Q (.int (if k then 1 else 0)) H) (tCons ta tNil)) σ p H (ZP PI) :=
  fun H1 e d Q q => h H1 e d _ fun v H2 ⟨i, ev, hi⟩ e2 d2 => .inl ⟨i, by rw [ev], q _ H2 ⟨i, rfl, hi⟩ e2 d2⟩
/-- _law_digit(state, m) -/
theorem ez_digit {m : Int} (ha : Ev ta σ (wo p H) (.ref p)) (hb : Ev tb σ (wo p H) (.int m)) (h0 : 0 < m) (h1 : m < 2 ^ 400) : EvD1 (tCall (sp__law_digit K) [] E (tCons ta (tCons tb tNil))) σ p H (ZP fun d => 0 ≤ d ∧ d < m) := fun H1 e d Q q =>
  ha H1 e _ fun H2 e2 => hb H2 (e.trans e2) _ fun H3 e3 => ⟨p, m, rfl, d.ex (e2.trans e3), h0, h1, fun d H4 a b e4 d4 => q _ H4 ⟨d, rfl, a, b⟩ (wx_trans (wx_of (e2.trans e3)) e4) d4⟩
theorem edt_test (h : EvD1 te σ p H (fun v => ∃ b, v = .bl b)) : EvDT (tTest te) σ p H (fun _ => True) := fun H1 e d Q q => h H1 e d _ fun v H2 ⟨b, ev⟩ e2 d2 => ⟨b, ev, q b H2 trivial e2 d2⟩
theorem q1_asg {i : Nat} (h : EvD1 te σ p H P) (d : Dr p H) (k : ∀ v H1, P v → Ex (wo p H) H1 → Dr p H1 → tz D (σ.set i (some v)) H1) : tSeq (tAsg te (gName i)) tz D σ H := h H (wo_le p H) d _ fun v H1 hv e1 d1 => k v H1 hv e1 d1
theorem qz_asg {i : Nat} (h : EvD1 te σ p H (ZP PI)) (d : Dr p H) (k : ∀ (n : Int) H1, PI n → Ex (wo p H) H1 → Dr p H1 → tz D (σ.set i (some (.int n))) H1) : tSeq (tAsg te (gName i)) tz D σ H := q1_asg h d fun v H1 ⟨n, ev, hn⟩ e1 d1 => by
  subst ev
  exact k n H1 hn e1 d1
theorem s1_ret (h : EvD1 te σ p H P) (d : Dr p H) (k : ∀ v H1, P v → Ex (wo p H) H1 → Dr p H1 → D.rt v H1) : tRet te D σ H := h H (wo_le p H) d _ fun v H1 hv e1 d1 => k v H1 hv e1 d1
theorem q1_when (h : EvDT t σ p H (fun _ => True)) (d : Dr p H) (h1 : ∀ H1, Ex (wo p H) H1 → Dr p H1 → tu { D with nx := tz D } σ H1) (h2 : ∀ H1, Ex (wo p H) H1 → Dr p H1 → tz D σ H1) : tSeq (tIfS t tu tNext) tz D σ H := h H (wo_le p H) d _ fun b H1 _ e1 d1 => by
  cases b with
  | true =>
    show tu { D with nx := tz D } σ H1
    exact h1 H1 e1 d1
  | false =>
    show tz D σ H1
    exact h2 H1 e1 d1
/-- _law_cell(script, i), _law_state(cell, k) -/
theorem ec_cell {a : Addr} {ns : List Int} {k : Int} (ha : Ev ta σ H (.ref a)) (hb : Ev tb σ H (.int k)) (hS : SqL K H a (ns.map V.int)) (h0 : 0 ≤ k) : Ev (tCall (sp__law_cell K) [] E (tCons ta (tCons tb tNil))) σ H (.int (ns.getD k.toNat 0)) :=
  ev_call (ea_cons ha (ea_cons hb ea_nil)) fun H1 e Q q E => ⟨a, ns, k, rfl, ex_l e hS, h0, q⟩
theorem ec_state {c k : Int} (ha : Ev ta σ H (.int c)) (hb : Ev tb σ H (.int k)) : EvC (tCall (sp__law_state K) [] E (tCons ta (tCons tb tNil))) σ H := fun H1 e Q q =>
  ha H1 e _ fun H2 e2 => hb H2 (e.trans e2) _ fun H3 e3 => ⟨c, k, rfl, fun p H4 hp e4 d => q p H4 (fresh_back (e2.trans e3) hp) ((e2.trans e3).trans e4) d⟩
theorem q_asgC {i : Nat} (h : EvC te σ H) (k : ∀ p H1, H p = none → Ex H H1 → Dr p H1 → tz D (σ.set i (some (.ref p))) H1) : tSeq (tAsg te (gName i)) tz D σ H := h H (Ex.refl H) _ fun p H1 hp e d => k p H1 hp e d
theorem EvN.mono (e : Ex H H') (h : EvN te σ H P) : EvN te σ H' P := fun H1 a Q q => h H1 (e.trans a) Q q
theorem q_asgN {i : Nat} (h : EvN te σ H P) (k : ∀ v H1, P v → Ex H H1 → tz D (σ.set i (some v)) H1) : tSeq (tAsg te (gName i)) tz D σ H := h H (Ex.refl H) _ fun v H1 hv e => k v H1 hv e
theorem s_appN {l : Addr} {xs : List V} (hl : H l = some (.lst xs)) (ha : Ev ta σ H (.ref l)) (h : EvN te σ H P) (hz : xs.length < 100000) (k : ∀ v H1, P v → Ex H H1 → D.nx σ (upd H1 l (.lst (xs ++ [v])))) :
    tDrop (tBM K "list" rAppend ta (tCons te tNil)) D σ H := ha H (Ex.refl H) _ fun H1 e1 =>
  ⟨Or.inl ⟨rfl, xs, sq_of (e1 l _ hl)⟩, h H1 e1 _ fun v H2 hv e2 => ⟨l, xs, v, rfl, rfl, e2 l _ (e1 l _ hl), sz_lt hz, k v H2 hv (e1.trans e2)⟩⟩
end
section
variable {P : Program} {w : World} {K : PySem.W.Frag} {mg : Str → Option Value} {base : Heap}
theorem ok__law_cell (D : Dn K mg "_law_cell" s__law_cell ["script", "k"]) (z_len : mg "len" = none) :
    C8.Cal P w K mg base 1 "_law_cell" (sp__law_cell K) [] := by
  refine cal_of D sc__law_cell (fun vs H Q E h => ?_) (fun f cdv A outer s H vs Q E hr h => ?_)
  · obtain ⟨_, _, _, rfl, _⟩ := h
    rfl
  refine ⟨_, (pss_cons (ps_if (pt_cmpR op_lt (pv 1) (pe_callB call_len_seq (by rfl) z_len PySem.boot_len (pa_cons (pv 0) pa_nil)) (nomark _))
      (pss_one (ps_ret (pe_ix ix_list (pv 0) (pv 1) (fun _ _ => rfl))))
      pss_nil)
    (pss_one (ps_ret pe_int))), ?_⟩
  obtain ⟨a, ns, k, rfl, hS, h0, q⟩ := h
  refine q_when (b := decide (k < (((ns.map V.int).length : Nat) : Int))) (et_test (ev_op (ev_var rfl) (ev_len (ev_var rfl) hS) rv_I0)) (fun hb H1 e1 => ?_) fun hb H1 e1 => ?_
  · have hk : k.toNat < ns.length := by
      have := of_decide_eq_true hb
      rw [List.length_map] at this
      omega
    refine s_ret (v := .int (ns.getD k.toNat 0)) (ev_op (ev_var rfl) (ev_var rfl) (rv_ixL (ex_l e1 hS) ?_)) fun H2 e2 => q _ (e1.trans e2)
    obtain ⟨j, rfl⟩ := Int.eq_ofNat_of_zero_le h0
    rw [Int.toNat_natCast] at hk ⊢
    exact atI_nat (by rw [List.getElem?_map, List.getElem?_eq_getElem hk, List.getD_eq_getElem?_getD, List.getElem?_eq_getElem hk]; rfl)
  · have hk : ns.length ≤ k.toNat := by
      have := of_decide_eq_false hb
      rw [List.length_map] at this
      omega
    refine s_ret (v := .int (ns.getD k.toNat 0)) (ev_is ev_c ?_) fun H2 e2 => q _ (e1.trans e2)
    rw [List.getD_eq_getElem?_getD, List.getElem?_eq_none hk]
    rfl
theorem ok__law_state (D : Dn K mg "_law_state" s__law_state ["cell", "k"]) (z_int : mg "int" = none) :
    C8.Cal P w K mg base 1 "_law_state" (sp__law_state K) [] := by
  refine cal_of D sc__law_state (fun vs H Q E h => ?_) (fun f cdv A outer s H vs Q E hr h => ?_)
  · obtain ⟨_, _, rfl, _⟩ := h
    rfl
  refine ⟨_, (pss_cons (ps_if (pt_cmpR op_ge (pv 0) pe_int (nomark _))
      (pss_one (ps_ret (pe_lst (pa_cons (pv 0) pa_nil))))
      pss_nil)
    (pss_cons (ps_set (i := 2) sc__law_state.nd rfl (.inl rfl) pe_int)
    (pss_cons (ps_set (i := 3) sc__law_state.nd rfl (.inl rfl) (pe_op op_mod (pe_callTy call_int1 (by rfl) z_int (by decide +kernel) (pa_cons (pe_op op_add (pe_op op_add (pe_op op_mul (pv 0) pe_int) (pe_op op_mul (pe_op op_add (pv 1) pe_int) pe_int)) pe_int) pa_nil)) (pv 2)))
    (pss_cons (ps_set (i := 4) sc__law_state.nd rfl (.inl rfl) (pe_op op_mod (pe_callTy call_int1 (by rfl) z_int (by decide +kernel) (pa_cons (pe_op op_add (pe_op op_add (pe_op op_mulX (pv 3) (pv 3)) (pe_op op_mul pe_int (pv 3))) (pv 1)) pa_nil)) (pv 2)))
    (pss_cons (ps_set (i := 5) sc__law_state.nd rfl (.inl rfl) (pe_op op_mod (pe_callTy call_int1 (by rfl) z_int (by decide +kernel) (pa_cons (pe_op op_add (pe_op op_add (pe_op op_mul (pv 4) pe_int) (pe_op op_mul (pv 3) pe_int)) pe_int) pa_nil)) (pv 2)))
    (pss_cons (ps_set (i := 6) sc__law_state.nd rfl (.inl rfl) (pe_op op_mod (pe_callTy call_int1 (by rfl) z_int (by decide +kernel) (pa_cons (pe_op op_add (pe_op op_mulX (pv 5) (pv 5)) (pv 4)) pa_nil)) (pv 2)))
    (pss_one (ps_ret (pe_lst (pa_cons (pe_op op_add (pe_op op_mul (pe_op op_add (pe_op op_mul (pe_op op_add (pe_op op_mul (pv 6) (pv 2)) (pv 5)) (pv 2)) (pv 4)) (pv 2)) (pv 3)) pa_nil)))))))))), ?_⟩
  obtain ⟨c, k, rfl, q⟩ := h
  refine q_when (b := decide (c ≥ 1000000000000000000)) (et_test (ev_op (ev_var rfl) ev_c rv_I0)) (fun hb H1 e1 => ?_) fun hb H1 e1 => ?_
  · exact s_retL (el_lst (ea_cons (ev_var rfl) ea_nil) (by show 1 ≤ 100000; decide)) fun p H2 hp e2 h2 => q p H2 (fresh_back e1 hp) (e1.trans e2) ⟨c, by have := of_decide_eq_true hb; omega, h2⟩
  refine q_asg (v := .int 2305843009213693951) ev_c fun H2 e2 => ?_
  have mp : ∀ n : Int, 0 ≤ n % 2305843009213693951 ∧ n % 2305843009213693951 < 2305843009213693951 := fun n => by omega
  have mb : ∀ i j : Int, 0 ≤ i ∧ i < 2305843009213693951 → 0 ≤ j ∧ j < 2305843009213693951 → CMulX i j := fun i j hi hj => mulx_ok (a := 61) (b := 61) (by omega) (by omega) (by decide)
  refine q_asg (v := .int ((c * 6364136223 + (k + 1) * 104729 + 77) % 2305843009213693951)) ?_ fun H3 e3 => ?_
  · exact ev_op (ev_int (ev_op (ev_op (ev_op (ev_var rfl) ev_c (rv_I (.inr ⟨by decide, by decide⟩))) (ev_op (ev_op (ev_var rfl) ev_c rv_I0) ev_c (rv_I (.inr ⟨by decide, by decide⟩))) rv_I0) ev_c rv_I0)) (ev_var rfl) (rv_I (by decide))
  have h1 := mp (c * 6364136223 + (k + 1) * 104729 + 77)
  generalize (c * 6364136223 + (k + 1) * 104729 + 77) % 2305843009213693951 = f1 at *
  refine q_asg (v := .int ((f1 * f1 + 1013 * f1 + k) % 2305843009213693951)) ?_ fun H4 e4 => ?_
  · exact ev_op (ev_int (ev_op (ev_op (ev_op (ev_var rfl) (ev_var rfl) (rv_I (mb _ _ h1 h1))) (ev_op ev_c (ev_var rfl) (rv_I (.inl ⟨by decide, by decide⟩))) rv_I0) (ev_var rfl) rv_I0)) (ev_var rfl) (rv_I (by decide))
  have h2 := mp (f1 * f1 + 1013 * f1 + k)
  generalize (f1 * f1 + 1013 * f1 + k) % 2305843009213693951 = f2 at *
  refine q_asg (v := .int ((f2 * 48271 + f1 * 31 + 9) % 2305843009213693951)) ?_ fun H5 e5 => ?_
  · exact ev_op (ev_int (ev_op (ev_op (ev_op (ev_var rfl) ev_c (rv_I (.inr ⟨by decide, by decide⟩))) (ev_op (ev_var rfl) ev_c (rv_I (.inr ⟨by decide, by decide⟩))) rv_I0) ev_c rv_I0)) (ev_var rfl) (rv_I (by decide))
  have h3 := mp (f2 * 48271 + f1 * 31 + 9)
  generalize (f2 * 48271 + f1 * 31 + 9) % 2305843009213693951 = f3 at *
  refine q_asg (v := .int ((f3 * f3 + f2) % 2305843009213693951)) ?_ fun H6 e6 => ?_
  · exact ev_op (ev_int (ev_op (ev_op (ev_var rfl) (ev_var rfl) (rv_I (mb _ _ h3 h3))) (ev_var rfl) rv_I0)) (ev_var rfl) (rv_I (by decide))
  have h4 := mp (f3 * f3 + f2)
  generalize (f3 * f3 + f2) % 2305843009213693951 = f4 at *
  refine s_retL (xs := [.int (((f4 * 2305843009213693951 + f3) * 2305843009213693951 + f2) * 2305843009213693951 + f1)]) (el_lst (ea_cons ?_ ea_nil) (by show 1 ≤ 100000; decide)) fun p H7 hp e7 h7 => ?_
  · exact ev_op (ev_op (ev_op (ev_op (ev_op (ev_op (ev_var rfl) (ev_var rfl) (rv_I (.inr ⟨by decide, by decide⟩))) (ev_var rfl) rv_I0) (ev_var rfl) (rv_I (.inr ⟨by decide, by decide⟩))) (ev_var rfl) rv_I0) (ev_var rfl) (rv_I (.inr ⟨by decide, by decide⟩))) (ev_var rfl) rv_I0
  have x6 := ((((e1.trans e2).trans e3).trans e4).trans e5).trans e6
  exact q p H7 (fresh_back x6 hp) (x6.trans e7) ⟨_, by omega, h7⟩
theorem ok__law_digit (D : Dn K mg "_law_digit" s__law_digit ["state", "many"]) (z_int : mg "int" = none) :
    C8.Cal P w K mg base 1 "_law_digit" (sp__law_digit K) [] := by
  refine cal_of D sc__law_digit (fun vs H Q E h => ?_) (fun f cdv A outer s H vs Q E hr h => ?_)
  · obtain ⟨_, _, rfl, _⟩ := h
    rfl
  refine ⟨_, (pss_cons (ps_set (i := 2) sc__law_digit.nd rfl (.inl rfl) (pe_op op_mod (pe_callTy call_int1 (by rfl) z_int (by decide +kernel) (pa_cons (pe_ix ix_list (pv 0) pe_int (fun _ _ => rfl)) pa_nil)) (pv 1)))
    (pss_cons (ps_asg (pe_op op_fdivW (pe_ix ix_list (pv 0) pe_int (fun _ _ => rfl)) (pv 1)) (pg_sub (pv 0) pe_int set_list))
    (pss_one (ps_ret (pv 2))))), ?_⟩
  obtain ⟨p, m, rfl, ⟨s, s0, hp⟩, m0, m1, q⟩ := h
  refine q_asg (v := .int (s % m)) (ev_op (ev_int (ev_op (ev_var rfl) ev_c (rv_ixL (sq_of hp) rfl))) (ev_var rfl) (rv_I m0)) fun H1 e1 => ?_
  refine q_setL (v := .int (s / m)) (j := 0) (e1 _ _ hp) (ev_op (ev_op (ev_var rfl) ev_c (rv_ixL (sq_of (e1 _ _ hp)) rfl)) (ev_var rfl) (rv_I (wide_div (b := 400) m0 (by omega) (by decide) (by decide)))) (ev_var rfl) ev_c (by show 0 < 1; decide) fun H2 e2 => ?_
  exact s_ret (ev_var rfl) fun H3 e3 => q (s % m) H3 (Int.emod_nonneg _ (by omega)) (Int.emod_lt_of_pos _ m0) ((Ex.mut ((wo_le p H).trans (e1.trans e2)) (wo_self p H)).trans e3) ⟨s / m, Int.ediv_nonneg s0 (by omega), e3 _ _ upd_same⟩
end
section
variable {K : PySem.W.Frag} {σ : L2.St} {H : Hp} {p : Addr} {ta tb te : TE} {P : V → Prop} {D : Ends} {tz : TS}
/-- xs[i] = what is drawn -/
theorem q1_setL {l : Addr} {xs : List V} {j : Nat} (hl : wo p H l = some (.lst xs)) (h : EvD1 te σ p H P) (d : Dr p H) (ho : Ev ta σ (wo p H) (.ref l)) (hi : Ev tb σ (wo p H) (.int (j : Int))) (hj : j < xs.length) (k : ∀ v H1, P v → Ex (wo p H) H1 → Dr p H1 → tz D σ (upd H1 l (.lst (xs.set j v)))) :
    tSeq (tAsg te (gSub ta tb rSetL)) tz D σ H := h H (wo_le p H) d _ fun v H1 hv e1 d1 => ho H1 e1 _ fun H2 e2 => hi H2 (e1.trans e2) _ fun H3 e3 =>
  ⟨l, xs, (j : Int), j, rfl, rfl, ((e1.trans e2).trans e3) l _ hl, ixN_nat hj, k v H3 hv ((e1.trans e2).trans e3) (d1.ex (e2.trans e3))⟩
/-- a digit of a list that is new -/
theorem en_digit {m : Int} {E : XK} (ha : EvC ta σ H) (hb : Ev tb σ H (.int m)) (h0 : 0 < m) (h1 : m < 2 ^ 400) : EvN (tCall (sp__law_digit K) [] E (tCons ta (tCons tb tNil))) σ H (ZP fun d => 0 ≤ d ∧ d < m) := fun H1 e Q q =>
  ha H1 e _ fun p H2 hp e2 d2 => hb H2 (e.trans e2) _ fun H3 e3 => ⟨p, m, rfl, d2.ex e3, h0, h1, fun d H4 a b e4 _ => q _ H4 ⟨d, rfl, a, b⟩ (wx_back hp (e2.trans e3) e4)⟩
end
section
variable {K : PySem.W.Frag} {σ : L2.St} {H : Hp} {p : Addr} {te : TE} {t : TT} {P : V → Prop} {D : Ends} {tu : TS}
theorem s1_asg {i : Nat} (h : EvD1 te σ p H P) (d : Dr p H) (k : ∀ v H1, P v → Ex (wo p H) H1 → Dr p H1 → D.nx (σ.set i (some v)) H1) : tAsg te (gName i) D σ H := h H (wo_le p H) d _ fun v H1 hv e1 d1 => k v H1 hv e1 d1
theorem s1_when (h : EvDT t σ p H (fun _ => True)) (d : Dr p H) (h1 : ∀ H1, Ex (wo p H) H1 → Dr p H1 → tu D σ H1) (h2 : ∀ H1, Ex (wo p H) H1 → Dr p H1 → D.nx σ H1) : tIfS t tu tNext D σ H := h H (wo_le p H) d _ fun b H1 _ e1 d1 => by
  cases b with
  | true =>
    show tu D σ H1
    exact h1 H1 e1 d1
  | false =>
    show D.nx σ H1
    exact h2 H1 e1 d1
end

/-! ### lists compared, cut; list as a type -/
theorem cut_take {xs : List V} {m : Nat} (h : m ≤ xs.length) : cutV xs none (some (m : Int)) = xs.take m := by
  unfold cutV
  rw [HT.sIx_none, HT.sIx_nat, List.drop_zero, Nat.sub_zero, Nat.min_eq_left h]
theorem eqv_intsL : ∀ ns ms : List Int, PyData.eqv (.list (ns.map PyData.int)) (.list (ms.map PyData.int)) = decide (ns = ms)
  | [], [] => rfl
  | [], _ :: _ => rfl
  | _ :: _, [] => rfl
  | n :: r, m :: t => by
    have ih := eqv_intsL r t
    show ((n == m) && PyData.eqv (.list (r.map PyData.int)) (.list (t.map PyData.int))) = _
    rw [ih, Bool.eq_iff_iff, Bool.and_eq_true, decide_eq_true_eq, decide_eq_true_eq, beq_iff_eq, List.cons.injEq]
theorem rv_neL {K : PySem.W.Frag} {H : Hp} {p q : Addr} {ns ms : List Int} (hp : SqL K H p (ns.map V.int)) (hq : SqL K H q (ms.map V.int)) : RV (rNeD K) (.ref p) (.ref q) H (.bl (!decide (ns = ms))) := fun H1 e Q k =>
  ⟨_, _, .lst (ex_l e hp) (dp_ints ns), .lst (ex_l e hq) (dp_ints ms), PySem.W.ke_shaped_ints _, PySem.W.ke_shaped_ints _, by rw [eqv_intsL]; exact k H1 (Ex.refl H1)⟩
theorem tx_lst {K : PySem.W.Frag} {H : Hp} {a : Addr} {xs : List V} (h : H a = some (.lst xs)) : ∀ H1, Ex H H1 → TyX K H1 (.ref a) (.type "list") := fun H1 e => .base (.lst (e _ _ h))
theorem given_all (n : Nat) (v : Nat → V) : given n (fun _ => true) v = (List.range n).map v := by
  unfold given
  rw [List.filter_eq_self.mpr (fun _ _ => rfl)]
theorem foldl_take {α β : Type} {f : β → α → β} {l : List α} {i : Nat} {x : α} {b : β} (h : l[i]? = some x) : (l.take (i + 1)).foldl f b = f ((l.take i).foldl f b) x := by
  rw [List.take_add_one, h, List.foldl_append]
  rfl
theorem ix_listK {X : Cx} {K : PySem.W.Frag} (h : X.K = K) : IxR X (rIxL K) := h ▸ ix_list
theorem call_len_seqK {X : Cx} {K : PySem.W.Frag} (h : X.K = K) : CallR X (.builtin "len") (fun xs H Q => ∃ p ys, xs = [V.ref p] ∧ (SqL K H p ys ∨ SqT K H p ys) ∧ Q (V.int ys.length) H) := h ▸ call_len_seq
theorem ix_tupK {X : Cx} {K : PySem.W.Frag} (h : X.K = K) : IxR X (rIxT K) := h ▸ ix_tup

/-! ### lists of objects, each with a word of its own -/
def Al2 {α : Type} (R : Hp → Addr → α → Prop) (H : Hp) (qs : List Addr) (L : List α) : Prop := qs.length = L.length ∧ ∀ (i : Nat) q l, qs[i]? = some q → L[i]? = some l → R H q l
def Lst2 {α : Type} (R : Hp → Addr → α → Prop) (H : Hp) (p : Addr) (L : List α) : Prop := ∃ qs, H p = some (.lst (qs.map V.ref)) ∧ Al2 R H qs L
section
variable {α : Type} {R S : Hp → Addr → α → Prop} {H H' : Hp} {qs : List Addr} {L : List α}
theorem Al2.nil : Al2 R H [] [] := ⟨rfl, fun i q l h => by simp at h⟩
theorem Al2.mono (h : Al2 R H qs L) (k : ∀ q l, l ∈ L → R H q l → S H' q l) : Al2 S H' qs L := ⟨h.1, fun i q l a b => k q l (List.mem_of_getElem? b) (h.2 i q l a b)⟩
theorem Al2.snoc {q : Addr} {l : α} (h : Al2 R H qs L) (hr : R H q l) : Al2 R H (qs ++ [q]) (L ++ [l]) := by
  refine ⟨by rw [List.length_append, List.length_append, h.1, List.length_cons, List.length_cons]; rfl, fun i q' l' a b => ?_⟩
  by_cases hi : i < qs.length
  · rw [List.getElem?_append_left hi] at a
    rw [List.getElem?_append_left (by rw [← h.1]; exact hi)] at b
    exact h.2 i q' l' a b
  · rw [List.getElem?_append_right (by omega)] at a
    rw [List.getElem?_append_right (by rw [← h.1]; omega)] at b
    have e : i - qs.length = 0 := by
      by_cases z : i - qs.length = 0
      · exact z
      · rw [List.getElem?_eq_none (by show 1 ≤ _; omega)] at a; cases a
    rw [e] at a
    rw [← h.1, e] at b
    cases a
    cases b
    exact hr
theorem Al2.get (h : Al2 R H qs L) {i : Nat} (hi : i < L.length) : ∃ q, qs[i]? = some q ∧ R H q L[i] := by
  have hq : i < qs.length := by rw [h.1]; exact hi
  exact ⟨qs[i], List.getElem?_eq_getElem hq, h.2 i _ _ (List.getElem?_eq_getElem hq) (List.getElem?_eq_getElem hi)⟩
end
/-- an object that is new -/
def EvR (R : Hp → Addr → Prop) (te : TE) (σ : L2.St) (H : Hp) : Prop := ∀ H1, Ex H H1 → ∀ Q : VK, (∀ p H2, H1 p = none → Ex H1 H2 → R H2 p → Q (.ref p) H2) → te σ H1 Q
theorem slice_any {a : List Nat} {i j : Nat} : Txt.slice (SX.S a) (some (i : Int)) (some (j : Int)) = SX.S ((a.take j).drop i) := by
  rw [← C8.cutS_slice]
  unfold cutS
  rw [SX.S_len, HT.sIx_nat, HT.sIx_nat]
  refine congrArg SX.S ?_
  show (a.drop (min i a.length)).take (min j a.length - min i a.length) = (a.take j).drop i
  rw [List.drop_take]
  by_cases hi : i ≤ a.length
  · rw [Nat.min_eq_left hi]
    by_cases hj : j ≤ a.length
    · rw [Nat.min_eq_left hj]
    · rw [Nat.min_eq_right (show a.length ≤ j by omega), List.take_of_length_le (by rw [List.length_drop]; omega), List.take_of_length_le (by rw [List.length_drop]; omega)]
  · rw [Nat.min_eq_right (show a.length ≤ i by omega), List.drop_eq_nil_of_le (Nat.le_refl _), List.drop_eq_nil_of_le (by omega)]
    simp
theorem ev_slA {σ : L2.St} {H : Hp} {ta tl th : TE} {l : List Nat} {i j : Nat} (ha : Ev ta σ H (.str (SX.S l))) (hl : Ev tl σ H (.int (i : Int))) (hh : Ev th σ H (.int (j : Int))) (hz : l.length ≤ 100000) : Ev (tSl C8.rSlX ta (tPart tl) (tPart th)) σ H (.str (SX.S ((l.take j).drop i))) := fun H1 e Q q =>
  ha H1 e _ fun H2 e2 => hl H2 (e.trans e2) _ fun H3 e3 => ⟨_, rfl, hh H3 ((e.trans e2).trans e3) _ fun H4 e4 => ⟨_, rfl, SX.S l, rfl, by rw [SX.S_len]; exact sz_of hz, by rw [slice_any]; exact q H4 ((e2.trans e3).trans e4)⟩⟩
theorem getD_S (t : List Nat) (v : Nat) : (SX.S t).cps.getD v 0 = t.getD v 0 := by
  show t.toArray.getD v 0 = t.getD v 0
  rw [Array.getD_eq_getD_getElem?, List.getD_eq_getElem?_getD, List.getElem?_toArray]
/-- the first c at or behind i -/
theorem find3_at {t a m : List Nat} {c i : Nat} (h : t.drop i = a ++ c :: m) (ha : c ∉ a) : Txt.find3 (SX.S t) (SX.S [c]) (i : Int) = ((i + a.length : Nat) : Int) := by
  have hlen : i + (a.length + (m.length + 1)) = t.length := by
    have := congrArg List.length h
    rw [List.length_drop, List.length_append, List.length_cons] at this
    omega
  have hf : fromIndex (SX.S t).length (i : Int) = i := by
    unfold fromIndex
    rw [if_neg (by omega)]
    omega
  have at_ : ∀ v, i ≤ v → t.getD v 0 = (a ++ c :: m).getD (v - i) 0 := fun v hv => by
    rw [← h, List.getD_eq_getElem?_getD, List.getD_eq_getElem?_getD, List.getElem?_drop, show i + (v - i) = v by omega]
  have hc : t.getD (i + a.length) 0 = c := by
    rw [at_ _ (by omega), show i + a.length - i = a.length by omega, List.getD_eq_getElem?_getD, List.getElem?_append_right (Nat.le_refl _), Nat.sub_self]
    rfl
  rcases StrLaws.find3_spec (SX.S t) c (i : Int) with ⟨_, h2⟩ | ⟨k, h1, h2, h3, h4, h5⟩
  · have := h2 (i + a.length) (by rw [hf]; omega) (by rw [SX.S_len]; omega)
    rw [getD_S, hc] at this
    exact absurd rfl this
  · rw [hf] at h2 h5
    rw [getD_S] at h4
    have e1 : ¬ i + a.length < k := fun z => by
      have := h5 (i + a.length) (by omega) z
      rw [getD_S, hc] at this
      exact this rfl
    have e2 : ¬ k < i + a.length := fun z => by
      rw [at_ k h2, List.getD_eq_getElem?_getD, List.getElem?_append_left (by omega), List.getElem?_eq_getElem (by omega)] at h4
      exact ha (by rw [← h4]; exact List.getElem_mem _)
    rw [show k = i + a.length by omega] at h1
    exact h1
theorem at_drop {t r : List Nat} {i : Nat} {c : Nat} (h : t.drop i = c :: r) : t[i]? = some c ∧ i < t.length ∧ t.drop (i + 1) = r := by
  have hi : i < t.length := by
    have := congrArg List.length h
    rw [List.length_drop, List.length_cons] at this
    omega
  rw [List.drop_eq_getElem_cons hi] at h
  have h2 := List.cons.inj h
  exact ⟨by rw [List.getElem?_eq_getElem hi, h2.1], hi, h2.2⟩
theorem drop_nil {t : List Nat} {i : Nat} (h : t.drop i = []) : t.length ≤ i := by
  have := congrArg List.length h
  rw [List.length_drop] at this
  simp at this
  omega
theorem drop_app {t a b : List Nat} {i : Nat} (h : t.drop i = a ++ b) : t.drop (i + a.length) = b := by
  rw [← List.drop_drop, h, List.drop_left]
theorem take1 {t : List Nat} {i : Nat} : (t.take (i + 1)).drop i = (t.drop i).take 1 := by rw [List.drop_take, show i + 1 - i = 1 by omega]
theorem joinL_len (w : List Nat) : ∀ ps : List (List Nat), (ps.map (·.length)).sum ≤ (TL.joinL w ps).length
  | [] => Nat.le_refl _
  | [p] => by
    show p.length + 0 ≤ p.length
    omega
  | p :: q :: r => by
    have := joinL_len w (q :: r)
    show p.length + ((q :: r).map (·.length)).sum ≤ (p ++ (w ++ TL.joinL w (q :: r))).length
    rw [List.length_append, List.length_append]
    omega
theorem ev_joinL {K : PySem.W.Frag} {σ : L2.St} {H : Hp} {ta tb : TE} {w : List Nat} {pcs : List (List Nat)} {p : Addr} (ha : Ev ta σ H (.str (SX.S w))) (hb : Ev tb σ H (.ref p)) (hp : SqL K H p ((pcs.map SX.S).map V.str)) (h1 : (TL.joinL w pcs).length ≤ 100000) (h2 : pcs.length ≤ 100000) (h3 : w.length ≤ 10) :
    Ev (tM1 (fun x xs H Q => ∃ a p, ∃ ys : List Str, x = .str a ∧ xs = [.ref p] ∧ (SqL K H p (ys.map V.str) ∨ SqT K H p (ys.map V.str)) ∧
      (ys.map (·.length)).sum + ys.length * a.length ≤ 16777216 ∧ Q (.str (Txt.join a ys)) H) ta tb) σ H (.str (SX.S (TL.joinL w pcs))) := fun H1 e Q q =>
  ha H1 e _ fun H2 e2 => ⟨⟨_, rfl⟩, hb H2 (e.trans e2) _ fun H3 e3 => ⟨SX.S w, p, pcs.map SX.S, rfl, rfl, .inl (ex_l ((e.trans e2).trans e3) hp), by
    rw [SX.lens, SX.S_len, List.length_map]
    have := joinL_len w pcs
    have : pcs.length * w.length ≤ 100000 * 10 := Nat.mul_le_mul h2 h3
    omega, by rw [SX.join_S]; exact q H3 (e2.trans e3)⟩⟩
/-- return (a new object, ..) -/
theorem s_retUR {R : Hp → Addr → Prop} {te : TE} {tr : TA} {σ : L2.St} {H : Hp} {D : Ends} {vs : List V} (hm : ∀ H H' p, Ex H H' → R H p → R H' p) (h : EvR R te σ H) (hr : ∀ H1, Ex H H1 → EvA tr σ H1 vs) (hl : vs.length ≤ 1000)
    (k : ∀ q p H1, H q = none → Ex H H1 → R H1 p → H1 q = some (.tup (.ref p :: vs)) → D.rt (.ref q) H1) : tRet (tTup (tCons te tr)) D σ H :=
  h H (Ex.refl H) _ fun p H1 hp e1 hR => hr H1 e1 H1 (Ex.refl H1) _ fun H2 e2 => ⟨by rw [List.length_cons]; exact sz_of (by omega), fun q hq => k q p _ (fresh_back (e1.trans e2) hq) ((e1.trans e2).trans (Ex.new hq)) (hm _ _ _ (e2.trans (Ex.new hq)) hR) upd_same⟩
theorem wo_upd (p : Addr) (H : Hp) (o : HO) : wo p (upd H p o) = wo p H := by
  funext a
  unfold wo
  split
  · rfl
  · rename_i h
    exact upd_ne h
theorem wo_mono {p : Addr} {H H' : Hp} (e : Ex H H') : Ex (wo p H) (wo p H') := fun a o h => by
  have hx : a ≠ p := fun z => by rw [z, wo_self] at h; cases h
  rw [wo_ne hx] at h ⊢
  exact e a o h
theorem Lst2.mono {α : Type} {R : Hp → Addr → α → Prop} {H H' : Hp} {p : Addr} {L : List α} (h : Lst2 R H p L) (e : Ex H H') (k : ∀ q l, R H q l → R H' q l) : Lst2 R H' p L := by
  obtain ⟨qs, h1, h2⟩ := h
  exact ⟨qs, e _ _ h1, h2.mono fun q l _ => k q l⟩
/-- [a new object] -/
theorem er_one {R : Hp → Addr → Prop} {te : TE} {σ : L2.St} {H : Hp} (hm : ∀ H H' p, Ex H H' → R H p → R H' p) (h : EvR R te σ H) : EvR (fun H p => ∃ t, H p = some (.lst [.ref t]) ∧ R H t) (tLst (tCons te tNil)) σ H := fun H1 e Q q =>
  h H1 e _ fun t H2 ht e2 hR => ⟨sz_of (by show 1 ≤ 100000; decide), fun p hp => q p _ (fresh_back e2 hp) (e2.trans (Ex.new hp)) ⟨t, upd_same, hm _ _ _ (Ex.new hp) hR⟩⟩

/-! ### signs -/
def signsL : List Nat := (PySem.Str.ofString " !\"#$&'()*+,-./0123456789:;<=>?@ABCDEFGHIJKLMNOPQRSTUVWXYZ[\\]^_`abcdefghijklmnopqrstuvwxyz{|}~").cps.toList
def fewL : List Nat := (PySem.Str.ofString "ab*?\\ -'\"A").cps.toList
theorem signs_len : signsL.length = 94 := by decide +kernel
theorem few_len : fewL.length = 10 := by decide +kernel
theorem signs_ok : ∀ c ∈ signsL, 32 ≤ c ∧ c ≤ 126 := by decide +kernel
theorem few_ok : ∀ c ∈ fewL, 32 ≤ c ∧ c ≤ 126 := by decide +kernel
def okC (c : Nat) : Prop := 32 ≤ c ∧ c ≤ 126
theorem join_ones : ∀ l : List Nat, Txt.join (SX.S []) (l.map fun c => (⟨#[c]⟩ : Str)) = SX.S l := by
  intro l
  have e : (l.map fun c => (⟨#[c]⟩ : Str)) = (l.map fun c => [c]).map SX.S := by
    rw [List.map_map]
    rfl
  rw [e, SX.join_S]
  congr 1
  induction l with
  | nil => rfl
  | cons c r ih =>
    cases r with
    | nil => rfl
    | cons d r => 
      have e2 : TL.joinL [] (List.map (fun c => [c]) (c :: d :: r)) = c :: TL.joinL [] (List.map (fun c => [c]) (d :: r)) := rfl
      rw [e2, ih (by rw [List.map_map]; rfl)]

/-! ### texts and values that are drawn -/
def fewS : List Nat := (PySem.Str.ofString "abAB 19-'~").cps.toList
theorem fewS_len : fewS.length = 10 := by decide +kernel
theorem fewS_S : PySem.Str.ofString "abAB 19-'~" = SX.S fewS := by decide +kernel
theorem fewS_in : ∀ c ∈ fewS, c ∈ signsL := by decide +kernel
def EvLD1 (te : TE) (σ : L2.St) (p : Addr) (H : Hp) (P : List V → Prop) : Prop := ∀ H1, Ex (wo p H) H1 → Dr p H1 → ∀ Q : VK, (∀ l H2 xs, P xs → H1 l = none → Ex (wo p H1) H2 → Dr p H2 → H2 l = some (.lst xs) → Q (.ref l) H2) → te σ H1 Q
theorem dr_ne {p l : Addr} {H : Hp} (d : Dr p H) (h : H l = none) : p ≠ l := fun z => by
  obtain ⟨s, _, e⟩ := d
  rw [z, h] at e
  cases e
theorem Dr.upd {p l : Addr} {H : Hp} {o : HO} (d : Dr p H) (h : p ≠ l) : Dr p (upd H l o) := by
  obtain ⟨s, s0, e⟩ := d
  exact ⟨s, s0, by rw [upd_ne h]; exact e⟩
section
variable {K : PySem.W.Frag} {σ : L2.St} {H : Hp} {p : Addr} {ta tb te tn : TE} {R : V → Prop} {PI : Int → Prop} {D : Ends} {tz : TS}
/-- [what is drawn for k in range(a number that is drawn)] -/
theorem e1_lc {j : Nat} {vs : List Nat} {m : Int} (hn : EvD1 tn σ p H (ZP fun n => 0 ≤ n ∧ n ≤ m)) (hm : m ≤ 10000) (hw : ∀ x, wipe ((wipe σ vs).set j (some x)) vs = wipe σ vs)
    (he : ∀ i : Nat, EvD1 te ((wipe σ vs).set j (some (.int (i : Int)))) p H R) : EvLD1 (tLc (iRng1 (tCons tn tNil)) (gName j) tYes te vs) σ p H (fun xs => (xs.length : Int) ≤ m ∧ ∀ x ∈ xs, R x) := fun H0 e d Q q =>
  hn H0 e d _ fun v H1 ⟨n, ev, hn0, hn1⟩ e1 d1 => by
    subst ev
    refine ⟨n, rfl, by omega, by omega, fun Dl hD => ?_⟩
    have hpd : p ≠ Dl := dr_ne d1 hD
    refine lc_range (lo := 0) (n := n.toNat) (fun i H' => Ex (wo p H1) H' ∧ Dr p H' ∧ ∃ acc, H' Dl = some (.lst acc) ∧ acc.length = i ∧ ∀ x ∈ acc, R x) ⟨Ex.mut (wo_le p H1) (by rw [wo_ne (Ne.symm hpd)]; exact hD), d1.upd hpd, [], upd_same, rfl, fun x hx => by cases hx⟩ (fun i H' hi pv => ?_) (fun H' pv => ?_)
    · obtain ⟨p1, p2, acc, p3, p4, p5⟩ := pv
      have e0 : (0 : Int) + (i : Int) = (i : Int) := Int.zero_add _
      show wipe ((wipe σ vs).set j (some (.int ((0 : Int) + (i : Int))))) vs = wipe σ vs ∧ te ((wipe σ vs).set j (some (.int ((0 : Int) + (i : Int))))) H' fun y H4 => ∃ acc, H4 Dl = some (.lst acc) ∧ acc.length < sizeLine ∧ _
      rw [e0]
      refine ⟨hw _, he i H' (wx_trans e (wx_trans e1 p1)) p2 _ fun y H4 hy e4 d4 => ?_⟩
      refine ⟨acc, e4 Dl _ (by rw [wo_ne (Ne.symm hpd)]; exact p3), sz_lt (by omega), Ex.mut (wx_trans p1 e4) (by rw [wo_ne (Ne.symm hpd)]; exact hD), d4.upd hpd, acc ++ [y], upd_same, by rw [List.length_append, p4]; rfl, fun x hx => ?_⟩
      rcases List.mem_append.mp hx with h | h
      · exact p5 x h
      · rw [List.mem_singleton.mp h]
        exact hy
    · obtain ⟨p1, p2, acc, p3, p4, p5⟩ := pv
      have hD0 : H0 Dl = none := by
        cases z : H0 Dl with
        | none => rfl
        | some o =>
          have := e1 Dl o (by rw [wo_ne (Ne.symm hpd)]; exact z)
          rw [hD] at this
          cases this
      exact q Dl H' acc ⟨by omega, p5⟩ hD0 (wx_trans e1 p1) p2 p3
def oneS (L : List Nat) (v : V) : Prop := ∃ c, v = .str ⟨#[c]⟩ ∧ c ∈ L
theorem ones_of {L : List Nat} : ∀ {xs : List V}, (∀ x ∈ xs, oneS L x) → ∃ l : List Nat, xs = l.map (fun c => V.str ⟨#[c]⟩) ∧ ∀ c ∈ l, c ∈ L
  | [], _ => ⟨[], rfl, fun c hc => by cases hc⟩
  | x :: r, h => by
    obtain ⟨l, e, hl⟩ := ones_of (xs := r) fun y hy => h y (List.mem_cons_of_mem _ hy)
    obtain ⟨c, ec, hc⟩ := h x List.mem_cons_self
    refine ⟨c :: l, by rw [ec, e]; rfl, fun y hy => ?_⟩
    rcases List.mem_cons.mp hy with z | z
    · rw [z]; exact hc
    · exact hl y z
def txtP (L : List Nat) (m : Nat) (v : V) : Prop := ∃ l : List Nat, v = .str (SX.S l) ∧ l.length ≤ m ∧ ∀ c ∈ l, c ∈ L
/-- ''.join(a list of single signs) -/
theorem e1_join {L : List Nat} {m : Nat} (hm : m ≤ 10000) (h : EvLD1 te σ p H (fun xs => (xs.length : Int) ≤ (m : Int) ∧ ∀ x ∈ xs, oneS L x)) : EvD1 (tM1 (fun x xs H Q => ∃ a p, ∃ ys : List Str, x = .str a ∧ xs = [.ref p] ∧ (SqL K H p (ys.map V.str) ∨ SqT K H p (ys.map V.str)) ∧
      (ys.map (·.length)).sum + ys.length * a.length ≤ 16777216 ∧ Q (.str (Txt.join a ys)) H) (tC (.str (PySem.Str.ofString ""))) te) σ p H (txtP L m) := fun H1 e d Q q => by
  refine ⟨⟨_, rfl⟩, h H1 e d _ fun l H2 xs hP hl e2 d2 h2 => ?_⟩
  obtain ⟨hlen, hxs⟩ := hP
  obtain ⟨w, rfl, hw⟩ := ones_of hxs
  rw [List.length_map] at hlen
  have hw2 : w.length ≤ m := by omega
  refine ⟨SX.S [], l, w.map fun c => (⟨#[c]⟩ : Str), by rw [c00], rfl, .inl (sq_of ?_), ?_, ?_⟩
  · rw [h2, List.map_map]
    rfl
  · have e9 : (w.map fun c => (⟨#[c]⟩ : Str)).map (·.length) = List.replicate w.length 1 := by
      rw [List.map_map, List.eq_replicate_iff]
      refine ⟨by rw [List.length_map], fun b hb => ?_⟩
      obtain ⟨c, _, rfl⟩ := List.mem_map.mp hb
      rfl
    rw [e9, List.sum_replicate_nat, List.length_map]
    show w.length * 1 + w.length * 0 ≤ _
    omega
  · rw [join_ones]
    exact q _ H2 ⟨w, rfl, hw2, hw⟩ e2 d2
/-- signs[_law_digit(state, m)] -/
theorem e1_sign {L : List Nat} {m : Int} {E : XK} {i : Nat} (hs : σ[i]? = some (some (.str (SX.S L)))) (hL : (L.length : Int) = m) (h0 : 0 < m) (hm : m ≤ 1000) (ha : Ev ta σ (wo p H) (.ref p)) (hb : Ev tb σ (wo p H) (.int m)) : EvD1 (tOp rIxS (tVar i) (tCall (sp__law_digit K) [] E (tCons ta (tCons tb tNil)))) σ p H (oneS L) := fun H1 e d Q q =>
  ⟨.str (SX.S L), hs, ez_digit ha hb h0 (by omega) H1 e d _ fun v H2 ⟨n, ev, n0, n1⟩ e2 d2 => by
    subst ev
    obtain ⟨k, rfl⟩ := Int.eq_ofNat_of_zero_le n0
    have hk : k < L.length := by omega
    exact ⟨SX.S L, (k : Int), L[k], rfl, rfl, by rw [SX.S_len]; exact sz_of (by omega), atI_nat (List.getElem?_eq_getElem hk), q _ H2 ⟨L[k], rfl, List.getElem_mem hk⟩ e2 d2⟩⟩
end
/-- a value that is drawn -/
inductive DV : V → Prop where
  | non : DV .non
  | bl (b : Bool) : DV (.bl b)
  | int (i : Int) (h : -1000000000000000 ≤ i ∧ i ≤ 1000000000000000) : DV (.int i)
  | str (l : List Nat) (h : l.length ≤ 4) (hc : ∀ c ∈ l, c ∈ signsL) : DV (.str (SX.S l))
theorem DV.pl {x : V} (h : DV x) : Pl x := by cases h <;> constructor
def sp__law_text (K : PySem.W.Frag) : Sp := fun vs H Q _ => ∃ p : Addr, vs = [.ref p] ∧ Dr p H ∧ ∀ v H', txtP signsL 4 v → Ex (wo p H) H' → Dr p H' → Q v H'
def sp__law_value (K : PySem.W.Frag) : Sp := fun vs H Q _ => ∃ p : Addr, vs = [.ref p] ∧ Dr p H ∧ ∀ v H', DV v → Ex (wo p H) H' → Dr p H' → Q v H'
section
variable {P : Program} {w : World} {K : PySem.W.Frag} {mg : Str → Option Value} {base : Heap}
theorem ok__law_text (D : Dn K mg "_law_text" s__law_text ["state"]) (c__law_digit : C8.Cal P w K mg base 1 "_law_digit" (sp__law_digit K) []) (z_range : mg "range" = none) :
    C8.Cal P w K mg base 2 "_law_text" (sp__law_text K) [] := by
  refine cal_of D sc__law_text (fun vs H Q E h => ?_) (fun f cdv A outer s H vs Q E hr h => ?_)
  · obtain ⟨_, rfl, _⟩ := h
    rfl
  refine ⟨_, (pss_cons (ps_set (i := 1) sc__law_text.nd rfl (.inr rfl) pe_str)
    (pss_one (ps_ret (pe_join pe_str (pe_lc (own := [("k", 2)]) (g := gName 2) (tt := tYes) rfl sc__law_text.nd (pi_range1 rfl z_range (pa_cons (C8.pe_c c__law_digit hr (by decide) (by rfl) (pa_cons (pv 0) (pa_cons pe_int pa_nil))) pa_nil)) (blkOk_by (N := n__law_text) (sc := C8.fnScope s__law_text) (by decide +kernel)) (fun _ _ _ _ _ => pg_name (i := 2) sc__law_text.nd rfl (Or.inl rfl)) (fun _ _ _ _ _ => pts_nil) (fun _ _ _ _ _ => (pe_ix ix_str (pv 1) (C8.pe_c c__law_digit hr (by decide) (by rfl) (pa_cons (pv 0) (pa_cons pe_int pa_nil))) (fun _ _ => rfl)))))))), ?_⟩
  obtain ⟨p, rfl, d, q⟩ := h
  refine q_asg (v := .str (SX.S fewS)) (ev_is ev_c (by rw [fewS_S])) fun H1 e1 => ?_
  refine s1_ret (P := txtP fewS 4) (e1_join (by decide) (e1_lc (m := 4) (ez_mono (ez_digit (ev_var rfl) ev_c (by decide) (by decide)) fun i hi => by omega) (by decide) (fun _ => rfl) fun i => e1_sign rfl (by rw [fewS_len]; rfl) (by decide) (by decide) (ev_var rfl) ev_c)) (d.ex e1) fun v H2 hv e2 d2 => ?_
  obtain ⟨l, rfl, hl, hc⟩ := hv
  exact q _ H2 ⟨l, rfl, hl, fun c h => fewS_in c (hc c h)⟩ (wx_trans (wx_of e1) e2) d2
section
variable {σ : L2.St} {H : Hp} {ta : TE} {E : XK} {p : Addr}
theorem e1_text (ha : Ev ta σ (wo p H) (.ref p)) : EvD1 (tCall (sp__law_text K) [] E (tCons ta tNil)) σ p H (txtP signsL 4) := fun H1 e d Q q =>
  ha H1 e _ fun H2 e2 => ⟨p, rfl, d.ex e2, fun v H3 hv e3 d3 => q v H3 hv (wx_trans (wx_of e2) e3) d3⟩
theorem e1_value (ha : Ev ta σ (wo p H) (.ref p)) : EvD1 (tCall (sp__law_value K) [] E (tCons ta tNil)) σ p H DV := fun H1 e d Q q =>
  ha H1 e _ fun H2 e2 => ⟨p, rfl, d.ex e2, fun v H3 hv e3 d3 => q v H3 hv (wx_trans (wx_of e2) e3) d3⟩
end
theorem ok__law_value (D : Dn K mg "_law_value" s__law_value ["state"]) (c__law_digit : C8.Cal P w K mg base 1 "_law_digit" (sp__law_digit K) []) (c__law_text : C8.Cal P w K mg base 2 "_law_text" (sp__law_text K) []) :
    C8.Cal P w K mg base 3 "_law_value" (sp__law_value K) [] := by
  refine cal_of D sc__law_value (fun vs H Q E h => ?_) (fun f cdv A outer s H vs Q E hr h => ?_)
  · obtain ⟨_, rfl, _⟩ := h
    rfl
  refine ⟨_, (pss_cons (ps_set (i := 1) sc__law_value.nd rfl (.inl rfl) (C8.pe_c c__law_digit hr (by decide) (by rfl) (pa_cons (pv 0) (pa_cons pe_int pa_nil))))
    (pss_cons (ps_if (pt_cmpR op_lt (pv 1) pe_int (nomark _))
      (pss_one (ps_ret pe_non))
      pss_nil)
    (pss_cons (ps_if (pt_cmpR op_eq (pv 1) pe_int (nomark _))
      (pss_one (ps_ret (pe_cmpR op_eq (C8.pe_c c__law_digit hr (by decide) (by rfl) (pa_cons (pv 0) (pa_cons pe_int pa_nil))) pe_int (nomark _))))
      pss_nil)
    (pss_cons (ps_if (pt_cmpR op_lt (pv 1) pe_int (nomark _))
      (pss_one (ps_ret (pe_op op_sub (C8.pe_c c__law_digit hr (by decide) (by rfl) (pa_cons (pv 0) (pa_cons pe_int pa_nil))) pe_int)))
      pss_nil)
    (pss_cons (ps_if (pt_cmpR op_eq (pv 1) pe_int (nomark _))
      (pss_one (ps_ret (pe_op op_mul (pe_op op_sub (pe_op op_mul (C8.pe_c c__law_digit hr (by decide) (by rfl) (pa_cons (pv 0) (pa_cons pe_int pa_nil))) pe_int) pe_int) (pe_op op_sub pe_int (C8.pe_c c__law_digit hr (by decide) (by rfl) (pa_cons (pv 0) (pa_cons pe_int pa_nil)))))))
      pss_nil)
    (pss_one (ps_ret (C8.pe_c c__law_text hr (by decide) (by rfl) (pa_cons (pv 0) pa_nil))))))))), ?_⟩
  obtain ⟨p, rfl, d, q⟩ := h
  refine qz_asg (ez_digit (ev_var rfl) ev_c (by decide) (by decide)) d fun kd H1 hk e1 d1 => ?_
  have w2 : ∀ {H2 : Hp}, Ex H1 H2 → Ex (wo p H) H2 := fun e => wx_trans e1 (wx_of e)
  refine q_when (b := decide (kd < 2)) (by walk_at "et") (fun _ H2 e2 => s_ret ev_c fun H3 e3 => q _ H3 .non (w2 (e2.trans e3)) (d1.ex (e2.trans e3))) fun _ H2 e2 => ?_
  have dg : ∀ {m : Int} {σ : L2.St} {H0 : Hp}, σ[0]? = some (some (V.ref p)) → 0 < m → m < 2 ^ 400 → EvD1 (tCall (sp__law_digit K) [] C8.E0 (tCons (tVar 0) (tCons (tC (.int m)) tNil))) σ p H0 (ZP fun d => 0 ≤ d ∧ d < m) := fun h0 a b => ez_digit (ev_var h0) ev_c a b
  have cc : ∀ {c : Int} {σ : L2.St} {H0 : Hp}, EvD1 (tC (.int c)) σ p H0 (ZP fun d => d = c) := e1_int ev_c rfl
  refine q_when (b := decide (V.int kd = V.int 2)) (by walk_at "et") (fun _ H3 e3 => ?_) fun _ H3 e3 => ?_
  · refine s1_ret (P := fun v => ∃ b, v = .bl b) (ez_eq (dg rfl (by decide) (by decide)) cc) (d1.ex (e2.trans e3)) fun v H4 hv e4 d4 => ?_
    obtain ⟨b, rfl⟩ := hv
    exact q _ H4 (.bl b) (wx_trans (w2 (e2.trans e3)) e4) d4
  have x3 := e2.trans e3
  refine q_when (b := decide (kd < 5)) (by walk_at "et") (fun _ H4 e4 => ?_) fun _ H4 e4 => ?_
  · refine s1_ret (P := ZP fun i => -3 ≤ i ∧ i < 4) (ez_op0 (dg rfl (by decide) (by decide)) cc fun i j hi hj => ⟨by omega, by omega⟩) (d1.ex (x3.trans e4)) fun v H5 hv e5 d5 => ?_
    obtain ⟨i, rfl, hi⟩ := hv
    exact q _ H5 (.int i (by omega)) (wx_trans (w2 (x3.trans e4)) e5) d5
  refine q_when (b := decide (V.int kd = V.int 5)) (by walk_at "et") (fun _ H5 e5 => ?_) fun _ H5 e5 => ?_
  · refine s1_ret (P := ZP fun i => -1000000000000000 ≤ i ∧ i ≤ 1000000000000000) ?_ (d1.ex ((x3.trans e4).trans e5)) fun v H6 hv e6 d6 => ?_
    · refine ez_op (PI := fun i => i = -1 ∨ i = 1) (RI := fun j => 0 ≤ j ∧ j ≤ 1000000000000000) (ez_op0 (PI := fun i => i = 0 ∨ i = 2) (ez_op (dg rfl (by decide) (by decide)) cc fun i j hi hj => ⟨.inl ⟨by omega, by omega⟩, by subst hj; omega⟩) cc fun i j hi hj => by omega) (ez_op0 cc (dg rfl (by decide) (by decide)) fun i j hi hj => ⟨by omega, by omega⟩) fun i j hi hj => ⟨.inl ⟨by omega, by omega⟩, ?_⟩
      rcases hi with h | h <;> subst h <;> omega
    · obtain ⟨i, rfl, hi⟩ := hv
      exact q _ H6 (.int i hi) (wx_trans (w2 ((x3.trans e4).trans e5)) e6) d6
  · refine s1_ret (e1_text (ev_var rfl)) (d1.ex ((x3.trans e4).trans e5)) fun v H6 hv e6 d6 => ?_
    obtain ⟨l, rfl, hl, hc⟩ := hv
    exact q _ H6 (.str l hl hc) (wx_trans (w2 ((x3.trans e4).trans e5)) e6) d6
end

/-! ### a text by a number; s.index of what is there; a comprehension over a text -/
theorem fold_rep (l : List Nat) : ∀ (m : Nat) (acc : List Nat), (List.replicate m l.toArray).foldl (· ++ ·) acc.toArray = (acc ++ (List.replicate m l).flatten).toArray
  | 0, acc => by simp
  | m + 1, acc => by
    rw [List.replicate_succ, List.foldl_cons, List.append_toArray, fold_rep l m (acc ++ l), List.replicate_succ, List.flatten_cons, List.append_assoc]
theorem op_mulS {X : Cx} : OpR X (binaryOp .Mult) (fun x y H Q => ∃ (l : List Nat) (n : Nat), x = .str (SX.S l) ∧ y = .int (n : Int) ∧ 1 ≤ n ∧ n ≤ 100 ∧ l.length ≤ 1000 ∧ Q (.str (SX.S (List.replicate n l).flatten)) H) := by
  intro pins s σ H x y v u Q I rx ry h
  obtain ⟨l, n, rfl, rfl, n1, n2, hl, q⟩ := h
  obtain ⟨t, rfl⟩ := (show ∃ t, v = Value.str (SX.S l) t from rx)
  obtain ⟨t', rfl⟩ := (show ∃ t, u = Value.int (n : Int) t from ry)
  have hm : l.length * n ≤ 1000 * 100 := Nat.mul_le_mul hl n2
  refine PySem.P.mul_str (by rw [decide_eq_false (by omega), decide_eq_false (by omega)]; rfl) (fun _ _ => ?_) (fun _ _ => ?_) ?_
  · rw [SX.S_len]
    have : (l.length : Int) ≤ (2 ^ 63 - 1) / (n : Int) := Int.le_ediv_of_mul_le (by omega) (by
      have e : (l.length : Int) * (n : Int) = ((l.length * n : Nat) : Int) := by rw [Int.natCast_mul]
      rw [e]
      omega)
    omega
  · rw [SX.S_len, Int.toNat_natCast]
    exact decide_eq_false (Nat.not_lt.mpr (Nat.le_trans hm (by decide)))
  · rw [if_neg (by omega)]
    split
    · rename_i h
      rw [Bool.or_eq_true, beq_iff_eq, beq_iff_eq, SX.S_len] at h
      have e : (List.replicate n l).flatten = l := by
        rcases h with h | h
        · have : n = 1 := by omega
          rw [this]
          simp
        · have : l = [] := List.length_eq_zero_iff.mp h
          rw [this]
          simp
      rw [e] at q
      exact ⟨.str _, H, I, ⟨t, rfl⟩, q⟩
    · have e : (⟨(List.replicate ((n : Int)).toNat (SX.S l).cps).foldl (· ++ ·) #[]⟩ : Str) = SX.S (List.replicate n l).flatten := by
        have := fold_rep l n []
        rw [List.nil_append] at this
        rw [Int.toNat_natCast]
        exact congrArg Str.mk this
      rw [e]
      refine ⟨?_, .str _, H, I.tok _, ⟨_, rfl⟩, q⟩
      rw [SX.S_len]
      have : (List.replicate n l).flatten.length = n * l.length := by simp
      rw [this, Nat.mul_comm]
      exact Nat.le_trans hm (by decide)
/-- s.index(t), found -/
theorem mt_indexOk {X : Cx} : MtR X "str.index" (fun x xs H Q => ∃ (a b : Str) (k : Nat), x = .str a ∧ xs = [.str b] ∧ Txt.index0 a b = some k ∧ Q (.int (k : Int)) H) := by
  intro pins s σ H x xs v us Q I rx rs h
  obtain ⟨a, b, k, rfl, rfl, hk, w⟩ := h
  obtain ⟨t, rfl⟩ := (show ∃ t, v = Value.str a t from rx)
  cases rs with
  | cons r1 rs =>
    cases rs
    obtain ⟨u, rfl⟩ := r1
    cases q : Builtin.Str.occurrences a b 0 a.length 1 with
    | nil =>
      unfold Txt.index0 at hk
      rw [q] at hk
      cases hk
    | cons j rest =>
      have e : j = k := by
        unfold Txt.index0 at hk
        rw [q] at hk
        exact Option.some.inj hk
      subst e
      exact PySem.SC.index q ⟨.int (j : Nat), H, I.tok _, ⟨_, rfl⟩, w⟩
section
variable {K : PySem.W.Frag} {σ : L2.St} {H : Hp} {tl te ta tb : TE}
/-- [e for c in a text] -/
theorem el_lcX {w : List Nat} {j : Nat} {vs : List Nat} (f : Nat → V) (h : Ev tl σ H (.str (SX.S w))) (hz : w.length ≤ 40000) (hw : ∀ x, wipe ((wipe σ vs).set j (some x)) vs = wipe σ vs)
    (he : ∀ (i c : Nat) H1, Ex H H1 → w[i]? = some c → Ev te ((wipe σ vs).set j (some (.str ⟨#[c]⟩))) H1 (f c)) : EvL (tLc (iStr tl) (gName j) tYes te vs) σ H (w.map f) := fun H0 e Q q => h H0 e _ fun H1 e1 => ⟨SX.S w, rfl, fun Dl hD => by
  have ec : ∀ i, (SX.S w).cps[i]? = w[i]? := fun i => List.getElem?_toArray
  have es : (SX.S w).cps.size = w.length := List.size_toArray
  refine ⟨fun i m H' => (Ex H1 H' ∧ H' Dl = some (.lst ((w.take i).map f))) ∧ i ≤ w.length ∧ w.length - i ≤ m, ⟨_, ⟨Ex.new hD, upd_same⟩, Nat.zero_le _, Nat.le_refl _⟩, fun i m H' pv => ?_⟩
  obtain ⟨⟨p2, p3⟩, hi, hm⟩ := pv
  by_cases hlt : i < w.length
  · refine .inr ⟨by show i < (SX.S w).cps.size; omega, fun H2 => Ex H1 H2 ∧ H2 Dl = some (.lst ((w.take (i + 1)).map f)), fun H2 q2 => ⟨m - 1, by omega, q2, hlt, by omega⟩, ?_⟩
    rintro x H2 ⟨rfl, c, hc, rfl⟩
    rw [ec] at hc
    show wipe ((wipe σ vs).set j (some (.str ⟨#[c]⟩))) vs = wipe σ vs ∧ te ((wipe σ vs).set j (some (.str ⟨#[c]⟩))) _ fun y H4 => ∃ acc, H4 Dl = some (.lst acc) ∧ acc.length < sizeLine ∧ _
    refine ⟨hw _, he i c H1 (e.trans e1) hc _ p2 _ fun H4 e4 => ⟨_, e4 _ _ p3, sz_lt (by rw [List.length_map, List.length_take]; omega), Ex.mut (p2.trans e4) hD, ?_⟩⟩
    rw [upd_same, List.take_add_one, hc, List.map_append]
    rfl
  · refine .inl ⟨by show (SX.S w).cps.size ≤ i; omega, ?_⟩
    rw [show i = w.length by omega, List.take_length] at p3
    exact q Dl H' (fresh_back e1 hD) (e1.trans p2) p3⟩
/-- a new list + a new list -/
theorem el_catNN {xs ys : List V} (ha : EvL ta σ H xs) (hb : EvL tb σ H ys) (hz : xs.length + ys.length ≤ 100000) : EvL (tOp rCat ta tb) σ H (xs ++ ys) := fun H1 e Q q =>
  ha H1 e _ fun a H2 ha2 e2 h2 => hb H2 (e.trans e2) _ fun b H3 _ e3 hb3 => ⟨a, b, xs, ys, rfl, rfl, e3 _ _ h2, hb3, sz_of hz, fun p hp => q p _ (fresh_back (e2.trans e3) hp) ((e2.trans e3).trans (Ex.new hp)) upd_same⟩
end
theorem el_given {te : TE} {σ : L2.St} {H : Hp} {n : Nat} {f : Nat → Bool} {v : Nat → V} (h : EvL te σ H (given ((n : Int)).toNat f v)) : EvL te σ H (given n f v) := by
  rw [Int.toNat_natCast] at h
  exact h

/-! ### ranks -/
def kr : V → Int
  | .non => 0
  | .bl _ => 1
  | .int _ => 2
  | _ => 3
def payV : V → V
  | .non => .int 0
  | .bl b => .int (if b then 1 else 0)
  | x => x
def rkL (x : V) : List V := [.int (kr x), payV x]
def payD : V → PyData
  | .non => .int 0
  | .bl b => .int (if b then 1 else 0)
  | .int i => .int i
  | .str s => .str s
  | _ => .none
def rkDs (x : V) : List PyData := [.int (kr x), payD x]
def rkD (x : V) : PyData := .tuple (rkDs x)
/-- plain, and its signs are signs -/
inductive Ok : V → Prop where
  | non : Ok .non
  | bl (b : Bool) : Ok (.bl b)
  | int (i : Int) : Ok (.int i)
  | str (s : Str) (h : PyData.strOk s = true) : Ok (.str s)
theorem Ok.pl {x : V} (h : Ok x) : Pl x := by cases h <;> constructor
theorem strOk_S {l : List Nat} (h : ∀ c ∈ l, 32 ≤ c ∧ c ≤ 126) : PyData.strOk (SX.S l) = true := by
  unfold PyData.strOk
  rw [Array.all_eq_true']
  intro c hc
  have := h c (by simpa using hc)
  exact decide_eq_true (by omega)
theorem dp_pay {K : PySem.W.Frag} {H : Hp} {x : V} (h : Ok x) : Dp K H (payV x) (payD x) := by
  cases h with
  | non => exact .int 0
  | bl b => exact .int _
  | int i => exact .int i
  | str s _ => exact .str s
theorem dp_rks {K : PySem.W.Frag} {H : Hp} {x : V} (h : Ok x) : DpAll K H (rkL x) (rkDs x) := .cons (.int _) (.cons (dp_pay h) .nil)
theorem dp_rk {K : PySem.W.Frag} {H : Hp} {x : V} {p : Addr} (h : Ok x) (hp : H p = some (.tup (rkL x))) : Dp K H (.ref p) (rkD x) := .tup (st_of hp) (dp_rks h)
theorem lay_rk {x : V} (h : Ok x) : (rkD x).canLay0 = true := by
  cases h with
  | non => rfl
  | bl b => rfl
  | int i => rfl
  | str s hs =>
    show (true && (PyData.strOk s && true)) = true
    rw [hs]
    rfl
theorem dep_rk {x : V} (h : Ok x) : (rkD x).depth = 1 := by cases h <;> rfl
theorem shaped_rk {x : V} (h : Ok x) : SeqAt.shaped (rkD x) = true := by
  unfold SeqAt.shaped
  rw [lay_rk h, dep_rk h]
  rfl
theorem noL_rk {x : V} (h : Ok x) : noL (rkD x) = true := by cases h <;> rfl
theorem ord_rk {x y : V} (hx : Ok x) (hy : Ok y) : ordD (rkD x) (rkD y) = true := by
  have step : ∀ (a b : Int) (p q : PyData), (a = b → ordD p q = true) → ordD (.tuple [.int a, p]) (.tuple [.int b, q]) = true := by
    intro a b p q h
    rw [ordD, ordDs]
    split
    · rename_i e
      rw [ordDs]
      split
      · rfl
      · exact h (beq_iff_eq.mp (show (a == b) = true from e))
    · rfl
  refine step _ _ _ _ fun e => ?_
  cases hx <;> cases hy <;> first | rfl | (simp [kr] at e)
theorem lays_rk : ∀ {xs : List V}, (∀ x ∈ xs, Ok x) → PyData.canLayAll0 (xs.map rkD) = true
  | [], _ => rfl
  | x :: xs, h => by
    show ((rkD x).canLay0 && PyData.canLayAll0 (xs.map rkD)) = true
    rw [lay_rk (h x (List.mem_cons_self ..)), lays_rk fun y hy => h y (List.mem_cons_of_mem _ hy)]
    rfl
theorem deps_rk : ∀ {xs : List V}, (∀ x ∈ xs, Ok x) → PyData.depthAll (xs.map rkD) ≤ 1
  | [], _ => by show 0 ≤ 1; decide
  | x :: xs, h => by
    show max (rkD x).depth (PyData.depthAll (xs.map rkD)) ≤ 1
    rw [dep_rk (h x (List.mem_cons_self ..))]
    have := deps_rk fun y hy => h y (List.mem_cons_of_mem _ hy)
    omega
theorem shaped_row {xs : List V} (h : ∀ x ∈ xs, Ok x) : SeqAt.shaped (.tuple (xs.map rkD)) = true := by
  have hd := deps_rk h
  show (PyData.canLayAll0 (xs.map rkD) && decide (PyData.depthAll (xs.map rkD) + 1 ≤ 64)) = true
  rw [lays_rk h, decide_eq_true (by omega)]
  rfl
theorem ords_rk : ∀ {xs ys : List V}, (∀ x ∈ xs, Ok x) → (∀ y ∈ ys, Ok y) → ordDs (xs.map rkD) (ys.map rkD) = true
  | [], _, _, _ => by rw [List.map_nil, ordDs]
  | _ :: _, [], _, _ => rfl
  | x :: xs, y :: ys, h1, h2 => by
    rw [List.map_cons, List.map_cons, ordDs]
    split
    · exact ords_rk (fun z hz => h1 z (List.mem_cons_of_mem _ hz)) (fun z hz => h2 z (List.mem_cons_of_mem _ hz))
    · exact ord_rk (h1 x (List.mem_cons_self ..)) (h2 y (List.mem_cons_self ..))
def sp_kind_rank (K : PySem.W.Frag) : Sp := fun vs H Q _ => ∃ x : V, vs = [x] ∧ Ok x ∧ ∀ H', Ex H H' → Q (.int (kr x)) H'
def sp_is_integer (K : PySem.W.Frag) : Sp := fun vs H Q _ => ∃ x : V, vs = [x] ∧ Pl x ∧ ∀ H', Ex H H' → Q (.bl (isInt x)) H'
def sp__law_is_integer (K : PySem.W.Frag) : Sp := fun vs H Q _ => ∃ x : V, vs = [x] ∧ Pl x ∧ ∀ H', Ex H H' → Q (.bl (isInt x)) H'
def sp_rank (K : PySem.W.Frag) : Sp := fun vs H Q _ => ∃ x : V, vs = [x] ∧ Ok x ∧ ∀ p H', H p = none → Ex H H' → H' p = some (.tup (rkL x)) → Q (.ref p) H'
def sp__law_rank (K : PySem.W.Frag) : Sp := fun vs H Q _ => ∃ x : V, vs = [x] ∧ Ok x ∧ ∀ p H', H p = none → Ex H H' → H' p = some (.tup (rkL x)) → Q (.ref p) H'
def sp_same (K : PySem.W.Frag) : Sp := fun vs H Q _ => ∃ x y : V, vs = [x, y] ∧ Ok x ∧ Ok y ∧ ∀ H', Ex H H' → Q (.bl (PyData.eqv (rkD x) (rkD y))) H'
def sp_before (K : PySem.W.Frag) : Sp := fun vs H Q _ => ∃ x y : V, vs = [x, y] ∧ Ok x ∧ Ok y ∧ ∀ H', Ex H H' → Q (.bl (ltD (rkD x) (rkD y))) H'
section
variable {P : Program} {w : World} {K : PySem.W.Frag} {mg : Str → Option Value} {base : Heap}
section
variable {σ : L2.St} {H : Hp} {ta tb tc : TE} {E : XK} {x y : V}
theorem ec_isint0 (ha : Ev ta σ H x) (h : Pl x) : Ev (tCall (sp_is_integer K) [] E (tCons ta tNil)) σ H (.bl (isInt x)) := ev_call (ea_cons ha ea_nil) fun H1 e Q q E => ⟨x, rfl, h, q⟩
theorem ec_isint (ha : Ev ta σ H x) (h : Pl x) : Ev (tCall (sp__law_is_integer K) [] E (tCons ta tNil)) σ H (.bl (isInt x)) := ev_call (ea_cons ha ea_nil) fun H1 e Q q E => ⟨x, rfl, h, q⟩
theorem ec_kr (ha : Ev ta σ H x) (h : Ok x) : Ev (tCall (sp_kind_rank K) [] E (tCons ta tNil)) σ H (.int (kr x)) := ev_call (ea_cons ha ea_nil) fun H1 e Q q E => ⟨x, rfl, h, q⟩
theorem ec_rank (ha : Ev ta σ H x) (h : Ok x) : EvU (tCall (sp_rank K) [] E (tCons ta tNil)) σ H (rkL x) := eu_call (ea_cons ha ea_nil) fun H1 e Q q E => ⟨x, rfl, h, q⟩
theorem ec_lrank (ha : Ev ta σ H x) (h : Ok x) : EvU (tCall (sp__law_rank K) [] E (tCons ta tNil)) σ H (rkL x) := eu_call (ea_cons ha ea_nil) fun H1 e Q q E => ⟨x, rfl, h, q⟩
theorem ud_rk (h : EvU ta σ H (rkL x)) (hx : Ok x) : EvUD K ta σ H (rkDs x) := fun H1 e Q q => h H1 e _ fun p H2 hp e2 h2 => q p H2 _ hp e2 h2 (dp_rks hx)
theorem ed_rk (h : EvU ta σ H (rkL x)) (hx : Ok x) : EvD K ta σ H (rkD x) := ed_tupU (ud_rk h hx)
theorem ec_same (ha : Ev ta σ H x) (hb : Ev tb σ H y) (h1 : Ok x) (h2 : Ok y) : Ev (tCall (sp_same K) [] E (tCons ta (tCons tb tNil))) σ H (.bl (PyData.eqv (rkD x) (rkD y))) := ev_call (ea_cons ha (ea_cons hb ea_nil)) fun H1 e Q q E => ⟨x, y, rfl, h1, h2, q⟩
theorem ec_before (ha : Ev ta σ H x) (hb : Ev tb σ H y) (h1 : Ok x) (h2 : Ok y) : Ev (tCall (sp_before K) [] E (tCons ta (tCons tb tNil))) σ H (.bl (ltD (rkD x) (rkD y))) := ev_call (ea_cons ha (ea_cons hb ea_nil)) fun H1 e Q q E => ⟨x, y, rfl, h1, h2, q⟩
end
theorem ok_kind_rank (D : Dn K mg "kind_rank" s_kind_rank ["value"]) (z_bool : mg "bool" = none) (z_int : mg "int" = none) (z_isinstance : mg "isinstance" = none) :
    C8.Cal P w K mg base 1 "kind_rank" (sp_kind_rank K) [] := by
  refine cal_of D sc_kind_rank (fun vs H Q E h => ?_) (fun f cdv A outer s H vs Q E hr h => ?_)
  · obtain ⟨_, rfl, _⟩ := h
    rfl
  refine ⟨_, (pss_cons (ps_if (pt_cmpR op_isN (pv 0) pe_non (nomark _))
      (pss_one (ps_ret pe_int))
      pss_nil)
    (pss_cons (ps_if (pt_val (pe_callB call_isi (by rfl) z_isinstance (by decide +kernel) (pa_cons (pv 0) (pa_cons (pe_bltn (v := .ty "bool") (u := .type "bool") rfl z_bool (by decide +kernel) rfl) pa_nil))))
      (pss_one (ps_ret pe_int))
      pss_nil)
    (pss_cons (ps_if (pt_val (pe_callB call_isi (by rfl) z_isinstance (by decide +kernel) (pa_cons (pv 0) (pa_cons (pe_bltn (v := .ty "int") (u := .type "int") rfl z_int (by decide +kernel) rfl) pa_nil))))
      (pss_one (ps_ret pe_int))
      pss_nil)
    (pss_one (ps_ret pe_int))))), ?_⟩
  obtain ⟨x, rfl, hx, q⟩ := h
  refine q_when (b := decide (x = .non)) (by walk_at "et") (fun hb H1 e1 => s_ret (v := .int (kr x)) ?_ fun H2 e2 => q _ (e1.trans e2)) fun hb H1 e1 => ?_
  · rw [of_decide_eq_true hb]
    exact ev_c
  cases hx with
  | non => exact absurd hb (by decide)
  | bl b => exact q_when (b := true) (et_B (ev_isiP (ev_var rfl) (.bl b) (by show kitB "bool" "bool" = some true; decide +kernel))) (fun _ H2 e2 => s_ret ev_c fun H3 e3 => q _ ((e1.trans e2).trans e3)) fun hb => nomatch hb
  | int i => exact q_when (b := false) (et_B (ev_isiP (ev_var rfl) (.int i) (by show kitB "int" "bool" = some false; decide +kernel))) (fun hb => nomatch hb) fun _ H2 e2 => q_when (b := true) (et_B (ev_isiP (ev_var rfl) (.int i) (by show kitB "int" "int" = some true; decide +kernel))) (fun _ H3 e3 => s_ret ev_c fun H4 e4 => q _ (((e1.trans e2).trans e3).trans e4)) fun hb => nomatch hb
  | str s hs => exact q_when (b := false) (et_B (ev_isiP (ev_var rfl) (.str s) (by show kitB "str" "bool" = some false; decide +kernel))) (fun hb => nomatch hb) fun _ H2 e2 => q_when (b := false) (et_B (ev_isiP (ev_var rfl) (.str s) (by show kitB "str" "int" = some false; decide +kernel))) (fun hb => nomatch hb) fun _ H3 e3 => s_ret ev_c fun H4 e4 => q _ (((e1.trans e2).trans e3).trans e4)
theorem ok_is_integer (D : Dn K mg "is_integer" s_is_integer ["value"]) (z_bool : mg "bool" = none) (z_int : mg "int" = none) (z_isinstance : mg "isinstance" = none) :
    C8.Cal P w K mg base 1 "is_integer" (sp_is_integer K) [] := by
  refine cal_of D sc_is_integer (fun vs H Q E h => ?_) (fun f cdv A outer s H vs Q E hr h => ?_)
  · obtain ⟨_, rfl, _⟩ := h
    rfl
  refine ⟨_, (pss_one (ps_ret (pe_and (pe_callB call_isi (by rfl) z_isinstance (by decide +kernel) (pa_cons (pv 0) (pa_cons (pe_bltn (v := .ty "int") (u := .type "int") rfl z_int (by decide +kernel) rfl) pa_nil))) (pe_one (pe_not (pe_callB call_isi (by rfl) z_isinstance (by decide +kernel) (pa_cons (pv 0) (pa_cons (pe_bltn (v := .ty "bool") (u := .type "bool") rfl z_bool (by decide +kernel) rfl) pa_nil)))))))), ?_⟩
  obtain ⟨x, rfl, hx, q⟩ := h
  exact s_ret (ev_isInt (ev_var rfl) (ev_var rfl) hx) fun H2 e2 => q _ e2
theorem ok_rank (D : Dn K mg "rank" s_rank ["value"]) (c_kind_rank : C8.Cal P w K mg base 1 "kind_rank" (sp_kind_rank K) []) (z_int : mg "int" = none) :
    C8.Cal P w K mg base 2 "rank" (sp_rank K) [] := by
  refine cal_of D sc_rank (fun vs H Q E h => ?_) (fun f cdv A outer s H vs Q E hr h => ?_)
  · obtain ⟨_, rfl, _⟩ := h
    rfl
  refine ⟨_, (pss_cons (ps_set (i := 1) sc_rank.nd rfl (.inl rfl) (C8.pe_c c_kind_rank hr (by decide) (by rfl) (pa_cons (pv 0) pa_nil)))
    (pss_cons (ps_if (pt_cmpR op_eq (pv 1) pe_int (nomark _))
      (pss_one (ps_ret (pe_tup (pa_cons pe_int (pa_cons pe_int pa_nil)))))
      pss_nil)
    (pss_cons (ps_if (pt_cmpR op_eq (pv 1) pe_int (nomark _))
      (pss_one (ps_ret (pe_tup (pa_cons pe_int (pa_cons (pe_callTy call_int1 (by rfl) z_int (by decide +kernel) (pa_cons (pv 0) pa_nil)) pa_nil)))))
      pss_nil)
    (pss_one (ps_ret (pe_tup (pa_cons (pv 1) (pa_cons (pv 0) pa_nil)))))))), ?_⟩
  obtain ⟨x, rfl, hx, q⟩ := h
  refine q_asg (ec_kr (ev_var rfl) hx) fun H1 e1 => ?_
  refine q_when (b := decide (V.int (kr x) = V.int 0)) (by walk_at "et") (fun hb H2 e2 => s_retU (xs := rkL x) ?_ fun p H3 hp e3 h3 => q p H3 (fresh_back (e1.trans e2) hp) ((e1.trans e2).trans e3) h3) fun hb H2 e2 => ?_
  · cases hx with
    | non => exact eu_tup (ea_cons ev_c (ea_cons ev_c ea_nil)) (by show 2 ≤ 100000; decide)
    | _ => simp [kr] at hb
  refine q_when (b := decide (V.int (kr x) = V.int 1)) (by walk_at "et") (fun hb H3 e3 => s_retU (xs := rkL x) ?_ fun p H4 hp e4 h4 => q p H4 (fresh_back ((e1.trans e2).trans e3) hp) (((e1.trans e2).trans e3).trans e4) h4) fun hb H3 e3 => s_retU (xs := rkL x) ?_ fun p H4 hp e4 h4 => q p H4 (fresh_back ((e1.trans e2).trans e3) hp) (((e1.trans e2).trans e3).trans e4) h4
  · cases hx with
    | bl b => exact eu_tup (ea_cons ev_c (ea_cons (ev_intB (ev_var rfl)) ea_nil)) (by show 2 ≤ 100000; decide)
    | _ => simp [kr] at hb
  · cases hx with
    | non => exact absurd ‹decide (V.int (kr .non) = V.int 0) = false› (by decide)
    | bl b => exact absurd ‹decide (V.int (kr (.bl b)) = V.int 1) = false› (by show ¬ decide (V.int 1 = V.int 1) = false; decide)
    | int i => exact eu_tup (ea_cons (ev_var rfl) (ea_cons (ev_var rfl) ea_nil)) (by show 2 ≤ 100000; decide)
    | str s hs => exact eu_tup (ea_cons (ev_var rfl) (ea_cons (ev_var rfl) ea_nil)) (by show 2 ≤ 100000; decide)
theorem ok__law_rank (D : Dn K mg "_law_rank" s__law_rank ["value"]) (z_bool : mg "bool" = none) (z_int : mg "int" = none) (z_isinstance : mg "isinstance" = none) :
    C8.Cal P w K mg base 1 "_law_rank" (sp__law_rank K) [] := by
  refine cal_of D sc__law_rank (fun vs H Q E h => ?_) (fun f cdv A outer s H vs Q E hr h => ?_)
  · obtain ⟨_, rfl, _⟩ := h
    rfl
  refine ⟨_, (pss_cons (ps_if (pt_cmpR op_isN (pv 0) pe_non (nomark _))
      (pss_one (ps_ret (pe_tup (pa_cons pe_int (pa_cons pe_int pa_nil)))))
      pss_nil)
    (pss_cons (ps_if (pt_val (pe_callB call_isi (by rfl) z_isinstance (by decide +kernel) (pa_cons (pv 0) (pa_cons (pe_bltn (v := .ty "bool") (u := .type "bool") rfl z_bool (by decide +kernel) rfl) pa_nil))))
      (pss_one (ps_ret (pe_tup (pa_cons pe_int (pa_cons (pe_callTy call_int1 (by rfl) z_int (by decide +kernel) (pa_cons (pv 0) pa_nil)) pa_nil)))))
      pss_nil)
    (pss_cons (ps_if (pt_val (pe_callB call_isi (by rfl) z_isinstance (by decide +kernel) (pa_cons (pv 0) (pa_cons (pe_bltn (v := .ty "int") (u := .type "int") rfl z_int (by decide +kernel) rfl) pa_nil))))
      (pss_one (ps_ret (pe_tup (pa_cons pe_int (pa_cons (pv 0) pa_nil)))))
      pss_nil)
    (pss_one (ps_ret (pe_tup (pa_cons pe_int (pa_cons (pv 0) pa_nil)))))))), ?_⟩
  obtain ⟨x, rfl, hx, q⟩ := h
  have two : (2 : Nat) ≤ 100000 := by decide
  refine q_when (b := decide (x = .non)) (by walk_at "et") (fun hb H1 e1 => s_retU (xs := rkL x) ?_ fun p H2 hp e2 h2 => q p H2 (fresh_back e1 hp) (e1.trans e2) h2) fun hb H1 e1 => ?_
  · rw [of_decide_eq_true hb]
    exact eu_tup (ea_cons ev_c (ea_cons ev_c ea_nil)) (by show 2 ≤ 100000; decide)
  cases hx with
  | non => exact absurd hb (by decide)
  | bl b => exact q_when (b := true) (et_B (ev_isiP (ev_var rfl) (.bl b) (by show kitB "bool" "bool" = some true; decide +kernel))) (fun _ H2 e2 => s_retU (xs := rkL (.bl b)) (eu_tup (ea_cons ev_c (ea_cons (ev_intB (ev_var rfl)) ea_nil)) two) fun p H3 hp e3 h3 => q p H3 (fresh_back (e1.trans e2) hp) ((e1.trans e2).trans e3) h3) fun hb => nomatch hb
  | int i => exact q_when (b := false) (et_B (ev_isiP (ev_var rfl) (.int i) (by show kitB "int" "bool" = some false; decide +kernel))) (fun hb => nomatch hb) fun _ H2 e2 => q_when (b := true) (et_B (ev_isiP (ev_var rfl) (.int i) (by show kitB "int" "int" = some true; decide +kernel))) (fun _ H3 e3 => s_retU (xs := rkL (.int i)) (eu_tup (ea_cons ev_c (ea_cons (ev_var rfl) ea_nil)) two) fun p H4 hp e4 h4 => q p H4 (fresh_back ((e1.trans e2).trans e3) hp) (((e1.trans e2).trans e3).trans e4) h4) fun hb => nomatch hb
  | str s hs => exact q_when (b := false) (et_B (ev_isiP (ev_var rfl) (.str s) (by show kitB "str" "bool" = some false; decide +kernel))) (fun hb => nomatch hb) fun _ H2 e2 => q_when (b := false) (et_B (ev_isiP (ev_var rfl) (.str s) (by show kitB "str" "int" = some false; decide +kernel))) (fun hb => nomatch hb) fun _ H3 e3 => s_retU (xs := rkL (.str s)) (eu_tup (ea_cons ev_c (ea_cons (ev_var rfl) ea_nil)) two) fun p H4 hp e4 h4 => q p H4 (fresh_back ((e1.trans e2).trans e3) hp) (((e1.trans e2).trans e3).trans e4) h4
theorem ok_same (D : Dn K mg "same" s_same ["first", "second"]) (c_rank : C8.Cal P w K mg base 2 "rank" (sp_rank K) []) :
    C8.Cal P w K mg base 3 "same" (sp_same K) [] := by
  refine cal_of D sc_same (fun vs H Q E h => ?_) (fun f cdv A outer s H vs Q E hr h => ?_)
  · obtain ⟨_, _, rfl, _⟩ := h
    rfl
  refine ⟨_, (pss_one (ps_ret (pe_cmpR (op_eqD (hu64 hr)) (C8.pe_c c_rank hr (by decide) (by rfl) (pa_cons (pv 0) pa_nil)) (C8.pe_c c_rank hr (by decide) (by rfl) (pa_cons (pv 1) pa_nil)) (nomark _)))), ?_⟩
  obtain ⟨x, y, rfl, hx, hy, q⟩ := h
  exact s_ret (ev_eqD (ed_rk (ec_rank (ev_var rfl) hx) hx) (ed_rk (ec_rank (ev_var rfl) hy) hy) (shaped_rk hx) (shaped_rk hy)) fun H2 e2 => q _ e2
theorem ok_before (D : Dn K mg "before" s_before ["first", "second"]) (c_rank : C8.Cal P w K mg base 2 "rank" (sp_rank K) []) :
    C8.Cal P w K mg base 3 "before" (sp_before K) [] := by
  refine cal_of D sc_before (fun vs H Q E h => ?_) (fun f cdv A outer s H vs Q E hr h => ?_)
  · obtain ⟨_, _, rfl, _⟩ := h
    rfl
  refine ⟨_, (pss_one (ps_ret (pe_cmpR (op_ltD (hu64 hr)) (C8.pe_c c_rank hr (by decide) (by rfl) (pa_cons (pv 0) pa_nil)) (C8.pe_c c_rank hr (by decide) (by rfl) (pa_cons (pv 1) pa_nil)) (nomark _)))), ?_⟩
  obtain ⟨x, y, rfl, hx, hy, q⟩ := h
  exact s_ret (ev_ltD (ed_rk (ec_rank (ev_var rfl) hx) hx) (ed_rk (ec_rank (ev_var rfl) hy) hy) (shaped_rk hx) (shaped_rk hy) (ord_rk hx hy) (by rw [dep_rk hx]; decide)) fun H2 e2 => q _ e2
end

section
variable {P : Program} {w : World} {K : PySem.W.Frag} {mg : Str → Option Value} {base : Heap}
theorem ok__law_is_integer (D : Dn K mg "_law_is_integer" s__law_is_integer ["told"]) (z_bool : mg "bool" = none) (z_int : mg "int" = none) (z_isinstance : mg "isinstance" = none) :
    C8.Cal P w K mg base 1 "_law_is_integer" (sp__law_is_integer K) [] := by
  refine cal_of D sc__law_is_integer (fun vs H Q E h => ?_) (fun f cdv A outer s H vs Q E hr h => ?_)
  · obtain ⟨_, rfl, _⟩ := h
    rfl
  refine ⟨_, (pss_one (ps_ret (pe_and (pe_callB call_isi (by rfl) z_isinstance (by decide +kernel) (pa_cons (pv 0) (pa_cons (pe_bltn (v := .ty "int") (u := .type "int") rfl z_int (by decide +kernel) rfl) pa_nil))) (pe_one (pe_not (pe_callB call_isi (by rfl) z_isinstance (by decide +kernel) (pa_cons (pv 0) (pa_cons (pe_bltn (v := .ty "bool") (u := .type "bool") rfl z_bool (by decide +kernel) rfl) pa_nil)))))))), ?_⟩
  obtain ⟨x, rfl, hx, q⟩ := h
  exact s_ret (ev_isInt (ev_var rfl) (ev_var rfl) hx) fun H2 e2 => q _ e2
end

--@SPLIT
def unNames : List Str := ["not", "is null"]
def binNames : List Str := ["and", "or", "equal", "less", "at most", "same"]

theorem cal_no {P : Program} {w : World} {K : PySem.W.Frag} {mg : Str → Option Value} {base : Heap} {x : Str} {st : Stmt} {N ps : List Str} {k : Nat} {sp : Sp} (D : Dn K mg x st ps) (S : FnScope N ps (C8.fnScope st)) (no : ∀ vs H Q E, sp vs H Q E → False) : C8.Cal P w K mg base (k + 1) x sp [] :=
  cal_of D S (fun vs H Q E h => (no vs H Q E h).elim) fun f cdv A outer s H vs Q E hr h => (no vs H Q E h).elim
/-! ### conditions: what they are as data -/
inductive Cnd where
  | col (n : Nat)
  | cst (v : V)
  | un (nm : Str) (a : Cnd)
  | bin (nm : Str) (a b : Cnd)
def vDc : V → PyData
  | .bl b => .bool b
  | .int i => .int i
  | .str s => .str s
  | _ => .none
theorem dp_vDc {K : PySem.W.Frag} {H : Hp} {x : V} (h : Pl x) : Dp K H x (vDc x) := by
  cases h with
  | non => exact .non
  | bl b => exact .bl b
  | int i => exact .int i
  | str s => exact .str s
theorem vDc_is {K : PySem.W.Frag} {H : Hp} {v x : V} (h : Pl x) (hd : Dp K H v (vDc x)) : v = x := by cases h <;> cases hd <;> rfl
def Cnd.d : Cnd → PyData
  | .col n => .tuple [.str "column", .int (n : Int)]
  | .cst v => .tuple [.str "constant", vDc v]
  | .un nm a => .tuple [.str "unary", .str nm, a.d]
  | .bin nm a b => .tuple [.str "binary", .str nm, a.d, b.d]
def Cnd.dep : Cnd → Nat
  | .col _ => 1
  | .cst _ => 1
  | .un _ a => a.dep + 1
  | .bin _ a b => max a.dep b.dep + 1
/-- over w columns, of these names -/
inductive Cnd.ok (w : Nat) : Cnd → Prop where
  | col (n : Nat) (h : n < w) : Cnd.ok w (.col n)
  | cst (v : V) (h : DV v) : Cnd.ok w (.cst v)
  | un (nm : Str) (a : Cnd) (h : nm ∈ unNames) (ha : a.ok w) : Cnd.ok w (.un nm a)
  | bin (nm : Str) (a b : Cnd) (h : nm ∈ binNames) (ha : a.ok w) (hb : b.ok w) : Cnd.ok w (.bin nm a b)
theorem noL_vDc (v : V) : noL (vDc v) = true := by cases v <;> rfl
theorem noL_cx : ∀ e : Cnd, noL e.d = true
  | .col _ => rfl
  | .cst v => by
    show (true && (noL (vDc v) && true)) = true
    rw [noL_vDc]
    rfl
  | .un _ a => by
    show (true && (true && (noL a.d && true))) = true
    rw [noL_cx a]
    rfl
  | .bin _ a b => by
    show (true && (true && (noL a.d && (noL b.d && true)))) = true
    rw [noL_cx a, noL_cx b]
    rfl
/-! ### data that is drawn -/
mutual
theorem dp_wo {K : PySem.W.Frag} {H : Hp} {p : Addr} {ys : List V} (hp : H p = some (.lst ys)) : ∀ {v : V} {d : PyData}, noL d = true → Dp K H v d → Dp K (wo p H) v d
  | _, _, _, .non => .non
  | _, _, _, .bl b => .bl b
  | _, _, _, .int i => .int i
  | _, _, _, .str x => .str x
  | _, _, n, .lst h a => by simp [noL] at n
  | _, _, n, .tup h a => by
    refine .tup ?_ (dps_wo hp (by simpa [noL] using n) a)
    rcases h with (h | ⟨o, h⟩) | h
    · exact .inl (.inl (by rw [wo_ne (by intro z; rw [z, hp] at h; cases h)]; exact h))
    · exact .inl (.inr ⟨o, by rw [wo_ne (by intro z; rw [z, hp] at h; cases h)]; exact h⟩)
    · exact .inr h
theorem dps_wo {K : PySem.W.Frag} {H : Hp} {p : Addr} {ys : List V} (hp : H p = some (.lst ys)) : ∀ {vs : List V} {ds : List PyData}, noLs ds = true → DpAll K H vs ds → DpAll K (wo p H) vs ds
  | _, _, _, .nil => .nil
  | _, _, n, .cons h t => by
    have n' : (noL _ && noLs _) = true := n
    rw [Bool.and_eq_true] at n'
    exact .cons (dp_wo hp n'.1 h) (dps_wo hp n'.2 t)
end
theorem Dr.at {p : Addr} {H : Hp} (d : Dr p H) : ∃ xs, H p = some (.lst xs) := by
  obtain ⟨s, _, h⟩ := d
  exact ⟨_, h⟩
theorem dp_wx {K : PySem.W.Frag} {H H' : Hp} {p : Addr} {v : V} {d : PyData} (hd : Dp K H v d) (n : noL d = true) (dr : Dr p H) (e : Ex (wo p H) H') : Dp K H' v d := by
  obtain ⟨xs, hx⟩ := dr.at
  exact ex_dp e (dp_wo hx n hd)
theorem dps_wx {K : PySem.W.Frag} {H H' : Hp} {p : Addr} {vs : List V} {ds : List PyData} (hd : DpAll K H vs ds) (n : noLs ds = true) (dr : Dr p H) (e : Ex (wo p H) H') : DpAll K H' vs ds := by
  obtain ⟨xs, hx⟩ := dr.at
  exact ex_dps e (dps_wo hx n hd)
/-- an expression that is drawn -/
def EvX (K : PySem.W.Frag) (te : TE) (σ : L2.St) (p : Addr) (H : Hp) (P : PyData → Prop) : Prop := ∀ H1, Ex (wo p H) H1 → Dr p H1 → ∀ Q : VK, (∀ v H2 d, P d → noL d = true → Dp K H2 v d → Ex (wo p H1) H2 → Dr p H2 → Q v H2) → te σ H1 Q
def EvXA (K : PySem.W.Frag) (ta : TA) (σ : L2.St) (p : Addr) (H : Hp) (P : List PyData → Prop) : Prop := ∀ H1, Ex (wo p H) H1 → Dr p H1 → ∀ Q : List V → Hp → Prop, (∀ vs H2 ds, P ds → noLs ds = true → DpAll K H2 vs ds → Ex (wo p H1) H2 → Dr p H2 → Q vs H2) → ta σ H1 Q
section
variable {K : PySem.W.Frag} {σ : L2.St} {H : Hp} {p : Addr} {ta tb te : TE} {tr : TA} {P R : PyData → Prop} {PL : List PyData → Prop} {D : Ends} {tz : TS} {E : XK} {v : V} {t : TT}
theorem x_pure {d : PyData} (h : Ev te σ (wo p H) v) (hd : ∀ H, Dp K H v d) (n : noL d = true) : EvX K te σ p H (· = d) := fun H1 e dr Q q => h H1 e Q fun H2 e2 => q v H2 d rfl n (hd H2) (wx_of e2) (dr.ex e2)
theorem x_var {i : Nat} {d : PyData} (h : σ[i]? = some (some v)) (hd : Dp K H v d) (n : noL d = true) (d0 : Dr p H) : EvX K (tVar i) σ p H (· = d) := fun H1 e dr Q q => ⟨v, h, q v H1 d rfl n (dp_wx hd n d0 e) (wo_le p H1) dr⟩
theorem x_dv (h : EvD1 te σ p H DV) : EvX K te σ p H (fun d => ∃ x, DV x ∧ d = vDc x) := fun H1 e dr Q q => h H1 e dr Q fun v H2 hv e2 d2 => q v H2 (vDc v) ⟨v, hv, rfl⟩ (noL_vDc v) (dp_vDc hv.pl) e2 d2
theorem x_int {PI : Int → Prop} (h : EvD1 te σ p H (ZP PI)) : EvX K te σ p H (fun d => ∃ i, PI i ∧ d = .int i) := fun H1 e dr Q q => h H1 e dr Q fun v H2 ⟨i, ev, hi⟩ e2 d2 => by
  subst ev
  exact q _ H2 (.int i) ⟨i, hi, rfl⟩ rfl (.int i) e2 d2
theorem x_mono (h : EvX K te σ p H P) (k : ∀ d, P d → R d) : EvX K te σ p H R := fun H1 e dr Q q => h H1 e dr Q fun v H2 d hd => q v H2 d (k d hd)
theorem xa_nil : EvXA K tNil σ p H (· = []) := fun H1 _ dr _ q => q [] H1 [] rfl rfl .nil (wo_le p H1) dr
theorem xa_cons (h : EvX K te σ p H P) (hr : EvXA K tr σ p H PL) : EvXA K (tCons te tr) σ p H (fun ds => ∃ d r, ds = d :: r ∧ P d ∧ PL r) := fun H1 e dr Q q =>
  h H1 e dr _ fun v H2 d hd n hv e2 d2 => hr H2 (wx_trans e e2) d2 _ fun vs H3 r hr' n' hvs e3 d3 => q (v :: vs) H3 (d :: r) ⟨d, r, rfl, hd, hr'⟩ (by show (noL d && noLs r) = true; rw [n, n']; rfl) (.cons (dp_wx hv n d2 e3) hvs) (wx_trans e2 e3) d3
theorem x_tup (h : EvXA K tr σ p H PL) (hl : ∀ ds, PL ds → ds.length ≤ 100000) : EvX K (tTup tr) σ p H (fun d => ∃ ds, d = .tuple ds ∧ PL ds) := fun H1 e dr Q q =>
  h H1 e dr _ fun vs H2 ds hds n hvs e2 d2 => ⟨sz_of (by rw [dps_len hvs]; exact hl ds hds), fun a ha => q (.ref a) _ (.tuple ds) ⟨ds, rfl, hds⟩ n (.tup (st_of upd_same) (ex_dps (Ex.new ha) hvs)) (e2.trans (Ex.new ha)) (d2.ex (Ex.new ha))⟩
theorem qx_asg {i : Nat} (h : EvX K te σ p H P) (d : Dr p H) (k : ∀ v H1 d', P d' → noL d' = true → Dp K H1 v d' → Ex (wo p H) H1 → Dr p H1 → tz D (σ.set i (some v)) H1) : tSeq (tAsg te (gName i)) tz D σ H := h H (wo_le p H) d _ k
theorem sx_ret (h : EvX K te σ p H P) (d : Dr p H) (k : ∀ v H1 d', P d' → noL d' = true → Dp K H1 v d' → Ex (wo p H) H1 → Dr p H1 → D.rt v H1) : tRet te D σ H := h H (wo_le p H) d _ k
/-- (a, b, c)[i] -/
theorem ev_ixD {xs : List V} {i : Nat} {x : V} (ha : EvU ta σ H xs) (hb : Ev tb σ H (.int (i : Int))) (hi : xs[i]? = some x) : Ev (tOp (rIxT K) ta tb) σ H x := fun H1 e Q q =>
  ha H1 e _ fun a H2 ha2 e2 h2 => hb H2 (e.trans e2) _ fun H3 e3 => rv_ixT (st_of (e3 _ _ h2)) (atI_nat hi) H3 (Ex.refl H3) Q fun H4 e4 => q H4 ((e2.trans e3).trans e4)
end
def CondD (w n : Nat) (d : PyData) : Prop := ∃ e : Cnd, d = e.d ∧ e.ok w ∧ e.dep ≤ n
def spR__law_condition : Nat → PySem.W.Frag → Sp
  | 0, _ => fun _ _ _ _ => False
  | n + 1, K => fun vs H Q _ => ∃ (p : Addr) (w dp : Nat), vs = [.ref p, .int (w : Int), .int (dp : Int)] ∧ Dr p H ∧ 0 < w ∧ w ≤ 1000 ∧ dp ≤ n ∧ ∀ v H' d, CondD w (dp + 2) d → noL d = true → Dp K H' v d → Ex (wo p H) H' → Dr p H' → Q v H'
def sp__law_condition (K : PySem.W.Frag) : Sp := spR__law_condition 4 K

--@SPLIT
/-! ### the three tables -/
def neg3 (x : V) : V := if x = .bl true then .bl false else if x = .bl false then .bl true else .non
def and3 (x y : V) : V := if x = .bl false ∨ y = .bl false then .bl false else if x = .bl true ∧ y = .bl true then .bl true else .non
def or3 (x y : V) : V := if x = .bl true ∨ y = .bl true then .bl true else if x = .bl false ∧ y = .bl false then .bl false else .non
def sp_negated (K : PySem.W.Frag) : Sp := fun vs H Q _ => ∃ x : V, vs = [x] ∧ ∀ H', Ex H H' → Q (neg3 x) H'
def sp_both (K : PySem.W.Frag) : Sp := fun vs H Q _ => ∃ x y : V, vs = [x, y] ∧ ∀ H', Ex H H' → Q (and3 x y) H'
def sp_either (K : PySem.W.Frag) : Sp := fun vs H Q _ => ∃ x y : V, vs = [x, y] ∧ ∀ H', Ex H H' → Q (or3 x y) H'
section
variable {P : Program} {w : World} {K : PySem.W.Frag} {mg : Str → Option Value} {base : Heap}
theorem ok_both (D : Dn K mg "both" s_both ["first", "second"]) :
    C8.Cal P w K mg base 1 "both" (sp_both K) [] := by
  refine cal_of D sc_both (fun vs H Q E h => ?_) (fun f cdv A outer s H vs Q E hr h => ?_)
  · obtain ⟨_, _, rfl, _⟩ := h
    rfl
  refine ⟨_, (pss_cons (ps_if (PW.pt (pw_or (pt_cmpR op_isTF (pv 0) pe_bl (nomark _)) (pw_or1 (pt_cmpR op_isTF (pv 1) pe_bl (nomark _)))))
      (pss_one (ps_ret pe_bl))
      pss_nil)
    (pss_cons (ps_if (PW.pt (pw_and (pt_cmpR op_isTF (pv 0) pe_bl (nomark _)) (pw_and1 (pt_cmpR op_isTF (pv 1) pe_bl (nomark _)))))
      (pss_one (ps_ret pe_bl))
      pss_nil)
    (pss_one (ps_ret pe_non)))), ?_⟩
  obtain ⟨x, y, rfl, q⟩ := h
  refine q_when (b := decide (x = .bl false) || decide (y = .bl false)) (by walk_at "et") (fun hb H1 e1 => s_ret (v := and3 x y) ?_ fun H2 e2 => q _ (e1.trans e2)) fun hb H1 e1 => ?_
  · refine ev_is ev_c ?_
    unfold and3
    rw [if_pos (by rw [Bool.or_eq_true, decide_eq_true_eq, decide_eq_true_eq] at hb; exact hb)]
  have nb : ¬ (x = .bl false ∨ y = .bl false) := by
    intro z
    rw [Bool.or_eq_false_iff, decide_eq_false_iff_not, decide_eq_false_iff_not] at hb
    exact z.elim hb.1 hb.2
  refine q_when (b := decide (x = .bl true) && decide (y = .bl true)) (by walk_at "et") (fun hc H2 e2 => s_ret (v := and3 x y) ?_ fun H3 e3 => q _ ((e1.trans e2).trans e3)) fun hc H2 e2 => s_ret (v := and3 x y) ?_ fun H3 e3 => q _ ((e1.trans e2).trans e3)
  · refine ev_is ev_c ?_
    unfold and3
    rw [if_neg nb, if_pos (by rw [Bool.and_eq_true, decide_eq_true_eq, decide_eq_true_eq] at hc; exact hc)]
  · refine ev_is ev_c ?_
    unfold and3
    rw [if_neg nb, if_neg (fun z => by rw [decide_eq_true z.1, decide_eq_true z.2] at hc; cases hc)]
theorem ok_either (D : Dn K mg "either" s_either ["first", "second"]) :
    C8.Cal P w K mg base 1 "either" (sp_either K) [] := by
  refine cal_of D sc_either (fun vs H Q E h => ?_) (fun f cdv A outer s H vs Q E hr h => ?_)
  · obtain ⟨_, _, rfl, _⟩ := h
    rfl
  refine ⟨_, (pss_cons (ps_if (PW.pt (pw_or (pt_cmpR op_isTF (pv 0) pe_bl (nomark _)) (pw_or1 (pt_cmpR op_isTF (pv 1) pe_bl (nomark _)))))
      (pss_one (ps_ret pe_bl))
      pss_nil)
    (pss_cons (ps_if (PW.pt (pw_and (pt_cmpR op_isTF (pv 0) pe_bl (nomark _)) (pw_and1 (pt_cmpR op_isTF (pv 1) pe_bl (nomark _)))))
      (pss_one (ps_ret pe_bl))
      pss_nil)
    (pss_one (ps_ret pe_non)))), ?_⟩
  obtain ⟨x, y, rfl, q⟩ := h
  refine q_when (b := decide (x = .bl true) || decide (y = .bl true)) (by walk_at "et") (fun hb H1 e1 => s_ret (v := or3 x y) ?_ fun H2 e2 => q _ (e1.trans e2)) fun hb H1 e1 => ?_
  · refine ev_is ev_c ?_
    unfold or3
    rw [if_pos (by rw [Bool.or_eq_true, decide_eq_true_eq, decide_eq_true_eq] at hb; exact hb)]
  have nb : ¬ (x = .bl true ∨ y = .bl true) := by
    intro z
    rw [Bool.or_eq_false_iff, decide_eq_false_iff_not, decide_eq_false_iff_not] at hb
    exact z.elim hb.1 hb.2
  refine q_when (b := decide (x = .bl false) && decide (y = .bl false)) (by walk_at "et") (fun hc H2 e2 => s_ret (v := or3 x y) ?_ fun H3 e3 => q _ ((e1.trans e2).trans e3)) fun hc H2 e2 => s_ret (v := or3 x y) ?_ fun H3 e3 => q _ ((e1.trans e2).trans e3)
  · refine ev_is ev_c ?_
    unfold or3
    rw [if_neg nb, if_pos (by rw [Bool.and_eq_true, decide_eq_true_eq, decide_eq_true_eq] at hc; exact hc)]
  · refine ev_is ev_c ?_
    unfold or3
    rw [if_neg nb, if_neg (fun z => by rw [decide_eq_true z.1, decide_eq_true z.2] at hc; cases hc)]
section
variable {σ : L2.St} {H : Hp} {ta tb : TE} {E : XK} {x y : V}
theorem ec_both (ha : Ev ta σ H x) (hb : Ev tb σ H y) : Ev (tCall (sp_both K) [] E (tCons ta (tCons tb tNil))) σ H (and3 x y) := ev_call (ea_cons ha (ea_cons hb ea_nil)) fun H1 e Q q E => ⟨x, y, rfl, q⟩
theorem ec_either (ha : Ev ta σ H x) (hb : Ev tb σ H y) : Ev (tCall (sp_either K) [] E (tCons ta (tCons tb tNil))) σ H (or3 x y) := ev_call (ea_cons ha (ea_cons hb ea_nil)) fun H1 e Q q E => ⟨x, y, rfl, q⟩
end
end

section
variable {P : Program} {w : World} {K : PySem.W.Frag} {mg : Str → Option Value} {base : Heap}
theorem ok_negated (D : Dn K mg "negated" s_negated ["value"]) :
    C8.Cal P w K mg base 1 "negated" (sp_negated K) [] := by
  refine cal_of D sc_negated (fun vs H Q E h => ?_) (fun f cdv A outer s H vs Q E hr h => ?_)
  · obtain ⟨_, rfl, _⟩ := h
    rfl
  refine ⟨_, (pss_cons (ps_if (pt_cmpR op_isTF (pv 0) pe_bl (nomark _))
      (pss_one (ps_ret pe_bl))
      pss_nil)
    (pss_cons (ps_if (pt_cmpR op_isTF (pv 0) pe_bl (nomark _))
      (pss_one (ps_ret pe_bl))
      pss_nil)
    (pss_one (ps_ret pe_non)))), ?_⟩
  obtain ⟨x, rfl, q⟩ := h
  refine q_when (b := decide (x = .bl true)) (by walk_at "et") (fun hb H1 e1 => s_ret (v := neg3 x) ?_ fun H2 e2 => q _ (e1.trans e2)) fun hb H1 e1 => ?_
  · refine ev_is ev_c ?_
    unfold neg3
    rw [if_pos (of_decide_eq_true hb)]
  refine q_when (b := decide (x = .bl false)) (by walk_at "et") (fun hc H2 e2 => s_ret (v := neg3 x) ?_ fun H3 e3 => q _ ((e1.trans e2).trans e3)) fun hc H2 e2 => s_ret (v := neg3 x) ?_ fun H3 e3 => q _ ((e1.trans e2).trans e3)
  · refine ev_is ev_c ?_
    unfold neg3
    rw [if_neg (of_decide_eq_false hb), if_pos (of_decide_eq_true hc)]
  · refine ev_is ev_c ?_
    unfold neg3
    rw [if_neg (of_decide_eq_false hb), if_neg (of_decide_eq_false hc)]

end
--@SPLIT
/-! ### what a condition is worth in a row -/
def bothOk (x y : V) : Prop := Ok x ∧ Ok y
def anyV (_ _ : V) : Prop := True
def sameV (x y : V) : V := .bl (PyData.eqv (rkD x) (rkD y))
def lessV (x y : V) : V := .bl (ltD (rkD x) (rkD y))
def mostV (x y : V) : V := .bl (!ltD (rkD y) (rkD x))
def alike (x y : V) : Bool := (!decide (x = .non)) && decide (V.int (kr x) = V.int (kr y))
def binV (nm : Str) (x y : V) : V :=
  if nm = "and" then and3 x y else if nm = "or" then or3 x y else if nm = "same" then sameV x y
  else if alike x y = true then (if nm = "equal" then sameV x y else if nm = "less" then lessV x y else mostV x y) else .non
def unV (nm : Str) (x : V) : V := if nm = "not" then neg3 x else .bl (decide (x = .non))
def evE (xs : List V) : Cnd → V
  | .col n => xs.getD n .non
  | .cst v => v
  | .un nm a => unV nm (evE xs a)
  | .bin nm a b => binV nm (evE xs a) (evE xs b)
theorem dv_ok {x : V} (h : DV x) : Ok x := by
  cases h with
  | non => exact .non
  | bl b => exact .bl b
  | int i _ => exact .int i
  | str l hl hc => exact .str _ (strOk_S fun c h => signs_ok c (hc c h))
theorem neg_ok (x : V) : Ok (neg3 x) := by unfold neg3; split; exact .bl _; split; exact .bl _; exact .non
theorem and_ok (x y : V) : Ok (and3 x y) := by unfold and3; split; exact .bl _; split; exact .bl _; exact .non
theorem or_ok (x y : V) : Ok (or3 x y) := by unfold or3; split; exact .bl _; split; exact .bl _; exact .non
theorem un_ok (nm : Str) (x : V) : Ok (unV nm x) := by unfold unV; split; exact neg_ok x; exact .bl _
theorem bin_ok (nm : Str) (x y : V) : Ok (binV nm x y) := by
  unfold binV
  split
  · exact and_ok x y
  split
  · exact or_ok x y
  split
  · exact .bl _
  split
  · split
    · exact .bl _
    split
    · exact .bl _
    · exact .bl _
  · exact .non
theorem row_ok {xs : List V} (h : ∀ x ∈ xs, Ok x) (n : Nat) : Ok (xs.getD n .non) := by
  rw [List.getD_eq_getElem?_getD]
  cases e : xs[n]? with
  | none => exact .non
  | some x => exact h x (List.mem_of_getElem? e)
theorem ev_ok {w : Nat} {xs : List V} (h : ∀ x ∈ xs, Ok x) : ∀ {e : Cnd}, e.ok w → Ok (evE xs e)
  | .col n, _ => row_ok h n
  | .cst v, .cst _ hv => dv_ok hv
  | .un nm a, _ => un_ok nm _
  | .bin nm a b, _ => bin_ok nm _ _
inductive Opr2 (P : Program) (w : World) (K : PySem.W.Frag) (mg : Str → Option Value) (base : Heap) (dA dL : Addr) : Str → V → V → V → Prop
  | any {nm : Str} {x y : V} {f : Addr} {pre : V → V → Prop} {op : V → V → V} : PySem.W.nsIn K dA nm = some (some (.ref f)) → L2.Held P w K mg base 4 f (spBin pre op) → pre x y → Opr2 P w K mg base dA dL nm x y (op x y)
  | alike {nm : Str} {x y : V} {f : Addr} {op : V → V → V} : PySem.W.nsIn K dA nm = some none → PySem.W.nsIn K dL nm = some (some (.ref f)) → L2.Held P w K mg base 4 f (spBin bothOk op) → Opr2 P w K mg base dA dL nm x y (if alike x y = true then op x y else .non)
theorem rv_inKD {K : PySem.W.Frag} {d : Addr} {z : Str} {r : Option Value} {H : Hp} (e : PySem.W.nsIn K d z = some r) : RV (fun x y H Q => ∃ (z : Str) (r : Option Value), x = .str z ∧ y = .ref d ∧ PySem.W.nsIn K d z = some r ∧ Q (.bl r.isSome) H) (.str z) (.ref d) H (.bl r.isSome) :=
  fun H1 _ _ q => ⟨z, r, rfl, rfl, e, q H1 (Ex.refl H1)⟩
theorem rv_ixKD {K : PySem.W.Frag} {w : World} {d : Addr} {es : Array DictEntry} {n : Nat} {z : Str} {u : Value} {v : V} {H : Hp} (D : KDict K w d es n) (e : PySem.W.nsIn K d z = some (some u)) (r : RelV v u) : RV (rIxD K w) (.ref d) (.str z) H v :=
  fun H1 _ _ q => ⟨d, z, v, rfl, rfl, ⟨es, n, u, D.at_, D.lit, e, r⟩, q H1 (Ex.refl H1)⟩
theorem dp_tupD {K : PySem.W.Frag} {H : Hp} {v : V} {ds : List PyData} (h : Dp K H v (.tuple ds)) : ∃ b ys, v = .ref b ∧ SqT K H b ys ∧ DpAll K H ys ds := by
  cases h with
  | tup hS hd => exact ⟨_, _, rfl, hS, hd⟩
theorem dp_strD {K : PySem.W.Frag} {H : Hp} {v : V} {s : Str} (h : Dp K H v (.str s)) : v = .str s := by cases h; rfl
theorem dp_intD {K : PySem.W.Frag} {H : Hp} {v : V} {n : Int} (h : Dp K H v (.int n)) : v = .int n := by cases h; rfl
def sp__both (K : PySem.W.Frag) : Sp := spBin anyV and3
def sp__either (K : PySem.W.Frag) : Sp := spBin anyV or3
def sp__same (K : PySem.W.Frag) : Sp := spBin bothOk sameV
def sp__equal (K : PySem.W.Frag) : Sp := spBin bothOk sameV
def sp__less (K : PySem.W.Frag) : Sp := spBin bothOk lessV
def sp__at_most (K : PySem.W.Frag) : Sp := spBin bothOk mostV
def sp__are_alike (K : PySem.W.Frag) : Sp := fun vs H Q _ => ∃ x y : V, vs = [x, y] ∧ Ok x ∧ Ok y ∧ ∀ H', Ex H H' → Q (.bl (alike x y)) H'
def sp_value_of_two (K : PySem.W.Frag) : Sp := fun vs H Q _ => ∃ (nm : Str) (x y : V), vs = [.str nm, x, y] ∧ nm ∈ binNames ∧ Ok x ∧ Ok y ∧ ∀ H', Ex H H' → Q (binV nm x y) H'
abbrev sp_binary (K : PySem.W.Frag) : Sp := sp_value_of_two K
def sp_value_of_one (K : PySem.W.Frag) : Sp := fun vs H Q _ => ∃ (nm : Str) (x : V), vs = [.str nm, x] ∧ nm ∈ unNames ∧ ∀ H', Ex H H' → Q (unV nm x) H'
abbrev sp_unary (K : PySem.W.Frag) : Sp := sp_value_of_one K
/-- a condition as data, of names that are known, n deep at most -/
def CxAt (K : PySem.W.Frag) (H : Hp) (v : V) (e : Cnd) (n : Nat) : Prop := Dp K H v e.d ∧ e.dep ≤ n ∧ ∃ w, e.ok w
theorem CxAt.ex {K : PySem.W.Frag} {H H' : Hp} {v : V} {e : Cnd} {n : Nat} (h : CxAt K H v e n) (x : Ex H H') : CxAt K H' v e n := ⟨ex_dp x h.1, h.2⟩
def spR_evaluate : Nat → PySem.W.Frag → Sp
  | 0, _ => fun _ _ _ _ => False
  | n + 1, K => fun vs H Q _ => ∃ (v : V) (e : Cnd) (a : Addr) (xs : List V), vs = [v, .ref a] ∧ CxAt K H v e (n + 1) ∧ SqL K H a xs ∧ (∀ x ∈ xs, Ok x) ∧ xs.length ≤ 1000 ∧ ∀ H', Ex H H' → Q (evE xs e) H'
def sp_evaluate (K : PySem.W.Frag) : Sp := spR_evaluate 8 K
def sp_holds (K : PySem.W.Frag) : Sp := fun vs H Q _ => ∃ (v : V) (e : Cnd) (a : Addr) (xs : List V), vs = [v, .ref a] ∧ CxAt K H v e 8 ∧ SqL K H a xs ∧ (∀ x ∈ xs, Ok x) ∧ xs.length ≤ 1000 ∧ ∀ H', Ex H H' → Q (.bl (decide (evE xs e = .bl true))) H'
section
variable {P : Program} {w : World} {K : PySem.W.Frag} {mg : Str → Option Value} {base : Heap}
section
variable {σ : L2.St} {H : Hp} {ta tb tc : TE} {E : XK} {x y v : V} {nm : Str} {e : Cnd} {n : Nat} {a : Addr} {xs : List V}
theorem ec_alike (ha : Ev ta σ H x) (hb : Ev tb σ H y) (h1 : Ok x) (h2 : Ok y) : Ev (tCall (sp__are_alike K) [] E (tCons ta (tCons tb tNil))) σ H (.bl (alike x y)) := ev_call (ea_cons ha (ea_cons hb ea_nil)) fun H1 e Q q E => ⟨x, y, rfl, h1, h2, q⟩
theorem ec_neg3 (ha : Ev ta σ H x) : Ev (tCall (sp_negated K) [] E (tCons ta tNil)) σ H (neg3 x) := ev_call (ea_cons ha ea_nil) fun H1 e Q q E => ⟨x, rfl, q⟩
theorem ec_two (h : nm ∈ binNames) (h1 : Ok x) (h2 : Ok y) (ha : Ev ta σ H (.str nm)) (hb : Ev tb σ H x) (hc : Ev tc σ H y) : Ev (tCall (sp_value_of_two K) [] E (tCons ta (tCons tb (tCons tc tNil)))) σ H (binV nm x y) := ev_call (ea_cons ha (ea_cons hb (ea_cons hc ea_nil))) fun H1 e Q q E => ⟨nm, x, y, rfl, h, h1, h2, q⟩
theorem ec_one (h : nm ∈ unNames) (ha : Ev ta σ H (.str nm)) (hb : Ev tb σ H x) : Ev (tCall (sp_value_of_one K) [] E (tCons ta (tCons tb tNil))) σ H (unV nm x) := ev_call (ea_cons ha (ea_cons hb ea_nil)) fun H1 e Q q E => ⟨nm, x, rfl, h, q⟩
theorem ec_evalR (ha : Ev ta σ H v) (hb : Ev tb σ H (.ref a)) (he : CxAt K H v e (n + 1)) (hS : SqL K H a xs) (hx : ∀ x ∈ xs, Ok x) (hl : xs.length ≤ 1000) : Ev (tCall (spR_evaluate (n + 1) K) [] E (tCons ta (tCons tb tNil))) σ H (evE xs e) := ev_call (ea_cons ha (ea_cons hb ea_nil)) fun H1 e1 Q q E => ⟨v, e, a, xs, rfl, he.ex e1, ex_l e1 hS, hx, hl, q⟩
theorem ec_eval (ha : Ev ta σ H v) (hb : Ev tb σ H (.ref a)) (he : CxAt K H v e 8) (hS : SqL K H a xs) (hx : ∀ x ∈ xs, Ok x) (hl : xs.length ≤ 1000) : Ev (tCall (sp_evaluate K) [] E (tCons ta (tCons tb tNil))) σ H (evE xs e) := ec_evalR ha hb he hS hx hl
theorem ec_holds (ha : Ev ta σ H v) (hb : Ev tb σ H (.ref a)) (he : CxAt K H v e 8) (hS : SqL K H a xs) (hx : ∀ x ∈ xs, Ok x) (hl : xs.length ≤ 1000) : Ev (tCall (sp_holds K) [] E (tCons ta (tCons tb tNil))) σ H (.bl (decide (evE xs e = .bl true))) := ev_call (ea_cons ha (ea_cons hb ea_nil)) fun H1 e1 Q q E => ⟨v, e, a, xs, rfl, he.ex e1, ex_l e1 hS, hx, hl, q⟩
end
theorem ok__both (D : Dn K mg "_both" s__both ["first", "second"]) (c_both : C8.Cal P w K mg base 1 "both" (sp_both K) []) :
    C8.Cal P w K mg base 2 "_both" (sp__both K) [] := by
  refine cal_of D sc__both (fun vs H Q E h => ?_) (fun f cdv A outer s H vs Q E hr h => ?_)
  · obtain ⟨_, _, rfl, _⟩ := h
    rfl
  refine ⟨_, (pss_one (ps_ret (C8.pe_c c_both hr (by decide) (by rfl) (pa_cons (pv 0) (pa_cons (pv 1) pa_nil))))), ?_⟩
  obtain ⟨x, y, rfl, _, q⟩ := h
  exact s_ret (ec_both (ev_var rfl) (ev_var rfl)) fun H2 e2 => q _ e2
theorem ok__either (D : Dn K mg "_either" s__either ["first", "second"]) (c_either : C8.Cal P w K mg base 1 "either" (sp_either K) []) :
    C8.Cal P w K mg base 2 "_either" (sp__either K) [] := by
  refine cal_of D sc__either (fun vs H Q E h => ?_) (fun f cdv A outer s H vs Q E hr h => ?_)
  · obtain ⟨_, _, rfl, _⟩ := h
    rfl
  refine ⟨_, (pss_one (ps_ret (C8.pe_c c_either hr (by decide) (by rfl) (pa_cons (pv 0) (pa_cons (pv 1) pa_nil))))), ?_⟩
  obtain ⟨x, y, rfl, _, q⟩ := h
  exact s_ret (ec_either (ev_var rfl) (ev_var rfl)) fun H2 e2 => q _ e2
theorem ok__same (D : Dn K mg "_same" s__same ["first", "second"]) (c_same : C8.Cal P w K mg base 3 "same" (sp_same K) []) :
    C8.Cal P w K mg base 4 "_same" (sp__same K) [] := by
  refine cal_of D sc__same (fun vs H Q E h => ?_) (fun f cdv A outer s H vs Q E hr h => ?_)
  · obtain ⟨_, _, rfl, _⟩ := h
    rfl
  refine ⟨_, (pss_one (ps_ret (C8.pe_c c_same hr (by decide) (by rfl) (pa_cons (pv 0) (pa_cons (pv 1) pa_nil))))), ?_⟩
  obtain ⟨x, y, rfl, ⟨hx, hy⟩, q⟩ := h
  exact s_ret (ec_same (ev_var rfl) (ev_var rfl) hx hy) fun H2 e2 => q _ e2
theorem ok__equal (D : Dn K mg "_equal" s__equal ["first", "second"]) (c_same : C8.Cal P w K mg base 3 "same" (sp_same K) []) :
    C8.Cal P w K mg base 4 "_equal" (sp__equal K) [] := by
  refine cal_of D sc__equal (fun vs H Q E h => ?_) (fun f cdv A outer s H vs Q E hr h => ?_)
  · obtain ⟨_, _, rfl, _⟩ := h
    rfl
  refine ⟨_, (pss_one (ps_ret (C8.pe_c c_same hr (by decide) (by rfl) (pa_cons (pv 0) (pa_cons (pv 1) pa_nil))))), ?_⟩
  obtain ⟨x, y, rfl, ⟨hx, hy⟩, q⟩ := h
  exact s_ret (ec_same (ev_var rfl) (ev_var rfl) hx hy) fun H2 e2 => q _ e2
theorem ok__less (D : Dn K mg "_less" s__less ["first", "second"]) (c_before : C8.Cal P w K mg base 3 "before" (sp_before K) []) :
    C8.Cal P w K mg base 4 "_less" (sp__less K) [] := by
  refine cal_of D sc__less (fun vs H Q E h => ?_) (fun f cdv A outer s H vs Q E hr h => ?_)
  · obtain ⟨_, _, rfl, _⟩ := h
    rfl
  refine ⟨_, (pss_one (ps_ret (C8.pe_c c_before hr (by decide) (by rfl) (pa_cons (pv 0) (pa_cons (pv 1) pa_nil))))), ?_⟩
  obtain ⟨x, y, rfl, ⟨hx, hy⟩, q⟩ := h
  exact s_ret (ec_before (ev_var rfl) (ev_var rfl) hx hy) fun H2 e2 => q _ e2
theorem ok__at_most (D : Dn K mg "_at_most" s__at_most ["first", "second"]) (c_before : C8.Cal P w K mg base 3 "before" (sp_before K) []) :
    C8.Cal P w K mg base 4 "_at_most" (sp__at_most K) [] := by
  refine cal_of D sc__at_most (fun vs H Q E h => ?_) (fun f cdv A outer s H vs Q E hr h => ?_)
  · obtain ⟨_, _, rfl, _⟩ := h
    rfl
  refine ⟨_, (pss_one (ps_ret (pe_not (C8.pe_c c_before hr (by decide) (by rfl) (pa_cons (pv 1) (pa_cons (pv 0) pa_nil)))))), ?_⟩
  obtain ⟨x, y, rfl, ⟨hx, hy⟩, q⟩ := h
  exact s_ret (ev_notV (ec_before (ev_var rfl) (ev_var rfl) hy hx)) fun H2 e2 => q _ e2
theorem ok__are_alike (D : Dn K mg "_are_alike" s__are_alike ["first", "second"]) (c_kind_rank : C8.Cal P w K mg base 1 "kind_rank" (sp_kind_rank K) []) :
    C8.Cal P w K mg base 2 "_are_alike" (sp__are_alike K) [] := by
  refine cal_of D sc__are_alike (fun vs H Q E h => ?_) (fun f cdv A outer s H vs Q E hr h => ?_)
  · obtain ⟨_, _, rfl, _⟩ := h
    rfl
  refine ⟨_, (pss_one (ps_ret (pe_and (pe_cmpR op_notN (pv 0) pe_non (nomark _)) (pe_one (pe_cmpR op_eq (C8.pe_c c_kind_rank hr (by decide) (by rfl) (pa_cons (pv 0) pa_nil)) (C8.pe_c c_kind_rank hr (by decide) (by rfl) (pa_cons (pv 1) pa_nil)) (nomark _)))))), ?_⟩
  obtain ⟨x, y, rfl, hx, hy, q⟩ := h
  exact s_ret (ev_andV (ev_op (ev_var rfl) ev_c rv_notN) fun _ => ev_op (ec_kr (ev_var rfl) hx) (ec_kr (ev_var rfl) hy) (rv_eq rfl)) fun H2 e2 => q _ e2
theorem ok_value_of_two (D : Dn K mg "value_of_two" s_value_of_two ["name", "first", "second"]) (c__are_alike : C8.Cal P w K mg base 2 "_are_alike" (sp__are_alike K) []) {p__OF_ALIKE : Addr} {es__OF_ALIKE : Array DictEntry} {n__OF_ALIKE : Nat} (g__OF_ALIKE : ∃ u, mg "_OF_ALIKE" = some u ∧ RelV (.ref p__OF_ALIKE) u) (h__OF_ALIKE : KDict K w p__OF_ALIKE es__OF_ALIKE n__OF_ALIKE) {p__OF_ANY : Addr} {es__OF_ANY : Array DictEntry} {n__OF_ANY : Nat} (g__OF_ANY : ∃ u, mg "_OF_ANY" = some u ∧ RelV (.ref p__OF_ANY) u) (h__OF_ANY : KDict K w p__OF_ANY es__OF_ANY n__OF_ANY) (tab : ∀ nm x y, nm ∈ binNames → Ok x → Ok y → Opr2 P w K mg base p__OF_ANY p__OF_ALIKE nm x y (binV nm x y)) :
    C8.Cal P w K mg base 5 "value_of_two" (sp_value_of_two K) [] := by
  refine cal_of D sc_value_of_two (fun vs H Q E h => ?_) (fun f cdv A outer s H vs Q E hr h => ?_)
  · obtain ⟨_, _, _, rfl, _⟩ := h
    rfl
  refine ⟨_, (pss_cons (ps_if (pt_cmpR (op_in_kd h__OF_ANY) (pv 0) (C8.pe_gc rfl g__OF_ANY) (by with_unfolding_all rfl))
      (pss_cons (ps_set (i := 3) sc_value_of_two.nd rfl (.inl rfl) (pe_ix ix_kdict (C8.pe_gc rfl g__OF_ANY) (pv 0) (fun _ _ => rfl)))
    (pss_one (ps_ret (pe_callH (i := 3) hr rfl (Or.inl rfl) (pa_cons (pv 1) (pa_cons (pv 2) pa_nil))))))
      pss_nil)
    (pss_cons (ps_if (pt_cmpR (op_in_kd h__OF_ALIKE) (pv 0) (C8.pe_gc rfl g__OF_ALIKE) (by with_unfolding_all rfl))
      (pss_cons (ps_set (i := 3) sc_value_of_two.nd rfl (.inl rfl) (pe_ix ix_kdict (C8.pe_gc rfl g__OF_ALIKE) (pv 0) (fun _ _ => rfl)))
    (pss_one (ps_ret (pe_ifExp (pt_val (C8.pe_c c__are_alike hr (by decide) (by rfl) (pa_cons (pv 1) (pa_cons (pv 2) pa_nil)))) (pe_callH (i := 3) hr rfl (Or.inl rfl) (pa_cons (pv 1) (pa_cons (pv 2) pa_nil))) pe_non))))
      pss_nil)
    (pss_cons ps_never
    (pss_cons ps_never
    (pss_cons ps_never
    (pss_one ps_never)))))), ?_⟩
  obtain ⟨nm, x, y, rfl, hnm, hx, hy, q⟩ := h
  have T := tab nm x y hnm hx hy
  have no : ∀ {d : Addr} {H0 : Hp}, PySem.W.nsIn K d nm = some none → EvT (tTest (tOp (fun x y H Q => ∃ (z : Str) (r : Option Value), x = .str z ∧ y = .ref d ∧ PySem.W.nsIn K d z = some r ∧ Q (.bl r.isSome) H) (tVar 0) (tC (.ref d)))) (start n_value_of_two [.str nm, x, y]) H0 false := fun e => et_test (ev_op (ev_var rfl) ev_c (rv_inKD e))
  have yes : ∀ {d f : Addr} {H0 : Hp}, PySem.W.nsIn K d nm = some (some (.ref f)) → EvT (tTest (tOp (fun x y H Q => ∃ (z : Str) (r : Option Value), x = .str z ∧ y = .ref d ∧ PySem.W.nsIn K d z = some r ∧ Q (.bl r.isSome) H) (tVar 0) (tC (.ref d)))) (start n_value_of_two [.str nm, x, y]) H0 true := fun e => et_test (ev_op (ev_var rfl) ev_c (rv_inKD e))
  generalize binV nm x y = z at T q
  cases T with
  | any e1 hh hp =>
    refine q_when (yes e1) (fun _ H1 x1 => ?_) fun hb => nomatch hb
    refine q_asg (ev_op ev_c (ev_var rfl) (rv_ixKD (v := .ref _) h__OF_ANY e1 rfl)) fun H2 x2 => ?_
    exact s_ret (ec_held rfl hh hp (ev_var rfl) (ev_var rfl)) fun H3 x3 => q _ ((x1.trans x2).trans x3)
  | alike e1 e2 hh =>
    refine q_when (no e1) (fun hb => nomatch hb) fun _ H1 x1 => ?_
    refine q_when (yes e2) (fun _ H2 x2 => ?_) fun hb => nomatch hb
    refine q_asg (ev_op ev_c (ev_var rfl) (rv_ixKD (v := .ref _) h__OF_ALIKE e2 rfl)) fun H3 x3 => ?_
    refine s_ret (ev_if (et_B (ec_alike (ev_var rfl) (ev_var rfl) hx hy)) (fun hb => ?_) fun hb => ?_) fun H4 x4 => q _ (((x1.trans x2).trans x3).trans x4)
    · exact ev_is (ec_held rfl hh ⟨hx, hy⟩ (ev_var rfl) (ev_var rfl)) (by rw [if_pos hb])
    · exact ev_is ev_c (by rw [if_neg (by rw [hb]; decide)])
theorem ok_binary (D : Dn K mg "binary" s_binary ["name", "first", "second"]) (c_value_of_two : C8.Cal P w K mg base 5 "value_of_two" (sp_value_of_two K) []) :
    C8.Cal P w K mg base 6 "binary" (sp_binary K) [] := by
  refine cal_of D sc_binary (fun vs H Q E h => ?_) (fun f cdv A outer s H vs Q E hr h => ?_)
  · obtain ⟨_, _, _, rfl, _⟩ := h
    rfl
  refine ⟨_, (pss_one (ps_ret (C8.pe_c c_value_of_two hr (by decide) (by rfl) (pa_cons (pv 0) (pa_cons (pv 1) (pa_cons (pv 2) pa_nil)))))), ?_⟩
  obtain ⟨nm, x, y, rfl, hnm, hx, hy, q⟩ := h
  exact s_ret (ec_two hnm hx hy (ev_var rfl) (ev_var rfl) (ev_var rfl)) fun H2 e2 => q _ e2
theorem ok_value_of_one (D : Dn K mg "value_of_one" s_value_of_one ["name", "value"]) (c_negated : C8.Cal P w K mg base 1 "negated" (sp_negated K) []) :
    C8.Cal P w K mg base 2 "value_of_one" (sp_value_of_one K) [] := by
  refine cal_of D sc_value_of_one (fun vs H Q E h => ?_) (fun f cdv A outer s H vs Q E hr h => ?_)
  · obtain ⟨_, _, rfl, _⟩ := h
    rfl
  refine ⟨_, (pss_cons (ps_if (pt_cmpR op_eq (pv 0) pe_str (nomark _))
      (pss_one (ps_ret (C8.pe_c c_negated hr (by decide) (by rfl) (pa_cons (pv 1) pa_nil))))
      pss_nil)
    (pss_cons (ps_if (pt_cmpR op_eq (pv 0) pe_str (nomark _))
      (pss_one (ps_ret (pe_cmpR op_isN (pv 1) pe_non (nomark _))))
      pss_nil)
    (pss_cons ps_never
    (pss_cons ps_never
    (pss_cons ps_never
    (pss_one ps_never)))))), ?_⟩
  obtain ⟨nm, x, rfl, hnm, q⟩ := h
  simp only [unNames, List.mem_cons, List.not_mem_nil, or_false] at hnm
  rcases hnm with rfl | rfl
  · exact q_when (b := true) (et_test (ev_is (ev_op (ev_var rfl) ev_c (rv_eq rfl)) (by decide +kernel))) (fun _ H1 e1 => s_ret (v := unV "not" x) (ec_neg3 (ev_var rfl)) fun H2 e2 => q H2 (e1.trans e2)) fun h => nomatch h
  · refine q_when (b := false) (et_test (ev_is (ev_op (ev_var rfl) ev_c (rv_eq rfl)) (by decide +kernel))) (fun h => nomatch h) fun _ H1 e1 => ?_
    exact q_when (b := true) (et_test (ev_is (ev_op (ev_var rfl) ev_c (rv_eq rfl)) (by decide +kernel))) (fun _ H2 e2 => s_ret (v := unV "is null" x) (ev_is (ev_op (ev_var rfl) ev_c rv_isN) rfl) fun H3 e3 => q H3 ((e1.trans e2).trans e3)) fun h => nomatch h
theorem ok_unary (D : Dn K mg "unary" s_unary ["name", "value"]) (c_value_of_one : C8.Cal P w K mg base 2 "value_of_one" (sp_value_of_one K) []) :
    C8.Cal P w K mg base 3 "unary" (sp_unary K) [] := by
  refine cal_of D sc_unary (fun vs H Q E h => ?_) (fun f cdv A outer s H vs Q E hr h => ?_)
  · obtain ⟨_, _, rfl, _⟩ := h
    rfl
  refine ⟨_, (pss_one (ps_ret (C8.pe_c c_value_of_one hr (by decide) (by rfl) (pa_cons (pv 0) (pa_cons (pv 1) pa_nil))))), ?_⟩
  obtain ⟨nm, x, rfl, hnm, q⟩ := h
  exact s_ret (ec_one hnm (ev_var rfl) (ev_var rfl)) fun H2 e2 => q _ e2
theorem ok_evaluate {rn : Nat} (D : Dn K mg "evaluate" s_evaluate ["expression", "row"]) (c_binary : C8.Cal P w K mg base 6 "binary" (sp_binary K) []) (c_unary : C8.Cal P w K mg base 3 "unary" (sp_unary K) []) (z_len : mg "len" = none) (c_evaluate : C8.Cal P w K mg base (7 + rn) "evaluate" (spR_evaluate rn K) []) :
    C8.Cal P w K mg base (7 + rn + 1) "evaluate" (spR_evaluate (rn + 1) K) [] := by
  refine cal_of D sc_evaluate (fun vs H Q E h => ?_) (fun f cdv A outer s H vs Q E hr h => ?_)
  · obtain ⟨_, _, _, _, rfl, _⟩ := h
    rfl
  refine ⟨_, (pss_cons (ps_set (i := 2) sc_evaluate.nd rfl (.inl rfl) (pe_ix ix_tup (pv 0) pe_int (fun _ _ => rfl)))
    (pss_cons (ps_if (pt_cmpR op_eq (pv 2) pe_str (nomark _))
      (pss_one (ps_ret (pe_ix ix_tup (pv 0) pe_int (fun _ _ => rfl))))
      pss_nil)
    (pss_cons (ps_if (pt_cmpR op_eq (pv 2) pe_str (nomark _))
      (pss_cons (ps_set (i := 3) sc_evaluate.nd rfl (.inl rfl) (pe_ix ix_tup (pv 0) pe_int (fun _ _ => rfl)))
    (pss_one (ps_ret (pe_ifExp (pt_cmpR op_lt (pv 3) (pe_callB call_len_seq (by rfl) z_len PySem.boot_len (pa_cons (pv 1) pa_nil)) (nomark _)) (pe_ix ix_list (pv 1) (pv 3) (fun _ _ => rfl)) pe_non))))
      pss_nil)
    (pss_cons (ps_if (pt_cmpR op_eq (pv 2) pe_str (nomark _))
      (pss_one (ps_ret (C8.pe_c c_unary hr (by omega) (by rfl) (pa_cons (pe_ix ix_tup (pv 0) pe_int (fun _ _ => rfl)) (pa_cons (C8.pe_c c_evaluate hr (Nat.le_refl _) (by rfl) (pa_cons (pe_ix ix_tup (pv 0) pe_int (fun _ _ => rfl)) (pa_cons (pv 1) pa_nil))) pa_nil)))))
      pss_nil)
    (pss_cons (ps_if (pt_cmpR op_eq (pv 2) pe_str (nomark _))
      (pss_one (ps_ret (C8.pe_c c_binary hr (by omega) (by rfl) (pa_cons (pe_ix ix_tup (pv 0) pe_int (fun _ _ => rfl)) (pa_cons (C8.pe_c c_evaluate hr (Nat.le_refl _) (by rfl) (pa_cons (pe_ix ix_tup (pv 0) pe_int (fun _ _ => rfl)) (pa_cons (pv 1) pa_nil))) (pa_cons (C8.pe_c c_evaluate hr (Nat.le_refl _) (by rfl) (pa_cons (pe_ix ix_tup (pv 0) pe_int (fun _ _ => rfl)) (pa_cons (pv 1) pa_nil))) pa_nil))))))
      pss_nil)
    (pss_cons ps_never
    (pss_cons ps_never
    (pss_one ps_never)))))))), ?_⟩
  obtain ⟨v, e, a, xs, rfl, ⟨hd, hdep, wd, hok⟩, hS, hx, hl, q⟩ := h
  have form : ∀ {σ : L2.St} {H0 : Hp} {s t : Str} {b : Bool}, σ[2]? = some (some (.str s)) → decide (V.str s = V.str t) = b → EvT (tTest (tOp rEq (tVar 2) (tC (.str t)))) σ H0 b := fun h0 hb => et_test (ev_is (ev_op (ev_var h0) ev_c (rv_eq rfl)) (by rw [hb]))
  cases hok with
  | col n hn =>
    obtain ⟨b, ys, rfl, hT, hds⟩ := dp_tupD hd
    cases hds with | cons h1 hds =>
    cases hds with | cons h2 hds =>
    cases hds
    cases h1
    cases h2
    have ix : ∀ {σ : L2.St} {H0 : Hp} {i : Nat} {x : V}, σ[0]? = some (some (.ref b)) → Ex H H0 → ([V.str "column", .int (n : Int)] : List V)[i]? = some x → Ev (tOp (rIxT K) (tVar 0) (tC (.int (i : Int)))) σ H0 x := fun h0 e0 hi => ev_op (ev_var h0) ev_c (rv_ixT (ex_t e0 hT) (atI_nat hi))
    refine q_asg (ix (i := 0) rfl (Ex.refl H) rfl) fun H1 e1 => ?_
    refine q_when (form rfl (show decide (V.str "column" = V.str "constant") = false by decide +kernel)) (fun h => nomatch h) fun _ H2 e2 => ?_
    refine q_when (form rfl (show decide (V.str "column" = V.str "column") = true by decide +kernel)) (fun _ H3 e3 => ?_) fun h => nomatch h
    refine q_asg (ix (i := 1) rfl ((e1.trans e2).trans e3) rfl) fun H4 e4 => ?_
    have x4 := ((e1.trans e2).trans e3).trans e4
    refine s_ret (v := evE xs (.col n)) (ev_if (b := decide ((n : Int) < (xs.length : Int))) (et_test (ev_op (ev_var rfl) (ev_len (ev_var rfl) (ex_l x4 hS)) rv_I0)) (fun hb => ?_) fun hb => ?_) fun H5 e5 => q H5 (x4.trans e5)
    · have hlt : n < xs.length := by have := of_decide_eq_true hb; omega
      exact ev_op (ev_var rfl) (ev_var rfl) (rv_ixL (ex_l x4 hS) (atI_nat (by rw [List.getElem?_eq_getElem hlt]; show some xs[n] = some (xs.getD n .non); rw [List.getD_eq_getElem?_getD, List.getElem?_eq_getElem hlt]; rfl)))
    · have hlt : ¬ n < xs.length := by have := of_decide_eq_false hb; omega
      refine ev_is ev_c ?_
      show V.non = xs.getD n .non
      rw [List.getD_eq_getElem?_getD, List.getElem?_eq_none (by omega)]
      rfl
  | cst c hc =>
    obtain ⟨b, ys, rfl, hT, hds⟩ := dp_tupD hd
    cases hds with | cons h1 hds =>
    cases hds with | cons h2 hds =>
    cases hds
    cases h1
    obtain rfl := vDc_is hc.pl h2
    refine q_asg (v := .str "constant") (ev_op (ev_var rfl) ev_c (rv_ixT hT (atI_nat (j := 0) rfl))) fun H1 e1 => ?_
    refine q_when (form rfl (show decide (V.str "constant" = V.str "constant") = true by decide +kernel)) (fun _ H2 e2 => ?_) fun h => nomatch h
    exact s_ret (ev_op (ev_var rfl) ev_c (rv_ixT (ex_t (e1.trans e2) hT) (atI_nat (j := 1) rfl))) fun H3 e3 => q H3 ((e1.trans e2).trans e3)
  | un nm x hnm hok1 =>
    obtain ⟨b, ys, rfl, hT, hds⟩ := dp_tupD hd
    cases hds with | cons h1 hds =>
    cases hds with | cons h2 hds =>
    cases hds with | cons h3 hds =>
    cases hds
    cases h1
    cases h2
    refine q_asg (v := .str "unary") (ev_op (ev_var rfl) ev_c (rv_ixT hT (atI_nat (j := 0) rfl))) fun H1 e1 => ?_
    refine q_when (form rfl (show decide (V.str "unary" = V.str "constant") = false by decide +kernel)) (fun h => nomatch h) fun _ H2 e2 => ?_
    refine q_when (form rfl (show decide (V.str "unary" = V.str "column") = false by decide +kernel)) (fun h => nomatch h) fun _ H3 e3 => ?_
    refine q_when (form rfl (show decide (V.str "unary" = V.str "unary") = true by decide +kernel)) (fun _ H4 e4 => ?_) fun h => nomatch h
    have x4 := ((e1.trans e2).trans e3).trans e4
    have hdx : x.dep + 1 ≤ rn + 1 := hdep
    cases rn with
    | zero => cases x <;> simp [Cnd.dep] at hdx
    | succ m =>
    exact s_ret (ec_one hnm (ev_op (ev_var rfl) ev_c (rv_ixT (ex_t x4 hT) (atI_nat (j := 1) rfl))) (ec_evalR (n := m) (e := x) (ev_op (ev_var rfl) ev_c (rv_ixT (ex_t x4 hT) (atI_nat (j := 2) rfl))) (ev_var rfl) ⟨ex_dp x4 h3, by omega, wd, hok1⟩ (ex_l x4 hS) hx hl)) fun H5 e5 => q H5 (x4.trans e5)
  | bin nm x y hnm hok1 hok2 =>
    obtain ⟨b, ys, rfl, hT, hds⟩ := dp_tupD hd
    cases hds with | cons h1 hds =>
    cases hds with | cons h2 hds =>
    cases hds with | cons h3 hds =>
    cases hds with | cons h4 hds =>
    cases hds
    cases h1
    cases h2
    refine q_asg (v := .str "binary") (ev_op (ev_var rfl) ev_c (rv_ixT hT (atI_nat (j := 0) rfl))) fun H1 e1 => ?_
    refine q_when (form rfl (show decide (V.str "binary" = V.str "constant") = false by decide +kernel)) (fun h => nomatch h) fun _ H2 e2 => ?_
    refine q_when (form rfl (show decide (V.str "binary" = V.str "column") = false by decide +kernel)) (fun h => nomatch h) fun _ H3 e3 => ?_
    refine q_when (form rfl (show decide (V.str "binary" = V.str "unary") = false by decide +kernel)) (fun h => nomatch h) fun _ H4 e4 => ?_
    refine q_when (form rfl (show decide (V.str "binary" = V.str "binary") = true by decide +kernel)) (fun _ H5 e5 => ?_) fun h => nomatch h
    have x5 := (((e1.trans e2).trans e3).trans e4).trans e5
    have hdx : max x.dep y.dep + 1 ≤ rn + 1 := hdep
    have hpos : 0 < max x.dep y.dep := by cases x <;> simp [Cnd.dep] <;> omega
    cases rn with
    | zero => omega
    | succ m =>
    exact s_ret (ec_two hnm (ev_ok hx hok1) (ev_ok hx hok2) (ev_op (ev_var rfl) ev_c (rv_ixT (ex_t x5 hT) (atI_nat (j := 1) rfl))) (ec_evalR (n := m) (e := x) (ev_op (ev_var rfl) ev_c (rv_ixT (ex_t x5 hT) (atI_nat (j := 2) rfl))) (ev_var rfl) ⟨ex_dp x5 h3, by omega, wd, hok1⟩ (ex_l x5 hS) hx hl) (ec_evalR (n := m) (e := y) (ev_op (ev_var rfl) ev_c (rv_ixT (ex_t x5 hT) (atI_nat (j := 3) rfl))) (ev_var rfl) ⟨ex_dp x5 h4, by omega, wd, hok2⟩ (ex_l x5 hS) hx hl)) fun H6 e6 => q H6 (x5.trans e6)
end

--@SPLIT
/-! ### rows: lists of lists -/
theorem call_list_ofK {X : L2.Cx} {K : PySem.W.Frag} (h : X.K = K) : CallR X (.type "list") (rListS K) := h ▸ call_list_of
theorem sl_listK {X : L2.Cx} {K : PySem.W.Frag} (h : X.K = K) : SlR X (rSlL K) := h ▸ sl_list
theorem pi_listK {X : L2.Cx} {K : PySem.W.Frag} {tg e : Expr} {te : TE} (h : X.K = K) (he : PE X e te) : PI X tg e (iList K te) := h ▸ pi_list he
theorem pi_tupK {X : L2.Cx} {K : PySem.W.Frag} {tg e : Expr} {te : TE} (h : X.K = K) (he : PE X e te) : PI X tg e (iTup K te) := h ▸ pi_tup he
def RowAt (H : Hp) (p : Addr) (xs : List V) : Prop := H p = some (.lst xs)
def Mn {α : Type} (R : Hp → Addr → α → Prop) : Prop := ∀ H H' q l, Ex H H' → R H q l → R H' q l
theorem RowAt.mn : Mn RowAt := fun H H' q l e h => e _ _ h
theorem Lst2.mn {α : Type} {R : Hp → Addr → α → Prop} (hm : Mn R) : Mn (Lst2 R) := fun H H' q l e h => h.mono e fun q l h => hm _ _ _ _ e h
/-- what is new since H0 -/
def nu (H0 H : Hp) : Hp := fun a => match H0 a with
  | none => H a
  | some _ => none
theorem nu_le {H0 H : Hp} : Ex (nu H0 H) H := fun a o h => by
  unfold nu at h
  split at h
  · exact h
  · cases h
theorem nu_mono {H0 H1 H2 : Hp} (e : Ex H1 H2) : Ex (nu H0 H1) (nu H0 H2) := fun a o h => by
  unfold nu at h ⊢
  cases z : H0 a with
  | none => rw [z] at h; exact e a o h
  | some u => rw [z] at h; cases h
theorem nu_back {H0 H1 H : Hp} (e : Ex H0 H1) : Ex (nu H1 H) (nu H0 H) := fun a o h => by
  unfold nu at h ⊢
  cases z : H1 a with
  | none => rw [z] at h; rw [fresh_back e z]; exact h
  | some u => rw [z] at h; cases h
theorem nu_at {H0 H : Hp} {p : Addr} {o : HO} (h0 : H0 p = none) (h : H p = some o) : nu H0 H p = some o := by
  unfold nu
  rw [h0]
  exact h
theorem nu_wo {H0 H : Hp} {D : Addr} {o : HO} (h : H0 D = some o) : Ex (nu H0 H) (wo D H) := fun a u ha => by
  have hn : a ≠ D := fun z => by
    unfold nu at ha
    rw [z, h] at ha
    cases ha
  rw [wo_ne hn]
  exact nu_le a u ha
theorem nu_wo2 {H0 H1 H : Hp} {D : Addr} {o : HO} (h : H1 D = some o) (e : Ex H0 H1) : Ex (nu H1 H) (wo D (nu H0 H)) := fun a u ha => by
  have hn : a ≠ D := fun z => by
    unfold nu at ha
    rw [z, h] at ha
    cases ha
  rw [wo_ne hn]
  exact nu_back e a u ha
theorem nu_upd {H0 H : Hp} {p : Addr} {o u : HO} (h : H0 p = some u) : nu H0 (upd H p o) = nu H0 H := by
  funext a
  unfold nu
  cases z : H0 a with
  | none => exact upd_ne (fun e => by rw [e, h] at z; cases z)
  | some v => rfl
theorem wo_nu_upd {H0 H : Hp} {D : Addr} {o : HO} : wo D (nu H0 (upd H D o)) = wo D (nu H0 H) := by
  funext a
  by_cases h : a = D
  · rw [h, wo_self, wo_self]
  · rw [wo_ne h, wo_ne h]
    unfold nu
    rw [upd_ne h]
def EvRn (R : Hp → Addr → Prop) (te : TE) (σ : L2.St) (H : Hp) : Prop := ∀ H1, Ex H H1 → ∀ Q : VK, (∀ p H2, H1 p = none → Ex H1 H2 → R (nu H1 H2) p → Q (.ref p) H2) → te σ H1 Q
def EvRo (R : Hp → Addr → Prop) (te : TE) (σ : L2.St) (H : Hp) : Prop := ∀ H1, Ex H H1 → ∀ Q : VK, (∀ p H2, H1 p = none → Ex H1 H2 → R H2 p → Q (.ref p) H2) → te σ H1 Q
/-- a new list, the items' words stand beside it -/
def Lst3 {α : Type} (R : Hp → Addr → α → Prop) (H : Hp) (p : Addr) (L : List α) : Prop := ∃ qs, H p = some (.lst (qs.map V.ref)) ∧ Al2 R (wo p H) qs L
theorem Lst3.two {α : Type} {R : Hp → Addr → α → Prop} (hm : Mn R) {H : Hp} {p : Addr} {L : List α} (h : Lst3 R H p L) : Lst2 R H p L := by
  obtain ⟨qs, h1, h2⟩ := h
  exact ⟨qs, h1, h2.mono fun q l _ => hm _ _ _ _ (wo_le _ _)⟩
section
variable {K : PySem.W.Frag} {σ : L2.St} {H : Hp} {ta tb te tl : TE} {α : Type} {R : Hp → Addr → α → Prop} {D : Ends} {tz : TS}
theorem EvRn.o {R : Hp → Addr → Prop} (hm : ∀ H H' q, Ex H H' → R H q → R H' q) (h : EvRn R te σ H) : EvRo R te σ H := fun H1 e Q q => h H1 e Q fun p H2 hp e2 hR => q p H2 hp e2 (hm _ _ _ nu_le hR)
theorem q_asgR {i : Nat} {R : Hp → Addr → Prop} (h : EvRn R te σ H) (k : ∀ p H1, H p = none → Ex H H1 → R (nu H H1) p → tz D (σ.set i (some (.ref p))) H1) : tSeq (tAsg te (gName i)) tz D σ H := h H (Ex.refl H) _ k
theorem q_asgO {i : Nat} {R : Hp → Addr → Prop} (h : EvRo R te σ H) (k : ∀ p H1, H p = none → Ex H H1 → R H1 p → tz D (σ.set i (some (.ref p))) H1) : tSeq (tAsg te (gName i)) tz D σ H := h H (Ex.refl H) _ k
theorem s_retR {R : Hp → Addr → Prop} (h : EvRn R te σ H) (k : ∀ p H1, H p = none → Ex H H1 → R (nu H H1) p → D.rt (.ref p) H1) : tRet te D σ H := h H (Ex.refl H) _ k
theorem s_retO {R : Hp → Addr → Prop} (h : EvRo R te σ H) (k : ∀ p H1, H p = none → Ex H H1 → R H1 p → D.rt (.ref p) H1) : tRet te D σ H := h H (Ex.refl H) _ k
theorem rn_list {p : Addr} {xs : List V} (ha : Ev ta σ H (.ref p)) (h : SqL K H p xs) : EvRn (fun H p => RowAt H p xs) (tCB (rListS K) (tCons ta tNil)) σ H := fun H1 e Q q => el_list ha h H1 e Q fun p H2 hp e2 h2 => q p H2 hp e2 (nu_at hp h2)
/-- [a new object for x in xs] -/
theorem er_lcD (hm : Mn R) {a : Addr} {xs : List V} {j : Nat} {vs : List Nat} (f : Nat → α) (h : Ev tl σ H (.ref a)) (hx : SqL K H a xs) (hz : xs.length ≤ 40000) (hw : ∀ x, wipe ((wipe σ vs).set j (some x)) vs = wipe σ vs)
    (he : ∀ (i : Nat) (x : V) (H1 : Hp) (D : Addr), Ex H H1 → H D = none → (∃ ys, H1 D = some (.lst ys)) → xs[i]? = some x → ∀ Q : VK, (∀ p H2, H1 p = none → Ex H1 H2 → R (wo D H2) p (f i) → Q (.ref p) H2) → te ((wipe σ vs).set j (some x)) H1 Q) :
    EvRo (fun H p => Lst3 R H p ((List.range xs.length).map f)) (tLc (iList K tl) (gName j) tYes te vs) σ H := fun H0 e0 Q q => h H0 e0 _ fun H1 e1 => ⟨a, rfl, ⟨xs, ex_l (e0.trans e1) hx⟩, fun D hD =>
  lc_list (xs := xs) (fun i H' => H1 D = none ∧ Ex H1 H' ∧ ∃ qs, H' D = some (.lst (qs.map V.ref)) ∧ Al2 R (wo D H') qs ((List.range i).map f)) ⟨hD, Ex.new hD, [], upd_same, Al2.nil⟩ (fun i H' _ p => ex_l ((e0.trans e1).trans p.2.1) hx)
    (fun i x H' hi p => by
      obtain ⟨p1, p2, qs, p3, p4⟩ := p
      refine ⟨hw x, ?_⟩
      show te ((wipe σ vs).set j (some x)) H' fun y H4 => ∃ acc, H4 D = some (.lst acc) ∧ acc.length < sizeLine ∧ _
      refine he i x H' D ((e0.trans e1).trans p2) (fresh_back (e0.trans e1) hD) ⟨_, p3⟩ hi _ fun r H4 hr e4 hR => ⟨_, e4 _ _ p3, sz_lt ?_, p1, Ex.mut (p2.trans e4) p1, qs ++ [r], by rw [upd_same, List.map_append]; rfl, ?_⟩
      · have := p4.1
        rw [List.length_map, List.length_range] at this
        have := (List.getElem?_eq_some_iff.mp hi).1
        rw [List.length_map]
        omega
      · rw [wo_upd, List.range_succ, List.map_append]
        exact (p4.mono fun q l _ => hm _ _ _ _ (wo_mono e4)).snoc hR)
    (fun H' p => by
      obtain ⟨p1, p2, qs, p3, p4⟩ := p
      exact q D H' (fresh_back e1 p1) (e1.trans p2) ⟨qs, p3, p4⟩)⟩
/-- .. objects that are wholly new -/
theorem er_lcN (hm : Mn R) {a : Addr} {xs : List V} {j : Nat} {vs : List Nat} (f : Nat → α) (h : Ev tl σ H (.ref a)) (hx : SqL K H a xs) (hz : xs.length ≤ 40000) (hw : ∀ x, wipe ((wipe σ vs).set j (some x)) vs = wipe σ vs)
    (he : ∀ (i : Nat) (x : V) (H1 : Hp), Ex H H1 → xs[i]? = some x → EvRn (fun H q => R H q (f i)) te ((wipe σ vs).set j (some x)) H1) :
    EvRn (fun H p => Lst2 R H p ((List.range xs.length).map f)) (tLc (iList K tl) (gName j) tYes te vs) σ H := fun H0 e0 Q q => h H0 e0 _ fun H1 e1 => ⟨a, rfl, ⟨xs, ex_l (e0.trans e1) hx⟩, fun D hD =>
  lc_list (xs := xs) (fun i H' => H1 D = none ∧ Ex H1 H' ∧ ∃ qs, H' D = some (.lst (qs.map V.ref)) ∧ Al2 R (wo D (nu H0 H')) qs ((List.range i).map f)) ⟨hD, Ex.new hD, [], upd_same, Al2.nil⟩ (fun i H' _ p => ex_l ((e0.trans e1).trans p.2.1) hx)
    (fun i x H' hi p => by
      obtain ⟨p1, p2, qs, p3, p4⟩ := p
      refine ⟨hw x, ?_⟩
      show te ((wipe σ vs).set j (some x)) H' fun y H4 => ∃ acc, H4 D = some (.lst acc) ∧ acc.length < sizeLine ∧ _
      refine he i x H' ((e0.trans e1).trans p2) hi H' (Ex.refl H') _ fun r H4 hr e4 hR => ⟨_, e4 _ _ p3, sz_lt ?_, p1, Ex.mut (p2.trans e4) p1, qs ++ [r], by rw [upd_same, List.map_append]; rfl, ?_⟩
      · have := p4.1
        rw [List.length_map, List.length_range] at this
        have := (List.getElem?_eq_some_iff.mp hi).1
        rw [List.length_map]
        omega
      · rw [wo_nu_upd, List.range_succ, List.map_append]
        exact (p4.mono fun q l _ => hm _ _ _ _ (wo_mono (nu_mono e4))).snoc (hm _ _ _ _ (nu_wo2 p3 (e1.trans p2)) hR))
    (fun H' p => by
      obtain ⟨p1, p2, qs, p3, p4⟩ := p
      have hD0 := fresh_back e1 p1
      exact q D H' hD0 (e1.trans p2) ⟨qs, nu_at hD0 p3, p4.mono fun q l _ => hm _ _ _ _ (wo_le _ _)⟩)⟩
/-- [f(x) for x in a tuple] -/
theorem el_lcT {a : Addr} {xs : List V} {j : Nat} {vs : List Nat} (f : Nat → V) (h : Ev tl σ H (.ref a)) (hx : SqT K H a xs) (hz : xs.length ≤ 40000) (hw : ∀ x, wipe ((wipe σ vs).set j (some x)) vs = wipe σ vs)
    (he : ∀ (i : Nat) (x : V) (H1 : Hp), Ex H H1 → xs[i]? = some x → Ev te ((wipe σ vs).set j (some x)) H1 (f i)) :
    EvL (tLc (iTup K tl) (gName j) tYes te vs) σ H ((List.range xs.length).map f) := fun H0 e0 Q q => h H0 e0 _ fun H1 e1 => ⟨a, rfl, ⟨xs, ex_t (e0.trans e1) hx⟩, fun D hD =>
  lc_tup (xs := xs) (fun i H' => H1 D = none ∧ Ex H1 H' ∧ H' D = some (.lst ((List.range i).map f))) ⟨hD, Ex.new hD, upd_same⟩ (fun i H' _ p => ex_t ((e0.trans e1).trans p.2.1) hx)
    (fun i x H' hi p => by
      obtain ⟨p1, p2, p3⟩ := p
      refine ⟨hw x, ?_⟩
      show te ((wipe σ vs).set j (some x)) H' fun y H4 => ∃ acc, H4 D = some (.lst acc) ∧ acc.length < sizeLine ∧ _
      refine he i x H' ((e0.trans e1).trans p2) hi H' (Ex.refl H') _ fun H4 e4 => ⟨_, e4 _ _ p3, sz_lt ?_, p1, Ex.mut (p2.trans e4) p1, by rw [upd_same, List.range_succ, List.map_append]; rfl⟩
      have := (List.getElem?_eq_some_iff.mp hi).1
      rw [List.length_map, List.length_range]
      omega)
    (fun H' p => q D H' (fresh_back e1 p.1) (e1.trans p.2.1) p.2.2)⟩
theorem lc_rangeC {lo c : Int} {n : Nat} {g : TG} {tt : TT} {te : TE} {vs : List Nat} {σ : L2.St} {H1 : Hp} {D : Addr} {Qd : Hp → Prop} (Pv : Nat → Hp → Prop) (h0 : Pv 0 (upd H1 D (.lst [])))
    (hs : ∀ i H, i < n → Pv i H → g (.int (lo + (i : Nat) * c)) (wipe σ vs) H fun σ2 H2 => wipe σ2 vs = wipe σ vs ∧ tt σ2 H2 fun b H3 =>
      if b = true then te σ2 H3 fun y H4 => ∃ acc, H4 D = some (.lst acc) ∧ acc.length < sizeLine ∧ Pv (i + 1) (upd H4 D (.lst (acc ++ [y]))) else Pv (i + 1) H3) (hd : ∀ H, Pv n H → Qd H) :
    ∃ W : Nat → Nat → Hp → Prop, (∃ m, W 0 m (upd H1 D (.lst []))) ∧ ∀ i m H, W i m H →
      ((Itc lo c n).stop i H ∧ Qd H) ∨ ((Itc lo c n).go i H ∧ ∃ Nx : Hp → Prop, (∀ H', Nx H' → ∃ m', m' < m ∧ W (i + 1) m' H') ∧ ∀ x H', (Itc lo c n).yld i H x H' → g x (wipe σ vs) H' fun σ2 H2 => wipe σ2 vs = wipe σ vs ∧ tt σ2 H2 fun b H3 =>
        if b = true then te σ2 H3 fun y H4 => ∃ acc, H4 D = some (.lst acc) ∧ acc.length < sizeLine ∧ Nx (upd H4 D (.lst (acc ++ [y]))) else Nx H3) := by
  refine ⟨fun i m H => m = n - i ∧ i ≤ n ∧ Pv i H, ⟨n, by simp, Nat.zero_le _, h0⟩, ?_⟩
  rintro i m H ⟨rfl, hi, p⟩
  by_cases hlt : i < n
  · refine .inr ⟨hlt, Pv (i + 1), fun H' p' => ⟨n - (i + 1), by omega, rfl, hlt, p'⟩, fun x H' y => ?_⟩
    obtain ⟨e, y⟩ := y
    subst e y
    exact hs i _ hlt p
  · have e : i = n := by omega
    subst e
    exact .inl ⟨Nat.le_refl _, hd H p⟩
def stepsN (n c : Nat) : Nat := if 0 < n then (n - 1) / c + 1 else 0
theorem stepsN_le {n c : Nat} (hc : 0 < c) : stepsN n c ≤ n := by
  unfold stepsN
  split
  · have := Nat.div_le_self (n - 1) c
    omega
  · omega
theorem stepsN_mul {n c : Nat} (hc : 0 < c) : stepsN n c * c ≤ n + c := by
  unfold stepsN
  split
  · have h1 := Nat.div_mul_le_self (n - 1) c
    rw [Nat.add_mul, Nat.one_mul]
    omega
  · omega
theorem RgC.up {n c : Nat} (hn : n ≤ 100000) (hc : 0 < c) (hc2 : c ≤ 100000) : RgC 0 (n : Int) (c : Int) (stepsN n c) := by
  have hr : Builtin.Range.rangeSize 0 (n : Int) (c : Int) = ((stepsN n c : Nat) : Int) := by
    unfold Builtin.Range.rangeSize stepsN
    rw [if_pos (by omega)]
    by_cases h : 0 < n
    · rw [if_pos (by omega), if_pos h]
      have : (n : Int) - 0 - 1 = ((n - 1 : Nat) : Int) := by omega
      rw [this]
      rfl
    · rw [if_neg (by omega), if_neg h]
      rfl
  refine ⟨by omega, by omega, ?_, hr⟩
  have hm := stepsN_mul (n := n) hc
  have hm2 := stepsN_le (n := n) hc
  have e : ((stepsN n c : Nat) : Int) * (c : Int) = ((stepsN n c * c : Nat) : Int) := by rw [Int.natCast_mul]
  unfold Builtin.Range.small
  rw [hr]
  simp only [Builtin.Range.rangeFitsLong, Bool.and_eq_true, Bool.or_eq_true, decide_eq_true_eq, beq_iff_eq, show (c : Int) > 0 by omega, if_true, e, Int.zero_add]
  omega
theorem stepsN_at {n c i : Nat} (hc : 0 < c) (h : i < stepsN n c) : i * c < n := by
  unfold stepsN at h
  split at h
  · have h2 : i ≤ (n - 1) / c := by omega
    have := (Nat.le_div_iff_mul_le hc).mp h2
    omega
  · omega
theorem stepsN_all {n c : Nat} (hc : 0 < c) : n ≤ stepsN n c * c := by
  unfold stepsN
  split
  · have h1 := Nat.div_add_mod (n - 1) c
    have h2 := Nat.mod_lt (n - 1) hc
    rw [Nat.add_mul, Nat.one_mul, Nat.mul_comm]
    omega
  · omega
/-- .. over range(0, n, c) -/
theorem er_lcC (hm : Mn R) {n c : Nat} {tr : TA} {j : Nat} {vs : List Nat} (f : Nat → α) (h : EvA tr σ H [.int 0, .int (n : Int), .int (c : Int)]) (hn : n ≤ 40000) (hc : 0 < c) (hc2 : c ≤ 100000) (hw : ∀ x, wipe ((wipe σ vs).set j (some x)) vs = wipe σ vs)
    (he : ∀ (i : Nat) (H1 : Hp) (D : Addr), Ex H H1 → H D = none → (∃ ys, H1 D = some (.lst ys)) → i < stepsN n c → ∀ Q : VK, (∀ p H2, H1 p = none → Ex H1 H2 → R (wo D H2) p (f i) → Q (.ref p) H2) → te ((wipe σ vs).set j (some (.int ((i * c : Nat) : Int)))) H1 Q) :
    EvRo (fun H p => Lst3 R H p ((List.range (stepsN n c)).map f)) (tLc (iRng3 tr) (gName j) tYes te vs) σ H := fun H0 e0 Q q => h H0 e0 _ fun H1 e1 => ⟨0, (n : Int), (c : Int), stepsN n c, rfl, RgC.up (by omega) hc hc2, fun D hD =>
  lc_rangeC (lo := 0) (c := (c : Int)) (n := stepsN n c) (fun i H' => H1 D = none ∧ Ex H1 H' ∧ ∃ qs, H' D = some (.lst (qs.map V.ref)) ∧ Al2 R (wo D H') qs ((List.range i).map f)) ⟨hD, Ex.new hD, [], upd_same, Al2.nil⟩
    (fun i H' hi p => by
      obtain ⟨p1, p2, qs, p3, p4⟩ := p
      have e9 : (0 : Int) + ((i : Nat) : Int) * (c : Int) = ((i * c : Nat) : Int) := by rw [Int.natCast_mul, Int.zero_add]
      refine ⟨hw _, ?_⟩
      show te ((wipe σ vs).set j (some (.int ((0 : Int) + ((i : Nat) : Int) * (c : Int))))) H' fun y H4 => ∃ acc, H4 D = some (.lst acc) ∧ acc.length < sizeLine ∧ _
      rw [e9]
      refine he i H' D ((e0.trans e1).trans p2) (fresh_back (e0.trans e1) hD) ⟨_, p3⟩ hi _ fun r H4 hr e4 hR => ⟨_, e4 _ _ p3, sz_lt ?_, p1, Ex.mut (p2.trans e4) p1, qs ++ [r], by rw [upd_same, List.map_append]; rfl, ?_⟩
      · have := p4.1
        rw [List.length_map, List.length_range] at this
        have h9 := stepsN_le (n := n) hc
        rw [List.length_map]
        omega
      · rw [wo_upd, List.range_succ, List.map_append]
        exact (p4.mono fun q l _ => hm _ _ _ _ (wo_mono e4)).snoc hR)
    (fun H' p => by
      obtain ⟨p1, p2, qs, p3, p4⟩ := p
      exact q D H' (fresh_back e1 p1) (e1.trans p2) ⟨qs, p3, p4⟩)⟩
theorem cutV_nat {xs : List V} {i j : Nat} : cutV xs (some (i : Int)) (some (j : Int)) = (xs.take j).drop i := by
  unfold cutV
  rw [HT.sIx_nat, HT.sIx_nat, List.drop_take]
  by_cases hi : i ≤ xs.length
  · rw [Nat.min_eq_left hi]
    by_cases hj : j ≤ xs.length
    · rw [Nat.min_eq_left hj]
    · rw [Nat.min_eq_right (show xs.length ≤ j by omega), List.take_of_length_le (by rw [List.length_drop]; omega), List.take_of_length_le (by rw [List.length_drop]; omega)]
  · rw [Nat.min_eq_right (show xs.length ≤ i by omega), List.drop_eq_nil_of_le (Nat.le_refl _), List.drop_eq_nil_of_le (show xs.length ≤ i by omega)]
    simp
def chunk {α : Type} (xs : List α) (c i : Nat) : List α := (xs.take (i * c + c)).drop (i * c)
theorem chunk_flat {α : Type} (xs : List α) (c : Nat) : ∀ n, ((List.range n).map (chunk xs c)).flatten = xs.take (n * c)
  | 0 => by simp
  | n + 1 => by
    rw [List.range_succ, List.map_append, List.flatten_append, chunk_flat xs c n]
    show xs.take (n * c) ++ (chunk xs c n ++ []) = xs.take ((n + 1) * c)
    rw [List.append_nil, Nat.add_mul, Nat.one_mul]
    unfold chunk
    have := List.take_append_drop (n * c) (xs.take (n * c + c))
    rw [List.take_take, Nat.min_eq_left (by omega)] at this
    exact this
theorem chunk_map {α β : Type} (f : α → β) (xs : List α) (c i : Nat) : chunk (xs.map f) c i = (chunk xs c i).map f := by
  unfold chunk
  rw [List.map_drop, List.map_take]
/-- a list of rows, cut -/
theorem Al2.cut {qs : List Addr} {L : List α} (h : Al2 R H qs L) (c i : Nat) : Al2 R H (chunk qs c i) (chunk L c i) := by
  refine ⟨by unfold chunk; rw [List.length_drop, List.length_drop, List.length_take, List.length_take, h.1], fun k q l a b => ?_⟩
  unfold chunk at a b
  rw [List.getElem?_drop, List.getElem?_take] at a b
  split at a
  · rename_i hlt
    rw [if_pos hlt] at b
    exact h.2 _ q l a b
  · cases a
theorem ev_rgl {te : TE} {n : Nat} (h : Ev te σ H (.int (n : Int))) (hn : n ≤ 100000) : EvL (tLstRg (tRg1 te)) σ H ((List.range n).map fun i => V.int ((i : Nat) : Int)) := fun H1 e Q q => h H1 e _ fun H2 e2 => ⟨(n : Int), rfl, RgOk.of_le (by omega) (by omega) (by omega) (by omega), fun p hp => q p _ (fresh_back e2 hp) (e2.trans (Ex.new hp)) (by
  rw [upd_same]
  have : rgV 0 (n : Int) = (List.range n).map fun i => V.int ((i : Nat) : Int) := by
    unfold rgV
    rw [show ((n : Int) - 0).toNat = n by omega]
    exact List.map_congr_left fun i _ => by rw [Int.zero_add]
  rw [this])⟩
end
section
variable {K : PySem.W.Frag} {σ : L2.St} {H : Hp} {p : Addr} {te tn : TE} {R : V → Prop}
/-- [what is drawn for k in range(n)] -/
theorem e1_lcE {j : Nat} {vs : List Nat} {n : Nat} (hn : Ev tn σ (wo p H) (.int (n : Int))) (hm : n ≤ 10000) (hw : ∀ x, wipe ((wipe σ vs).set j (some x)) vs = wipe σ vs)
    (he : ∀ i : Nat, EvD1 te ((wipe σ vs).set j (some (.int (i : Int)))) p H R) : EvLD1 (tLc (iRng1 (tCons tn tNil)) (gName j) tYes te vs) σ p H (fun xs => xs.length = n ∧ ∀ x ∈ xs, R x) := fun H0 e d Q q =>
  hn H0 e _ fun H1 e1 => by
    have d1 := d.ex e1
    refine ⟨(n : Int), rfl, by omega, by omega, fun Dl hD => ?_⟩
    have hpd : p ≠ Dl := dr_ne d1 hD
    refine lc_range (lo := 0) (n := ((n : Int)).toNat) (fun i H' => Ex (wo p H1) H' ∧ Dr p H' ∧ ∃ acc, H' Dl = some (.lst acc) ∧ acc.length = i ∧ ∀ x ∈ acc, R x) ⟨Ex.mut (wo_le p H1) (by rw [wo_ne (Ne.symm hpd)]; exact hD), d1.upd hpd, [], upd_same, rfl, fun x hx => by cases hx⟩ (fun i H' hi pv => ?_) (fun H' pv => ?_)
    · obtain ⟨p1, p2, acc, p3, p4, p5⟩ := pv
      have e0 : (0 : Int) + (i : Int) = (i : Int) := Int.zero_add _
      show wipe ((wipe σ vs).set j (some (.int ((0 : Int) + (i : Int))))) vs = wipe σ vs ∧ te ((wipe σ vs).set j (some (.int ((0 : Int) + (i : Int))))) H' fun y H4 => ∃ acc, H4 Dl = some (.lst acc) ∧ acc.length < sizeLine ∧ _
      rw [e0]
      refine ⟨hw _, he i H' (wx_trans e (wx_trans (wx_of e1) p1)) p2 _ fun y H4 hy e4 d4 => ?_⟩
      refine ⟨acc, e4 Dl _ (by rw [wo_ne (Ne.symm hpd)]; exact p3), sz_lt (by omega), Ex.mut (wx_trans p1 e4) (by rw [wo_ne (Ne.symm hpd)]; exact hD), d4.upd hpd, acc ++ [y], upd_same, by rw [List.length_append, p4]; rfl, fun x hx => ?_⟩
      rcases List.mem_append.mp hx with h | h
      · exact p5 x h
      · rw [List.mem_singleton.mp h]
        exact hy
    · obtain ⟨p1, p2, acc, p3, p4, p5⟩ := pv
      exact q Dl H' acc ⟨by rw [p4]; exact Int.toNat_natCast n, p5⟩ (fresh_back e1 hD) (wx_trans (wx_of e1) p1) p2 p3
theorem q1_asgL {i : Nat} {P : List V → Prop} {D : Ends} {tz : TS} (h : EvLD1 te σ p H P) (d : Dr p H) (k : ∀ l H1 xs, P xs → H l = none → Ex (wo p H) H1 → Dr p H1 → H1 l = some (.lst xs) → tz D (σ.set i (some (.ref l))) H1) : tSeq (tAsg te (gName i)) tz D σ H := h H (wo_le p H) d _ fun l H1 xs hP hl e d1 h1 => k l H1 xs hP hl e d1 h1
end

--@SPLIT
/-! ### the law's rows -/
def OkRow (r : List V) : Prop := (∀ x ∈ r, Ok x) ∧ r.length ≤ 1000
def OkRows (L : List (List V)) : Prop := L.length ≤ 2000 ∧ ∀ r ∈ L, OkRow r
theorem range_map {α : Type} {xs : List V} (f : V → α) : (List.range xs.length).map (fun i => f (xs.getD i .non)) = xs.map f := by
  apply List.ext_getElem?
  intro i
  rw [List.getElem?_map, List.getElem?_map]
  by_cases h : i < xs.length
  · rw [List.getElem?_range h, List.getElem?_eq_getElem h]
    show some (f (xs.getD i .non)) = some (f xs[i])
    rw [List.getD_eq_getElem?_getD, List.getElem?_eq_getElem h]
    rfl
  · rw [List.getElem?_eq_none (by rw [List.length_range]; omega), List.getElem?_eq_none (by omega)]
    rfl
theorem getD_is {α : Type} {xs : List α} {i : Nat} {x d : α} (h : xs[i]? = some x) : xs.getD i d = x := by rw [List.getD_eq_getElem?_getD, h]; rfl
theorem sh_ranks {xs : List V} (h : ∀ x ∈ xs, Ok x) : SeqAt.shaped (.list (xs.map rkD)) = true := by
  have hd := deps_rk h
  show (PyData.canLayAll0 (xs.map rkD) && decide (PyData.depthAll (xs.map rkD) + 1 ≤ 64)) = true
  rw [lays_rk h, decide_eq_true (by omega)]
  rfl
def sp__law_ranks (K : PySem.W.Frag) : Sp := fun vs H Q _ => ∃ (a : Addr) (xs : List V), vs = [.ref a] ∧ SqL K H a xs ∧ OkRow xs ∧ ∀ p H' ys, H p = none → Ex H H' → H' p = some (.lst ys) → DpAll K H' ys (xs.map rkD) → Q (.ref p) H'
def sp__law_same_rows (K : PySem.W.Frag) : Sp := fun vs H Q _ => ∃ (p q : Addr) (L : List (List V)), vs = [.ref p, .ref q] ∧ Lst2 RowAt H p L ∧ Lst2 RowAt H q L ∧ OkRows L ∧ ∀ H', Ex H H' → Q (.bl true) H'
section
variable {P : Program} {w : World} {K : PySem.W.Frag} {mg : Str → Option Value} {base : Heap}
theorem ld_ranks {σ : L2.St} {H : Hp} {ta : TE} {E : XK} {a : Addr} {xs : List V} (ha : Ev ta σ H (.ref a)) (hS : SqL K H a xs) (hx : OkRow xs) : EvLD K (tCall (sp__law_ranks K) [] E (tCons ta tNil)) σ H (xs.map rkD) := fun H1 e Q q =>
  ha H1 e _ fun H2 e2 => ⟨a, xs, rfl, ex_l (e.trans e2) hS, hx, fun p H3 ys hp e3 h3 hd => q p H3 ys (fresh_back e2 hp) (e2.trans e3) h3 hd⟩
theorem ec_srows {σ : L2.St} {H : Hp} {ta tb : TE} {E : XK} {p q : Addr} {L : List (List V)} (ha : Ev ta σ H (.ref p)) (hb : Ev tb σ H (.ref q)) (h1 : Lst2 RowAt H p L) (h2 : Lst2 RowAt H q L) (hL : OkRows L) : Ev (tCall (sp__law_same_rows K) [] E (tCons ta (tCons tb tNil))) σ H (.bl true) := ev_call (ea_cons ha (ea_cons hb ea_nil)) fun H1 e Q k E => ⟨p, q, L, rfl, Lst2.mn RowAt.mn _ _ _ _ e h1, Lst2.mn RowAt.mn _ _ _ _ e h2, hL, k⟩
theorem ok__law_ranks (D : Dn K mg "_law_ranks" s__law_ranks ["row"]) (c__law_rank : C8.Cal P w K mg base 1 "_law_rank" (sp__law_rank K) []) :
    C8.Cal P w K mg base 2 "_law_ranks" (sp__law_ranks K) [] := by
  refine cal_of D sc__law_ranks (fun vs H Q E h => ?_) (fun f cdv A outer s H vs Q E hr h => ?_)
  · obtain ⟨_, _, rfl, _⟩ := h
    rfl
  refine ⟨_, (pss_one (ps_ret (pe_lc (own := [("value", 1)]) (g := gName 1) (tt := tYes) rfl sc__law_ranks.nd (pi_list (pv 0)) (blkOk_by (N := n__law_ranks) (sc := C8.fnScope s__law_ranks) (by decide +kernel)) (fun _ _ _ _ _ => pg_name (i := 1) sc__law_ranks.nd rfl (Or.inl rfl)) (fun _ _ _ _ _ => pts_nil) (fun _ _ _ _ _ => (C8.pe_c c__law_rank hr (by decide) (by rfl) (pa_cons (pv 1) pa_nil)))))), ?_⟩
  obtain ⟨a, xs, rfl, hS, hx, q⟩ := h
  have hz := hx.2
  refine (ld_lcL (K := K) (fun i => rkD (xs.getD i .non)) (ev_var rfl) hS (by omega) (fun i => noL_rk (row_ok hx.1 i)) (fun _ => rfl) fun i x H1 e1 hi => ?_) H (Ex.refl H) _ fun p H2 ys hp e2 h2 hd => q p H2 ys hp e2 h2 (by rw [← range_map]; exact hd)
  rw [getD_is hi]
  exact ed_rk (ec_lrank (ev_var rfl) (hx.1 x (List.mem_of_getElem? hi))) (hx.1 x (List.mem_of_getElem? hi))
end
def sp__law_rows (K : PySem.W.Frag) : Sp := fun vs H Q _ => ∃ (a : Addr) (ns : List Int) (first most wd : Nat), vs = [.ref a, .int (first : Int), .int (most : Int), .int (wd : Int)] ∧ SqL K H a (ns.map V.int) ∧ ns.length ≤ 63 ∧ most ≤ 1000 ∧ 1 ≤ wd ∧ wd ≤ 10 ∧
  ∀ p H' L, H p = none → Ex H H' → Lst2 RowAt H' p L → (∀ r ∈ L, r.length = wd ∧ ∀ x ∈ r, DV x) → L.length ≤ 63 → Q (.ref p) H'
section
variable {P : Program} {w : World} {K : PySem.W.Frag} {mg : Str → Option Value} {base : Heap}
theorem ok__law_rows (D : Dn K mg "_law_rows" s__law_rows ["script", "first", "most", "width"]) (c__law_digit : C8.Cal P w K mg base 1 "_law_digit" (sp__law_digit K) []) (c__law_state : C8.Cal P w K mg base 1 "_law_state" (sp__law_state K) []) (c__law_value : C8.Cal P w K mg base 3 "_law_value" (sp__law_value K) []) (z_len : mg "len" = none) (z_max : mg "max" = none) (z_min : mg "min" = none) (z_range : mg "range" = none) :
    C8.Cal P w K mg base 4 "_law_rows" (sp__law_rows K) [] := by
  refine cal_of D sc__law_rows (fun vs H Q E h => ?_) (fun f cdv A outer s H vs Q E hr h => ?_)
  · obtain ⟨_, _, _, _, _, rfl, _⟩ := h
    rfl
  refine ⟨_, (pss_cons (ps_set (i := 4) sc__law_rows.nd rfl (.inl rfl) (pe_lst pa_nil))
    (pss_cons (ps_for PassesOwn.never rfl (pi_range1 rfl z_range (pa_cons (pe_callB (call_min2 rfl) (by rfl) z_min (by decide +kernel) (pa_cons (pv 2) (pa_cons (pe_callB (call_max2 rfl) (by rfl) z_max (by decide +kernel) (pa_cons pe_int (pa_cons (pe_op op_sub (pe_callB call_len_seq (by rfl) z_len PySem.boot_len (pa_cons (pv 0) pa_nil)) (pv 1)) pa_nil))) pa_nil))) pa_nil)) (pg_name (i := 5) sc__law_rows.nd rfl (.inl rfl))
      (pss_cons (ps_set (i := 6) sc__law_rows.nd rfl (.inr rfl) (C8.pe_c c__law_state hr (by decide) (by rfl) (pa_cons (pe_ix ix_list (pv 0) (pe_op op_add (pv 1) (pv 5)) (fun _ _ => rfl)) (pa_cons (pv 5) pa_nil))))
    (pss_cons (ps_setLc (i := 7) (own := [("j", 8)]) (g := gName 8) (tt := tYes) rfl sc__law_rows.nd rfl rfl (sw_true rfl rfl rfl (by decide +kernel)) (pi_range1 rfl z_range (pa_cons (pv 3) pa_nil)) (blkOk_by (N := n__law_rows) (sc := C8.fnScope s__law_rows) (by decide +kernel)) (fun _ _ _ _ _ => pg_name (i := 8) sc__law_rows.nd rfl (Or.inl rfl)) (fun _ _ _ _ _ => pts_nil) (fun _ _ _ _ _ => (C8.pe_c c__law_value hr (by decide) (by rfl) (pa_cons (pv 6) pa_nil))))
    (Evl.pss_cut (ps_if (pt_cmpR op_gt (C8.pe_c c__law_digit hr (by decide) (by rfl) (pa_cons (pv 6) (pa_cons pe_int pa_nil))) pe_int (nomark _))
      (pss_one (ps_asg (C8.pe_c c__law_digit hr (by decide) (by rfl) (pa_cons (pv 6) (pa_cons pe_int pa_nil))) (pg_sub (pv 7) pe_int set_list)))
      pss_nil)
    (pss_one (ps_expr (pe_bm PySem.F.plainAttrs_list PySem.F.slot_list_append PySem.F.type_list_append mt_append (pv 4) (pa_cons (pv 7) pa_nil))))))))
    (pss_one (ps_ret (pv 4))))), ?_⟩
  obtain ⟨a, ns, first, most, wd, rfl, hS, h63, hmo, w1, w10, q⟩ := h
  have lenS : (ns.map V.int).length = ns.length := List.length_map ..
  refine q_asgL (el_lst ea_nil (by decide)) fun pR H1 hpR e1 h1 => ?_
  obtain ⟨m0, hm0, hm1, hm2, hm3⟩ : ∃ m0 : Int, (if (((ns.map V.int).length : Nat) : Int) - (first : Int) > 0 then (((ns.map V.int).length : Nat) : Int) - (first : Int) else 0) = m0 ∧ 0 ≤ m0 ∧ (m0 > 0 → m0 = (ns.length : Int) - (first : Int)) ∧ m0 ≤ 63 := by
    rw [lenS]
    refine ⟨_, rfl, ?_, ?_, ?_⟩ <;> split <;> omega
  refine q_forR1 (n := if m0 < (most : Int) then m0 else (most : Int)) (ea_cons (ev_min2 (ev_var rfl) (ev_is (Evl.ev_max2 ev_c (ev_op (ev_len (ev_var rfl) (ex_l e1 hS)) (ev_var rfl) rv_I0)) (by rw [hm0]))) ea_nil) ⟨by split <;> omega, by split <;> omega⟩
    (fun i σ' H' => ∃ (kv sv rv jv : Option V) (L : List (List V)), σ' = [some (.ref a), some (.int (first : Int)), some (.int (most : Int)), some (.int (wd : Int)), some (.ref pR), kv, sv, rv, jv] ∧ Ex H H' ∧ Lst3 RowAt H' pR L ∧ L.length = i ∧ ∀ r ∈ L, r.length = wd ∧ ∀ x ∈ r, DV x) (fun H2 e2 => ⟨none, none, none, none, [], rfl, e1.trans e2, ⟨[], e2 _ _ h1, Al2.nil⟩, rfl, fun r h => nomatch h⟩) (fun i σ' Ho hi pv => ?_) fun σ' H' pv => ?_
  · obtain ⟨kv, sv, rv, jv, L, rfl, xo, ⟨qs, hqs, hA⟩, hl, hL⟩ := pv
    have hik : first + i < ns.length ∧ i < most := by
      split at hi <;> omega
    refine q_asgC (ec_state (c := ns[first + i]'hik.1) (k := (i : Int)) (ev_op (ev_var rfl) (ev_op (ev_var rfl) (ev_var rfl) rv_I0) (rv_ixL (i := ((first + i : Nat) : Int)) (ex_l xo hS) (atI_nat (by rw [List.getElem?_map, List.getElem?_eq_getElem hik.1]; rfl)))) (ev_var rfl)) fun ps Ha hps ea da => ?_
    refine q1_asgL (e1_lcE (n := wd) (ev_var rfl) (by omega) (fun _ => rfl) fun k => e1_value (ev_var rfl)) da fun pr Hb xs hP hpr eb db hb => ?_
    obtain ⟨hxl, hxd⟩ := hP
    have hprps : pr ≠ ps := fun z => by
      obtain ⟨ys, hy⟩ := da.at
      rw [← z, hpr] at hy
      cases hy
    have xb : Ex Ho Hb := wx_back hps ea eb
    have hpro : Ho pr = none := fresh_back ea hpr
    have hqb : Hb pR = some (.lst (qs.map V.ref)) := xb _ _ hqs
    have hpRpr : pr ≠ pR := fun z => by rw [← z, hpro] at hqs; cases hqs
    have hpRps : pR ≠ ps := fun z => by rw [z, hps] at hqs; cases hqs
    refine q_cut (M := fun σ' H' => ∃ ys, σ' = [some (.ref a), some (.int (first : Int)), some (.int (most : Int)), some (.int (wd : Int)), some (.ref pR), some (.int (i : Int)), some (.ref ps), some (.ref pr), jv] ∧ Ex Ho H' ∧ H' pr = some (.lst ys) ∧ ys.length = wd ∧ ∀ x ∈ ys, DV x) ?_ fun σ' Hc pw => ?_
    · refine (edt_test (ez_cmp (g := fun i j => decide (i > j)) (ez_digit (m := 3) (ev_var rfl) ev_c (by decide) (by decide)) (e1_int (PI := fun j => j = 0) ev_c rfl))) Hb (wo_le _ _) db _ fun b Hc _ ec dc => ?_
      have xc : Ex Ho Hc := wx_back hps xb ec
      have hc : Hc pr = some (.lst xs) := ec _ _ (by rw [wo_ne hprps]; exact hb)
      cases b with
      | false => exact ⟨xs, rfl, xc, hc, hxl, hxd⟩
      | true =>
        rw [if_pos rfl]
        refine (ez_digit (m := 4) (ev_var rfl) ev_c (by decide) (by decide)) Hc (wo_le _ _) dc _ fun v Hd ⟨n, ev, hn⟩ ed dd => ?_
        subst ev
        have hd : Hd pr = some (.lst xs) := ed _ _ (by rw [wo_ne hprps]; exact hc)
        refine ⟨.ref pr, rfl, pr, xs, 0, 0, rfl, rfl, hd, ixN_nat (j := 0) (by omega), xs.set 0 (.int n), rfl, Ex.mut (wx_back hps xc ed) hpro, upd_same, by rw [List.length_set]; exact hxl, fun x hx => ?_⟩
        rcases List.mem_or_eq_of_mem_set hx with h | h
        · exact hxd x h
        · rw [h]; exact .int n (by omega)
    · obtain ⟨ys, rfl, xc, hc, hyl, hyd⟩ := pw
      refine s_app (v := .ref pr) (xc _ _ hqs) (ev_var rfl) (ev_var rfl) (by rw [List.length_map, hA.1]; omega) fun Hd ed => ⟨_, _, _, _, L ++ [ys], rfl, Ex.mut ((xo.trans xc).trans ed) (by exact hpR), ⟨qs ++ [pr], by rw [upd_same, List.map_append]; rfl, ?_⟩, by rw [List.length_append, hl]; rfl, fun r hr => ?_⟩
      · rw [wo_upd]
        refine (hA.mono fun q l _ => RowAt.mn _ _ _ _ (wo_mono (xc.trans ed))).snoc ?_
        show wo pR Hd pr = _
        rw [wo_ne hpRpr]
        exact ed _ _ hc
      · rcases List.mem_append.mp hr with h | h
        · exact hL r h
        · rw [List.mem_singleton.mp h]; exact ⟨hyl, hyd⟩
  · obtain ⟨kv, sv, rv, jv, L, rfl, xo, hA, hl, hL⟩ := pv
    have hl63 : L.length ≤ 63 := by
      rw [hl]
      split <;> omega
    exact s_ret (ev_var rfl) fun H5 e5 => q pR H5 L hpR (xo.trans e5) (Lst2.mn RowAt.mn _ _ _ _ e5 (hA.two RowAt.mn)) hL hl63
end

--@SPLIT
/-! ### values that are hashed -/
inductive WV : V → Prop where
  | non : WV .non
  | bl (b : Bool) : WV (.bl b)
  | int (i : Int) (h : -1000000000000000 ≤ i ∧ i ≤ 1000000000000000) : WV (.int i)
  | str (l : List Nat) (h : l.length ≤ 20) (hc : ∀ c ∈ l, c ∈ signsL) : WV (.str (SX.S l))
theorem DV.wv {x : V} (h : DV x) : WV x := by
  cases h with
  | non => exact .non
  | bl b => exact .bl b
  | int i hi => exact .int i hi
  | str l hl hc => exact .str l (by omega) hc
theorem WV.pl {x : V} (h : WV x) : Pl x := by cases h <;> constructor
section
variable {K : PySem.W.Frag} {σ : L2.St} {H : Hp} {p : Addr} {ta tb te tn : TE} {P : V → Prop} {D : Ends} {tz tu : TS}
theorem ev_ixU {xs : List V} {i : Int} {v : V} (ha : EvU ta σ H xs) (hb : Ev tb σ H (.int i)) (hi : atI xs i = some v) : Ev (tOp (rIxT K) ta tb) σ H v := fun H1 e Q q =>
  ha H1 e _ fun p H2 hp e2 h2 => hb H2 (e.trans e2) _ fun H3 e3 => rv_ixT (st_of (e3 _ _ h2)) hi H3 (Ex.refl H3) Q fun H4 e4 => q H4 ((e2.trans e3).trans e4)
theorem ev_ord {i c : Nat} (h : σ[i]? = some (some (.str ⟨#[c]⟩))) : Ev (tCB (fun xs H Q => ∃ z : Str, xs = [.str z] ∧ z.length = 1 ∧ Q (.int ((z.cps.getD 0 0 : Nat) : Int)) H) (tCons (tVar i) tNil)) σ H (.int (c : Int)) := fun H1 _ _ q => ⟨_, h, ⟨#[c]⟩, rfl, rfl, q H1 (Ex.refl H1)⟩
end

/-! ### hashes: the program's -/
def tHash (l : List Nat) : Nat := l.foldl (fun n c => (n * 31 + c) % 1000003) 7
def vHash : V → Nat
  | .bl b => if b = true then 2 else 1
  | .int i => 3 + (i % 1000003).toNat
  | .str s => 1000006 + tHash (TL.tl s)
  | _ => 0
def lHash (vs : List V) : Nat := vs.foldl (fun n v => (n * 131 + vHash v) % 1000003) 17
theorem tHash_lt (l : List Nat) : tHash l < 1000003 := by
  have : ∀ (l : List Nat) (n : Nat), n < 1000003 → l.foldl (fun n c => (n * 31 + c) % 1000003) n < 1000003 := by
    intro l
    induction l with
    | nil => intro n h; exact h
    | cons c r ih => intro n _; exact ih _ (Nat.mod_lt _ (by decide))
  exact this l 7 (by decide)
theorem lHash_lt (vs : List V) : lHash vs < 1000003 := by
  have : ∀ (l : List V) (n : Nat), n < 1000003 → l.foldl (fun n v => (n * 131 + vHash v) % 1000003) n < 1000003 := by
    intro l
    induction l with
    | nil => intro n h; exact h
    | cons c r ih => intro n _; exact ih _ (Nat.mod_lt _ (by decide))
  exact this vs 17 (by decide)
theorem tHash_step {l : List Nat} {i c : Nat} (h : l[i]? = some c) : (((tHash (l.take i) : Nat) : Int) * 31 + (c : Int)) % 1000003 = ((tHash (l.take (i + 1)) : Nat) : Int) := by
  unfold tHash
  rw [foldl_take h, Int.natCast_emod, Int.natCast_add, Int.natCast_mul]
  rfl
theorem lHash_step {l : List V} {i : Nat} {v : V} (h : l[i]? = some v) : (((lHash (l.take i) : Nat) : Int) * 131 + (vHash v : Int)) % 1000003 = ((lHash (l.take (i + 1)) : Nat) : Int) := by
  unfold lHash
  rw [foldl_take h, Int.natCast_emod, Int.natCast_add, Int.natCast_mul]
  rfl
theorem vHash_int (i : Int) : 3 + i % 1000003 = ((vHash (.int i) : Nat) : Int) := by
  show _ = ((3 + (i % 1000003).toNat : Nat) : Int)
  rw [Int.natCast_add, Int.toNat_of_nonneg (Int.emod_nonneg _ (by decide))]
  rfl
def sp__text_hash (K : PySem.W.Frag) : Sp := fun vs H Q _ => ∃ l : List Nat, vs = [.str (SX.S l)] ∧ l.length ≤ 1000 ∧ ∀ H', Ex H H' → Q (.int ((1000006 + tHash l : Nat) : Int)) H'
def sp__value_hash (K : PySem.W.Frag) : Sp := fun vs H Q _ => ∃ v : V, vs = [v] ∧ WV v ∧ ∀ H', Ex H H' → Q (.int (vHash v : Int)) H'
def sp_hash_of (K : PySem.W.Frag) : Sp := fun vs H Q _ => ∃ (p : Addr) (xs : List V), vs = [.ref p] ∧ SqL K H p xs ∧ (∀ x ∈ xs, WV x) ∧ xs.length ≤ 1000 ∧ ∀ H', Ex H H' → Q (.int (lHash xs : Int)) H'
def divL : List Int := [64, 8, 1]
def sp_part_of (K : PySem.W.Frag) : Sp := fun vs H Q _ => ∃ (n d : Int) (t : Nat), vs = [.int n, .int (t : Int)] ∧ divL[t]? = some d ∧ ∀ H', Ex H H' → Q (.int (n / d % 8)) H'
section
variable {P : Program} {w : World} {K : PySem.W.Frag} {mg : Str → Option Value} {base : Heap}
section
variable {σ : L2.St} {H : Hp} {ta tb : TE} {E : XK}
theorem ec_pisx {x : V} (hx : Pl x) (ha : Ev ta σ H x) : Ev (tCall (sp_is_integer K) [] E (tCons ta tNil)) σ H (.bl (isInt x)) := ev_call (ea_cons ha ea_nil) fun H1 e Q q E => ⟨x, rfl, hx, q⟩
theorem ec_thash {l : List Nat} (hl : l.length ≤ 1000) (ha : Ev ta σ H (.str (SX.S l))) : Ev (tCall (sp__text_hash K) [] E (tCons ta tNil)) σ H (.int ((1000006 + tHash l : Nat) : Int)) := ev_call (ea_cons ha ea_nil) fun H1 e Q q E => ⟨l, rfl, hl, q⟩
theorem ec_vhash {v : V} (hv : WV v) (ha : Ev ta σ H v) : Ev (tCall (sp__value_hash K) [] E (tCons ta tNil)) σ H (.int (vHash v : Int)) := ev_call (ea_cons ha ea_nil) fun H1 e Q q E => ⟨v, rfl, hv, q⟩
theorem ec_hash {p : Addr} {xs : List V} (ha : Ev ta σ H (.ref p)) (hp : H p = some (.lst xs)) (hx : ∀ x ∈ xs, WV x) (hl : xs.length ≤ 1000) : Ev (tCall (sp_hash_of K) [] E (tCons ta tNil)) σ H (.int (lHash xs : Int)) := ev_call (ea_cons ha ea_nil) fun H1 e Q q E => ⟨p, xs, rfl, sq_of (e _ _ hp), hx, hl, q⟩
theorem ec_hashN {xs : List V} (ha : EvL ta σ H xs) (hx : ∀ x ∈ xs, WV x) (hl : xs.length ≤ 1000) : Ev (tCall (sp_hash_of K) [] E (tCons ta tNil)) σ H (.int (lHash xs : Int)) := fun H1 e Q q =>
  ha H1 e _ fun p H2 hp e2 h2 => ⟨p, xs, rfl, sq_of h2, hx, hl, fun H3 e3 => q H3 (e2.trans e3)⟩
theorem ec_part {n d : Int} {t : Nat} (hd : divL[t]? = some d) (ha : Ev ta σ H (.int n)) (hb : Ev tb σ H (.int (t : Int))) : Ev (tCall (sp_part_of K) [] E (tCons ta (tCons tb tNil))) σ H (.int (n / d % 8)) := ev_call (ea_cons ha (ea_cons hb ea_nil)) fun H1 e Q q E => ⟨n, d, t, rfl, hd, q⟩
end
theorem ok__text_hash (D : Dn K mg "_text_hash" s__text_hash ["text"]) (z_ord : mg "ord" = none) (g__ABOVE_INTEGERS : ∃ u, mg "_ABOVE_INTEGERS" = some u ∧ RelV (.int (1000006)) u) (g__FACTOR_OF_TEXTS : ∃ u, mg "_FACTOR_OF_TEXTS" = some u ∧ RelV (.int (31)) u) (g__FIRST_OF_TEXTS : ∃ u, mg "_FIRST_OF_TEXTS" = some u ∧ RelV (.int (7)) u) (g__PRIME : ∃ u, mg "_PRIME" = some u ∧ RelV (.int (1000003)) u) :
    C8.Cal P w K mg base 1 "_text_hash" (sp__text_hash K) [] := by
  refine cal_of D sc__text_hash (fun vs H Q E h => ?_) (fun f cdv A outer s H vs Q E hr h => ?_)
  · obtain ⟨_, rfl, _⟩ := h
    rfl
  refine ⟨_, (pss_cons (ps_set (i := 1) sc__text_hash.nd rfl (.inl rfl) (C8.pe_gc rfl g__FIRST_OF_TEXTS))
    (pss_cons (ps_for PassesOwn.never rfl (pi_str (pv 0)) (pg_name (i := 2) sc__text_hash.nd rfl (.inl rfl))
      (pss_one (ps_set (i := 1) sc__text_hash.nd rfl (.inl rfl) (pe_op op_mod (pe_op op_add (pe_op op_mul (pv 1) (C8.pe_gc rfl g__FACTOR_OF_TEXTS)) (pe_callB call_ord (by rfl) z_ord (by decide +kernel) (pa_cons (pv 2) pa_nil))) (C8.pe_gc rfl g__PRIME)))))
    (pss_one (ps_ret (pe_op op_add (C8.pe_gc rfl g__ABOVE_INTEGERS) (pv 1)))))), ?_⟩
  obtain ⟨l, rfl, hl, q⟩ := h
  refine q_asg (v := .int ((7 : Nat) : Int)) ev_c fun H1 e1 => ?_
  refine q_forX (w := l) (ev_var rfl) (fun i σ H' => ∃ y2, σ = [some (.str (SX.S l)), some (.int ((tHash (l.take i) : Nat) : Int)), y2] ∧ Ex H H') (fun H2 e2 => ⟨none, rfl, e1.trans e2⟩) (fun i c σ' H' hc pv => ?_) fun σ' H' pv => ?_
  · obtain ⟨y2, rfl, e⟩ := pv
    exact s_asg (ev_is (ev_op (ev_op (ev_op (ev_var rfl) ev_c (rv_I (.inr ⟨by decide, by decide⟩))) (ev_ord rfl) rv_I0) ev_c (rv_I (by decide))) (congrArg V.int (tHash_step hc))) fun H3 e3 => ⟨_, rfl, e.trans e3⟩
  · obtain ⟨y2, rfl, e⟩ := pv
    rw [List.take_length]
    exact s_ret (ev_is (ev_op ev_c (ev_var rfl) rv_I0) (by rw [Int.natCast_add]; rfl)) fun H3 e3 => q _ (e.trans e3)
theorem ok__value_hash (D : Dn K mg "_value_hash" s__value_hash ["value"]) (c__text_hash : C8.Cal P w K mg base 1 "_text_hash" (sp__text_hash K) []) (c_is_integer : C8.Cal P w K mg base 1 "is_integer" (sp_is_integer K) []) (z_isinstance : mg "isinstance" = none) (z_str : mg "str" = none) (g__ABOVE_BOOLEANS : ∃ u, mg "_ABOVE_BOOLEANS" = some u ∧ RelV (.int (3)) u) (g__PRIME : ∃ u, mg "_PRIME" = some u ∧ RelV (.int (1000003)) u) :
    C8.Cal P w K mg base 2 "_value_hash" (sp__value_hash K) [] := by
  refine cal_of D sc__value_hash (fun vs H Q E h => ?_) (fun f cdv A outer s H vs Q E hr h => ?_)
  · obtain ⟨_, rfl, _⟩ := h
    rfl
  refine ⟨_, (pss_cons (ps_if (pt_cmpR op_isN (pv 0) pe_non (nomark _))
      (pss_one (ps_ret pe_int))
      pss_nil)
    (pss_cons (ps_if (pt_val (C8.pe_c c_is_integer hr (by decide) (by rfl) (pa_cons (pv 0) pa_nil)))
      (pss_one (ps_ret (pe_op op_add (C8.pe_gc rfl g__ABOVE_BOOLEANS) (pe_op op_mod (pv 0) (C8.pe_gc rfl g__PRIME)))))
      pss_nil)
    (pss_cons (ps_if (pt_val (pe_callB call_isi (by rfl) z_isinstance (by decide +kernel) (pa_cons (pv 0) (pa_cons (pe_bltn (v := .ty "str") (u := .type "str") rfl z_str (by decide +kernel) rfl) pa_nil))))
      (pss_one (ps_ret (C8.pe_c c__text_hash hr (by decide) (by rfl) (pa_cons (pv 0) pa_nil))))
      pss_nil)
    (pss_one (ps_ret (pe_ifExp (pt_val (pv 0)) pe_int pe_int)))))), ?_⟩
  obtain ⟨v, rfl, hv, q⟩ := h
  cases hv with
  | non => exact q_when (b := true) (et_test (ev_op (ev_var rfl) ev_c rv_isN)) (fun _ H1 e1 => s_ret ev_c fun H2 e2 => q H2 (e1.trans e2)) fun hb => nomatch hb
  | bl b =>
    refine q_when (b := false) (et_test (ev_op (ev_var rfl) ev_c rv_isN)) (fun hb => nomatch hb) fun _ H1 e1 => ?_
    refine q_when (b := false) (et_B (ec_pisx (.bl b) (ev_var rfl))) (fun hb => nomatch hb) fun _ H2 e2 => ?_
    refine q_when (b := false) (et_B (ev_isiP (ev_var rfl) (.bl b) (by show kitB "bool" "str" = some false; decide +kernel))) (fun hb => nomatch hb) fun _ H3 e3 => ?_
    refine s_ret (ev_if (v := .int (vHash (.bl b) : Int)) (et_B (ev_var rfl)) (fun hb => ev_is ev_c ?_) fun hb => ev_is ev_c ?_) fun H4 e4 => q H4 (((e1.trans e2).trans e3).trans e4)
    · rw [hb]; rfl
    · rw [hb]; rfl
  | int i hi =>
    refine q_when (b := false) (et_test (ev_op (ev_var rfl) ev_c rv_isN)) (fun hb => nomatch hb) fun _ H1 e1 => ?_
    refine q_when (b := true) (et_B (ec_pisx (.int i) (ev_var rfl))) (fun _ H2 e2 => ?_) fun hb => nomatch hb
    exact s_ret (ev_is (ev_op ev_c (ev_op (ev_var rfl) ev_c (rv_I (by decide))) rv_I0) (congrArg V.int (vHash_int i))) fun H3 e3 => q H3 ((e1.trans e2).trans e3)
  | str l hl hc =>
    refine q_when (b := false) (et_test (ev_op (ev_var rfl) ev_c rv_isN)) (fun hb => nomatch hb) fun _ H1 e1 => ?_
    refine q_when (b := false) (et_B (ec_pisx (.str _) (ev_var rfl))) (fun hb => nomatch hb) fun _ H2 e2 => ?_
    refine q_when (b := true) (et_B (ev_isiP (ev_var rfl) (.str _) (by show kitB "str" "str" = some true; decide +kernel))) (fun _ H3 e3 => ?_) fun hb => nomatch hb
    exact s_ret (ec_thash (by omega) (ev_var rfl)) fun H4 e4 => q H4 (((e1.trans e2).trans e3).trans e4)
theorem ok_hash_of (D : Dn K mg "hash_of" s_hash_of ["values"]) (c__value_hash : C8.Cal P w K mg base 2 "_value_hash" (sp__value_hash K) []) (g__FACTOR : ∃ u, mg "_FACTOR" = some u ∧ RelV (.int (131)) u) (g__FIRST : ∃ u, mg "_FIRST" = some u ∧ RelV (.int (17)) u) (g__PRIME : ∃ u, mg "_PRIME" = some u ∧ RelV (.int (1000003)) u) :
    C8.Cal P w K mg base 3 "hash_of" (sp_hash_of K) [] := by
  refine cal_of D sc_hash_of (fun vs H Q E h => ?_) (fun f cdv A outer s H vs Q E hr h => ?_)
  · obtain ⟨_, _, rfl, _⟩ := h
    rfl
  refine ⟨_, (pss_cons (ps_set (i := 1) sc_hash_of.nd rfl (.inl rfl) (C8.pe_gc rfl g__FIRST))
    (pss_cons (ps_for PassesOwn.never rfl (pi_list (pv 0)) (pg_name (i := 2) sc_hash_of.nd rfl (.inl rfl))
      (pss_one (ps_set (i := 1) sc_hash_of.nd rfl (.inl rfl) (pe_op op_mod (pe_op op_add (pe_op op_mul (pv 1) (C8.pe_gc rfl g__FACTOR)) (C8.pe_c c__value_hash hr (by decide) (by rfl) (pa_cons (pv 2) pa_nil))) (C8.pe_gc rfl g__PRIME)))))
    (pss_one (ps_ret (pv 1))))), ?_⟩
  obtain ⟨p, xs, rfl, hp, hx, hl, q⟩ := h
  refine q_asg (v := .int ((17 : Nat) : Int)) ev_c fun H1 e1 => ?_
  refine q_forLn (ev_var rfl) (ex_l e1 hp) (fun i σ H' => ∃ y2, σ = [some (.ref p), some (.int ((lHash (xs.take i) : Nat) : Int)), y2] ∧ Ex H H') (fun H2 e2 => ⟨none, rfl, e1.trans e2⟩) (fun i σ' H' _ pv => ?_) (fun i x σ' H' hi pv => ?_) fun σ' H' pv => ?_
  · obtain ⟨y2, rfl, e⟩ := pv
    exact ex_l e hp
  · obtain ⟨y2, rfl, e⟩ := pv
    exact s_asg (ev_is (ev_op (ev_op (ev_op (ev_var rfl) ev_c (rv_I (.inr ⟨by decide, by decide⟩))) (ec_vhash (hx x (List.mem_of_getElem? hi)) (ev_var rfl)) rv_I0) ev_c (rv_I (by decide))) (congrArg V.int (lHash_step hi))) fun H3 e3 => ⟨_, rfl, e.trans e3⟩
  · obtain ⟨y2, rfl, e⟩ := pv
    rw [List.take_length]
    exact s_ret (ev_var rfl) fun H3 e3 => q _ (e.trans e3)
theorem ok_part_of (D : Dn K mg "part_of" s_part_of ["number", "time"]) (g_PARTS : ∃ u, mg "PARTS" = some u ∧ RelV (.int (8)) u) {p__DIVISORS : Addr} (g__DIVISORS : ∃ u, mg "_DIVISORS" = some u ∧ RelV (.ref p__DIVISORS) u) (h__DIVISORS : ∀ H : Hp, SqT K H p__DIVISORS ([.int 64, .int 8, .int 1])) :
    C8.Cal P w K mg base 1 "part_of" (sp_part_of K) [] := by
  refine cal_of D sc_part_of (fun vs H Q E h => ?_) (fun f cdv A outer s H vs Q E hr h => ?_)
  · obtain ⟨_, _, _, rfl, _⟩ := h
    rfl
  refine ⟨_, (pss_one (ps_ret (pe_op op_mod (pe_op op_fdiv (pv 0) (pe_ix ix_tup (C8.pe_gc rfl g__DIVISORS) (pv 1) (fun _ _ => rfl))) (C8.pe_gc rfl g_PARTS)))), ?_⟩
  obtain ⟨n, d, t, rfl, hd, q⟩ := h
  have ht : t = 0 ∨ t = 1 ∨ t = 2 := by
    have := (List.getElem?_eq_some_iff.mp hd).1
    have : divL.length = 3 := rfl
    omega
  rcases ht with h | h | h <;> subst h <;> cases hd <;> exact s_ret (ev_op (ev_op (ev_var rfl) (ev_op ev_c (ev_var rfl) (rv_ixT (h__DIVISORS _) (atI_nat rfl))) (rv_I ⟨by decide, by decide⟩)) ev_c (rv_I (by decide))) fun H1 e1 => q H1 e1
end

--@SPLIT
/-! ### rows and their keys -/
theorem map_getD {α β : Type} {s : List α} {d : α} {F : α → β} : (List.range s.length).map (fun i => F (s.getD i d)) = s.map F := by
  apply List.ext_getElem?
  intro i
  rw [List.getElem?_map, List.getElem?_map]
  by_cases h : i < s.length
  · rw [List.getElem?_range h, List.getElem?_eq_getElem h]
    show some (F (s.getD i d)) = some (F s[i])
    rw [List.getD_eq_getElem?_getD, List.getElem?_eq_getElem h]
    rfl
  · rw [List.getElem?_eq_none (by rw [List.length_range]; omega), List.getElem?_eq_none (by omega)]
    rfl
theorem al2_at {α : Type} {R : Hp → Addr → α → Prop} {H : Hp} {qs : List Addr} {L : List α} (h : Al2 R H qs L) {i : Nat} {x : V} (hi : (qs.map V.ref)[i]? = some x) : ∃ q l, x = .ref q ∧ qs[i]? = some q ∧ L[i]? = some l ∧ R H q l := by
  rw [List.getElem?_map] at hi
  obtain ⟨q, hq, rfl⟩ := Option.map_eq_some_iff.mp hi
  have hlt : i < L.length := by rw [← h.1]; exact (List.getElem?_eq_some_iff.mp hq).1
  exact ⟨q, L[i], rfl, hq, List.getElem?_eq_getElem hlt, h.2 i q _ hq (List.getElem?_eq_getElem hlt)⟩
def ExprsAt (K : PySem.W.Frag) (H : Hp) (t : Addr) (es : List Cnd) : Prop := ∃ vs : List V, SqT K H t vs ∧ vs.length = es.length ∧ ∀ (i : Nat) v e, vs[i]? = some v → es[i]? = some e → CxAt K H v e 8
theorem ExprsAt.mn {K : PySem.W.Frag} : Mn (ExprsAt K) := fun H H' q l e h => by
  obtain ⟨vs, h1, h2, h3⟩ := h
  exact ⟨vs, ex_t e h1, h2, fun i v x a b => (h3 i v x a b).ex e⟩
def OkXs (es : List Cnd) : Prop := es.length ≤ 1000 ∧ ∀ e ∈ es, ∃ w, e.ok w
def sp_evaluate_all (K : PySem.W.Frag) : Sp := fun vs H Q _ => ∃ (t a : Addr) (es : List Cnd) (xs : List V), vs = [.ref t, .ref a] ∧ ExprsAt K H t es ∧ OkXs es ∧ SqL K H a xs ∧ OkRow xs ∧ ∀ p H', H p = none → Ex H H' → H' p = some (.lst (es.map (evE xs))) → Q (.ref p) H'
section
variable {P : Program} {w : World} {K : PySem.W.Frag} {mg : Str → Option Value} {base : Heap}
theorem ok_evaluate_all (D : Dn K mg "evaluate_all" s_evaluate_all ["expressions", "row"]) (c_evaluate : C8.Cal P w K mg base 15 "evaluate" (sp_evaluate K) []) :
    C8.Cal P w K mg base 16 "evaluate_all" (sp_evaluate_all K) [] := by
  refine cal_of D sc_evaluate_all (fun vs H Q E h => ?_) (fun f cdv A outer s H vs Q E hr h => ?_)
  · obtain ⟨_, _, _, _, rfl, _⟩ := h
    rfl
  refine ⟨_, (pss_one (ps_ret (pe_lc (own := [("expression", 2)]) (g := gName 2) (tt := tYes) rfl sc_evaluate_all.nd (pi_tup (pv 0)) (blkOk_by (N := n_evaluate_all) (sc := C8.fnScope s_evaluate_all) (by decide +kernel)) (fun _ _ _ _ _ => pg_name (i := 2) sc_evaluate_all.nd rfl (Or.inl rfl)) (fun _ _ _ _ _ => pts_nil) (fun _ _ _ _ _ => (C8.pe_c c_evaluate hr (by decide) (by rfl) (pa_cons (pv 2) (pa_cons (pv 1) pa_nil))))))), ?_⟩
  obtain ⟨t, a, es, xs, rfl, ⟨vs, hT, hlen, hvs⟩, hes, hS, hx, q⟩ := h
  have hz := hes.1
  refine s_retL (el_lcT (fun i => evE xs (es.getD i (.col 0))) (ev_var rfl) hT (by omega) (fun _ => rfl) fun i x H1 e1 hi => ?_) fun p H1 hp e1 h1 => q p H1 hp e1 (by
    rw [hlen] at h1
    have := map_getD (s := es) (d := .col 0) (F := evE xs)
    rw [this] at h1
    exact h1)
  have hie : i < es.length := by rw [← hlen]; exact (List.getElem?_eq_some_iff.mp hi).1
  have hg := List.getElem?_eq_getElem hie
  rw [getD_is hg]
  exact ec_eval (ev_var rfl) (ev_var rfl) ((hvs i x _ hi hg).ex e1) (ex_l e1 hS) hx.1 hx.2
def sp_sort_written (K : PySem.W.Frag) : Sp := fun vs H Q _ => ∃ (a : Addr) (xs : List V) (m : Int), vs = [.ref a, .int m] ∧ SqL K H a xs ∧ ∀ H', Ex H H' → Q (.int (if (xs.length : Int) > m then (xs.length : Int) else 0)) H'
theorem ok_sort_written (D : Dn K mg "sort_written" s_sort_written ["rows", "memory"]) (z_len : mg "len" = none) :
    C8.Cal P w K mg base 1 "sort_written" (sp_sort_written K) [] := by
  refine cal_of D sc_sort_written (fun vs H Q E h => ?_) (fun f cdv A outer s H vs Q E hr h => ?_)
  · obtain ⟨_, _, _, rfl, _⟩ := h
    rfl
  refine ⟨_, (pss_one (ps_ret (pe_ifExp (pt_cmpR op_gt (pe_callB call_len_seq (by rfl) z_len PySem.boot_len (pa_cons (pv 0) pa_nil)) (pv 1) (nomark _)) (pe_callB call_len_seq (by rfl) z_len PySem.boot_len (pa_cons (pv 0) pa_nil)) pe_int))), ?_⟩
  obtain ⟨a, xs, m, rfl, hS, q⟩ := h
  refine s_ret (ev_if (b := decide ((xs.length : Int) > m)) (et_test (ev_op (ev_len (ev_var rfl) hS) (ev_var rfl) rv_I0)) (fun hb => ev_is (ev_len (ev_var rfl) hS) (by rw [if_pos (of_decide_eq_true hb)])) fun hb => ev_is ev_c (by rw [if_neg (of_decide_eq_false hb)])) fun H1 e1 => q H1 e1
def PairAt (H : Hp) (t : Addr) (x : List V) : Prop := ∃ a b, H t = some (.tup [.ref a, .ref b]) ∧ RowAt H a x
theorem PairAt.mn : Mn PairAt := fun H H' q l e h => by
  obtain ⟨a, b, h1, h2⟩ := h
  exact ⟨a, b, e _ _ h1, e _ _ h2⟩
def sp__with_keys (K : PySem.W.Frag) : Sp := fun vs H Q _ => ∃ (t a : Addr) (es : List Cnd) (L : List (List V)), vs = [.ref t, .ref a] ∧ ExprsAt K H t es ∧ OkXs es ∧ Lst2 RowAt H a L ∧ OkRows L ∧ ∀ p H', H p = none → Ex H H' → Lst2 PairAt H' p (L.map fun r => es.map (evE r)) → Q (.ref p) H'
theorem ok__with_keys (D : Dn K mg "_with_keys" s__with_keys ["keys", "rows"]) (c_evaluate_all : C8.Cal P w K mg base 16 "evaluate_all" (sp_evaluate_all K) []) :
    C8.Cal P w K mg base 17 "_with_keys" (sp__with_keys K) [] := by
  refine cal_of D sc__with_keys (fun vs H Q E h => ?_) (fun f cdv A outer s H vs Q E hr h => ?_)
  · obtain ⟨_, _, _, _, rfl, _⟩ := h
    rfl
  refine ⟨_, (pss_one (ps_ret (pe_lc (own := [("row", 2)]) (g := gName 2) (tt := tYes) rfl sc__with_keys.nd (pi_list (pv 1)) (blkOk_by (N := n__with_keys) (sc := C8.fnScope s__with_keys) (by decide +kernel)) (fun _ _ _ _ _ => pg_name (i := 2) sc__with_keys.nd rfl (Or.inl rfl)) (fun _ _ _ _ _ => pts_nil) (fun _ _ _ _ _ => (pe_tup (pa_cons (C8.pe_c c_evaluate_all hr (by decide) (by rfl) (pa_cons (pv 0) (pa_cons (pv 2) pa_nil))) (pa_cons (pv 2) pa_nil))))))), ?_⟩
  obtain ⟨t, a, es, L, rfl, hE, hes, ⟨qs, hqs, hA⟩, hL, q⟩ := h
  have hz := hL.1
  have hlen : (qs.map V.ref).length = L.length := by rw [List.length_map, hA.1]
  refine s_retR (R := fun H p => Lst2 PairAt H p ((List.range (qs.map V.ref).length).map fun i => es.map (evE (L.getD i [])))) (er_lcN PairAt.mn (fun i => es.map (evE (L.getD i []))) (ev_var rfl) (sq_of hqs) (by omega) (fun _ => rfl) fun i x H1 e1 hi => ?_) fun r H1 hr e1 h1 => q r H1 hr e1 (by
    rw [hlen] at h1
    have := map_getD (s := L) (d := []) (F := fun r => es.map (evE r))
    rw [this] at h1
    exact Lst2.mn PairAt.mn _ _ _ _ nu_le h1)
  obtain ⟨p, r, rfl, hp, hr, hrow⟩ := al2_at hA hi
  rw [getD_is hr]
  intro H2 e2 Q k
  have x2 := e1.trans e2
  have hok := hL.2 r (List.mem_of_getElem? hr)
  exact ⟨.ref t, rfl, .ref p, rfl, t, p, es, r, rfl, ExprsAt.mn _ _ _ _ x2 hE, hes, sq_of (x2 _ _ hrow), hok, fun l H3 hl e3 h3 => ⟨.ref p, rfl, sz_of (by show 2 ≤ 100000; decide), fun tp htp => k tp _ (fresh_back e3 htp) (e3.trans (Ex.new htp)) ⟨l, p, nu_at (fresh_back e3 htp) upd_same, nu_at hl (Ex.new htp _ _ h3)⟩⟩⟩
def sp__with_themselves (K : PySem.W.Frag) : Sp := fun vs H Q _ => ∃ (a : Addr) (L : List (List V)), vs = [.ref a] ∧ Lst2 RowAt H a L ∧ OkRows L ∧ ∀ p H', H p = none → Ex H H' → Lst2 PairAt H' p L → Q (.ref p) H'
theorem ok__with_themselves (D : Dn K mg "_with_themselves" s__with_themselves ["rows"]) :
    C8.Cal P w K mg base 1 "_with_themselves" (sp__with_themselves K) [] := by
  refine cal_of D sc__with_themselves (fun vs H Q E h => ?_) (fun f cdv A outer s H vs Q E hr h => ?_)
  · obtain ⟨_, _, rfl, _⟩ := h
    rfl
  refine ⟨_, (pss_one (ps_ret (pe_lc (own := [("row", 1)]) (g := gName 1) (tt := tYes) rfl sc__with_themselves.nd (pi_list (pv 0)) (blkOk_by (N := n__with_themselves) (sc := C8.fnScope s__with_themselves) (by decide +kernel)) (fun _ _ _ _ _ => pg_name (i := 1) sc__with_themselves.nd rfl (Or.inl rfl)) (fun _ _ _ _ _ => pts_nil) (fun _ _ _ _ _ => (pe_tup (pa_cons (pv 1) (pa_cons (pv 1) pa_nil))))))), ?_⟩
  obtain ⟨a, L, rfl, ⟨qs, hqs, hA⟩, hL, q⟩ := h
  have hz := hL.1
  have hlen : (qs.map V.ref).length = L.length := by rw [List.length_map, hA.1]
  refine s_retO (er_lcD PairAt.mn (fun i => L.getD i []) (ev_var rfl) (sq_of hqs) (by omega) (fun _ => rfl) fun i x H1 D e1 hD hD1 hi Q k => ?_) fun r H1 hr e1 h1 => q r H1 hr e1 (by
    rw [hlen] at h1
    have := map_getD (s := L) (d := []) (F := fun r => r)
    rw [List.map_id'] at this
    rw [this] at h1
    exact h1.two PairAt.mn)
  obtain ⟨ys, hy⟩ := hD1
  obtain ⟨p, r, rfl, hp, hr, hrow⟩ := al2_at hA hi
  have k' : ∀ p2 H2, H1 p2 = none → Ex H1 H2 → PairAt (wo D H2) p2 r → Q (.ref p2) H2 := fun p2 H2 u v c => k p2 H2 u v (by show PairAt (wo D H2) p2 (L.getD i []); rw [getD_is hr]; exact c)
  refine ⟨.ref p, rfl, .ref p, rfl, sz_of (by show 2 ≤ 100000; decide), fun tp htp => k' tp _ htp (Ex.new htp) ?_⟩
  have htD : tp ≠ D := fun z => by rw [z, hy] at htp; cases htp
  exact ⟨p, p, by rw [wo_ne htD]; exact upd_same, wx_to hD (e1.trans (Ex.new htp)) _ _ hrow⟩
end

--@SPLIT
/-! ### ranks as keys; rows at addresses; rows told once -/
def payN : V → NK
  | .non => .num 0
  | .bl b => .num (if b then 1 else 0)
  | .int i => .num i
  | .str s => .text s
  | _ => .none
def rkN (x : V) : NK := .tup [.num (kr x), payN x]
def rowN (xs : List V) : NK := .tup (xs.map rkN)
theorem nk_rk {H : Hp} {x : V} {p : Addr} (h : Ok x) (hp : H p = some (.tup (rkL x))) : NKey H (rkN x) (.ref p) := by
  refine .tup hp (.cons (.num _) (.cons ?_ .nil))
  cases h with
  | non => exact .num 0
  | bl b => exact .num _
  | int i => exact .num i
  | str s _ => exact .text s
theorem datas_map : ∀ ks : List NK, NestedKey.datas ks = ks.map NestedKey.data
  | [] => rfl
  | k :: r => by rw [NestedKey.datas, datas_map r]; rfl
theorem rk_data {x : V} (h : Ok x) : (rkN x).data = rkD x := by cases h <;> rfl
theorem row_data {xs : List V} (h : ∀ x ∈ xs, Ok x) : (rowN xs).data = .tuple (xs.map rkD) := by
  unfold rowN
  rw [NestedKey.data, datas_map, List.map_map]
  congr 1
  exact List.map_congr_left fun x hx => rk_data (h x hx)
mutual
theorem eqv_data : ∀ a b : NK, PyData.eqv a.data b.data = NestedKey.beq a b
  | .none, .none => rfl
  | .num a, .num b => by
    show (a == b) = decide (a = b)
    rw [Bool.eq_iff_iff, beq_iff_eq, decide_eq_true_eq]
  | .text a, .text b => by
    show (a == b) = decide (a = b)
    rw [Bool.eq_iff_iff, beq_iff_eq, decide_eq_true_eq]
  | .tup a, .tup b => eqvs_data a b
  | .none, .num _ | .none, .text _ | .none, .tup _ => rfl
  | .num _, .none | .num _, .text _ | .num _, .tup _ => rfl
  | .text _, .none | .text _, .num _ | .text _, .tup _ => rfl
  | .tup _, .none | .tup _, .num _ | .tup _, .text _ => rfl
theorem eqvs_data : ∀ a b : List NK, PyData.eqvAll (NestedKey.datas a) (NestedKey.datas b) = NestedKey.beqAll a b
  | [], [] => rfl
  | x :: xs, y :: ys => by
    show (PyData.eqv x.data y.data && PyData.eqvAll (NestedKey.datas xs) (NestedKey.datas ys)) = _
    rw [eqv_data x y, eqvs_data xs ys]
    rfl
  | [], _ :: _ => rfl
  | _ :: _, [] => rfl
end
theorem eqv_key (a b : NK) : PyData.eqv a.data b.data = decide (a = b) := by rw [eqv_data, NestedKey.decide_eq]
theorem dep_rkN (x : V) : (rkN x).depth ≤ 1 := by cases x <;> exact Nat.le_refl 1
theorem deps_rkN : ∀ xs : List V, NestedKey.depthAll (xs.map rkN) ≤ 1
  | [] => Nat.zero_le _
  | x :: r => by
    show max (rkN x).depth (NestedKey.depthAll (r.map rkN)) ≤ 1
    have := dep_rkN x
    have := deps_rkN r
    omega
theorem dep_row (xs : List V) : (rowN xs).depth ≤ 8 := by
  show NestedKey.depthAll (xs.map rkN) + 1 ≤ 8
  have := deps_rkN xs
  omega
section
variable {K : PySem.W.Frag}
mutual
theorem dp_key {H : Hp} : ∀ {k : NK} {v : V}, NKey H k v → Dp K H v k.data
  | _, _, .non => .non
  | _, _, .num i => .int i
  | _, _, .text x => .str x
  | _, _, .tup h hs => .tup (st_of h) (dp_keys hs)
theorem dp_keys {H : Hp} : ∀ {ks : List NK} {vs : List V}, NKeys H ks vs → DpAll K H vs (NestedKey.datas ks)
  | _, _, .nil => .nil
  | _, _, .cons h hs => .cons (dp_key h) (dp_keys hs)
end
theorem nks_len {H : Hp} : ∀ {ks : List NK} {vs : List V}, NKeys H ks vs → vs.length = ks.length
  | _, _, .nil => rfl
  | _, _, .cons _ t => congrArg (· + 1) (nks_len t)
theorem nks_snoc {H : Hp} : ∀ {ks : List NK} {vs : List V} {k : NK} {v : V}, NKeys H ks vs → NKey H k v → NKeys H (ks ++ [k]) (vs ++ [v])
  | _, _, _, _, .nil, h => .cons h .nil
  | _, _, _, _, .cons a t, h => .cons a (nks_snoc t h)
theorem keep_tup {H : Hp} {p : Addr} {o u : HO} (hp : H p = some u) (hu : ∀ xs, u ≠ .tup xs) : ∀ b xs, H b = some (.tup xs) → upd H p o b = some (.tup xs) := fun b xs q => by
  rw [upd_ne fun z => ?_]
  · exact q
  · rw [z, hp] at q
    exact hu _ (Option.some.inj q)
theorem keep_lst {H : Hp} {p : Addr} {o : HO} {ys : List V} (hp : H p = some (.lst ys)) : ∀ b xs, H b = some (.tup xs) → upd H p o b = some (.tup xs) := keep_tup hp fun xs z => nomatch z
theorem keep_new {H : Hp} {p : Addr} {o : HO} (hp : H p = none) : ∀ b xs, H b = some (.tup xs) → upd H p o b = some (.tup xs) := fun b xs q => by
  rw [upd_ne (ne_of_none q hp)]
  exact q
/-- a new tuple that is the key k -/
def EvK (te : TE) (σ : L2.St) (H : Hp) (k : NK) : Prop := ∀ H1, Ex H H1 → ∀ Q : VK, (∀ p H2, H1 p = none → Ex H1 H2 → NKey H2 k (.ref p) → Q (.ref p) H2) → te σ H1 Q
def EvLK (te : TE) (σ : L2.St) (H : Hp) (ks : List NK) : Prop := ∀ H1, Ex H H1 → ∀ Q : VK, (∀ p H2 ys, H1 p = none → Ex H1 H2 → H2 p = some (.lst ys) → NKeys H2 ks ys → Q (.ref p) H2) → te σ H1 Q
variable {σ : L2.St} {H H' : Hp} {ta tb te tl : TE} {x y z v : V} {k : NK} {ks : List NK} {D : Ends} {tz : TS}
theorem ek_rk (h : EvU ta σ H (rkL x)) (hx : Ok x) : EvK ta σ H (rkN x) := fun H1 e Q q => h H1 e _ fun p H2 hp e2 h2 => q p H2 hp e2 (nk_rk hx h2)
theorem ed_key (h : EvK ta σ H k) : EvD K ta σ H k.data := fun H1 e Q q => h H1 e _ fun p H2 _ e2 h2 => q _ H2 e2 (dp_key h2)
theorem q_asgK {i : Nat} (h : EvK te σ H k) (q : ∀ p H1, H p = none → Ex H H1 → NKey H1 k (.ref p) → tz D (σ.set i (some (.ref p))) H1) : tSeq (tAsg te (gName i)) tz D σ H := h H (Ex.refl H) _ fun p H1 hp e h1 => q p H1 hp e h1
theorem s_retK (h : EvK te σ H k) (q : ∀ p H1, H p = none → Ex H H1 → NKey H1 k (.ref p) → D.rt (.ref p) H1) : tRet te D σ H := h H (Ex.refl H) _ fun p H1 hp e h1 => q p H1 hp e h1
theorem ek_tuple (h : EvLK tl σ H ks) : EvK (tCB (fun xs H Q => ∃ p ys, xs = [.ref p] ∧ ((SqL K H p ys ∧ ∀ l, H l = none → Q (.ref l) (upd H l (.tup ys))) ∨ (SqT K H p ys ∧ Q (.ref p) H))) (tCons tl tNil)) σ H (.tup ks) := fun H1 e Q q =>
  h H1 e _ fun p H2 ys _ e2 h2 hd => ⟨p, ys, rfl, .inl ⟨sq_of h2, fun l hl => q l _ (fresh_back e2 hl) (e2.trans (Ex.new hl)) (.tup upd_same (NKeys.mono (keep_new hl) hd))⟩⟩
theorem lk_lcL {a : Addr} {xs : List V} {j : Nat} {vs : List Nat} (f : V → NK) (h : Ev tl σ H (.ref a)) (hx : SqL K H a xs) (hz : xs.length ≤ 40000) (hw : ∀ x, wipe ((wipe σ vs).set j (some x)) vs = wipe σ vs)
    (he : ∀ (x : V) H1, Ex H H1 → x ∈ xs → EvK te ((wipe σ vs).set j (some x)) H1 (f x)) :
    EvLK (tLc (iList K tl) (gName j) tYes te vs) σ H (xs.map f) := fun H0 e0 Q q => h H0 e0 _ fun H1 e1 => ⟨a, rfl, ⟨xs, ex_l (e0.trans e1) hx⟩, fun D hD =>
  lc_list (xs := xs) (fun i H' => H1 D = none ∧ Ex H1 H' ∧ ∃ ys, H' D = some (.lst ys) ∧ NKeys H' ((xs.take i).map f) ys) ⟨hD, Ex.new hD, [], upd_same, .nil⟩ (fun i H' _ p => ex_l ((e0.trans e1).trans p.2.1) hx)
    (fun i x H' hi p => by
      obtain ⟨p1, p2, ys, p3, p4⟩ := p
      refine ⟨hw x, ?_⟩
      show te ((wipe σ vs).set j (some x)) H' fun y H4 => ∃ acc, H4 D = some (.lst acc) ∧ acc.length < sizeLine ∧ _
      refine he x H' ((e0.trans e1).trans p2) (List.mem_of_getElem? hi) H' (Ex.refl H') _ fun y H4 _ e4 hy => ⟨ys, e4 _ _ p3, sz_lt ?_, p1, Ex.mut (p2.trans e4) p1, ys ++ [.ref y], upd_same, ?_⟩
      · have := nks_len p4
        rw [List.length_map, List.length_take] at this
        have := (List.getElem?_eq_some_iff.mp hi).1
        omega
      · rw [List.take_add_one, hi, List.map_append]
        exact nks_snoc (NKeys.mono (keep_lst (e4 _ _ p3)) (NKeys.mono (fun b xs q => e4 b _ q) p4)) (NKey.mono (keep_lst (e4 _ _ p3)) hy))
    (fun H' p => by
      obtain ⟨p1, p2, ys, p3, p4⟩ := p
      rw [List.take_length] at p4
      exact q D H' ys (fresh_back e1 p1) (e1.trans p2) p3 p4)⟩
end
/-! rows -/
inductive RowsAt (H : Hp) : List V → List (List V) → Prop where
  | nil : RowsAt H [] []
  | cons {p : Addr} {xs : List V} {rs : List V} {xss : List (List V)} (h : H p = some (.lst xs)) (t : RowsAt H rs xss) : RowsAt H (.ref p :: rs) (xs :: xss)
theorem RowsAt.len {H : Hp} : ∀ {rs : List V} {xss : List (List V)}, RowsAt H rs xss → rs.length = xss.length
  | _, _, .nil => rfl
  | _, _, .cons _ t => congrArg (· + 1) (RowsAt.len t)
theorem RowsAt.ex {H H' : Hp} (e : Ex H H') : ∀ {rs : List V} {xss : List (List V)}, RowsAt H rs xss → RowsAt H' rs xss
  | _, _, .nil => .nil
  | _, _, .cons h t => .cons (e _ _ h) (RowsAt.ex e t)
theorem RowsAt.upd {H : Hp} {p : Addr} {o : HO} : ∀ {rs : List V} {xss : List (List V)}, RowsAt H rs xss → (∀ r ∈ rs, r ≠ .ref p) → RowsAt (upd H p o) rs xss
  | _, _, .nil, _ => .nil
  | _, _, .cons h t, n => .cons (by rw [upd_ne fun z => n _ List.mem_cons_self (by rw [z])]; exact h) (RowsAt.upd t fun r hr => n r (List.mem_cons_of_mem _ hr))
theorem RowsAt.get {H : Hp} : ∀ {rs : List V} {xss : List (List V)} {i : Nat} {x : V}, RowsAt H rs xss → rs[i]? = some x → ∃ p xs, x = .ref p ∧ H p = some (.lst xs) ∧ xss[i]? = some xs
  | _, _, _, _, .nil, h => by simp at h
  | _, _, 0, _, .cons h t, e => by
    cases e
    exact ⟨_, _, rfl, h, rfl⟩
  | _, _, i + 1, _, .cons h t, e => by
    obtain ⟨p, xs, h1, h2, h3⟩ := RowsAt.get (i := i) t (by simpa using e)
    exact ⟨p, xs, h1, h2, by simpa using h3⟩
theorem RowsAt.snoc {H : Hp} {p : Addr} {xs : List V} : ∀ {rs : List V} {xss : List (List V)}, RowsAt H rs xss → H p = some (.lst xs) → RowsAt H (rs ++ [.ref p]) (xss ++ [xs])
  | _, _, .nil, h => .cons h .nil
  | _, _, .cons a t, h => .cons a (RowsAt.snoc t h)
def Fresh (H : Hp) (rs : List V) : Prop := ∀ r ∈ rs, ∃ p, r = .ref p ∧ H p = none
def OkRw (xs : List V) : Prop := xs.length ≤ 1000 ∧ ∀ x ∈ xs, Ok x
def hasR (acc : List (List V)) (xs : List V) : Bool := acc.any fun ys => decide (rowN ys = rowN xs)
def addR (acc : List (List V)) (xs : List V) : List (List V) := if hasR acc xs = true then acc else acc ++ [xs]
def diffR (xss : List (List V)) : List (List V) := xss.foldl addR []
theorem addR_len (acc : List (List V)) (xs : List V) : (addR acc xs).length ≤ acc.length + 1 := by
  unfold addR
  split
  · omega
  · rw [List.length_append]; exact Nat.le_refl _
theorem fold_addR_len : ∀ (xss acc : List (List V)), (xss.foldl addR acc).length ≤ acc.length + xss.length
  | [], _ => Nat.le_refl _
  | xs :: r, acc => by
    have h1 := fold_addR_len r (addR acc xs)
    have h2 := addR_len acc xs
    rw [List.foldl_cons, List.length_cons]
    omega
theorem diffR_len (xss : List (List V)) : (diffR xss).length ≤ xss.length := by
  have := fold_addR_len xss []
  rw [List.length_nil, Nat.zero_add] at this
  exact this
theorem fold_addR_mem : ∀ (xss acc : List (List V)) (xs : List V), xs ∈ xss.foldl addR acc → xs ∈ acc ∨ xs ∈ xss
  | [], _, _, h => .inl h
  | y :: r, acc, xs, h => by
    rcases fold_addR_mem r (addR acc y) xs h with z | z
    · unfold addR at z
      split at z
      · exact .inl z
      · rcases List.mem_append.mp z with q | q
        · exact .inl q
        · exact .inr (by rw [List.mem_singleton.mp q]; exact List.mem_cons_self)
    · exact .inr (List.mem_cons_of_mem _ z)
theorem diffR_mem {xss : List (List V)} {xs : List V} (h : xs ∈ diffR xss) : xs ∈ xss := by
  rcases fold_addR_mem xss [] xs h with z | z
  · cases z
  · exact z
def seenK (acc : List (List V)) : List (NK × V) := acc.map fun ys => (rowN ys, .bl true)
theorem seen_val (xs : List V) : ∀ acc : List (List V), (valV (seenK acc) (rowN xs)).isSome = hasR acc xs
  | [] => rfl
  | y :: r => by
    have ih := seen_val xs r
    unfold seenK hasR at *
    rw [List.map_cons, List.any_cons]
    by_cases e : rowN y = rowN xs
    · rw [valV_pos (p := (rowN y, V.bl true)) e, decide_eq_true e]
      rfl
    · rw [valV_neg (p := (rowN y, V.bl true)) e, decide_eq_false e, Bool.false_or]
      exact ih
theorem seen_put {acc : List (List V)} {xs : List V} (h : hasR acc xs = false) : putK (seenK acc) (rowN xs) (.bl true) = seenK (acc ++ [xs]) := by
  have : valV (seenK acc) (rowN xs) = none := by
    cases e : valV (seenK acc) (rowN xs) with
    | none => rfl
    | some v =>
      have := seen_val xs acc
      rw [e, h] at this
      cases this
  rw [putK_new _ this]
  unfold seenK
  rw [List.map_append]
  rfl
def sp_row_rank (K : PySem.W.Frag) : Sp := fun vs H Q _ => ∃ (a : Addr) (xs : List V), vs = [.ref a] ∧ SqL K H a xs ∧ OkRw xs ∧ ∀ p H', H p = none → Ex H H' → NKey H' (rowN xs) (.ref p) → Q (.ref p) H'
def sp_different_rows (K : PySem.W.Frag) : Sp := fun vs H Q _ => ∃ (a : Addr) (rs : List V) (xss : List (List V)), vs = [.ref a] ∧ SqL K H a rs ∧ RowsAt H rs xss ∧ (∀ xs ∈ xss, OkRw xs) ∧ xss.length ≤ 1000 ∧
  ∀ p rs' H', H p = none → Ex H H' → H' p = some (.lst rs') → RowsAt H' rs' (diffR xss) → Fresh H rs' → (∀ r ∈ rs', r ≠ .ref p) → Q (.ref p) H'
section
variable {P : Program} {w : World} {K : PySem.W.Frag} {mg : Str → Option Value} {base : Heap}
section
variable {σ : L2.St} {H : Hp} {ta tb tc : TE} {E : XK} {x y : V}
theorem ek_row {a : Addr} {xs : List V} (ha : Ev ta σ H (.ref a)) (hS : SqL K H a xs) (hx : OkRw xs) : EvK (tCall (sp_row_rank K) [] E (tCons ta tNil)) σ H (rowN xs) := fun H1 e Q q =>
  ha H1 e _ fun H2 e2 => ⟨a, xs, rfl, ex_l (e.trans e2) hS, hx, fun p H3 hp e3 h3 => q p H3 (fresh_back e2 hp) (e2.trans e3) h3⟩
end
theorem ok_row_rank (D : Dn K mg "row_rank" s_row_rank ["row"]) (c_rank : C8.Cal P w K mg base 2 "rank" (sp_rank K) []) (z_tuple : mg "tuple" = none) :
    C8.Cal P w K mg base 3 "row_rank" (sp_row_rank K) [] := by
  refine cal_of D sc_row_rank (fun vs H Q E h => ?_) (fun f cdv A outer s H vs Q E hr h => ?_)
  · obtain ⟨_, _, rfl, _⟩ := h
    rfl
  refine ⟨_, (pss_one (ps_ret (pe_callTy call_tuple_of (by rfl) z_tuple (by decide +kernel) (pa_cons (pe_lc (own := [("value", 1)]) (g := gName 1) (tt := tYes) rfl sc_row_rank.nd (pi_list (pv 0)) (blkOk_by (N := n_row_rank) (sc := C8.fnScope s_row_rank) (by decide +kernel)) (fun _ _ _ _ _ => pg_name (i := 1) sc_row_rank.nd rfl (Or.inl rfl)) (fun _ _ _ _ _ => pts_nil) (fun _ _ _ _ _ => (C8.pe_c c_rank hr (by decide) (by rfl) (pa_cons (pv 1) pa_nil)))) pa_nil)))), ?_⟩
  obtain ⟨a, xs, rfl, hS, hx, q⟩ := h
  exact s_retK (ek_tuple (lk_lcL rkN (ev_var rfl) hS (by have := hx.1; omega) (fun _ => rfl) fun x H1 e1 hm => ek_rk (ec_rank (ev_var rfl) (hx.2 x hm)) (hx.2 x hm))) q
end

/-! ### what is held -/
/-- len of a dict keyed by tuples -/
theorem call_lenN {X : L2.Cx} : CallR X (.builtin "len") (fun xs H Q => ∃ d kvs, xs = [.ref d] ∧ NDict X.prog X.w H d kvs ∧ kvs.length ≤ 100000 ∧ Q (.int (kvs.length : Nat)) H) := by
  intro pins s σ H vs us Q I r h
  obtain ⟨d, kvs, rfl, nd, hz, q⟩ := h
  obtain ⟨u, rfl, ru⟩ := vals1 r
  cases ru
  obtain ⟨hd, xs, _, _, kv, _, dd⟩ := NDict.of I.hok nd
  obtain ⟨es, ep, hr, hs, _⟩ := dd.raw
  have hl : es.size = kvs.length := by
    have h1 := kv.length
    rw [PySem.pairsH_length] at h1
    omega
  refine Calls.call_function_entry kind_len plain_len entry_len (args_len1 _) ?_
  unfold Builtin.«len»
  refine wpAny_bind (m := oneArg "len" _) (wpAny_pure ?_)
  refine wpAny_bind (m := callSpecial? (.ref d) (Str.ofString "__len__")) (wpAny_callSpecial?_slot (name := Str.ofString "__len__") hr.typeIs F.slot_dict_len (PySem.call_len_raw hd hr ?_))
  show wpAny _ _ _ _ _ { s with toks := s.toks + 1 }
  refine wpAny_bind (wpAny_holding (wpAny_pure ?_))
  refine wpAny_bind (wpAny_letGo ?_)
  show wpAny _ _ (if ((es.size : Nat) : Int) < 0 then _ else _) _ _ _
  rw [if_neg (by omega)]
  show wpAny _ _ (if ((es.size : Nat) : Int) ≥ 2 ^ 63 then _ else _) _ _ _
  rw [if_neg (by omega)]
  exact wpAny_bind (wpAny_mkInt (wpAny_pure ⟨_, rfl, .int (kvs.length : Nat), H, I.tok _, ⟨_, by rw [hl]⟩, q⟩))
def divL2 : List Nat := [64, 8, 1]
abbrev Hst := List (List V) × List (List V) × List (List V)
/-- which rows are held (representatives, all of them), and the rest -/
def hstep (mem : Nat) (all : Bool) (s : Hst) (x : List V) : Hst := if hasR s.1 x || (decide (s.1.length < mem) || all) then (addR s.1 x, s.2.1 ++ [x], s.2.2) else (s.1, s.2.1, s.2.2 ++ [x])
def holdL (mem : Nat) (all : Bool) (L : List (List V)) : Hst := L.foldl (hstep mem all) ([], [], [])
def partI (h : List V → Nat) (t : Nat) (x : List V) : Nat := h x / divL2.getD t 1 % 8
def partsL (h : List V → Nat) (t : Nat) (L : List (List V)) : List (List (List V)) := (List.range 8).map fun i => L.filter fun x => decide (partI h t x = i)
theorem hold_len (mem : Nat) (all : Bool) (L : List (List V)) (i : Nat) : (holdL mem all (L.take i)).1.length ≤ i ∧ (holdL mem all (L.take i)).2.1.length ≤ i ∧ (holdL mem all (L.take i)).2.2.length ≤ i := by
  have h : ∀ (L : List (List V)) (s : Hst), (L.foldl (hstep mem all) s).1.length ≤ s.1.length + L.length ∧ (L.foldl (hstep mem all) s).2.1.length ≤ s.2.1.length + L.length ∧ (L.foldl (hstep mem all) s).2.2.length ≤ s.2.2.length + L.length := by
    intro L
    induction L with
    | nil => intro s; exact ⟨Nat.le_refl _, Nat.le_refl _, Nat.le_refl _⟩
    | cons x r ih =>
      intro s
      obtain ⟨h1, h2, h3⟩ := ih (hstep mem all s x)
      have : (hstep mem all s x).1.length ≤ s.1.length + 1 ∧ (hstep mem all s x).2.1.length ≤ s.2.1.length + 1 ∧ (hstep mem all s x).2.2.length ≤ s.2.2.length + 1 := by
        unfold hstep
        split
        · exact ⟨addR_len _ _, by simp, by simp⟩
        · exact ⟨Nat.le_succ _, Nat.le_succ _, by simp⟩
      simp only [List.foldl_cons, List.length_cons]
      omega
  have := h (L.take i) ([], [], [])
  rw [List.length_take] at this
  unfold holdL
  simp only [List.length_nil] at this
  omega
theorem seen_put2 {acc : List (List V)} {xs : List V} : putK (seenK acc) (rowN xs) (.bl true) = seenK (addR acc xs) := by
  unfold addR
  cases h : hasR acc xs with
  | false => exact seen_put h
  | true =>
    rw [if_pos rfl]
    have hv : (valV (seenK acc) (rowN xs)).isSome = true := by rw [seen_val]; exact h
    unfold putK
    rw [valV_any, hv, if_pos rfl]
    unfold seenK
    rw [List.map_map]
    refine List.map_congr_left fun ys _ => ?_
    show (if rowN ys = rowN xs then (rowN ys, V.bl true) else (rowN ys, V.bl true)) = (rowN ys, V.bl true)
    split <;> rfl
/-- the tuple at t: a list that stood in G, and another -/
def PG (G : Hp) (H : Hp) (t : Addr) (x : List V) : Prop := ∃ a b, H t = some (.tup [.ref a, .ref b]) ∧ RowAt G a x
theorem PG.mn {G : Hp} : Mn (PG G) := fun H H' q l e h => by
  obtain ⟨a, b, h1, h2⟩ := h
  exact ⟨a, b, e _ _ h1, h2⟩
theorem PG.upd {G H : Hp} {l : Addr} {o u : HO} (hl : H l = some o) (ho : ∀ xs, o ≠ .tup xs) : ∀ q x, PG G H q x → PG G (upd H l u) q x := fun q x h => by
  obtain ⟨a, b, h1, h2⟩ := h
  refine ⟨a, b, ?_, h2⟩
  rw [upd_ne fun z => by rw [z, hl] at h1; cases h1; exact ho _ rfl]
  exact h1
def spH (h : List V → Nat) : Sp := fun vs H Q _ => ∃ (p : Addr) (xs : List V), vs = [.ref p] ∧ H p = some (.lst xs) ∧ (∀ x ∈ xs, WV x) ∧ xs.length ≤ 1000 ∧ ∀ H', Ex H H' → Q (.int (h xs : Nat)) H'
def OkW (L : List (List V)) : Prop := L.length ≤ 100 ∧ ∀ x ∈ L, (∀ v ∈ x, WV v) ∧ x.length ≤ 1000 ∧ OkRw x
def sp__held_and_parts (P : Program) (w : World) (K : PySem.W.Frag) (mg : Str → Option Value) (base : Heap) : Sp := fun vs H Q _ => ∃ (a f : Addr) (t mem : Nat) (L : List (List V)) (h : List V → Nat) (G : Hp), vs = [.ref a, .int (t : Int), .int (mem : Int), .ref f] ∧ t ≤ 3 ∧ Ex G H ∧ Lst2 (PG G) H a L ∧ OkW L ∧ L2.Held P w K mg base 3 f (spH h) ∧
  ∀ p k ps ks qs H', H p = none → Ex H H' → H' p = some (.tup [.ref k, .ref ps]) → H k = none → H ps = none → H' k = some (.lst (ks.map V.ref)) → Al2 (PG G) H' ks (holdL mem (decide (t = 3)) L).2.1 → H' ps = some (.lst (qs.map V.ref)) → (∀ q ∈ qs, H q = none) → Al2 (Lst2 (PG G)) H' qs (partsL h t (holdL mem (decide (t = 3)) L).2.2) → Q (.ref p) H'
section
variable {K : PySem.W.Frag} {σ : L2.St} {H : Hp} {tn : TE} {D : Ends} {tz : TS}
/-- [[] for _ in range(n)] -/
theorem q_empties {te : TE} (hte : ∀ σ H, EvL te σ H []) {i j : Nat} {vs : List Nat} {n : Nat} (hn : Ev tn σ H (.int (n : Int))) (hm : n ≤ 10000) (hw : ∀ x, wipe ((wipe σ vs).set j (some x)) vs = wipe σ vs)
    (k : ∀ l H1 (qs : List Addr), H l = none → Ex H H1 → H1 l = some (.lst (qs.map V.ref)) → qs.length = n → qs.Nodup → (∀ q ∈ qs, H1 q = some (.lst []) ∧ q ≠ l ∧ H q = none) → tz D (σ.set i (some (.ref l))) H1) :
    tSeq (tAsg (tLc (iRng1 (tCons tn tNil)) (gName j) tYes te vs) (gName i)) tz D σ H := hn H (Ex.refl H) _ fun H1 e1 => by
  refine ⟨(n : Int), rfl, by omega, by omega, fun Dl hD => ?_⟩
  refine lc_range (lo := 0) (n := ((n : Int)).toNat) (fun i H' => Ex H1 H' ∧ ∃ qs : List Addr, H' Dl = some (.lst (qs.map V.ref)) ∧ qs.length = i ∧ qs.Nodup ∧ ∀ q ∈ qs, H' q = some (.lst []) ∧ q ≠ Dl ∧ H1 q = none) ⟨Ex.new hD, [], upd_same, rfl, List.nodup_nil, fun q h => nomatch h⟩ (fun i H' hi pv => ?_) (fun H' pv => ?_)
  · obtain ⟨p1, qs, p2, p3, p4, p5⟩ := pv
    refine ⟨hw _, ?_⟩
    show te ((wipe σ vs).set j (some (.int ((0 : Int) + (i : Int))))) H' fun y H4 => ∃ acc, H4 Dl = some (.lst acc) ∧ acc.length < sizeLine ∧ _
    refine hte _ H' H' (Ex.refl H') _ fun r H4 hr e4 h4 => ⟨_, e4 _ _ p2, sz_lt (by rw [List.length_map]; omega), Ex.mut (p1.trans e4) hD, qs ++ [r], by rw [upd_same, List.map_append]; rfl, by rw [List.length_append, p3]; rfl, ?_, fun q hq => ?_⟩
    · refine List.nodup_append.mpr ⟨p4, List.nodup_cons.mpr ⟨(fun h => nomatch h), List.nodup_nil⟩, fun x hx y hy z => ?_⟩
      rw [List.mem_singleton.mp hy] at z
      subst z
      rw [(p5 x hx).1] at hr
      cases hr
    · have hrD : r ≠ Dl := fun z => by rw [z, p2] at hr; cases hr
      rcases List.mem_append.mp hq with h | h
      · obtain ⟨a, b, c⟩ := p5 q h
        exact ⟨by rw [upd_ne b]; exact e4 _ _ a, b, c⟩
      · rw [List.mem_singleton.mp h]
        exact ⟨by rw [upd_ne hrD]; exact h4, hrD, fresh_back p1 hr⟩
  · obtain ⟨p1, qs, p2, p3, p4, p5⟩ := pv
    exact k Dl H' qs (fresh_back e1 hD) (e1.trans p1) p2 (by rw [p3]; exact Int.toNat_natCast n) p4 fun q hq => ⟨(p5 q hq).1, (p5 q hq).2.1, fresh_back e1 (p5 q hq).2.2⟩
end
section
variable {P : Program} {w : World} {K : PySem.W.Frag} {mg : Str → Option Value} {base : Heap}
def HpW (P : Program) (w : World) (H G : Hp) (a f' : Addr) (t mem : Nat) (L : List (List V)) (h' : List V → Nat) (d pk pp : Addr) (qs : List Addr) (i : Nat) (σ' : L2.St) (H' : Hp) : Prop := ∃ (v1 v2 v3 v4 : Option V) (ks : List Addr), σ' = [some (.ref a), some (.int (t : Int)), some (.int (mem : Int)), some (.ref f'), some (.ref d), some (.ref pk), some (.ref pp), v1, v2, v3, none] ∧ Ex H H' ∧ NDict P w H' d (seenK (holdL mem (decide (t = 3)) (L.take i)).1) ∧ H' pk = some (.lst (ks.map V.ref)) ∧ Al2 (PG G) H' ks (holdL mem (decide (t = 3)) (L.take i)).2.1 ∧ H' pp = some (.lst (qs.map V.ref)) ∧ ∀ (j : Nat) q, qs[j]? = some q → ∃ ts : List Addr, H' q = some (.lst (ts.map V.ref)) ∧ Al2 (PG G) H' ts ((holdL mem (decide (t = 3)) (L.take i)).2.2.filter fun x => decide (partI h' t x = j))
theorem q_forLG {σ : L2.St} {H : Hp} {D : Ends} {tz tu : TS} {tl : TE} {g : TG} {a : Addr} {xs : List V} (h : Ev tl σ H (.ref a)) (hx : SqL K H a xs) (Pv : Nat → L2.St → Hp → Prop) (h0 : ∀ H1, Ex H H1 → Pv 0 σ H1) (hl : ∀ i σ' H', i ≤ xs.length → Pv i σ' H' → SqL K H' a xs)
    (hs : ∀ i x σ' H', xs[i]? = some x → Pv i σ' H' → g x σ' H' fun σ2 H2 => tu { D with nx := Pv (i + 1), ct := Pv (i + 1), bk := tz D } σ2 H2) (hd : ∀ σ' H', Pv xs.length σ' H' → tz D σ' H') : tSeq (tFor (iList K tl) g tu) tz D σ H :=
  h H (Ex.refl H) _ fun H1 e => ⟨a, rfl, ⟨xs, ex_l e hx⟩, for_list (D := { D with nx := tz D }) Pv (h0 H1 e) hl hs hd⟩
theorem s_atU {σ : L2.St} {H : Hp} {D : Ends} {ta te : TE} {l : Addr} {xs ys : List V} (ha : Ev ta σ H (.ref l)) (hl : H l = some (.lst xs)) (h : EvU te σ H ys) (hz : xs.length < 100000) (k : ∀ p H1, H p = none → Ex H H1 → H1 p = some (.tup ys) → D.nx σ (upd H1 l (.lst (xs ++ [.ref p])))) : tDrop (tBM K "list" rAppend ta (tCons te tNil)) D σ H := s_appU hl ha h hz k
theorem ok__held_and_parts (D : Dn K mg "_held_and_parts" s__held_and_parts ["pairs", "time", "memory", "hashed"]) (c_part_of : C8.Cal P w K mg base 1 "part_of" (sp_part_of K) []) (c_row_rank : C8.Cal P w K mg base 3 "row_rank" (sp_row_rank K) []) (z_len : mg "len" = none) (z_range : mg "range" = none) (g_PARTS : ∃ u, mg "PARTS" = some u ∧ RelV (.int (8)) u) (g_TIMES : ∃ u, mg "TIMES" = some u ∧ RelV (.int (3)) u) :
    C8.Cal P w K mg base 4 "_held_and_parts" (sp__held_and_parts P w K mg base) [] := by
  refine cal_of D sc__held_and_parts (fun vs H Q E h => ?_) (fun f cdv A outer s H vs Q E hr h => ?_)
  · obtain ⟨_, _, _, _, _, _, _, rfl, _⟩ := h
    rfl
  refine ⟨_, (pss_cons (ps_set (i := 4) sc__held_and_parts.nd rfl (.inl rfl) pe_dnewN)
    (pss_cons (ps_set (i := 5) sc__held_and_parts.nd rfl (.inl rfl) (pe_lst pa_nil))
    (pss_cons (ps_setLc (i := 6) (own := [("_", 10)]) (g := gName 10) (tt := tYes) rfl sc__held_and_parts.nd rfl rfl (sw_true rfl rfl rfl (by decide +kernel)) (pi_range1 rfl z_range (pa_cons (C8.pe_gc rfl g_PARTS) pa_nil)) (blkOk_by (N := n__held_and_parts) (sc := C8.fnScope s__held_and_parts) (by decide +kernel)) (fun _ _ _ _ _ => pg_name (i := 10) sc__held_and_parts.nd rfl (Or.inl rfl)) (fun _ _ _ _ _ => pts_nil) (fun _ _ _ _ _ => (pe_lst pa_nil)))
    (pss_cons (ps_for PassesOwn.never rfl (pi_list (pv 0)) (pg_tup rfl (pgs_cons (pg_name (i := 7) sc__held_and_parts.nd rfl (.inl rfl)) (pgs_cons (pg_name (i := 8) sc__held_and_parts.nd rfl (.inl rfl)) pgs_nil)))
      (pss_cons (ps_set (i := 9) sc__held_and_parts.nd rfl (.inl rfl) (C8.pe_c c_row_rank hr (by decide) (by rfl) (pa_cons (pv 7) pa_nil)))
    (pss_one (ps_if (PW.pt (pw_or (pt_cmpR (op_nin (hu64 hr)) (pv 9) (pv 4) (by with_unfolding_all rfl)) (pw_or (pt_cmpR op_lt (pe_callB call_lenN (by rfl) z_len PySem.boot_len (pa_cons (pv 4) pa_nil)) (pv 2) (nomark _)) (pw_or1 (pt_cmpR op_eq (pv 1) (C8.pe_gc rfl g_TIMES) (nomark _))))))
      (pss_cons (ps_nput (hu64 hr) (pv 4) (pv 9) pe_bl rfl)
    (pss_one (ps_expr (pe_bm PySem.F.plainAttrs_list PySem.F.slot_list_append PySem.F.type_list_append mt_append (pv 5) (pa_cons (pe_tup (pa_cons (pv 7) (pa_cons (pv 8) pa_nil))) pa_nil)))))
      (pss_one (ps_expr (pe_bm PySem.F.plainAttrs_list PySem.F.slot_list_append PySem.F.type_list_append mt_append (pe_ix ix_list (pv 6) (C8.pe_c c_part_of hr (by decide) (by rfl) (pa_cons (pe_callH (i := 3) hr rfl (Or.inl rfl) (pa_cons (pv 7) pa_nil)) (pa_cons (pv 1) pa_nil))) (fun _ _ => rfl)) (pa_cons (pe_tup (pa_cons (pv 7) (pa_cons (pv 8) pa_nil))) pa_nil))))))))
    (pss_one (ps_ret (pe_tup (pa_cons (pv 5) (pa_cons (pv 6) pa_nil))))))))), ?_⟩
  obtain ⟨a, f', t, mem, L, h', G, rfl, ht, eG, ⟨ts0, hts0, hA⟩, hok, hH, q⟩ := h
  refine q_dnewN (P := P) (w := w) fun d H1 hd e1 nd => ?_
  refine q_asgL (el_lst ea_nil (by decide)) fun pk H2 hpk e2 h2 => ?_
  refine q_empties (fun σ H => el_lst ea_nil (by decide)) (n := 8) ev_c (by decide) (fun _ => rfl) fun pp H3 qs hpp e3 h3 hq8 hnd hqs => ?_
  have hlen : (ts0.map V.ref).length = L.length := by rw [List.length_map, hA.1]
  have x3 := e1.trans (e2.trans e3)
  have hL100 := hok.1
  have hpkH : H pk = none := fresh_back e1 hpk
  have hppH : H pp = none := fresh_back (e1.trans e2) hpp
  have hqH : ∀ q ∈ qs, H q = none := fun q hq => fresh_back (e1.trans e2) (hqs q hq).2.2
  have hpkpp : pk ≠ pp := fun z => by rw [← z, h2] at hpp; cases hpp
  have hpkq : ∀ q ∈ qs, q ≠ pk := fun q hq z => by have := (hqs q hq).2.2; rw [z, h2] at this; cases this
  have hppq : ∀ q ∈ qs, q ≠ pp := fun q hq => (hqs q hq).2.1
  refine q_forLG (xs := ts0.map V.ref) (ev_var rfl) (sq_of (x3 _ _ hts0)) (fun i σ' H' => HpW P w H G a f' t mem L h' d pk pp qs i σ' H') (fun H4 e4 => ⟨none, none, none, none, [], rfl, x3.trans e4, ((nd.ex e2).ex e3).ex e4, (e3.trans e4) _ _ h2, Al2.nil, e4 _ _ h3, fun j q hj => ⟨[], e4 _ _ (hqs q (List.mem_of_getElem? hj)).1, Al2.nil⟩⟩) (fun i σ' H' _ pv => ?_) (fun i x σ' H' hi pv => ?_) fun σ' H' pv => ?_
  · obtain ⟨_, _, _, _, _, rfl, x, _⟩ := pv
    exact sq_of (x _ _ hts0)
  · obtain ⟨v1, v2, v3, v4, ks, rfl, x9, ndc, hk, hkA, hp, hqv⟩ := pv
    obtain ⟨tp, vals, rfl, htp, hvl, a1, b1, htup, hrow⟩ := al2_at hA hi
    obtain ⟨hwv, hvz, hokr⟩ := hok.2 vals (List.mem_of_getElem? hvl)
    have hi100 : i < 100 := by have := (List.getElem?_eq_some_iff.mp hvl).1; omega
    obtain ⟨hl1, hl2, hl3⟩ := hold_len mem (decide (t = 3)) L i
    have hstp : holdL mem (decide (t = 3)) (L.take (i + 1)) = hstep mem (decide (t = 3)) (holdL mem (decide (t = 3)) (L.take i)) vals := foldl_take hvl
    generalize holdL mem (decide (t = 3)) (L.take i) = S at hl1 hl2 hl3 hstp ndc hkA hqv
    refine gt2 (st_of (x9 _ _ htup)) ?_
    refine q_asgK (ek_row (ev_var rfl) (sq_of ((eG.trans x9) _ _ hrow)) hokr) fun kp H4 hkp e4 nk => ?_
    have x4 := x9.trans e4
    have hkl : ks.length = S.2.1.length := hkA.1
    have hsl : (seenK S.1).length = S.1.length := by unfold seenK; rw [List.length_map]
    refine s_if (b := hasR S.1 vals || (decide (S.1.length < mem) || decide (t = 3))) (et_or (et_test (ev_is (ev_nin (neg := false) (ev_var rfl) (ev_var rfl) (ndc.ex e4) nk (dep_row vals)) (by rw [← seen_val]; rfl))) fun _ => et_or (et_test (ev_is (ev_op (fun H5 e5 Q k => ⟨.ref d, rfl, d, _, rfl, (ndc.ex e4).ex e5, by rw [hsl]; omega, k H5 (Ex.refl H5)⟩) (ev_var rfl) rv_I0) (by rw [hsl]; exact congrArg V.bl (decide_eq_decide.mpr (by omega))))) fun _ => et_test (ev_is (ev_op (ev_var rfl) ev_c (rv_eq rfl)) (congrArg V.bl (decide_eq_decide.mpr ⟨fun z => by have := V.int.inj z; omega, fun z => by rw [z]; rfl⟩)))) (fun hb H5 e5 => ?_) fun hb H5 e5 => ?_
    · have hS : hstep mem (decide (t = 3)) S vals = (addR S.1 vals, S.2.1 ++ [vals], S.2.2) := if_pos hb
      rw [hS] at hstp
      have nd5 := (ndc.ex e4).ex e5
      have x5 := x4.trans e5
      have e45 := e4.trans e5
      refine q_nput (P := P) (w := w) (v := .bl true) ev_c (ev_var rfl) (ev_var rfl) nd5 (nk.ex e5) (dep_row vals) (by rw [hsl]; omega) fun H6 zs e6 nd6 => ?_
      rw [seen_put2] at nd6
      have nd60 := nd5.ex e6
      have e46 := e45.trans e6
      have ne : ∀ {q : Addr} {o : HO}, H' q = some o → (∀ φ, o ≠ .ext φ) → d ≠ q := fun hq ho => nd60.ne (e46 _ _ hq) ho
      have hdk : d ≠ pk := ne hk fun φ z => nomatch z
      have hdp : d ≠ pp := ne hp fun φ z => nomatch z
      have keep : ∀ {q : Addr} {o : HO}, H' q = some o → d ≠ q → upd H6 d (NObj P w d zs) q = some o := fun hq hn => by rw [upd_ne (Ne.symm hn)]; exact e46 _ _ hq
      have pg6 : ∀ q x, PG G H' q x → PG G (upd H6 d (NObj P w d zs)) q x := fun q x h => by
        obtain ⟨a, b, h1, h2⟩ := h
        exact ⟨a, b, keep h1 (ne h1 fun φ z => nomatch z), h2⟩
      refine s_appU (keep hk hdk) (ev_var rfl) (eu_tup (ea_cons (ev_var rfl) (ea_cons (ev_var rfl) ea_nil)) (by show 2 ≤ 100000; decide)) (by rw [List.length_map]; omega) fun tp2 H8 htp2 e8 h8 => ?_
      have hk8 := e8 _ _ (keep hk hdk)
      have htpk : tp2 ≠ pk := fun z => by rw [z, keep hk hdk] at htp2; cases htp2
      have up : ∀ q x, PG G H' q x → PG G (upd H8 pk (.lst (ks.map V.ref ++ [.ref tp2]))) q x := fun q x h => PG.upd hk8 (fun xs z => nomatch z) q x (PG.mn _ _ _ _ e8 (pg6 q x h))
      refine ⟨some (.ref a1), some (.ref b1), some (.ref kp), none, ks ++ [tp2], ?_, Ex.mut ((Ex.mut (x5.trans e6) hd).trans e8) hpkH, ?_, by rw [upd_same, List.map_append]; rfl, ?_, ?_, fun j q hj => ?_⟩
      · rfl
      · rw [hstp]
        exact (nd6.ex e8).upd hk8 (fun xs z => nomatch z) hdk
      · rw [hstp]
        exact (hkA.mono fun q x _ => up q x).snoc ⟨a1, b1, by rw [upd_ne htpk]; exact h8, hrow⟩
      · rw [upd_ne (Ne.symm hpkpp)]
        exact e8 _ _ (keep hp hdp)
      · rw [hstp]
        obtain ⟨ts, hts, htA⟩ := hqv j q hj
        exact ⟨ts, by rw [upd_ne (hpkq q (List.mem_of_getElem? hj))]; exact e8 _ _ (keep hts (ne hts fun φ z => nomatch z)), htA.mono fun q x _ => up q x⟩
    · have hS : hstep mem (decide (t = 3)) S vals = (S.1, S.2.1, S.2.2 ++ [vals]) := if_neg (by rw [hb]; decide)
      rw [hS] at hstp
      have t3 : t < 3 := by
        have h1 := hb
        rw [Bool.or_eq_false_iff, Bool.or_eq_false_iff] at h1
        have := of_decide_eq_false h1.2.2
        omega
      have hp8 : partI h' t vals < 8 := Nat.mod_lt _ (by decide)
      obtain ⟨qi, hqi⟩ : ∃ qi, qs[partI h' t vals]? = some qi := ⟨_, List.getElem?_eq_getElem (by omega)⟩
      have hqm := List.mem_of_getElem? hqi
      obtain ⟨ti, hti, htA⟩ := hqv _ qi hqi
      have x5 := x4.trans e5
      have e45 := e4.trans e5
      have hdv : divL[t]? = some ((divL2.getD t 1 : Nat) : Int) := by
        rcases (show t = 0 ∨ t = 1 ∨ t = 2 by omega) with z | z | z <;> subst z <;> rfl
      have hcl : S.2.2.length ≤ 100 := by omega
      have htl : ti.length ≤ 100 := by
        rw [htA.1]
        exact Nat.le_trans (List.length_filter_le _ _) hcl
      have ndc5 := ndc.ex e45
      refine s_atU (l := qi) (ev_op (y := .int ((partI h' t vals : Nat) : Int)) (ev_var rfl) (ev_is (ec_part hdv (n := ((h' vals : Nat) : Int)) (fun H6 e6 Q k => ⟨f', _, rfl, hH, .ref a1, rfl, a1, vals, rfl, (eG.trans (x5.trans e6)) _ _ hrow, hwv, hvz, fun H7 e7 => k H7 e7⟩) (ev_var rfl)) (by unfold partI; rw [Int.natCast_emod, Int.natCast_ediv]; rfl)) (rv_ixL (sq_of (e45 _ _ hp)) (atI_nat (by rw [List.getElem?_map, hqi]; rfl)))) (e45 _ _ hti) (eu_tup (ea_cons (ev_var rfl) (ea_cons (ev_var rfl) ea_nil)) (by show 2 ≤ 100000; decide)) (by rw [List.length_map]; omega) fun tp2 H8 htp2 e8 h8 => ?_
      have hqd : d ≠ qi := ndc.ne hti fun φ z => nomatch z
      have hq8 := (e45.trans e8) _ _ hti
      have htq : tp2 ≠ qi := fun z => by rw [z, e45 _ _ hti] at htp2; cases htp2
      have up : ∀ q x, PG G H' q x → PG G (upd H8 qi (.lst (ti.map V.ref ++ [.ref tp2]))) q x := fun q x h => PG.upd hq8 (fun xs z => nomatch z) q x (PG.mn _ _ _ _ (e45.trans e8) h)
      refine ⟨some (.ref a1), some (.ref b1), some (.ref kp), none, ks, rfl, Ex.mut (x5.trans e8) (hqH qi hqm), ?_, by rw [upd_ne (Ne.symm (hpkq qi hqm))]; exact (e45.trans e8) _ _ hk, ?_, by rw [upd_ne (Ne.symm (hppq qi hqm))]; exact (e45.trans e8) _ _ hp, fun j q hj => ?_⟩
      · rw [hstp]
        exact (ndc.ex (e45.trans e8)).upd hq8 (fun xs z => nomatch z) hqd
      · rw [hstp]
        exact hkA.mono fun q x _ => up q x
      · rw [hstp]
        show ∃ ts : List Addr, _ ∧ Al2 (PG G) _ ts ((S.2.2 ++ [vals]).filter fun x => decide (partI h' t x = j))
        rw [List.filter_append]
        by_cases hji : j = partI h' t vals
        · subst hji
          rw [hqi] at hj
          cases hj
          have h1 : [vals].filter (fun x => decide (partI h' t x = partI h' t vals)) = [vals] := by simp
          rw [h1]
          exact ⟨ti ++ [tp2], by rw [upd_same, List.map_append]; rfl, (htA.mono fun q x _ => up q x).snoc ⟨a1, b1, by rw [upd_ne htq]; exact h8, hrow⟩⟩
        · obtain ⟨ts, hts, hTA⟩ := hqv j q hj
          have h1 : [vals].filter (fun x => decide (partI h' t x = j)) = [] := by simp [Ne.symm hji]
          rw [h1, List.append_nil]
          have hqq : q ≠ qi := fun z => by
            subst z
            have := (List.getElem?_inj (List.getElem?_eq_some_iff.mp hj).1 hnd).mp (hj.trans hqi.symm)
            exact hji this
          exact ⟨ts, by rw [upd_ne hqq]; exact (e45.trans e8) _ _ hts, hTA.mono fun q x _ => up q x⟩
  · obtain ⟨v1, v2, v3, v4, ks, rfl, x9, ndc, hk, hkA, hp, hqv⟩ := pv
    rw [hlen, List.take_length] at hkA hqv
    refine (eu_tup (σ := [some (.ref a), some (.int (t : Int)), some (.int (mem : Int)), some (.ref f'), some (.ref d), some (.ref pk), some (.ref pp), v1, v2, v3, none]) (ea_cons (ev_var rfl) (ea_cons (ev_var rfl) ea_nil)) (by show 2 ≤ 100000; decide)) H' (Ex.refl H') _ fun p H2 hp2 e2' h2' => q p pk pp ks qs H2 (fresh_back x9 hp2) (x9.trans e2') h2' hpkH hppH (e2' _ _ hk) (hkA.mono fun q x _ h => PG.mn _ _ _ _ e2' h) (e2' _ _ hp) hqH ⟨by rw [hq8]; unfold partsL; rw [List.length_map, List.length_range], fun j q l hj hl => ?_⟩
    obtain ⟨ts, hts, hTA⟩ := hqv j q hj
    have hj8 : j < 8 := by rw [← hq8]; exact (List.getElem?_eq_some_iff.mp hj).1
    unfold partsL at hl
    rw [List.getElem?_map, List.getElem?_range hj8] at hl
    cases hl
    exact ⟨ts, e2' _ _ hts, hTA.mono fun q x _ h => PG.mn _ _ _ _ e2' h⟩
end

--@SPLIT
/-! ### divided -/
theorem pt_truthK {X : L2.Cx} {K : PySem.W.Frag} {a : Expr} {ta : TE} (h : X.K = K) (ha : PE X a ta) (he : ∀ whole, isTrue a X.env whole = (do let v ← whole; standAt a.pos; holding [v] (truthy v))) : PT X a (fun σ H Q => ta σ H fun x H' => ∃ k, TruV K x H' k ∧ Q k H') := h ▸ pt_truth ha he
def wr (h : List V → Nat) (mem : Nat) : Nat → List (List V) → Nat
  | 0, _ => 0
  | r + 1, L => (holdL mem false L).2.2.length + ((partsL h (2 - r) (holdL mem false L).2.2).map (wr h mem r)).sum
def sp__divided (P : Program) (w : World) (K : PySem.W.Frag) (mg : Str → Option Value) (base : Heap) : Sp := fun vs H Q _ => ∃ (a f : Addr) (mem : Nat) (L : List (List V)) (h : List V → Nat), vs = [.ref a, .int (mem : Int), .ref f] ∧ Lst2 PairAt H a L ∧ OkW L ∧ L2.Held P w K mg base 3 f (spH h) ∧
  ∀ p v H', H p = none → Ex H H' → H' p = some (.tup [v, .int (wr h mem 3 L : Nat)]) → Q (.ref p) H'
def StkD (G : Hp) (l u : Addr) (H : Hp) (q : Addr) (m : Nat × List (List V)) : Prop := ∃ p, H q = some (.tup [.ref p, .int (m.1 : Int)]) ∧ p ≠ l ∧ p ≠ u ∧ Lst2 (PG G) H p m.2
theorem StkD.mn {G : Hp} {l u : Addr} : Mn (StkD G l u) := fun H H' q m e h => by
  obtain ⟨p, h1, h2, h3, h4⟩ := h
  exact ⟨p, e _ _ h1, h2, h3, Lst2.mn PG.mn _ _ _ _ e h4⟩
theorem StkD.upd {G H : Hp} {l u d : Addr} {o v : HO} (hl : H d = some o) (ho : ∀ xs, o ≠ .tup xs) (hd : d = l ∨ d = u) : ∀ q m, StkD G l u H q m → StkD G l u (upd H d v) q m := fun q m h => by
  obtain ⟨p, h1, h2, h3, ts, h4, h5⟩ := h
  have hp : p ≠ d := by rcases hd with z | z <;> rw [z] <;> assumption
  refine ⟨p, ?_, h2, h3, ts, by rw [upd_ne hp]; exact h4, h5.mono fun q x _ g => PG.upd hl ho q x g⟩
  rw [upd_ne fun z => by rw [z, hl] at h1; cases h1; exact ho _ rfl]
  exact h1
def restM (t : Nat) (Ps : List (List (List V))) : List (Nat × List (List V)) := (Ps.filter fun L => !L.isEmpty).map fun L => (t, L)
/-! the written rows of a stack of parts, without the program -/
theorem hold_sum (mem : Nat) (all : Bool) (L : List (List V)) : (holdL mem all L).2.1.length + (holdL mem all L).2.2.length = L.length := by
  have h : ∀ (L : List (List V)) (s : Hst), (L.foldl (hstep mem all) s).2.1.length + (L.foldl (hstep mem all) s).2.2.length = s.2.1.length + s.2.2.length + L.length := by
    intro L
    induction L with
    | nil => intro s; rfl
    | cons x r ih =>
      intro s
      rw [List.foldl_cons, ih]
      unfold hstep
      split <;> simp <;> omega
  have := h L ([], [], [])
  simpa [holdL] using this
theorem hold_all (mem : Nat) (L : List (List V)) : (holdL mem true L).2.2 = [] := by
  have h : ∀ (L : List (List V)) (s : Hst), s.2.2 = [] → (L.foldl (hstep mem true) s).2.2 = [] := by
    intro L
    induction L with
    | nil => intro s z; exact z
    | cons x r ih =>
      intro s z
      rw [List.foldl_cons]
      refine ih _ ?_
      unfold hstep
      rw [Bool.or_true, Bool.or_true, if_pos rfl]
      exact z
  exact h L _ rfl
theorem hold_mem (mem : Nat) (all : Bool) (L : List (List V)) : ∀ x ∈ (holdL mem all L).2.2, x ∈ L := by
  have h : ∀ (L : List (List V)) (s : Hst), ∀ x ∈ (L.foldl (hstep mem all) s).2.2, x ∈ s.2.2 ∨ x ∈ L := by
    intro L
    induction L with
    | nil => intro s x hx; exact .inl hx
    | cons y r ih =>
      intro s x hx
      rw [List.foldl_cons] at hx
      rcases ih _ x hx with h | h
      · unfold hstep at h
        split at h
        · exact .inl h
        · rcases List.mem_append.mp h with h | h
          · exact .inl h
          · exact .inr (List.mem_cons.mpr (.inl (List.mem_singleton.mp h)))
      · exact .inr (List.mem_cons_of_mem _ h)
  intro x hx
  rcases h L _ x hx with h | h
  · exact nomatch h
  · exact h
theorem part_ok {h : List V → Nat} {t mem : Nat} {all : Bool} {L M : List (List V)} (ok : OkW L) (hM : M ∈ partsL h t (holdL mem all L).2.2) : OkW M := by
  obtain ⟨i, _, rfl⟩ := List.mem_map.mp hM
  refine ⟨Nat.le_trans (List.length_filter_le _ _) ?_, fun x hx => ok.2 x (hold_mem _ _ _ x (List.mem_filter.mp hx).1)⟩
  have := hold_sum mem all L
  have := ok.1
  omega
def wsum (h : List V → Nat) (mem : Nat) (M : List (Nat × List (List V))) : Nat := (M.map fun m => wr h mem (3 - m.1) m.2).sum
theorem wr_nil (h : List V → Nat) (mem : Nat) : ∀ r, wr h mem r [] = 0
  | 0 => rfl
  | r + 1 => by
    show ([] : List (List V)).length + ((partsL h (2 - r) []).map (wr h mem r)).sum = 0
    unfold partsL
    rw [List.map_map, List.length_nil, Nat.zero_add]
    have : (List.range 8).map (wr h mem r ∘ fun i => ([] : List (List V)).filter fun x => decide (partI h (2 - r) x = i)) = (List.range 8).map fun _ => 0 := List.map_congr_left fun i _ => wr_nil h mem r
    rw [this]
    rfl
theorem wsum_rest (h : List V → Nat) (mem t : Nat) (Ps : List (List (List V))) : wsum h mem (restM t Ps) = (Ps.map (wr h mem (3 - t))).sum := by
  unfold wsum restM
  rw [List.map_map]
  induction Ps with
  | nil => rfl
  | cons p r ih =>
    rw [List.map_cons, List.sum_cons, ← ih, List.filter_cons]
    cases p with
    | nil => rw [if_neg (by simp), wr_nil, Nat.zero_add]
    | cons y ys => rfl
theorem wsum_app (h : List V → Nat) (mem : Nat) (A B : List (Nat × List (List V))) : wsum h mem (A ++ B) = wsum h mem A + wsum h mem B := by
  unfold wsum
  rw [List.map_append, List.sum_append]
theorem wr_step (h : List V → Nat) (mem : Nat) {t : Nat} (ht : t ≤ 3) (L : List (List V)) : wr h mem (3 - t) L = (L.length - (holdL mem (decide (t = 3)) L).2.1.length) + wsum h mem (restM (t + 1) (partsL h t (holdL mem (decide (t = 3)) L).2.2).reverse) := by
  rw [wsum_rest, List.map_reverse, List.sum_reverse]
  have hs := hold_sum mem (decide (t = 3)) L
  by_cases h3 : t = 3
  · subst h3
    have ha := hold_all mem L
    rw [show (decide ((3 : Nat) = 3)) = true from rfl] at hs ⊢
    rw [ha] at hs ⊢
    rw [List.length_nil] at hs
    show 0 = _ + ((partsL h 3 []).map fun _ => 0).sum
    rw [show L.length - (holdL mem true L).2.1.length = 0 by omega]
    rfl
  · obtain ⟨r, hr⟩ : ∃ r, 3 - t = r + 1 := ⟨2 - t, by omega⟩
    rw [hr, show 3 - (t + 1) = r by omega, show t = 2 - r by omega]
    rw [decide_eq_false h3] at hs
    have hd : decide (2 - r = 3) = false := decide_eq_false (by omega)
    rw [hd]
    show (holdL mem false L).2.2.length + _ = _
    omega
/-- what the stack still has before it: it falls at each step -/
def ms (M : List (Nat × List (List V))) : Nat := (M.map fun m => 10 ^ (4 - m.1)).sum
theorem ms_app (A B : List (Nat × List (List V))) : ms (A ++ B) = ms A + ms B := by
  unfold ms
  rw [List.map_append, List.sum_append]
theorem ms_rest (t : Nat) (Ps : List (List (List V))) : ms (restM t Ps) ≤ Ps.length * 10 ^ (4 - t) := by
  unfold ms restM
  rw [List.map_map]
  induction Ps with
  | nil => exact Nat.zero_le _
  | cons p r ih =>
    rw [List.filter_cons, List.length_cons, Nat.add_mul, Nat.one_mul]
    split
    · rw [List.map_cons, List.sum_cons]
      exact Nat.le_trans (Nat.add_le_add_left ih _) (by rw [Nat.add_comm]; exact Nat.le_refl _)
    · exact Nat.le_trans ih (Nat.le_add_right _ _)
theorem rest_nil (t : Nat) (Ps : List (List (List V))) (h : ∀ p ∈ Ps, p = []) : restM t Ps = [] := by
  unfold restM
  rw [List.filter_eq_nil_iff.mpr fun p hp => by rw [h p hp]; simp]
  rfl
theorem part_none {h : List V → Nat} {t mem : Nat} {L : List (List V)} : ∀ p ∈ partsL h t (holdL mem true L).2.2, p = [] := fun p hp => by
  obtain ⟨i, _, rfl⟩ := List.mem_map.mp hp
  rw [hold_all]
  rfl
theorem ms_step (h : List V → Nat) (mem : Nat) {t : Nat} (ht : t ≤ 3) (L : List (List V)) : ms (restM (t + 1) (partsL h t (holdL mem (decide (t = 3)) L).2.2).reverse) < 10 ^ (4 - t) := by
  by_cases h3 : t = 3
  · subst h3
    rw [show (decide ((3 : Nat) = 3)) = true from rfl, rest_nil _ _ fun p hp => part_none p (List.mem_reverse.mp hp)]
    decide
  · have := ms_rest (t + 1) (partsL h t (holdL mem (decide (t = 3)) L).2.2).reverse
    rw [List.length_reverse, show (partsL h t (holdL mem (decide (t = 3)) L).2.2).length = 8 by unfold partsL; rw [List.length_map, List.length_range], show 4 - (t + 1) = 3 - t by omega] at this
    rw [show 4 - t = (3 - t) + 1 by omega, Nat.pow_succ]
    have : 0 < 10 ^ (3 - t) := Nat.pow_pos (by decide)
    omega
/-- the times and the rows of what is pushed -/
theorem rest_ok {h : List V → Nat} {t mem : Nat} (ht : t ≤ 3) {L : List (List V)} (ok : OkW L) : ∀ m ∈ restM (t + 1) (partsL h t (holdL mem (decide (t = 3)) L).2.2).reverse, m.1 ≤ 3 ∧ OkW m.2 := fun m hm => by
  by_cases h3 : t = 3
  · subst h3
    rw [show (decide ((3 : Nat) = 3)) = true from rfl, rest_nil _ _ fun p hp => part_none p (List.mem_reverse.mp hp)] at hm
    exact nomatch hm
  · obtain ⟨p, hp, rfl⟩ := List.mem_map.mp hm
    exact ⟨by show t + 1 ≤ 3; omega, part_ok ok (List.mem_reverse.mp (List.mem_filter.mp hp).1)⟩
theorem rest_len (h : List V → Nat) (mem t : Nat) (all : Bool) (L : List (List V)) : (restM (t + 1) (partsL h t (holdL mem all L).2.2).reverse).length ≤ 8 := by
  unfold restM
  rw [List.length_map]
  refine Nat.le_trans (List.length_filter_le _ _) ?_
  rw [List.length_reverse]
  unfold partsL
  rw [List.length_map, List.length_range]
  exact Nat.le_refl _
section
variable {K : PySem.W.Frag} {σ : L2.St} {H : Hp} {tl : TE}
/-- [row for _, row in kept]: some list of that length -/
theorem el_rowsX {G : Hp} {i j : Nat} {vs : List Nat} {a : Addr} {L : List (List V)} (h : Ev tl σ H (.ref a)) (hL : Lst2 (PG G) H a L) (hz : L.length ≤ 1000) (hw : ∀ x y, wipe (((wipe σ vs).set i (some x)).set j (some y)) vs = wipe σ vs) (hj : ∀ x y, (((wipe σ vs).set i (some x)).set j (some y))[j]? = some (some y)) :
    ∀ H0, Ex H H0 → ∀ Q : VK, (∀ p H2 acc, H0 p = none → Ex H0 H2 → H2 p = some (.lst acc) → Q (.ref p) H2) → tLc (iList K tl) (gTup K 2 (gCons (gName i) (gCons (gName j) gNil))) tYes (tVar j) vs σ H0 Q := fun H0 e0 Q q => h H0 e0 _ fun H1 e1 => by
  obtain ⟨qs, hqs, hA⟩ := hL
  refine ⟨a, rfl, ⟨qs.map V.ref, sq_of ((e0.trans e1) _ _ hqs)⟩, fun D hD => ?_⟩
  refine lc_list (xs := qs.map V.ref) (fun i H' => Ex H1 H' ∧ ∃ acc, H' D = some (.lst acc) ∧ acc.length = i) ⟨Ex.new hD, [], upd_same, rfl⟩ (fun i H' _ p => sq_of ((e0.trans (e1.trans p.1)) _ _ hqs)) (fun n x H' hi p => ?_) fun H' p => ?_
  · obtain ⟨p1, acc, p2, p3⟩ := p
    rw [List.getElem?_map] at hi
    obtain ⟨t, ht, rfl⟩ := Option.map_eq_some_iff.mp hi
    have hlt : n < L.length := by rw [← hA.1]; exact (List.getElem?_eq_some_iff.mp ht).1
    obtain ⟨b, c, g1, g2⟩ := hA.2 n t _ ht (List.getElem?_eq_getElem hlt)
    refine gt2 (st_of ((e0.trans (e1.trans p1)) _ _ g1)) ⟨hw _ _, ?_⟩
    exact ⟨_, hj _ _, acc, p2, sz_lt (by omega), Ex.mut p1 hD, acc ++ [.ref c], upd_same, by rw [List.length_append, p3]; rfl⟩
  · obtain ⟨p1, acc, p2, p3⟩ := p
    exact q D H' acc (fresh_back e1 hD) (e1.trans p1) p2
def StkG (G : Hp) (l u : Addr) (H1 : Hp) (H : Hp) (q : Addr) (m : Nat × List (List V)) : Prop := ∃ p, H q = some (.tup [.ref p, .int (m.1 : Int)]) ∧ p ≠ l ∧ p ≠ u ∧ Lst2 (PG G) H1 p m.2
theorem restM_step {t : Nat} {l : List (List (List V))} {i : Nat} {L : List (List V)} (h : l[i]? = some L) : restM t (l.take (i + 1)) = restM t (l.take i) ++ (if L.isEmpty then [] else [(t, L)]) := by
  unfold restM
  rw [List.take_succ, h, List.filter_append, List.map_append]
  cases L <;> rfl
/-- [(rest, time + 1) for rest in reversed(parts) if rest] -/
theorem el_restX {j tm t : Nat} {vs : List Nat} {a l u : Addr} {G : Hp} {qs : List Addr} {Ps : List (List (List V))} (h : Ev tl σ H (.ref a)) (hqs : H a = some (.lst (qs.map V.ref))) (hA : Al2 (Lst2 (PG G)) H qs Ps) (hne : ∀ q ∈ qs, q ≠ l ∧ q ≠ u) (hz : Ps.length ≤ 1000) (hw : ∀ x, wipe ((wipe σ vs).set j (some x)) vs = wipe σ vs) (hj : ∀ x, ((wipe σ vs).set j (some x))[j]? = some (some x)) (ht : ∀ x, ((wipe σ vs).set j (some x))[tm]? = some (some (.int (t : Int)))) :
    ∀ H0, Ex H H0 → ∀ Q : VK, (∀ p H2, H0 p = none → Ex H0 H2 → Lst2 (StkD G l u) H2 p (restM (t + 1) Ps.reverse) → Q (.ref p) H2) → tLc (iRev K (tCons tl tNil)) (gName j) (fun σ H Q => tVar j σ H fun x H' => ∃ k, TruV K x H' k ∧ Q k H') (tTup (tCons (tVar j) (tCons (tOp (rI0 fun i j => .int (i + j)) (tVar tm) (tC (.int 1))) tNil))) vs σ H0 Q := fun H0 e0 Q q => h H0 e0 _ fun H1 e1 => by
  refine ⟨a, qs.map V.ref, rfl, sq_of ((e0.trans e1) _ _ hqs), fun D hD => ?_⟩
  refine lc_it (walk_rev (K := K) (a := a) (xs := qs.map V.ref)) (g := gName j) (tt := fun σ H Q => tVar j σ H fun x H' => ∃ k, TruV K x H' k ∧ Q k H') (te := tTup (tCons (tVar j) (tCons (tOp (rI0 fun i j => .int (i + j)) (tVar tm) (tC (.int 1))) tNil))) (vs := vs) (σ := σ) (Qd := fun H' => Q (.ref D) H') (fun i H' => Ex H1 H' ∧ ∃ ks : List Addr, H' D = some (.lst (ks.map V.ref)) ∧ Al2 (StkG G l u H1) H' ks (restM (t + 1) (Ps.reverse.take i))) ⟨Ex.new hD, [], upd_same, Al2.nil⟩ (fun i H' _ p => sq_of ((e0.trans (e1.trans p.1)) _ _ hqs)) (fun n x H' H2 hi p hy => ?_) fun H' p => ?_
  · obtain ⟨rfl, hy⟩ := hy
    obtain ⟨p1, ks, p2, p3⟩ := p
    rw [List.length_map] at hi hy
    rw [List.getElem?_map] at hy
    obtain ⟨b, hb, rfl⟩ := Option.map_eq_some_iff.mp hy
    have hn : n < Ps.length := by rw [← hA.1]; exact hi
    have hr : Ps.reverse[n]? = some (Ps[Ps.length - 1 - n]'(by omega)) := by
      rw [List.getElem?_reverse hn]; exact List.getElem?_eq_getElem (by omega)
    have hL := hA.2 _ b _ hb (by rw [hA.1]; exact List.getElem?_eq_getElem (by omega))
    have hL1 : Lst2 (PG G) H1 b (Ps[Ps.length - 1 - n]'(by omega)) := Lst2.mn PG.mn _ _ _ _ (e0.trans e1) hL
    generalize hLe : Ps[Ps.length - 1 - n]'(by omega) = L at hr hL1
    obtain ⟨rs, hrs, hB⟩ := hL1
    have hk : ks.length ≤ n := by
      rw [p3.1]; unfold restM; rw [List.length_map]
      exact Nat.le_trans (List.length_filter_le _ _) (by rw [List.length_take]; omega)
    refine ⟨hw _, _, hj _, !(rs.map V.ref).isEmpty, .inl ⟨rs.map V.ref, sq_of (p1 _ _ hrs), rfl⟩, ?_⟩
    cases hE : L with
    | nil =>
      rw [hE] at hB hr
      have h0 : rs = [] := List.eq_nil_of_length_eq_zero hB.1
      subst h0
      exact ⟨p1, ks, p2, by rw [restM_step hr]; simpa using p3⟩
    | cons y ys =>
      rw [hE] at hB hr
      cases rs with
      | nil => exact absurd hB.1 (by simp)
      | cons r rs =>
        refine ⟨_, hj _, _, ht _, _, _, rfl, rfl, by simp [sizeLine], fun p hp => ⟨_, Ex.new hp _ _ p2, sz_lt (by rw [List.length_map]; omega), Ex.mut (p1.trans (Ex.new hp)) hD, ks ++ [p], by rw [upd_same, List.map_append]; rfl, ?_⟩⟩
        have hpD : p ≠ D := fun z => by rw [z, p2] at hp; cases hp
        rw [restM_step hr]
        refine Al2.snoc (p3.mono fun q l _ g => ?_) ⟨b, by rw [upd_ne hpD, upd_same]; rfl, (hne b (List.mem_of_getElem? hb)).1, (hne b (List.mem_of_getElem? hb)).2, r :: rs, hrs, hB⟩
        obtain ⟨c, g1, g3, g4, g2⟩ := g
        refine ⟨c, ?_, g3, g4, g2⟩
        rw [upd_ne (fun z => by rw [z, p2] at g1; cases g1), upd_ne (fun z => by rw [z, hp] at g1; cases g1)]
        exact g1
  · obtain ⟨p1, ks, p2, p3⟩ := p
    refine q D H' (fresh_back e1 hD) (e1.trans p1) ⟨ks, p2, ?_⟩
    rw [List.length_map, hA.1, ← List.length_reverse (as := Ps), List.take_length] at p3
    exact p3.mono fun q l _ g => by
      obtain ⟨c, g1, g3, g4, g2⟩ := g
      exact ⟨c, g1, g3, g4, Lst2.mn PG.mn _ _ _ _ p1 g2⟩
end
section
variable {K : PySem.W.Frag} {σ : L2.St} {H : Hp} {D : Ends} {tz : TS} {ta te : TE} {g : TG}
theorem et_list {a : Addr} {xs : List V} (ha : Ev ta σ H (.ref a)) (hS : SqL K H a xs) : EvT (fun σ H Q => ta σ H fun x H' => ∃ k, TruV K x H' k ∧ Q k H') σ H (!xs.isEmpty) := fun H1 e Q q =>
  ha H1 e _ fun H2 e2 => ⟨_, .inl ⟨xs, ex_l (e.trans e2) hS, rfl⟩, q H2 e2⟩
theorem q_callS {sp : Sp} {dvs vs : List V} {tr : TA} {E : XK} (h : EvA tr σ H vs) (k : ∀ H1, Ex H H1 → sp (vs ++ dvs) H1 (fun x H2 => g x σ H2 (tz D)) E) : tSeq (tAsg (tCall sp dvs E tr) g) tz D σ H := h H (Ex.refl H) _ k
theorem q_seed {i j : Nat} {a c : V} (h : σ[j]? = some (some a)) (k : ∀ p q, H p = none → (upd H p (.tup [a, c])) q = none → tz D (σ.set i (some (.ref q))) (upd (upd H p (.tup [a, c])) q (.lst [.ref p]))) : tSeq (tAsg (tLst (tCons (tTup (tCons (tVar j) (tCons (tC c) tNil))) tNil)) (gName i)) tz D σ H :=
  ⟨a, h, by simp [sizeLine], fun p hp => ⟨by simp [sizeLine], fun q hq => k p q hp hq⟩⟩
theorem q_popG {l : Addr} {xs : List V} {y : V} (hl : H l = some (.lst (xs ++ [y]))) (ha : Ev ta σ H (.ref l)) (k : ∀ H1, Ex H H1 → g y σ (upd H1 l (.lst xs)) (tz D)) : tSeq (tAsg (tBM0 K "list" rPop ta) g) tz D σ H := ha H (Ex.refl H) _ fun H1 e1 =>
  ⟨Or.inl ⟨rfl, _, sq_of (e1 l _ hl)⟩, l, xs ++ [y], y, rfl, rfl, e1 l _ hl, by rw [List.length_append, List.length_singleton, Nat.add_sub_cancel, List.getElem?_append_right (Nat.le_refl _), Nat.sub_self]; rfl, by
    rw [List.dropLast_concat]
    exact k H1 e1⟩
theorem Al2.init {α : Type} {R : Hp → Addr → α → Prop} {qs : List Addr} {L : List α} {x : α} (h : Al2 R H qs (L ++ [x])) : ∃ ps p, qs = ps ++ [p] ∧ Al2 R H ps L ∧ R H p x := by
  rcases List.eq_nil_or_concat qs with z | ⟨ps, p, z⟩
  · subst z
    have := h.1
    simp at this
  · rw [List.concat_eq_append] at z
    subst z
    have hl : ps.length = L.length := by have := h.1; simpa using this
    refine ⟨ps, p, rfl, ⟨hl, fun i q l h1 h2 => h.2 i q l ?_ ?_⟩, h.2 ps.length p x ?_ ?_⟩
    · rw [List.getElem?_append_left (List.getElem?_eq_some_iff.mp h1).1]; exact h1
    · rw [List.getElem?_append_left (List.getElem?_eq_some_iff.mp h2).1]; exact h2
    · rw [List.getElem?_append_right (Nat.le_refl _), Nat.sub_self]; rfl
    · rw [hl, List.getElem?_append_right (Nat.le_refl _), Nat.sub_self]; rfl
theorem Al2.app {α : Type} {R : Hp → Addr → α → Prop} {H : Hp} {qs rs : List Addr} {L M : List α} (h : Al2 R H qs L) (h2 : Al2 R H rs M) : Al2 R H (qs ++ rs) (L ++ M) := by
  refine ⟨by rw [List.length_append, List.length_append, h.1, h2.1], fun i q l a b => ?_⟩
  by_cases hi : i < qs.length
  · rw [List.getElem?_append_left hi] at a
    rw [List.getElem?_append_left (by rw [← h.1]; exact hi)] at b
    exact h.2 i q l a b
  · rw [List.getElem?_append_right (by omega)] at a
    rw [List.getElem?_append_right (by rw [← h.1]; omega)] at b
    rw [← h.1] at b
    exact h2.2 _ q l a b
theorem ms_len (M : List (Nat × List (List V))) : M.length ≤ ms M := by
  unfold ms
  induction M with
  | nil => exact Nat.zero_le _
  | cons m r ih =>
    rw [List.length_cons, List.map_cons, List.sum_cons]
    have : 0 < 10 ^ (4 - m.1) := Nat.pow_pos (by decide)
    omega
end
def DvW (H : Hp) (a f' : Addr) (mem : Nat) (L : List (List V)) (h' : List V → Nat) (wl wt : Addr) (m : Nat) (σ' : L2.St) (H' : Hp) : Prop := ∃ (v6 v7 v8 v9 : Option V) (M : List (Nat × List (List V))) (qs : List Addr) (acc : List V) (c : Nat), σ' = [some (.ref a), some (.int (mem : Int)), some (.ref f'), some (.ref wl), some (.int (c : Int)), some (.ref wt), v6, v7, v8, v9, none, none, none] ∧ Ex H H' ∧ H' wl = some (.lst acc) ∧ acc.length + m ≤ 20000 ∧ m ≤ 10000 ∧ H' wt = some (.lst (qs.map V.ref)) ∧ Al2 (StkD H wl wt) H' qs M ∧ (∀ m ∈ M, m.1 ≤ 3 ∧ OkW m.2) ∧ c + wsum h' mem M = wr h' mem 3 L ∧ ms M = m
section
variable {P : Program} {w : World} {K : PySem.W.Frag} {mg : Str → Option Value} {base : Heap}
theorem ok__divided (D : Dn K mg "_divided" s__divided ["pairs", "memory", "hashed"]) (c__held_and_parts : C8.Cal P w K mg base 4 "_held_and_parts" (sp__held_and_parts P w K mg base) []) (z_len : mg "len" = none) (z_reversed : mg "reversed" = none) :
    C8.Cal P w K mg base 5 "_divided" (sp__divided P w K mg base) [] := by
  refine cal_of D sc__divided (fun vs H Q E h => ?_) (fun f cdv A outer s H vs Q E hr h => ?_)
  · obtain ⟨_, _, _, _, _, rfl, _⟩ := h
    rfl
  refine ⟨_, (pss_cons (ps_set (i := 3) sc__divided.nd rfl (.inl rfl) (pe_lst pa_nil))
    (pss_cons (ps_set (i := 4) sc__divided.nd rfl (.inl rfl) pe_int)
    (pss_cons (ps_set (i := 5) sc__divided.nd rfl (.inl rfl) (pe_lst (pa_cons (pe_tup (pa_cons (pv 0) (pa_cons pe_int pa_nil))) pa_nil)))
    (pss_cons (ps_while PassesOwn.never (pt_truth (pv 5) (by intro _; rfl))
      (pss_cons (ps_asg (pe_bm0 PySem.F.plainAttrs_list PySem.F.slot_list_pop PySem.F.type_list_pop mt_pop (pv 5)) (pg_tup rfl (pgs_cons (pg_name (i := 6) sc__divided.nd rfl (.inl rfl)) (pgs_cons (pg_name (i := 7) sc__divided.nd rfl (.inr rfl)) pgs_nil))))
    (pss_cons (ps_asg (C8.pe_c c__held_and_parts hr (by decide) (by rfl) (pa_cons (pv 6) (pa_cons (pv 7) (pa_cons (pv 1) (pa_cons (pv 2) pa_nil))))) (pg_tup rfl (pgs_cons (pg_name (i := 8) sc__divided.nd rfl (.inl rfl)) (pgs_cons (pg_name (i := 9) sc__divided.nd rfl (.inl rfl)) pgs_nil))))
    (pss_cons (ps_expr (pe_bm PySem.F.plainAttrs_list PySem.F.slot_list_append PySem.F.type_list_append mt_append (pv 3) (pa_cons (pe_lc (own := [("_", 10), ("row", 11)]) (g := gTup K 2 (gCons (gName 10) (gCons (gName 11) gNil))) (tt := tYes) rfl sc__divided.nd (pi_list (pv 8)) (blkOk_by (N := n__divided) (sc := C8.fnScope s__divided) (by decide +kernel)) (fun _ _ _ _ _ => pg_tup rfl (pgs_cons (pg_name (i := 10) sc__divided.nd rfl (Or.inl rfl)) (pgs_cons (pg_name (i := 11) sc__divided.nd rfl (Or.inl rfl)) pgs_nil))) (fun _ _ _ _ _ => pts_nil) (fun _ _ _ _ _ => (pv 11))) pa_nil)))
    (pss_cons (ps_aug (i := 4) sc__divided.nd rfl (.inl rfl) (pe_op op_sub (pe_callB call_len_seq (by rfl) z_len PySem.boot_len (pa_cons (pv 6) pa_nil)) (pe_callB call_len_seq (by rfl) z_len PySem.boot_len (pa_cons (pv 8) pa_nil))) ip_add)
    (pss_one (ps_expr (pe_bm PySem.F.plainAttrs_list PySem.F.slot_list_extend PySem.F.type_list_extend mt_extend (pv 5) (pa_cons (pe_lc (own := [("rest", 12)]) (g := gName 12) rfl sc__divided.nd (pi_reversed (by rfl) z_reversed (pa_cons (pv 9) pa_nil)) (blkOk_by (N := n__divided) (sc := C8.fnScope s__divided) (by decide +kernel)) (fun _ _ _ _ _ => pg_name (i := 12) sc__divided.nd rfl (Or.inl rfl)) (fun _ _ _ _ _ => (pts_one (pt_truthK (K := K) rfl (pv 12) (by intro _; rfl)))) (fun _ _ _ _ _ => (pe_tup (pa_cons (pv 12) (pa_cons (pe_op op_add (pv 7) pe_int) pa_nil))))) pa_nil)))))))))
    (pss_one (ps_ret (pe_tup (pa_cons (pv 3) (pa_cons (pv 4) pa_nil))))))))), ?_⟩
  obtain ⟨a, f', mem, L, h', rfl, ⟨ts0, hts0, hA⟩, hok, hH, q⟩ := h
  refine q_asgL (el_lst ea_nil (by decide)) fun wl H1 hwl e1 h1 => ?_
  refine q_asg ev_c fun H2 e2 => ?_
  refine q_seed (a := .ref a) (c := .int 0) rfl fun tp wt htp hwt => ?_
  have h2 := e2 _ _ h1
  have x2 := e1.trans e2
  have e3 : Ex H2 (upd H2 tp (.tup [.ref a, .int 0])) := Ex.new htp
  have e4 := Ex.new (o := .lst [.ref tp]) hwt
  have hne : wl ≠ wt := fun z => by rw [← z, e3 _ _ h2] at hwt; cases hwt
  have hwtH : H wt = none := fresh_back (x2.trans e3) hwt
  have x4 := x2.trans (e3.trans e4)
  have haw : a ≠ wl := fun z => by rw [z, hwl] at hts0; cases hts0
  have haw2 : a ≠ wt := fun z => by rw [z, hwtH] at hts0; cases hts0
  refine q_while (DvW H a f' mem L h' wl wt) 10000 ⟨none, none, none, none, [(0, L)], [tp], [], 0, rfl, x4, (e3.trans e4) _ _ h2, by decide, by decide, upd_same, Al2.snoc Al2.nil ⟨a, e4 _ _ upd_same, haw, haw2, ts0, x4 _ _ hts0, hA.mono fun q x _ g => ?_⟩, fun m hm => ?_, ?_, rfl⟩ fun m σ' H' hw => ?_
  · obtain ⟨b, c, g1, g2⟩ := g
    exact ⟨b, c, x4 _ _ g1, g2⟩
  · rw [List.mem_singleton.mp hm]
    exact ⟨Nat.zero_le _, hok⟩
  · show 0 + (wr h' mem 3 L + 0) = _
    omega
  · obtain ⟨v6, v7, v8, v9, M, qs, acc, c, rfl, x, hl, hacc, hm, ht, hS, hM, hc, rfl⟩ := hw
    refine ⟨_, et_list (ev_var rfl) (sq_of ht), fun hb H5 e5 => ?_, fun hb H5 e5 => ?_⟩
    · rcases List.eq_nil_or_concat M with z | ⟨M0, mt, z⟩
      · subst z
        have := hS.1
        rw [List.eq_nil_of_length_eq_zero this] at hb
        cases hb
      rw [List.concat_eq_append] at z
      subst z
      obtain ⟨qs0, qt, rfl, hS0, pt, hp1, hp2, hp3, hp4⟩ := Al2.init hS
      obtain ⟨ht3, hokt⟩ := hM mt (List.mem_append_right _ (List.mem_singleton.mpr rfl))
      obtain ⟨t, Lt⟩ := mt
      replace ht3 : t ≤ 3 := ht3
      replace hokt : OkW Lt := hokt
      refine ⟨fun σ' H' => ∃ m', m' < ms (M0 ++ [(t, Lt)]) ∧ DvW H a f' mem L h' wl wt m' σ' H', fun _ _ z => z, ?_⟩
      have hwl5 := e5 _ _ hl
      have x5 := x.trans e5
      rw [List.map_append] at ht
      refine q_popG (e5 _ _ ht) (ev_var rfl) fun H6 e6 => ?_
      have ht6 := e6 _ _ (e5 _ _ ht)
      have e56 := e5.trans e6
      have upS : ∀ q m, StkD H wl wt H' q m → StkD H wl wt (upd H6 wt (.lst (qs0.map V.ref))) q m := fun q m g => StkD.upd ht6 (fun _ z => nomatch z) (.inr rfl) q m (StkD.mn _ _ _ _ e56 g)
      obtain ⟨p, g1, g2, g3, g4⟩ := upS qt (t, Lt) ⟨pt, hp1, hp2, hp3, hp4⟩
      have x7 : Ex H (upd H6 wt (.lst (qs0.map V.ref))) := Ex.mut (x.trans e56) hwtH
      have hl7 : upd H6 wt (.lst (qs0.map V.ref)) wl = some (.lst acc) := by rw [upd_ne hne]; exact e56 _ _ hl
      have ht7 : upd H6 wt (.lst (qs0.map V.ref)) wt = some (.lst (qs0.map V.ref)) := upd_same
      have hS7 := hS0.mono (H' := upd H6 wt (.lst (qs0.map V.ref))) fun q m _ g => upS q m g
      generalize upd H6 wt (.lst (qs0.map V.ref)) = H7 at g1 g4 x7 hl7 ht7 hS7 ⊢
      refine gt2 (st_of g1) ?_
      refine q_callS (ea_cons (ev_var rfl) (ea_cons (ev_var rfl) (ea_cons (ev_var rfl) (ea_cons (ev_var rfl) ea_nil)))) fun H8 e8 => ?_
      refine ⟨p, f', t, mem, Lt, h', H, rfl, ht3, x7.trans e8, Lst2.mn PG.mn _ _ _ _ e8 g4, hokt, hH, fun r k ps ks qs2 H9 hr e9 h9 hk0 hps0 hk hkA hps hq0 hA9 => ?_⟩
      refine gt2 (st_of h9) ?_
      have x9 := x7.trans (e8.trans e9)
      have hl9 := (e8.trans e9) _ _ hl7
      have hkw : k ≠ wl := fun z => by rw [z, e8 _ _ hl7] at hk0; cases hk0
      obtain ⟨ts, hts, htsA⟩ := g4
      have hsum := hold_sum mem (decide (t = 3)) Lt
      have hL100 : Lt.length ≤ 100 := hokt.1
      have hq1 : ∀ q ∈ qs2, q ≠ wl ∧ q ≠ wt := fun q hq => ⟨fun z => (by have := hq0 q hq; rw [z, e8 _ _ hl7] at this; cases this), fun z => (by have := hq0 q hq; rw [z, e8 _ _ ht7] at this; cases this)⟩
      have hpsl : ps ≠ wl := fun z => by rw [z, e8 _ _ hl7] at hps0; cases hps0
      refine ⟨_, rfl, Or.inl ⟨rfl, acc, sq_of hl9⟩, el_rowsX (G := H) (ev_var rfl) ⟨ks, hk, hkA⟩ (by omega) (fun _ _ => rfl) (fun _ _ => rfl) H9 (Ex.refl H9) _ fun lp H10 acc2 hlp e10 h10 => ⟨wl, acc, .ref lp, rfl, rfl, e10 _ _ hl9, sz_lt (by omega), ?_⟩⟩
      have hl10 := e10 _ _ hl9
      have e710 := e8.trans (e9.trans e10)
      have keep : ∀ {q : Addr} {o : HO}, H10 q = some o → q ≠ wl → upd H10 wl (.lst (acc ++ [.ref lp])) q = some o := fun h n => by rw [upd_ne n]; exact h
      have hp11 := keep (e710 _ _ hts) g2
      have hk11 := keep (e10 _ _ hk) hkw
      have hps11 := keep (e10 _ _ hps) hpsl
      have ht11 := keep (e710 _ _ ht7) (Ne.symm hne)
      have hwlH : H wl = none := hwl
      have x11 : Ex H (upd H10 wl (.lst (acc ++ [.ref lp]))) := Ex.mut (x9.trans e10) hwlH
      have hl11 : upd H10 wl (.lst (acc ++ [.ref lp])) wl = some (.lst (acc ++ [.ref lp])) := upd_same
      have hS11 := hS7.mono (H' := upd H10 wl (.lst (acc ++ [.ref lp]))) fun q m _ g => StkD.upd hl10 (fun _ z => nomatch z) (.inl rfl) q m (StkD.mn _ _ _ _ e710 g)
      have hA11 : Al2 (Lst2 (PG H)) (upd H10 wl (.lst (acc ++ [.ref lp]))) qs2 (partsL h' t (holdL mem (decide (t = 3)) Lt).2.2) := ⟨hA9.1, fun i q l b1 b2 => by
        obtain ⟨ts2, a1, a2⟩ := Lst2.mn PG.mn _ _ _ _ e10 (hA9.2 i q l b1 b2)
        exact ⟨ts2, keep a1 (hq1 q (List.mem_of_getElem? b1)).1, a2.mono fun q x _ g => PG.upd hl10 (fun _ z => nomatch z) q x g⟩⟩
      generalize upd H10 wl (.lst (acc ++ [.ref lp])) = H11 at hp11 hk11 hps11 ht11 x11 hl11 hS11 hA11 ⊢
      refine q_aug (a := (c : Int)) (b := (Lt.length : Int) - ((holdL mem (decide (t = 3)) Lt).2.1.length : Int)) rfl (ev_is (ev_op (ev_len (ev_var rfl) (sq_of hp11)) (ev_len (ev_var rfl) (sq_of hk11)) rv_I0) (by rw [List.length_map, List.length_map, htsA.1, hkA.1])) fun H12 e12 => ?_
      have hlen : (partsL h' t (holdL mem (decide (t = 3)) Lt).2.2).length = 8 := by unfold partsL; rw [List.length_map, List.length_range]
      have hrl := rest_len h' mem t (decide (t = 3)) Lt
      have hms := ms_step h' mem ht3 Lt
      have hms1 : ms (M0 ++ [(t, Lt)]) = ms M0 + 10 ^ (4 - t) := by rw [ms_app]; rfl
      have hml := ms_len M0
      have hq0l : qs0.length = M0.length := hS0.1
      refine ⟨_, rfl, Or.inl ⟨rfl, _, sq_of (e12 _ _ ht11)⟩, el_restX (G := H) (l := wl) (u := wt) (t := t) (ev_var rfl) (e12 _ _ hps11) (hA11.mono fun q m _ g => Lst2.mn PG.mn _ _ _ _ e12 g) hq1 (by omega) (fun _ => rfl) (fun _ => rfl) (fun _ => rfl) H12 (Ex.refl H12) _ fun z H13 hz e13 hR => ?_⟩
      obtain ⟨zs, hzs, hzA⟩ := hR
      have ht13 := (e12.trans e13) _ _ ht11
      have hzl := hzA.1
      have hstp := wr_step h' mem ht3 Lt
      have hrok := rest_ok (h := h') (mem := mem) ht3 (L := Lt) hokt
      generalize restM (t + 1) (partsL h' t (holdL mem (decide (t = 3)) Lt).2.2).reverse = R at hzA hzl hstp hrok hrl hms
      have hmsR : ms (M0 ++ R) = ms M0 + ms R := ms_app _ _
      have upS : ∀ (Hx : Hp), Ex Hx H13 → ∀ q m, StkD H wl wt Hx q m → StkD H wl wt (upd H13 wt (.lst (qs0.map V.ref ++ zs.map V.ref))) q m := fun Hx ex q m g => StkD.upd ht13 (fun _ z => nomatch z) (.inr rfl) q m (StkD.mn _ _ _ _ ex g)
      refine ⟨wt, z, _, _, rfl, rfl, ht13, hzs, sz_of (by rw [List.length_map, List.length_map]; omega), ms (M0 ++ R), by omega, some (.ref p), some (.int (t : Int)), some (.ref k), some (.ref ps), M0 ++ R, qs0 ++ zs, acc ++ [.ref lp], c + (Lt.length - (holdL mem (decide (t = 3)) Lt).2.1.length), ?_, Ex.mut (x11.trans (e12.trans e13)) hwtH, ?_, ?_, by omega, by rw [upd_same, List.map_append], ?_, fun m hm => ?_, ?_, rfl⟩
      · rw [show ((c + (Lt.length - (holdL mem (decide (t = 3)) Lt).2.1.length) : Nat) : Int) = (c : Int) + ((Lt.length : Int) - ((holdL mem (decide (t = 3)) Lt).2.1.length : Int)) by omega]
        rfl
      · rw [upd_ne hne]
        exact (e12.trans e13) _ _ hl11
      · rw [List.length_append, List.length_singleton]
        omega
      · exact (hS11.mono fun q m _ g => upS _ (e12.trans e13) q m g).app (hzA.mono fun q m _ g => upS _ (Ex.refl H13) q m g)
      · rcases List.mem_append.mp hm with h | h
        · exact hM m (List.mem_append_left _ h)
        · exact hrok m h
      · rw [← hc, wsum_app, wsum_app, show wsum h' mem [(t, Lt)] = wr h' mem (3 - t) Lt from Nat.add_zero _]
        omega
    · have hM0 : M = [] := by
        cases M with
        | nil => rfl
        | cons y ys =>
          have := hS.1
          cases qs with
          | nil => cases this
          | cons _ _ => cases hb
      subst hM0
      refine (eu_tup (ea_cons (ev_var rfl) (ea_cons (ev_var rfl) ea_nil)) (by show 2 ≤ 100000; decide)) H5 (Ex.refl H5) _ fun p H6 hp6 e6 h6 => q p (.ref wl) H6 (fresh_back (x.trans e5) hp6) ((x.trans e5).trans e6) (by rw [h6, ← hc]; rfl)
end

--@SPLIT
section
variable {σ : L2.St} {H : Hp} {D : Ends} {tz : TS} {g : TG}
theorem et_tup {K : PySem.W.Frag} {ta : TE} {a : Addr} {xs : List V} (ha : Ev ta σ H (.ref a)) (hS : SqT K H a xs) : EvT (fun σ H Q => ta σ H fun x H' => ∃ k, TruV K x H' k ∧ Q k H') σ H (!xs.isEmpty) := fun H1 e Q q =>
  ha H1 e _ fun H2 e2 => ⟨_, .inr (.inl ⟨xs, ex_t (e.trans e2) hS, rfl⟩), q H2 e2⟩
theorem s_retS {sp : Sp} {dvs vs : List V} {tr : TA} {E : XK} (h : EvA tr σ H vs) (k : ∀ H1, Ex H H1 → sp (vs ++ dvs) H1 D.rt E) : tRet (tCall sp dvs E tr) D σ H := h H (Ex.refl H) _ k
theorem q_callS2 {sp sp1 : Sp} {dvs d1 vs1 vs2 : List V} {t1 tr : TA} {E E1 : XK} (h1 : EvA t1 σ H vs1) (h2 : ∀ H2, Ex H H2 → EvA tr σ H2 vs2) (k : ∀ H1, Ex H H1 → ∀ Q' : VK, (∀ x H2, Ex H H2 → (∀ H3, Ex H2 H3 → sp ((x :: vs2) ++ dvs) H3 (fun y H4 => g y σ H4 (tz D)) E) → Q' x H2) → sp1 (vs1 ++ d1) H1 Q' E1) : tSeq (tAsg (tCall sp dvs E (tCons (tCall sp1 d1 E1 t1) tr)) g) tz D σ H :=
  h1 H (Ex.refl H) _ fun H1 e1 => k H1 e1 _ fun x H2 e2 r => h2 H2 e2 H2 (Ex.refl H2) _ fun H3 e3 => r H3 e3
end
section
variable {P : Program} {w : World} {K : PySem.W.Frag} {mg : Str → Option Value} {base : Heap}
def sp_distinct_written (P : Program) (w : World) (K : PySem.W.Frag) (mg : Str → Option Value) (base : Heap) : Sp := fun vs H Q _ => ∃ (z : Str) (a f : Addr) (mem : Nat) (L : List (List V)) (h : List V → Nat), vs = [.str z, .ref a, .int (mem : Int), .ref f] ∧ Lst2 RowAt H a L ∧ OkRows L ∧ OkW L ∧ L2.Held P w K mg base 3 f (spH h) ∧
  ∀ H', Ex H H' → Q (.int ((if decide (V.str z = V.str ("sort" : Str)) = true then (if L.length > mem then L.length else 0) else wr h mem 3 L : Nat) : Int)) H'
theorem ok_distinct_written (D : DnK K mg "distinct_written" s_distinct_written ["way", "rows", "memory", "hashed"] 2 ["memory", "hashed"]) (c__divided : C8.Cal P w K mg base 5 "_divided" (sp__divided P w K mg base) []) (c__with_themselves : C8.Cal P w K mg base 1 "_with_themselves" (sp__with_themselves K) []) (c_sort_written : C8.Cal P w K mg base 1 "sort_written" (sp_sort_written K) []) :
    CalK P w K mg base 6 "distinct_written" 2 ["memory", "hashed"] (sp_distinct_written P w K mg base) := by
  refine calK_of D sc_distinct_written (fun vs H Q E h => ?_) (fun f cdv A outer s H vs Q E hr h => ?_)
  · obtain ⟨_, _, _, _, _, _, rfl, _⟩ := h
    rfl
  refine ⟨_, (pss_cons (ps_if (pt_cmpR op_eq (pv 0) pe_str (nomark _))
      (pss_one (ps_ret (C8.pe_c c_sort_written hr (by decide) (by rfl) (pa_cons (pv 1) (pa_cons (pv 2) pa_nil)))))
      pss_nil)
    (pss_cons (ps_asg (C8.pe_c c__divided hr (by decide) (by rfl) (pa_cons (C8.pe_c c__with_themselves hr (by decide) (by rfl) (pa_cons (pv 1) pa_nil)) (pa_cons (pv 2) (pa_cons (pv 3) pa_nil)))) (pg_tup rfl (pgs_cons (pg_name (i := 4) sc_distinct_written.nd rfl (.inl rfl)) (pgs_cons (pg_name (i := 5) sc_distinct_written.nd rfl (.inl rfl)) pgs_nil))))
    (pss_one (ps_ret (pv 5))))), ?_⟩
  obtain ⟨z, a, f', mem, L, h', rfl, hL, hok, hokw, hH, q⟩ := h
  refine q_if (b := decide (V.str z = V.str ("sort" : Str))) (et_test (ev_op (ev_var rfl) ev_c (rv_eq rfl))) (fun hb H1 e1 => ?_) (fun hb H1 e1 => ?_)
  · rw [if_pos hb] at q
    obtain ⟨qs, hqs, hA⟩ := hL
    refine s_retS (ea_cons (ev_var rfl) (ea_cons (ev_var rfl) ea_nil)) fun H2 e2 => ⟨a, qs.map V.ref, (mem : Int), rfl, sq_of ((e1.trans e2) _ _ hqs), fun H3 e3 => ?_⟩
    have := q H3 ((e1.trans e2).trans e3)
    rw [List.length_map, hA.1]
    by_cases hm : L.length > mem
    · rw [if_pos hm] at this
      rw [if_pos (by omega)]
      exact this
    · rw [if_neg hm] at this
      rw [if_neg (by omega)]
      exact this
  · rw [if_neg (by rw [hb]; decide)] at q
    show tSeq _ _ _ _ _
    refine q_callS2 (ea_cons (ev_var rfl) ea_nil) (fun H2 e2 => ea_cons (ev_var rfl) (ea_cons (ev_var rfl) ea_nil)) fun H2 e2 Q' k => ⟨a, L, rfl, Lst2.mn RowAt.mn _ _ _ _ (e1.trans e2) hL, hok, fun p H3 hp e3 hP => k (.ref p) H3 (e2.trans e3) fun H4 e4 => ?_⟩
    refine ⟨p, f', mem, L, h', rfl, Lst2.mn PairAt.mn _ _ _ _ e4 hP, hokw, hH, fun r v H5 hr e5 h5 => ?_⟩
    refine gt2 (st_of h5) ⟨_, rfl, q H5 ((e1.trans e2).trans (e3.trans (e4.trans e5)))⟩
def sp_group_written (P : Program) (w : World) (K : PySem.W.Frag) (mg : Str → Option Value) (base : Heap) : Sp := fun vs H Q _ => ∃ (z : Str) (t a f : Addr) (mem : Nat) (es : List Cnd) (L : List (List V)) (h : List V → Nat), vs = [.str z, .ref t, .ref a, .int (mem : Int), .ref f] ∧ ExprsAt K H t es ∧ OkXs es ∧ Lst2 RowAt H a L ∧ OkRows L ∧ OkW (L.map fun r => es.map (evE r)) ∧ L2.Held P w K mg base 3 f (spH h) ∧
  ∀ H', Ex H H' → Q (.int ((if es.isEmpty = true then 0 else if decide (V.str z = V.str ("sort" : Str)) = true then (if L.length > mem then L.length else 0) else wr h mem 3 (L.map fun r => es.map (evE r)) : Nat) : Int)) H'
theorem ok_group_written (D : DnK K mg "group_written" s_group_written ["way", "keys", "rows", "memory", "hashed"] 3 ["memory", "hashed"]) (c__divided : C8.Cal P w K mg base 5 "_divided" (sp__divided P w K mg base) []) (c__with_keys : C8.Cal P w K mg base 17 "_with_keys" (sp__with_keys K) []) (c_sort_written : C8.Cal P w K mg base 1 "sort_written" (sp_sort_written K) []) :
    CalK P w K mg base 18 "group_written" 3 ["memory", "hashed"] (sp_group_written P w K mg base) := by
  refine calK_of D sc_group_written (fun vs H Q E h => ?_) (fun f cdv A outer s H vs Q E hr h => ?_)
  · obtain ⟨_, _, _, _, _, _, _, _, rfl, _⟩ := h
    rfl
  refine ⟨_, (pss_cons (ps_if (pt_not (pt_truth (pv 1) (by intro _; rfl)))
      (pss_one (ps_ret pe_int))
      pss_nil)
    (pss_cons (ps_if (pt_cmpR op_eq (pv 0) pe_str (nomark _))
      (pss_one (ps_ret (C8.pe_c c_sort_written hr (by decide) (by rfl) (pa_cons (pv 2) (pa_cons (pv 3) pa_nil)))))
      pss_nil)
    (pss_cons (ps_asg (C8.pe_c c__divided hr (by decide) (by rfl) (pa_cons (C8.pe_c c__with_keys hr (by decide) (by rfl) (pa_cons (pv 1) (pa_cons (pv 2) pa_nil))) (pa_cons (pv 3) (pa_cons (pv 4) pa_nil)))) (pg_tup rfl (pgs_cons (pg_name (i := 5) sc_group_written.nd rfl (.inl rfl)) (pgs_cons (pg_name (i := 6) sc_group_written.nd rfl (.inl rfl)) pgs_nil))))
    (pss_one (ps_ret (pv 6)))))), ?_⟩
  obtain ⟨z, t, a, f', mem, es, L, h', rfl, hE, hes, hL, hok, hokw, hH, q⟩ := h
  obtain ⟨vs, hV, hvl, hvE⟩ := hE
  have hv0 : vs.isEmpty = es.isEmpty := by cases vs <;> cases es <;> first | rfl | cases hvl
  refine q_if (et_not (et_tup (ev_var rfl) hV)) (fun hb H1 e1 => ?_) (fun hb H1 e1 => ?_)
  · rw [Bool.not_not, hv0] at hb
    rw [if_pos hb] at q
    exact s_ret ev_c fun H2 e2 => q H2 (e1.trans e2)
  rw [Bool.not_not, hv0] at hb
  rw [if_neg (by rw [hb]; decide)] at q
  show tSeq _ _ _ _ _
  refine q_if (b := decide (V.str z = V.str ("sort" : Str))) (et_test (ev_op (ev_var rfl) ev_c (rv_eq rfl))) (fun hb2 H2 e2 => ?_) (fun hb2 H2 e2 => ?_)
  · rw [if_pos hb2] at q
    obtain ⟨qs, hqs, hA⟩ := hL
    refine s_retS (ea_cons (ev_var rfl) (ea_cons (ev_var rfl) ea_nil)) fun H3 e3 => ⟨a, qs.map V.ref, (mem : Int), rfl, sq_of ((e1.trans (e2.trans e3)) _ _ hqs), fun H4 e4 => ?_⟩
    have := q H4 ((e1.trans (e2.trans e3)).trans e4)
    rw [List.length_map, hA.1]
    by_cases hm : L.length > mem
    · rw [if_pos hm] at this
      rw [if_pos (by omega)]
      exact this
    · rw [if_neg hm] at this
      rw [if_neg (by omega)]
      exact this
  · rw [if_neg (by rw [hb2]; decide)] at q
    show tSeq _ _ _ _ _
    refine q_callS2 (ea_cons (ev_var rfl) (ea_cons (ev_var rfl) ea_nil)) (fun H3 e3 => ea_cons (ev_var rfl) (ea_cons (ev_var rfl) ea_nil)) fun H3 e3 Q' k => ⟨t, a, es, L, rfl, ExprsAt.mn _ _ _ _ (e1.trans (e2.trans e3)) ⟨vs, hV, hvl, hvE⟩, hes, Lst2.mn RowAt.mn _ _ _ _ (e1.trans (e2.trans e3)) hL, hok, fun p H4 hp e4 hP => k (.ref p) H4 (e3.trans e4) fun H5 e5 => ?_⟩
    refine ⟨p, f', mem, _, h', rfl, Lst2.mn PairAt.mn _ _ _ _ e5 hP, hokw, hH, fun r v H6 hr e6 h6 => ?_⟩
    refine gt2 (st_of h6) ⟨_, rfl, q H6 ((e1.trans (e2.trans e3)).trans (e4.trans (e5.trans e6)))⟩
end

--@SPLIT
/-! ### defs as values -/
section
variable {P : Program} {w : World} {K : PySem.W.Frag} {mg : Str → Option Value} {base : Heap}
noncomputable def calA {k : Nat} {x : Str} {sp : Sp} (c : C8.Cal P w K mg base k x sp []) : Addr := Classical.choose c.ex
theorem calA_mg {k : Nat} {x : Str} {sp : Sp} (c : C8.Cal P w K mg base k x sp []) : mg x = some (.ref (calA c)) := by
  obtain ⟨fd, ps, ds, F, hm, kp, b, v⟩ := Classical.choose_spec c.ex
  exact hm
theorem gdef {k : Nat} {x : Str} {sp : Sp} (c : C8.Cal P w K mg base k x sp []) : ∃ u, mg x = some u ∧ RelV (.ref (calA c)) u := ⟨_, calA_mg c, rfl⟩
theorem heldI {k : Nat} {f : Addr} {sp sp' : Sp} (h : L2.Held P w K mg base k f sp) (i : ∀ vs H Q E, sp' vs H Q E → sp vs H Q E) : L2.Held P w K mg base k f sp' := by
  obtain ⟨fd, ps, F, hk, hb⟩ := h.ex
  exact ⟨fd, ps, F.imp i, hk, hb⟩
end
/-! ### hashes: the law's -/
def bySize (xs : List V) : Nat := xs.length * 13 + (xs.filter fun x => decide (x = .non)).length
def spr1 (n : Nat) (v : V) : Nat := match v with
  | .bl b => (((n : Int) * 7 + (if b = true then (1 : Int) else 0) * 73) % 4096).toNat
  | .int i => (((n : Int) * 7 + i * 73) % 4096).toNat
  | _ => n
def spread (xs : List V) : Nat := xs.foldl spr1 5
def sp__law_zero (K : PySem.W.Frag) : Sp := spH fun _ => 0
def sp__law_by_size (K : PySem.W.Frag) : Sp := spH bySize
def sp__law_spread (K : PySem.W.Frag) : Sp := spH spread
def sp__law_hash (P : Program) (w : World) (K : PySem.W.Frag) (mg : Str → Option Value) (base : Heap) : Sp := fun vs H Q _ => ∃ k : Int, vs = [.int k] ∧ 0 ≤ k ∧ k < 4 ∧ ∀ f h H', L2.Held P w K mg base 3 f (spH h) → Ex H H' → Q (.ref f) H'
section
variable {X : Cx}
def rMulB : R2 := fun x y H Q => ∃ (b : Bool) (j : Int), x = .bl b ∧ y = .int j ∧ Q (.int ((if b = true then (1 : Int) else 0) * j)) H
def rMulBI : R2 := fun x y H Q => rMulB x y H Q ∨ rI CMul (fun i j => .int (i * j)) x y H Q
theorem op_mulBI : OpR X (binaryOp .Mult) rMulBI := by
  intro pins s σ H x y v u Q I rx ry h
  rcases h with h | h
  · obtain ⟨b, j, rfl, rfl, q⟩ := h
    cases (show v = Value.bool b from rx)
    obtain ⟨t', rfl⟩ := (show ∃ t, u = Value.int j t from ry)
    exact PySem.IntBool.mul_bool_int ⟨.int _, H, I.tok _, ⟨_, rfl⟩, q⟩
  · exact op_mul pins s σ H x y v u Q I rx ry h
end
section
variable {K : PySem.W.Frag} {σ : L2.St} {H : Hp} {ta tb te : TE}
theorem ev_lenL {xs : List V} (h : EvL te σ H xs) : Ev (tCB (fun xs H Q => ∃ p ys, xs = [.ref p] ∧ (SqL K H p ys ∨ SqT K H p ys) ∧ Q (.int ys.length) H) (tCons te tNil)) σ H (.int xs.length) := fun H1 e Q q => h H1 e _ fun p H2 hp e2 h2 => ⟨p, xs, rfl, .inl (sq_of h2), q H2 e2⟩
end
theorem given_filter (xs : List V) (f : V → Bool) : (given xs.length (fun i => f (xs.getD i .non)) fun i => xs.getD i .non) = xs.filter f := by
  unfold given
  have h : ∀ (n : Nat), n ≤ xs.length → (((List.range n).filter fun i => f (xs.getD i .non)).map fun i => xs.getD i .non) = (xs.take n).filter f := by
    intro n
    induction n with
    | zero => intro _; rfl
    | succ n ih =>
      intro hn
      have hx : xs[n]? = some xs[n] := List.getElem?_eq_getElem (by omega)
      rw [List.range_succ, List.filter_append, List.map_append, ih (by omega), List.take_add_one, hx, List.filter_append]
      show _ ++ (([n].filter fun i => f (xs.getD i .non)).map _) = _ ++ [xs[n]].filter f
      have hg : xs.getD n .non = xs[n] := by rw [List.getD_eq_getElem?_getD, hx]; rfl
      rw [List.filter_cons, List.filter_cons, hg]
      cases f xs[n]
      · rfl
      · show _ ++ [xs.getD n .non] = _ ++ [xs[n]]
        rw [hg]
  have := h xs.length (Nat.le_refl _)
  rw [List.take_length] at this
  exact this
theorem spr1_lt {n : Nat} {v : V} (h : n < 4096) : spr1 n v < 4096 := by
  cases v with
  | bl b => show (_ : Int).toNat < 4096; omega
  | int i => show (_ : Int).toNat < 4096; omega
  | _ => exact h
theorem spread_lt (xs : List V) : spread xs < 4096 := by
  have : ∀ (xs : List V) (n : Nat), n < 4096 → xs.foldl spr1 n < 4096 := by
    intro xs
    induction xs with
    | nil => intro n h; exact h
    | cons x r ih => intro n h; exact ih _ (spr1_lt h)
  exact this xs 5 (by decide)
theorem spread_step {xs : List V} {i : Nat} {x : V} (h : xs[i]? = some x) : spread (xs.take (i + 1)) = spr1 (spread (xs.take i)) x := foldl_take h
section
variable {P : Program} {w : World} {K : PySem.W.Frag} {mg : Str → Option Value} {base : Heap}
theorem ok__law_zero (D : Dn K mg "_law_zero" s__law_zero ["values"]) :
    C8.Cal P w K mg base 1 "_law_zero" (sp__law_zero K) [] := by
  refine cal_of D sc__law_zero (fun vs H Q E h => ?_) (fun f cdv A outer s H vs Q E hr h => ?_)
  · obtain ⟨_, _, rfl, _⟩ := h
    rfl
  refine ⟨_, (pss_one (ps_ret pe_int)), ?_⟩
  obtain ⟨p, xs, rfl, hp, hx, hl, q⟩ := h
  exact s_ret ev_c fun H1 e1 => q H1 e1
theorem ok__law_by_size (D : Dn K mg "_law_by_size" s__law_by_size ["values"]) (z_len : mg "len" = none) :
    C8.Cal P w K mg base 1 "_law_by_size" (sp__law_by_size K) [] := by
  refine cal_of D sc__law_by_size (fun vs H Q E h => ?_) (fun f cdv A outer s H vs Q E hr h => ?_)
  · obtain ⟨_, _, rfl, _⟩ := h
    rfl
  refine ⟨_, (pss_one (ps_ret (pe_op op_add (pe_op op_mul (pe_callB call_len_seq (by rfl) z_len PySem.boot_len (pa_cons (pv 0) pa_nil)) pe_int) (pe_callB call_len_seq (by rfl) z_len PySem.boot_len (pa_cons (pe_lc (own := [("value", 1)]) (g := gName 1) rfl sc__law_by_size.nd (pi_list (pv 0)) (blkOk_by (N := n__law_by_size) (sc := C8.fnScope s__law_by_size) (by decide +kernel)) (fun _ _ _ _ _ => pg_name (i := 1) sc__law_by_size.nd rfl (Or.inl rfl)) (fun _ _ _ _ _ => (pts_one (pt_cmpR op_isN (pv 1) pe_non (nomark _)))) (fun _ _ _ _ _ => (pv 1))) pa_nil))))), ?_⟩
  obtain ⟨p, xs, rfl, hp, hx, hl, q⟩ := h
  refine s_ret (ev_is (v := .int ((xs.length : Int) * 13 + ((xs.filter fun x => decide (x = .non)).length : Int))) (ev_op (ev_op (ev_len (ev_var rfl) (sq_of hp)) ev_c (rv_I (.inr ⟨by decide, by decide⟩))) (ev_lenL (xs := xs.filter fun x => decide (x = .non)) ?_) rv_I0) ?_) fun H1 e1 => q H1 e1
  · rw [← given_filter]
    refine el_lcL _ _ (ev_var rfl) (sq_of hp) (by omega) (fun _ => rfl) (fun i x H1 e1 hi => ?_) fun i x H1 e1 hi hf => ?_
    · rw [getD_is hi]
      exact et_test (ev_op (ev_var rfl) ev_c rv_isN)
    · rw [getD_is hi]
      exact ev_var rfl
  · unfold bySize
    rw [Int.natCast_add, Int.natCast_mul]
    rfl
theorem ok__law_spread (D : Dn K mg "_law_spread" s__law_spread ["values"]) (z_int : mg "int" = none) (z_isinstance : mg "isinstance" = none) :
    C8.Cal P w K mg base 1 "_law_spread" (sp__law_spread K) [] := by
  refine cal_of D sc__law_spread (fun vs H Q E h => ?_) (fun f cdv A outer s H vs Q E hr h => ?_)
  · obtain ⟨_, _, rfl, _⟩ := h
    rfl
  refine ⟨_, (pss_cons (ps_set (i := 1) sc__law_spread.nd rfl (.inl rfl) pe_int)
    (pss_cons (ps_for PassesOwn.never rfl (pi_list (pv 0)) (pg_name (i := 2) sc__law_spread.nd rfl (.inl rfl))
      (pss_one (ps_if (pt_val (pe_callB call_isi (by rfl) z_isinstance (by decide +kernel) (pa_cons (pv 2) (pa_cons (pe_bltn (v := .ty "int") (u := .type "int") rfl z_int (by decide +kernel) rfl) pa_nil))))
      (pss_one (ps_set (i := 1) sc__law_spread.nd rfl (.inl rfl) (pe_op op_mod (pe_callTy call_int1 (by rfl) z_int (by decide +kernel) (pa_cons (pe_op op_add (pe_op op_mul (pv 1) pe_int) (pe_op op_mulBI (pv 2) pe_int)) pa_nil)) pe_int)))
      pss_nil)))
    (pss_one (ps_ret (pv 1))))), ?_⟩
  obtain ⟨p, xs, rfl, hp, hx, hl, q⟩ := h
  refine q_asg (v := .int ((5 : Nat) : Int)) ev_c fun H1 e1 => ?_
  refine q_forLn (ev_var rfl) (sq_of (e1 _ _ hp)) (fun i σ H' => ∃ (y2 : Option V) (c : Nat), σ = [some (.ref p), some (.int (c : Int)), y2] ∧ c = spread (xs.take i) ∧ Ex H H') (fun H2 e2 => ⟨none, 5, rfl, rfl, e1.trans e2⟩) (fun i σ' H' _ pv => ?_) (fun i x σ' H' hi pv => ?_) fun σ' H' pv => ?_
  · obtain ⟨y2, c, rfl, _, e⟩ := pv
    exact sq_of (e _ _ hp)
  · obtain ⟨y2, n, rfl, hn, e⟩ := pv
    have hst := spread_step hi
    rw [← hn] at hst
    have nn : ∀ z : Int, V.int (z % 4096) = V.int (((z % 4096).toNat : Nat) : Int) := fun z => by
      rw [Int.toNat_of_nonneg (Int.emod_nonneg _ (by decide))]
    cases hx x (List.mem_of_getElem? hi) with
    | non => exact s_when (b := false) (et_B (ev_isiP (ev_var rfl) .non (by show kitB "NoneType" "int" = some false; decide +kernel))) (fun hb => nomatch hb) fun _ H2 e2 => ⟨_, n, rfl, hst.symm, e.trans e2⟩
    | str l _ _ => exact s_when (b := false) (et_B (ev_isiP (ev_var rfl) (.str _) (by show kitB "str" "int" = some false; decide +kernel))) (fun hb => nomatch hb) fun _ H2 e2 => ⟨_, n, rfl, hst.symm, e.trans e2⟩
    | bl b =>
      refine s_when (b := true) (et_B (ev_isiP (ev_var rfl) (.bl b) (by show kitB "bool" "int" = some true; decide +kernel))) (fun _ H2 e2 => ?_) fun hb => nomatch hb
      exact s_asg (v := .int (((spr1 n (.bl b) : Nat)) : Int)) (ev_is (ev_op (ev_int (ev_op (ev_op (ev_var rfl) ev_c (rv_I (.inr ⟨by decide, by decide⟩))) (ev_op (z := .int ((if b = true then (1 : Int) else 0) * 73)) (ev_var rfl) ev_c (fun H3 e3 Q k => .inl ⟨b, 73, rfl, rfl, k H3 (Ex.refl H3)⟩)) rv_I0)) ev_c (rv_I (by decide))) (nn _)) fun H3 e3 => ⟨_, spr1 n (.bl b), rfl, hst.symm, e.trans (e2.trans e3)⟩
    | int j _ =>
      refine s_when (b := true) (et_B (ev_isiP (ev_var rfl) (.int j) (by show kitB "int" "int" = some true; decide +kernel))) (fun _ H2 e2 => ?_) fun hb => nomatch hb
      exact s_asg (v := .int (((spr1 n (.int j) : Nat)) : Int)) (ev_is (ev_op (ev_int (ev_op (ev_op (ev_var rfl) ev_c (rv_I (.inr ⟨by decide, by decide⟩))) (ev_op (z := .int (j * 73)) (ev_var rfl) ev_c (fun H3 e3 Q k => .inr ⟨j, 73, rfl, rfl, .inr ⟨by decide, by decide⟩, k H3 (Ex.refl H3)⟩)) rv_I0)) ev_c (rv_I (by decide))) (nn _)) fun H3 e3 => ⟨_, spr1 n (.int j), rfl, hst.symm, e.trans (e2.trans e3)⟩
  · obtain ⟨y2, c, rfl, rfl, e⟩ := pv
    rw [List.take_length]
    exact s_ret (ev_var rfl) fun H3 e3 => q _ (e.trans e3)
theorem ok__law_hash (D : Dn K mg "_law_hash" s__law_hash ["kind"]) (c__law_by_size : C8.Cal P w K mg base 1 "_law_by_size" (sp__law_by_size K) []) (c__law_spread : C8.Cal P w K mg base 1 "_law_spread" (sp__law_spread K) []) (c__law_zero : C8.Cal P w K mg base 1 "_law_zero" (sp__law_zero K) []) (c_hash_of : C8.Cal P w K mg base 3 "hash_of" (sp_hash_of K) []) :
    C8.Cal P w K mg base 4 "_law_hash" (sp__law_hash P w K mg base) [] := by
  refine cal_of D sc__law_hash (fun vs H Q E h => ?_) (fun f cdv A outer s H vs Q E hr h => ?_)
  · obtain ⟨_, rfl, _⟩ := h
    rfl
  refine ⟨_, (pss_one (ps_ret (pe_ix ix_tup (pe_tup (pa_cons (C8.pe_gc rfl (gdef c__law_zero)) (pa_cons (C8.pe_gc rfl (gdef c__law_by_size)) (pa_cons (C8.pe_gc rfl (gdef c__law_spread)) (pa_cons (C8.pe_gc rfl (gdef c_hash_of)) pa_nil))))) (pv 0) (fun _ _ => rfl)))), ?_⟩
  obtain ⟨k, rfl, k0, k4, q⟩ := h
  have hz : L2.Held P w K mg base 3 (calA c__law_zero) (spH fun _ => 0) := held_of c__law_zero (calA_mg _) (by decide)
  have hs : L2.Held P w K mg base 3 (calA c__law_by_size) (spH bySize) := held_of c__law_by_size (calA_mg _) (by decide)
  have hd : L2.Held P w K mg base 3 (calA c__law_spread) (spH spread) := held_of c__law_spread (calA_mg _) (by decide)
  have hh : L2.Held P w K mg base 3 (calA c_hash_of) (spH lHash) := heldI (held_of c_hash_of (calA_mg _) (by decide)) fun vs H Q E h => by
    obtain ⟨p, xs, a, b, c⟩ := h
    exact ⟨p, xs, a, sq_of b, c⟩
  have hv : ∃ f h, atI [V.ref (calA c__law_zero), .ref (calA c__law_by_size), .ref (calA c__law_spread), .ref (calA c_hash_of)] k = some (.ref f) ∧ L2.Held P w K mg base 3 f (spH h) := by
    rcases (show k = 0 ∨ k = 1 ∨ k = 2 ∨ k = 3 by omega) with z | z | z | z <;> subst z
    · exact ⟨_, _, rfl, hz⟩
    · exact ⟨_, _, rfl, hs⟩
    · exact ⟨_, _, rfl, hd⟩
    · exact ⟨_, _, rfl, hh⟩
  obtain ⟨f', h', hat, hH⟩ := hv
  exact s_ret (ev_ixU (eu_tup (ea_cons ev_c (ea_cons ev_c (ea_cons ev_c (ea_cons ev_c ea_nil)))) (by show 4 ≤ 100000; decide)) (ev_var rfl) hat) fun H1 e1 => q f' h' H1 hH e1
end

--@SPLIT
/-! ### the law's keys -/
section
variable {K : PySem.W.Frag} {σ : L2.St} {H : Hp} {p : Addr} {ta tb te tn : TE} {P : V → Prop} {D : Ends} {tz tu : TS}
/-- for j in range(a number that is drawn) -/
theorem s1_forR1 {j : Nat} {m : Int} (hn : EvD1 tn σ p H (ZP fun n => 0 ≤ n ∧ n ≤ m)) (hm : m ≤ 100000) (d : Dr p H) (Pv : Nat → L2.St → Hp → Prop) (h0 : ∀ H1, Ex (wo p H) H1 → Dr p H1 → Pv 0 σ H1)
    (hs : ∀ (i : Nat) σ' H', (i : Int) < m → Pv i σ' H' → tu { D with nx := Pv (i + 1), ct := Pv (i + 1), bk := D.nx } (σ'.set j (some (.int (i : Int)))) H') (hd : ∀ (n : Nat) σ' H', (n : Int) ≤ m → Pv n σ' H' → D.nx σ' H') : tFor (iRng1 (tCons tn tNil)) (gName j) tu D σ H :=
  hn H (wo_le p H) d _ fun v H1 ⟨n, ev, hn0, hn1⟩ e1 d1 => by
    subst ev
    refine ⟨n, rfl, by omega, by omega, for_range (lo := 0) (n := n.toNat) Pv (h0 H1 e1 d1) (fun i σ' H' hi pv => ?_) (fun σ' H' pv => hd n.toNat σ' H' (by omega) pv)⟩
    have e0 : (0 : Int) + (i : Int) = (i : Int) := Int.zero_add _
    show tu { D with nx := Pv (i + 1), ct := Pv (i + 1), bk := D.nx } (σ'.set j (some (.int ((0 : Int) + (i : Int))))) H'
    rw [e0]
    exact hs i σ' H' (by omega) pv
theorem q1_forR1 {j : Nat} {m : Int} (hn : EvD1 tn σ p H (ZP fun n => 0 ≤ n ∧ n ≤ m)) (hm : m ≤ 100000) (d : Dr p H) (Pv : Nat → L2.St → Hp → Prop) (h0 : ∀ H1, Ex (wo p H) H1 → Dr p H1 → Pv 0 σ H1)
    (hs : ∀ (i : Nat) σ' H', (i : Int) < m → Pv i σ' H' → tu { D with nx := Pv (i + 1), ct := Pv (i + 1), bk := tz D } (σ'.set j (some (.int (i : Int)))) H') (hd : ∀ (n : Nat) σ' H', (n : Int) ≤ m → Pv n σ' H' → tz D σ' H') : tSeq (tFor (iRng1 (tCons tn tNil)) (gName j) tu) tz D σ H :=
  s1_forR1 (D := { D with nx := tz D }) hn hm d Pv h0 hs hd
end
section
variable {K : PySem.W.Frag}
theorem dps_atI : ∀ {ys : List V} {ds : List PyData} {H : Hp} {i : Nat} {d : PyData}, DpAll K H ys ds → ds[i]? = some d → ∃ x, ys[i]? = some x ∧ Dp K H x d
  | _, _, _, _, _, .nil, h => by simp at h
  | _, _, _, 0, _, .cons h _, e => by
    cases e
    exact ⟨_, rfl, h⟩
  | _, _, _, i + 1, _, .cons _ t, e => by
    obtain ⟨d, h1, h2⟩ := dps_atI (i := i) t (by simpa using e)
    exact ⟨d, by simpa using h1, h2⟩
end
theorem noLs_cx : ∀ es : List Cnd, noLs (es.map Cnd.d) = true
  | [] => rfl
  | e :: es => by
    show (noL e.d && noLs (es.map Cnd.d)) = true
    rw [noL_cx, noLs_cx es]
    rfl
theorem noL_of : ∀ {ds : List PyData} {d : PyData}, noLs ds = true → d ∈ ds → noL d = true
  | x :: xs, d, n, h => by
    have n' : (noL x && noLs xs) = true := n
    rw [Bool.and_eq_true] at n'
    rcases List.mem_cons.mp h with z | z
    · rw [z]; exact n'.1
    · exact noL_of n'.2 z
theorem eu_tuple {K : PySem.W.Frag} {σ : L2.St} {H : Hp} {tl : TE} {a : Addr} {xs : List V} (ha : Ev tl σ H (.ref a)) (hS : SqL K H a xs) : EvU (tCB (fun xs H Q => ∃ p ys, xs = [.ref p] ∧ ((SqL K H p ys ∧ ∀ l, H l = none → Q (.ref l) (upd H l (.tup ys))) ∨ (SqT K H p ys ∧ Q (.ref p) H))) (tCons tl tNil)) σ H xs := fun H1 e Q q =>
  ha H1 e _ fun H2 e2 => ⟨a, xs, rfl, .inl ⟨ex_l (e.trans e2) hS, fun l hl => q l _ (fresh_back e2 hl) (e2.trans (Ex.new hl)) upd_same⟩⟩
def KeyC (e : Cnd) : Prop := (∃ n, n < 2 ∧ e = .col n) ∨ e = .un "is null" (.col 1)
def sp__law_key_list (K : PySem.W.Frag) : Sp := fun vs H Q _ => ∃ p : Addr, vs = [.ref p] ∧ Dr p H ∧ ∀ v H' (es : List Cnd), (∀ e ∈ es, KeyC e) → es.length ≤ 2 → Dp K H' v (.tuple (es.map Cnd.d)) → Ex (wo p H) H' → Dr p H' → Q v H'
section
variable {K : PySem.W.Frag} {σ : L2.St} {H : Hp} {p : Addr} {ta tb te tl : TE} {PL : List PyData → Prop} {R : PyData → Prop} {D : Ends} {tz : TS}
/-- (a, b, c)[i]: data -/
theorem x_ix {m : Int} (h : EvX K te σ p H (fun d => ∃ ds, d = .tuple ds ∧ PL ds)) (hi : EvD1 tb σ p H (ZP fun j => 0 ≤ j ∧ j < m)) (k : ∀ ds (j : Nat), PL ds → (j : Int) < m → ∃ d, ds[j]? = some d ∧ R d) : EvX K (tOp (rIxT K) te tb) σ p H R := fun H1 e dr Q q =>
  h H1 e dr _ fun v H2 d ⟨ds, ed, hP⟩ n hv e2 d2 => hi H2 (wx_trans e e2) d2 _ fun y H3 ⟨j, ey, hj⟩ e3 d3 => by
    subst ed ey
    obtain ⟨jn, rfl⟩ := Int.eq_ofNat_of_zero_le hj.1
    obtain ⟨b, ys, rfl, hS, hds⟩ := dp_tupD (dp_wx hv n d2 e3)
    obtain ⟨d, hi2, hR⟩ := k ds jn hP hj.2
    obtain ⟨x, hx, hd⟩ := dps_atI hds hi2
    have hn : noL d = true := noL_of n (List.mem_of_getElem? hi2)
    exact rv_ixT hS (atI_nat hx) H3 (Ex.refl H3) Q fun H4 e4 => q x H4 d hR hn (ex_dp e4 hd) (wx_trans e2 (wx_trans e3 (wx_of e4))) (d3.ex e4)
/-- xs.append(what is drawn) -/
theorem s_appX {l : Addr} {xs : List V} (hl : H l = some (.lst xs)) (hne : l ≠ p) (ha : ∀ H1, Ev tl σ H1 (.ref l)) (h : EvX K te σ p H R) (d : Dr p H) (hz : xs.length < 100000) (k : ∀ v H1 d, R d → noL d = true → Dp K H1 v d → Ex (wo p H) H1 → Dr p H1 → D.nx σ (upd H1 l (.lst (xs ++ [v])))) :
    tDrop (tBM K "list" rAppend tl (tCons te tNil)) D σ H := ha H H (Ex.refl H) _ fun H1 e1 =>
  ⟨Or.inl ⟨rfl, xs, sq_of (e1 l _ hl)⟩, h H1 (wx_of e1) (d.ex e1) _ fun v H2 d' hd hn hv e2 d2 => ⟨l, xs, v, rfl, rfl, e2 l _ (by rw [wo_ne hne]; exact e1 l _ hl), sz_lt hz, k v H2 d' hd hn hv (wx_trans (wx_of e1) e2) d2⟩⟩
end
section
variable {P : Program} {w : World} {K : PySem.W.Frag} {mg : Str → Option Value} {base : Heap}
theorem ok__law_key_list (D : Dn K mg "_law_key_list" s__law_key_list ["state"]) (c__law_digit : C8.Cal P w K mg base 1 "_law_digit" (sp__law_digit K) []) (z_range : mg "range" = none) (z_tuple : mg "tuple" = none) :
    C8.Cal P w K mg base 2 "_law_key_list" (sp__law_key_list K) [] := by
  refine cal_of D sc__law_key_list (fun vs H Q E h => ?_) (fun f cdv A outer s H vs Q E hr h => ?_)
  · obtain ⟨_, rfl, _⟩ := h
    rfl
  refine ⟨_, (pss_cons (ps_set (i := 1) sc__law_key_list.nd rfl (.inl rfl) (pe_lst pa_nil))
    (pss_cons (ps_for PassesOwn.never rfl (pi_range1 rfl z_range (pa_cons (C8.pe_c c__law_digit hr (by decide) (by rfl) (pa_cons (pv 0) (pa_cons pe_int pa_nil))) pa_nil)) (pg_name (i := 2) sc__law_key_list.nd rfl (.inl rfl))
      (pss_one (ps_expr (pe_bm PySem.F.plainAttrs_list PySem.F.slot_list_append PySem.F.type_list_append mt_append (pv 1) (pa_cons (pe_ix ix_tup (pe_tup (pa_cons (pe_tup (pa_cons pe_str (pa_cons (C8.pe_c c__law_digit hr (by decide) (by rfl) (pa_cons (pv 0) (pa_cons pe_int pa_nil))) pa_nil))) (pa_cons (pe_tup (pa_cons pe_str (pa_cons pe_str (pa_cons (pe_tup (pa_cons pe_str (pa_cons pe_int pa_nil))) pa_nil)))) pa_nil))) (pe_op op_fdiv (C8.pe_c c__law_digit hr (by decide) (by rfl) (pa_cons (pv 0) (pa_cons pe_int pa_nil))) pe_int) (fun _ _ => rfl)) pa_nil)))))
    (pss_one (ps_ret (pe_callTy call_tuple_of (by rfl) z_tuple (by decide +kernel) (pa_cons (pv 1) pa_nil)))))), ?_⟩
  obtain ⟨p, rfl, d, q⟩ := h
  refine q_asgL (el_lst ea_nil (by decide)) fun l H1 hl e1 h1 => ?_
  have hlp : l ≠ p := fun z => by
    obtain ⟨s, _, h⟩ := d
    rw [← z, hl] at h
    cases h
  have d1 := d.ex e1
  refine q1_forR1 (m := 2) (ez_mono (ez_digit (ev_var rfl) ev_c (by decide) (by decide)) fun i hi => by omega) (by decide) d1 (fun j σ' H' => ∃ (v2 : Option V) (xs : List V) (es : List Cnd), σ' = [some (.ref p), some (.ref l), v2] ∧ Ex (wo p H) H' ∧ Dr p H' ∧ H' l = some (.lst xs) ∧ DpAll K H' xs (es.map Cnd.d) ∧ es.length = j ∧ ∀ e ∈ es, KeyC e)
    (fun H3 e3 d3 => ⟨none, [], [], rfl, wx_trans (wx_of e1) e3, d3, e3 _ _ (by rw [wo_ne hlp]; exact h1), .nil, rfl, fun x hx => nomatch hx⟩) (fun j σ' H3 hj pv => ?_) fun n σ' H3 hn pv => ?_
  · obtain ⟨v2, xs, es, rfl, e3, d3, h3, hD, hlen, hk⟩ := pv
    have hxl := dps_len hD
    rw [List.length_map] at hxl
    refine s_appX (R := fun d => ∃ e, KeyC e ∧ d = e.d) h3 hlp (fun _ => ev_var rfl) (x_ix (m := 2) (PL := fun ds => ∃ n : Nat, n < 2 ∧ ds = [Cnd.d (.col n), Cnd.d (.un "is null" (.col 1))]) (x_mono (x_tup (xa_cons (x_tup (xa_cons (x_pure ev_c (fun _ => .str _) rfl) (xa_cons (x_int (PI := fun j => 0 ≤ j ∧ j < 2) (ez_digit (ev_var rfl) ev_c (by decide) (by decide))) xa_nil)) ?_) (xa_cons (x_tup (xa_cons (x_pure ev_c (fun _ => .str _) rfl) (xa_cons (x_pure ev_c (fun _ => .str _) rfl) (xa_cons (x_tup (xa_cons (x_pure ev_c (fun _ => .str _) rfl) (xa_cons (x_pure ev_c (fun _ => .int _) rfl) xa_nil)) ?_) xa_nil))) ?_) xa_nil)) ?_) ?_) (ez_op (ez_digit (m := 4) (ev_var rfl) ev_c (by decide) (by decide)) (e1_int (PI := fun j => j = 3) ev_c rfl) fun i j hi hj => ⟨by subst hj; exact ⟨by decide, by decide⟩, by subst hj; omega⟩) ?_) d3 (by omega) fun v H4 d' ⟨e, he, hd'⟩ hn hv e4 d4 => ?_
    · rintro ds ⟨_, _, rfl, _, _, _, rfl, _, rfl⟩
      show 2 ≤ 100000
      decide
    · rintro ds ⟨_, _, rfl, _, _, _, rfl, _, rfl⟩
      show 2 ≤ 100000
      decide
    · rintro ds ⟨_, _, rfl, _, _, _, rfl, _, _, _, rfl, _, rfl⟩
      show 3 ≤ 100000
      decide
    · rintro ds ⟨_, _, rfl, _, _, _, rfl, _, rfl⟩
      show 2 ≤ 100000
      decide
    · rintro d ⟨ds, rfl, _, _, rfl, ⟨_, rfl, _, _, rfl, rfl, _, _, rfl, ⟨j, hj, rfl⟩, rfl⟩, _, _, rfl, ⟨_, rfl, _, _, rfl, rfl, _, _, rfl, rfl, _, _, rfl, ⟨_, rfl, _, _, rfl, rfl, _, _, rfl, rfl, rfl⟩, rfl⟩, rfl⟩
      obtain ⟨jn, rfl⟩ := Int.eq_ofNat_of_zero_le hj.1
      exact ⟨_, rfl, jn, by omega, rfl⟩
    · rintro ds j ⟨n, hn, rfl⟩ hj
      rcases (show j = 0 ∨ j = 1 by omega) with z | z <;> subst z
      · exact ⟨_, rfl, _, .inl ⟨n, hn, rfl⟩, rfl⟩
      · exact ⟨_, rfl, _, .inr rfl, rfl⟩
    subst hd'
    have hl4 : H4 l = some (.lst xs) := e4 _ _ (by rw [wo_ne hlp]; exact h3)
    have hnl : noLs (es.map Cnd.d) = true := noLs_cx es
    refine ⟨_, xs ++ [v], es ++ [e], rfl, Ex.mut (wx_trans e3 e4) (by rw [wo_ne hlp]; exact hl), d4.upd (Ne.symm hlp), upd_same, ?_, by rw [List.length_append, hlen]; rfl, fun x hx => ?_⟩
    · rw [List.map_append]
      exact dps_snoc (dps_upd hl4 hnl (dps_wx hD hnl d3 e4)) (dp_upd hl4 hn hv)
    · rcases List.mem_append.mp hx with h | h
      · exact hk x h
      · rw [List.mem_singleton.mp h]; exact he
  · obtain ⟨v2, xs, es, rfl, e3, d3, h3, hD, hlen, hk⟩ := pv
    have hxl := dps_len hD
    rw [List.length_map] at hxl
    refine s_retU (eu_tuple (ev_var rfl) (sq_of h3)) fun t H4 ht e4 h4 => q _ H4 es hk (by omega) (.tup (st_of h4) (ex_dps e4 hD)) (wx_trans e3 (wx_of e4)) (d3.ex e4)
end

--@SPLIT
/-! ### x in xs, of data; new lists of which a word is known -/
def rInD (K : PySem.W.Frag) (neg : Bool) : R2 := fun x y H Q => ∃ d ds, Dp K H x d ∧ Dp K H y (.list ds) ∧ SeqAt.shaped d = true ∧ PyData.canLayAll0 ds = true ∧ Q (.bl (if neg then !(ds.any fun y => PyData.eqv y d) else ds.any fun y => PyData.eqv y d)) H
section
variable {X : Cx}
theorem in_room {A : Around} {xs : List PyData} {d : PyData} (hu : A.units + 66 < cLine) (h : SeqAt.shaped d = true) : A.units + 1 + min (PyData.depthAll xs) d.depth < cLine := by
  have := SeqAt.depth_of_shaped h
  omega
theorem op_inD (hu : X.A.units + 66 < cLine) : OpR X (compareOp .In) (rInD X.K false) := by
  intro pins s σ H x y v u Q I rx ry h
  obtain ⟨d, ds, hd, he, sd, se, q⟩ := h
  obtain ⟨as, r1⟩ := Dp.reads I d x v hd rx
  obtain ⟨bs, r2⟩ := Dp.reads I _ y u he ry
  exact SeqAt.in_list_data r2 r1 (PySem.PyData.plainAll_of_canLay0 _ se) (PySem.PyData.plain_of_canLay0 _ (SeqAt.canLay_of_shaped sd)) (in_room hu sd) ⟨.bl _, H, I, rfl, q⟩
theorem op_ninD (hu : X.A.units + 66 < cLine) : OpR X (compareOp .NotIn) (rInD X.K true) := by
  intro pins s σ H x y v u Q I rx ry h
  obtain ⟨d, ds, hd, he, sd, se, q⟩ := h
  obtain ⟨as, r1⟩ := Dp.reads I d x v hd rx
  obtain ⟨bs, r2⟩ := Dp.reads I _ y u he ry
  exact SeqAt.notIn_list_data r2 r1 (PySem.PyData.plainAll_of_canLay0 _ se) (PySem.PyData.plain_of_canLay0 _ (SeqAt.canLay_of_shaped sd)) (in_room hu sd) ⟨.bl _, H, I, rfl, q⟩
end
theorem hu66 {A : Around} {k : Nat} (hr : Room k A) : A.units + 66 < cLine := by
  have := hr.un
  omega
section
variable {K : PySem.W.Frag} {σ : L2.St} {H : Hp} {ta tb : TE} {d : PyData} {ds : List PyData}
theorem ev_inD {neg : Bool} (ha : EvD K ta σ H d) (hb : EvD K tb σ H (.list ds)) (s1 : SeqAt.shaped d = true) (s2 : PyData.canLayAll0 ds = true) : Ev (tOp (rInD K neg) ta tb) σ H (.bl (if neg then !(ds.any fun y => PyData.eqv y d) else ds.any fun y => PyData.eqv y d)) := fun H1 ex Q q =>
  ha H1 ex _ fun x H2 e2 h2 => hb H2 (ex.trans e2) _ fun y H3 e3 h3 => ⟨d, ds, ex_dp e3 h2, h3, s1, s2, q H3 (e2.trans e3)⟩
end

/-! ### the law's count of written rows -/
def fnd : Option (List Cnd) → List V → List V
  | none, r => r
  | some es, r => es.map (evE r)
def KeysAt (K : PySem.W.Frag) (H : Hp) (v : V) : Option (List Cnd) → Prop
  | none => v = .non
  | some es => ∃ t, v = .ref t ∧ ExprsAt K H t es ∧ OkXs es
theorem KeysAt.ex {K : PySem.W.Frag} {H H' : Hp} {v : V} {ke : Option (List Cnd)} (h : KeysAt K H v ke) (e : Ex H H') : KeysAt K H' v ke := by
  cases ke with
  | none => exact h
  | some es =>
    obtain ⟨t, h1, h2, h3⟩ := h
    exact ⟨t, h1, ExprsAt.mn _ _ _ _ e h2, h3⟩
def spR__law_written (P : Program) (w : World) (K : PySem.W.Frag) (mg : Str → Option Value) (base : Heap) : Nat → Sp
  | 0 => fun _ _ _ _ => False
  | n + 1 => fun vs H Q _ => ∃ (kv : V) (a f : Addr) (t mem : Nat) (ke : Option (List Cnd)) (L : List (List V)) (h : List V → Nat), vs = [kv, .ref a, .int (t : Int), .int (mem : Int), .ref f] ∧ KeysAt K H kv ke ∧ Lst2 RowAt H a L ∧ OkRows L ∧ OkW (L.map (fnd ke)) ∧ t ≤ 3 ∧ 3 ≤ t + n ∧ L2.Held P w K mg base 3 f (spH h) ∧
    ∀ H', Ex H H' → Q (.int ((wr h mem (3 - t) (L.map (fnd ke)) : Nat) : Int)) H'
def sp__law_written (P : Program) (w : World) (K : PySem.W.Frag) (mg : Str → Option Value) (base : Heap) : Sp := spR__law_written P w K mg base 4
theorem noLs_rks : ∀ {x : List V}, (∀ v ∈ x, Ok v) → noLs (x.map rkD) = true
  | [], _ => rfl
  | v :: x, h => by
    show (noL (rkD v) && noLs (x.map rkD)) = true
    rw [noL_rk (h v (List.mem_cons_self ..)), noLs_rks fun u hu => h u (List.mem_cons_of_mem _ hu)]
    rfl
def RkQ (K : PySem.W.Frag) (hd rt : Addr) (H : Hp) (q : Addr) (x : List V) : Prop := q ≠ hd ∧ q ≠ rt ∧ (∀ v ∈ x, Ok v) ∧ ∃ ys, H q = some (.lst ys) ∧ DpAll K H ys (x.map rkD)
def PrQ (F : List V → List V) (H0 : Hp) (hd rt : Addr) (H : Hp) (q : Addr) (r : List V) : Prop := ∃ a b, H q = some (.tup [.ref a, .ref b]) ∧ a ≠ hd ∧ a ≠ rt ∧ H a = some (.lst (F r)) ∧ H0 b = some (.lst r)
section
variable {K : PySem.W.Frag} {hd rt : Addr} {F : List V → List V} {H0 : Hp}
theorem RkQ.mn : Mn (RkQ K hd rt) := fun H H' q x e h => by
  obtain ⟨h1, h2, h3, ys, h4, h5⟩ := h
  exact ⟨h1, h2, h3, ys, e _ _ h4, ex_dps e h5⟩
theorem PrQ.mn : Mn (PrQ F H0 hd rt) := fun H H' q x e h => by
  obtain ⟨a, b, h1, h2, h3, h4, h5⟩ := h
  exact ⟨a, b, e _ _ h1, h2, h3, e _ _ h4, h5⟩
theorem RkQ.upd {H : Hp} {d : Addr} {us zs : List V} (hl : H d = some (.lst us)) (hd' : d = hd ∨ d = rt) {q : Addr} {x : List V} (h : RkQ K hd rt H q x) : RkQ K hd rt (upd H d (.lst zs)) q x := by
  obtain ⟨h1, h2, h3, ys, h4, h5⟩ := h
  have hq : q ≠ d := by rcases hd' with z | z <;> rw [z] <;> assumption
  exact ⟨h1, h2, h3, ys, by rw [upd_ne hq]; exact h4, dps_upd hl (noLs_rks h3) h5⟩
theorem PrQ.upd {H : Hp} {d : Addr} {us zs : List V} (hl : H d = some (.lst us)) (hd' : d = hd ∨ d = rt) {q : Addr} {x : List V} (h : PrQ F H0 hd rt H q x) : PrQ F H0 hd rt (upd H d (.lst zs)) q x := by
  obtain ⟨a, b, h1, h2, h3, h4, h5⟩ := h
  have hq : a ≠ d := by rcases hd' with z | z <;> rw [z] <;> assumption
  refine ⟨a, b, ?_, h2, h3, by rw [upd_ne hq]; exact h4, h5⟩
  rw [upd_ne fun z => by rw [z, hl] at h1; cases h1]
  exact h1
theorem RkQ.dps {H : Hp} : ∀ {qs : List Addr} {L : List (List V)}, Al2 (RkQ K hd rt) H qs L → DpAll K H (qs.map V.ref) (L.map fun x => PyData.list (x.map rkD))
  | [], [], _ => .nil
  | [], _ :: _, h => nomatch h.1
  | _ :: _, [], h => nomatch h.1
  | q :: qs, x :: L, h => by
    obtain ⟨h1, h2, h3, ys, h4, h5⟩ := h.2 0 q x rfl rfl
    exact .cons (.lst (sq_of h4) h5) (RkQ.dps ⟨Nat.succ.inj h.1, fun i q' d' a b => h.2 (i + 1) q' d' a b⟩)
end
theorem lays_rows : ∀ {L : List (List V)}, (∀ x ∈ L, ∀ v ∈ x, Ok v) → PyData.canLayAll0 (L.map fun x => PyData.list (x.map rkD)) = true
  | [], _ => rfl
  | x :: L, h => by
    show (PyData.canLayAll0 (x.map rkD) && PyData.canLayAll0 (L.map fun x => PyData.list (x.map rkD))) = true
    rw [lays_rk (h x (List.mem_cons_self ..)), lays_rows fun y hy => h y (List.mem_cons_of_mem _ hy)]
    rfl
theorem any_rows {L : List (List V)} {x : List V} (hL : ∀ y ∈ L, ∀ v ∈ y, Ok v) (hx : ∀ v ∈ x, Ok v) : ((L.map fun x => PyData.list (x.map rkD)).any fun y => PyData.eqv y (.list (x.map rkD))) = hasR L x := by
  unfold hasR
  rw [List.any_map]
  apply Bool.eq_iff_iff.mpr
  rw [List.any_eq_true, List.any_eq_true]
  have e : ∀ y ∈ L, PyData.eqv (.list (y.map rkD)) (.list (x.map rkD)) = decide (rowN y = rowN x) := fun y hy => by
    rw [← eqv_key, row_data (hL y hy), row_data hx]
    rfl
  constructor
  · rintro ⟨y, hy, h⟩
    exact ⟨y, hy, (e y hy).symm.trans h⟩
  · rintro ⟨y, hy, h⟩
    exact ⟨y, hy, (e y hy).trans h⟩
theorem hold_reps (mem : Nat) (all : Bool) (L : List (List V)) : ∀ x ∈ (holdL mem all L).1, x ∈ L := by
  have h : ∀ (L : List (List V)) (s : Hst), ∀ x ∈ (L.foldl (hstep mem all) s).1, x ∈ s.1 ∨ x ∈ L := by
    intro L
    induction L with
    | nil => intro s x hx; exact .inl hx
    | cons y r ih =>
      intro s x hx
      rw [List.foldl_cons] at hx
      rcases ih _ x hx with h | h
      · unfold hstep at h
        split at h
        · have h' : x ∈ addR s.1 y := h
          unfold addR at h'
          split at h'
          · exact .inl h'
          · rcases List.mem_append.mp h' with h | h
            · exact .inl h
            · exact .inr (List.mem_cons.mpr (.inl (List.mem_singleton.mp h)))
        · exact .inl h
      · exact .inr (List.mem_cons_of_mem _ h)
  intro x hx
  rcases h L _ x hx with h | h
  · exact nomatch h
  · exact h
def LwW (K : PySem.W.Frag) (H : Hp) (kv : V) (a f' : Addr) (t mem : Nat) (F : List V → List V) (L : List (List V)) (hd rt : Addr) (i : Nat) (σ' : L2.St) (H' : Hp) : Prop := ∃ (v7 v8 v9 : Option V) (hs rs : List Addr) (M : List (List V)), σ' = [some kv, some (.ref a), some (.int (t : Int)), some (.int (mem : Int)), some (.ref f'), some (.ref hd), some (.ref rt), v7, v8, v9, none, none, none, none, none] ∧ Ex H H' ∧ H' hd = some (.lst (hs.map V.ref)) ∧ Al2 (RkQ K hd rt) H' hs (holdL mem (decide (t = 3)) ((L.map F).take i)).1 ∧ H' rt = some (.lst (rs.map V.ref)) ∧ Al2 (PrQ F H hd rt) H' rs M ∧ M.map F = (holdL mem (decide (t = 3)) ((L.map F).take i)).2.2 ∧ ∀ r ∈ M, r ∈ L
def LpW (H H0 : Hp) (kv : V) (a f' : Addr) (t mem : Nat) (F : List V → List V) (h' : List V → Nat) (M : List (List V)) (hd rt pp : Addr) (qs : List Addr) (v9 : Option V) (i : Nat) (σ' : L2.St) (H' : Hp) : Prop := ∃ (v7 v8 : Option V), σ' = [some kv, some (.ref a), some (.int (t : Int)), some (.int (mem : Int)), some (.ref f'), some (.ref hd), some (.ref rt), v7, v8, v9, some (.ref pp), none, none, none, none] ∧ Ex H0 H' ∧ H' pp = some (.lst (qs.map V.ref)) ∧ ∀ (j : Nat) q, qs[j]? = some q → ∃ ts : List Addr, H' q = some (.lst (ts.map V.ref)) ∧ Al2 (fun _ => RowAt H) H' ts ((M.take i).filter fun r => decide (partI h' t (F r) = j))
theorem wr_done {h : List V → Nat} {mem t : Nat} (ht : t ≤ 3) {L : List (List V)} (hr : (holdL mem (decide (t = 3)) L).2.2 = []) : wr h mem (3 - t) L = 0 := by
  have hs := hold_sum mem (decide (t = 3)) L
  rw [wr_step h mem ht L, hr]
  rw [hr, List.length_nil] at hs
  rw [rest_nil _ _ fun p hp => ?_]
  · show L.length - _ + 0 = 0
    omega
  · obtain ⟨i, _, rfl⟩ := List.mem_map.mp (List.mem_reverse.mp hp)
    rfl
theorem wr_sum {h : List V → Nat} {mem t : Nat} (ht : t ≤ 2) {F : List V → List V} {L M : List (List V)} (hM : M.map F = (holdL mem (decide (t = 3)) L).2.2) : wr h mem (3 - t) L = M.length + ((List.range 8).map fun j => wr h mem (3 - (t + 1)) ((M.filter fun r => decide (partI h t (F r) = j)).map F)).sum := by
  rw [decide_eq_false (by omega)] at hM
  rw [show 3 - t = (2 - t) + 1 by omega, show 3 - (t + 1) = 2 - t by omega]
  show (holdL mem false L).2.2.length + ((partsL h (2 - (2 - t)) (holdL mem false L).2.2).map (wr h mem (2 - t))).sum = _
  rw [← hM, List.length_map, show 2 - (2 - t) = t by omega]
  unfold partsL
  rw [List.map_map]
  congr 2
  refine List.map_congr_left fun j _ => ?_
  show wr h mem (2 - t) ((M.map F).filter fun x => decide (partI h t x = j)) = _
  rw [List.filter_map]
  rfl
section
variable {K : PySem.W.Frag} {σ : L2.St} {H : Hp} {te : TE} {ds : List PyData} {D : Ends} {tz : TS}
theorem q_asgLD {i : Nat} (h : EvLD K te σ H ds) (k : ∀ p H1 ys, H p = none → Ex H H1 → H1 p = some (.lst ys) → DpAll K H1 ys ds → tz D (σ.set i (some (.ref p))) H1) : tSeq (tAsg te (gName i)) tz D σ H := h H (Ex.refl H) _ k
theorem s_asgL {i : Nat} {xs : List V} (h : EvL te σ H xs) (k : ∀ p H1, H p = none → Ex H H1 → H1 p = some (.lst xs) → D.nx (σ.set i (some (.ref p))) H1) : tAsg te (gName i) D σ H := h H (Ex.refl H) _ k
end
theorem take_snoc {α : Type} {L : List α} {i : Nat} {l : α} (h : L[i]? = some l) : L.take (i + 1) = L.take i ++ [l] := by rw [List.take_add_one, h]; rfl
theorem heldM {P : Program} {w : World} {K : PySem.W.Frag} {mg : Str → Option Value} {base : Heap} {j k : Nat} {f : Addr} {sp : Sp} (h : L2.Held P w K mg base j f sp) (l : j ≤ k) : L2.Held P w K mg base k f sp := by
  obtain ⟨fd, ps, F, hk, hb⟩ := h.ex
  exact ⟨fd, ps, F.mono l, hk, hb⟩

--@SPLIT
section
variable {P : Program} {w : World} {K : PySem.W.Frag} {mg : Str → Option Value} {base : Heap}
theorem ok__law_written {rn : Nat} (D : Dn K mg "_law_written" s__law_written ["keys", "rows", "time", "memory", "hashed"]) (c__law_ranks : C8.Cal P w K mg base 2 "_law_ranks" (sp__law_ranks K) []) (c_evaluate : C8.Cal P w K mg base 15 "evaluate" (sp_evaluate K) []) (z_int : mg "int" = none) (z_len : mg "len" = none) (z_range : mg "range" = none) (c__law_written : C8.Cal P w K mg base (16 + rn) "_law_written" (spR__law_written P w K mg base rn) []) :
    C8.Cal P w K mg base (16 + rn + 1) "_law_written" (spR__law_written P w K mg base (rn + 1)) [] := by
  refine cal_of D sc__law_written (fun vs H Q E h => ?_) (fun f cdv A outer s H vs Q E hr h => ?_)
  · obtain ⟨_, _, _, _, _, _, _, _, rfl, _⟩ := h
    rfl
  refine ⟨_, (pss_cons (ps_set (i := 5) sc__law_written.nd rfl (.inl rfl) (pe_lst pa_nil))
    (pss_cons (ps_set (i := 6) sc__law_written.nd rfl (.inl rfl) (pe_lst pa_nil))
    (pss_cons (ps_for PassesOwn.never rfl (pi_list (pv 1)) (pg_name (i := 7) sc__law_written.nd rfl (.inr rfl))
      (pss_cons (ps_set (i := 8) sc__law_written.nd rfl (.inl rfl) (pv 7))
    (Evl.pss_cut (ps_if (pt_cmpR op_notN (pv 0) pe_non (nomark _))
      (pss_one (ps_setLc (i := 8) (own := [("key", 14)]) (g := gName 14) (tt := tYes) rfl sc__law_written.nd rfl rfl (sw_true rfl rfl rfl (by decide +kernel)) (pi_tup (pv 0)) (blkOk_by (N := n__law_written) (sc := C8.fnScope s__law_written) (by decide +kernel)) (fun _ _ _ _ _ => pg_name (i := 14) sc__law_written.nd rfl (Or.inl rfl)) (fun _ _ _ _ _ => pts_nil) (fun _ _ _ _ _ => (C8.pe_c c_evaluate hr (by omega) (by rfl) (pa_cons (pv 14) (pa_cons (pv 7) pa_nil))))))
      pss_nil)
    (pss_cons (ps_set (i := 9) sc__law_written.nd rfl (.inl rfl) (C8.pe_c c__law_ranks hr (by omega) (by rfl) (pa_cons (pv 8) pa_nil)))
    (pss_one (ps_if (pt_cmpR (op_ninD (hu66 hr)) (pv 9) (pv 5) (by with_unfolding_all rfl))
      (pss_one (ps_if (PW.pt (pw_or (pt_cmpR op_eq (pv 2) pe_int (nomark _)) (pw_or1 (pt_cmpR op_lt (pe_callB call_len_seq (by rfl) z_len PySem.boot_len (pa_cons (pv 5) pa_nil)) (pv 3) (nomark _)))))
      (pss_one (ps_expr (pe_bm PySem.F.plainAttrs_list PySem.F.slot_list_append PySem.F.type_list_append mt_append (pv 5) (pa_cons (pv 9) pa_nil))))
      (pss_one (ps_expr (pe_bm PySem.F.plainAttrs_list PySem.F.slot_list_append PySem.F.type_list_append mt_append (pv 6) (pa_cons (pe_tup (pa_cons (pv 8) (pa_cons (pv 7) pa_nil))) pa_nil))))))
      pss_nil))))))
    (pss_cons (ps_if (pt_cmpR op_eq (pe_callB call_len_seq (by rfl) z_len PySem.boot_len (pa_cons (pv 6) pa_nil)) pe_int (nomark _))
      (pss_one (ps_ret pe_int))
      pss_nil)
    (pss_cons (ps_setLc (i := 10) (own := [("k", 13)]) (g := gName 13) (tt := tYes) rfl sc__law_written.nd rfl rfl (sw_true rfl rfl rfl (by decide +kernel)) (pi_range1 rfl z_range (pa_cons pe_int pa_nil)) (blkOk_by (N := n__law_written) (sc := C8.fnScope s__law_written) (by decide +kernel)) (fun _ _ _ _ _ => pg_name (i := 13) sc__law_written.nd rfl (Or.inl rfl)) (fun _ _ _ _ _ => pts_nil) (fun _ _ _ _ _ => (pe_lst pa_nil)))
    (pss_cons (ps_for PassesOwn.never rfl (pi_list (pv 6)) (pg_tup rfl (pgs_cons (pg_name (i := 8) sc__law_written.nd rfl (.inl rfl)) (pgs_cons (pg_name (i := 7) sc__law_written.nd rfl (.inr rfl)) pgs_nil)))
      (pss_one (ps_expr (pe_bm PySem.F.plainAttrs_list PySem.F.slot_list_append PySem.F.type_list_append mt_append (pe_ix ix_list (pv 10) (pe_op op_mod (pe_callTy call_int1 (by rfl) z_int (by decide +kernel) (pa_cons (pe_op op_fdiv (pe_callH (i := 4) hr rfl (Or.inl rfl) (pa_cons (pv 8) pa_nil)) (pe_ix ix_tup (pe_tup (pa_cons pe_int (pa_cons pe_int (pa_cons pe_int pa_nil)))) (pv 2) (fun _ _ => rfl))) pa_nil)) pe_int) (fun _ _ => rfl)) (pa_cons (pv 7) pa_nil)))))
    (pss_cons (ps_set (i := 11) sc__law_written.nd rfl (.inl rfl) (pe_callB call_len_seq (by rfl) z_len PySem.boot_len (pa_cons (pv 6) pa_nil)))
    (pss_cons (ps_for PassesOwn.never rfl (pi_list (pv 10)) (pg_name (i := 12) sc__law_written.nd rfl (.inl rfl))
      (pss_one (ps_aug (i := 11) sc__law_written.nd rfl (.inl rfl) (C8.pe_c c__law_written hr (Nat.le_refl _) (by rfl) (pa_cons (pv 0) (pa_cons (pv 12) (pa_cons (pe_op op_add (pv 2) pe_int) (pa_cons (pv 3) (pa_cons (pv 4) pa_nil)))))) ip_add)))
    (pss_one (ps_ret (pv 11))))))))))), ?_⟩
  obtain ⟨kv, a, f', t, mem, ke, L, h', rfl, hK, ⟨ts0, hts0, hA⟩, hok, hokw, ht3, htn, hH, q⟩ := h
  refine q_asgL (el_lst ea_nil (by decide)) fun hd H1 hhd e1 h1 => ?_
  refine q_asgL (el_lst ea_nil (by decide)) fun rt H2 hrt e2 h2 => ?_
  have hne : hd ≠ rt := fun z => by rw [← z, h1] at hrt; cases hrt
  have hrt0 : H rt = none := fresh_back e1 hrt
  have x2 := e1.trans e2
  have hlen : (ts0.map V.ref).length = L.length := by rw [List.length_map, hA.1]
  have hL100 : L.length ≤ 100 := by have := hokw.1; rw [List.length_map] at this; exact this
  have hF : ∀ r ∈ L, (∀ v ∈ fnd ke r, WV v) ∧ (fnd ke r).length ≤ 1000 ∧ OkRw (fnd ke r) := fun r hr => hokw.2 _ (List.mem_map.mpr ⟨r, hr, rfl⟩)
  refine q_forLn (xs := ts0.map V.ref) (ev_var rfl) (sq_of (x2 _ _ hts0)) (LwW K H kv a f' t mem (fnd ke) L hd rt) (fun H3 e3 => ⟨none, none, none, [], [], [], rfl, x2.trans e3, e3 _ _ (e2 _ _ h1), Al2.nil, e3 _ _ h2, Al2.nil, rfl, fun r hr => nomatch hr⟩) (fun i σ' H' _ pv => ?_) (fun i x σ' H' hi pv => ?_) fun σ' H' pv => ?_
  · obtain ⟨_, _, _, _, _, _, rfl, x, _⟩ := pv
    exact sq_of (x _ _ hts0)
  · obtain ⟨v7, v8, v9, hs, rs, M, rfl, x9, hhs, hsA, hrs, hrsA, hMF, hMm⟩ := pv
    obtain ⟨rp, r, rfl, hrp, hr, hrow⟩ := al2_at hA hi
    have hrL := List.mem_of_getElem? hr
    obtain ⟨hw1, hw2, hw3⟩ := hF r hrL
    have hi100 : i < 100 := by have := (List.getElem?_eq_some_iff.mp hr).1; omega
    have hget : (L.map (fnd ke))[i]? = some (fnd ke r) := by rw [List.getElem?_map, hr]; rfl
    obtain ⟨hl1, hl2, hl3⟩ := hold_len mem (decide (t = 3)) (L.map (fnd ke)) i
    have hreps := hold_reps mem (decide (t = 3)) ((L.map (fnd ke)).take i)
    have hstp : holdL mem (decide (t = 3)) ((L.map (fnd ke)).take (i + 1)) = hstep mem (decide (t = 3)) (holdL mem (decide (t = 3)) ((L.map (fnd ke)).take i)) (fnd ke r) := foldl_take hget
    generalize holdL mem (decide (t = 3)) ((L.map (fnd ke)).take i) = S at hl1 hl2 hl3 hstp hsA hMF hreps
    have hrow9 := x9 _ _ hrow
    have hrphd : rp ≠ hd := fun z => by have w2 : H rp = some (.lst r) := hrow; rw [z, hhd] at w2; cases w2
    have hrprt : rp ≠ rt := fun z => by have w2 : H rp = some (.lst r) := hrow; rw [z, hrt0] at w2; cases w2
    refine q_asg (v := .ref rp) (ev_var rfl) fun H4 e4 => ?_
    refine q_cut (M := fun σ' H5 => ∃ fa, σ' = [some kv, some (.ref a), some (.int (t : Int)), some (.int (mem : Int)), some (.ref f'), some (.ref hd), some (.ref rt), some (.ref rp), some (.ref fa), v9, none, none, none, none, none] ∧ Ex H' H5 ∧ H5 fa = some (.lst (fnd ke r)) ∧ fa ≠ hd ∧ fa ≠ rt) ?_ ?_
    · cases ke with
      | none =>
        cases (show kv = V.non from hK)
        exact s_when (b := false) (et_test (ev_op (ev_var rfl) ev_c rv_notN)) (fun hb => nomatch hb) fun _ H5 e5 => ⟨rp, rfl, e4.trans e5, (e4.trans e5) _ _ hrow9, hrphd, hrprt⟩
      | some es =>
        obtain ⟨tk, rfl, ⟨ks, hks, hkl, hkE⟩, hes⟩ := hK
        refine s_when (b := true) (et_test (ev_op (ev_var rfl) ev_c rv_notN)) (fun _ H5 e5 => ?_) fun hb => nomatch hb
        have x5 := x9.trans (e4.trans e5)
        have hz := hes.1
        refine s_asgL (el_lcT (K := K) (fun m => evE r (es.getD m (.col 0))) (ev_var rfl) (ex_t x5 hks) (by omega) (fun _ => rfl) fun m z H6 e6 hm => ?_) fun p H6 hp e6 h6 => ⟨p, rfl, e4.trans (e5.trans e6), ?_, fun z => ?_, fun z => ?_⟩
        · have hml : m < es.length := by rw [← hkl]; exact (List.getElem?_eq_some_iff.mp hm).1
          rw [getD_is (List.getElem?_eq_getElem hml)]
          exact ec_eval (ev_var rfl) (ev_var rfl) ((hkE m z _ hm (List.getElem?_eq_getElem hml)).ex (x5.trans e6)) (sq_of ((x5.trans e6) _ _ hrow)) (hok.2 r hrL).1 (hok.2 r hrL).2
        · have := map_getD (s := es) (d := .col 0) (F := evE r)
          rw [hkl, this] at h6
          exact h6
        · rw [z, (e4.trans e5) _ _ hhs] at hp; cases hp
        · rw [z, (e4.trans e5) _ _ hrs] at hp; cases hp
    rintro σ5 H5 ⟨fa, rfl, e5, h5, hfh, hfr⟩
    have x5 := x9.trans e5
    refine q_asgLD (ld_ranks (ev_var rfl) (sq_of h5) ⟨fun v hv => hw3.2 v hv, hw2⟩) fun rk H6 ys hrk e6 h6 hD6 => ?_
    have e56 := e5.trans e6
    have x6 := x9.trans e56
    have hokF : ∀ v ∈ fnd ke r, Ok v := hw3.2
    have hrkh : rk ≠ hd := fun z => by rw [z, e5 _ _ hhs] at hrk; cases hrk
    have hrkr : rk ≠ rt := fun z => by rw [z, e5 _ _ hrs] at hrk; cases hrk
    have hS1 : ∀ y ∈ S.1, ∀ v ∈ y, Ok v := fun y hy => by
      obtain ⟨r2, hr2, rfl⟩ := List.mem_map.mp (List.mem_of_mem_take (hreps y hy))
      exact (hF r2 hr2).2.2.2
    have hhs6 := e56 _ _ hhs
    have hrs6 := e56 _ _ hrs
    have hsA6 := hsA.mono (H' := H6) fun q x _ g => RkQ.mn _ _ _ _ e56 g
    have hrsA6 := hrsA.mono (H' := H6) fun q x _ g => PrQ.mn _ _ _ _ e56 g
    have hll : hs.length = S.1.length := hsA.1
    have hrl : rs.length = S.2.2.length := by rw [hrsA.1, ← hMF, List.length_map]
    refine s_when (b := !hasR S.1 (fnd ke r)) (et_test (ev_is (ev_inD (K := K) (neg := true) (d := .list ((fnd ke r).map rkD)) (ds := S.1.map fun x => PyData.list (x.map rkD)) (ed_val (ev_var rfl) (.lst (sq_of h6) hD6)) (ed_val (ev_var rfl) (.lst (sq_of hhs6) (RkQ.dps hsA6))) (sh_ranks hokF) (lays_rows hS1)) (by rw [any_rows hS1 hokF]; rfl))) (fun hb H7 e7 => ?_) fun hb H7 e7 => ?_
    · have hb' : hasR S.1 (fnd ke r) = false := by cases h : hasR S.1 (fnd ke r) with | false => rfl | true => rw [h] at hb; cases hb
      refine s_if (b := decide (t = 3) || decide (S.1.length < mem)) (et_or (et_test (ev_is (ev_op (ev_var rfl) ev_c (rv_eq rfl)) (congrArg V.bl (decide_eq_decide.mpr ⟨fun z => by have := V.int.inj z; omega, fun z => by rw [z]; rfl⟩)))) fun _ => et_test (ev_is (ev_op (ev_len (ev_var rfl) (sq_of (e7 _ _ hhs6))) (ev_var rfl) rv_I0) (by rw [List.length_map, hll]; exact congrArg V.bl (decide_eq_decide.mpr (by omega))))) (fun hc H8 e8 => ?_) fun hc H8 e8 => ?_
      · have e78 := e7.trans e8
        have hhs8 := e78 _ _ hhs6
        refine s_app (v := .ref rk) hhs8 (ev_var rfl) (ev_var rfl) (by rw [List.length_map]; omega) fun H9 e9 => ?_
        have e79 := e78.trans e9
        have hhs9 := e9 _ _ hhs8
        have hS : hstep mem (decide (t = 3)) S (fnd ke r) = (S.1 ++ [fnd ke r], S.2.1 ++ [fnd ke r], S.2.2) := by
          unfold hstep
          rw [if_pos (by rw [hb', Bool.false_or, Bool.or_comm]; exact hc)]
          unfold addR
          rw [if_neg (by rw [hb']; decide)]
        refine ⟨_, _, _, hs ++ [rk], rs, M, rfl, Ex.mut (x6.trans e79) hhd, by rw [upd_same, List.map_append]; rfl, ?_, by rw [upd_ne (Ne.symm hne)]; exact e79 _ _ hrs6, hrsA6.mono fun q x _ g => PrQ.upd hhs9 (.inl rfl) (PrQ.mn _ _ _ _ e79 g), by rw [hstp, hS]; exact hMF, hMm⟩
        rw [hstp, hS]
        exact (hsA6.mono fun q x _ g => RkQ.upd hhs9 (.inl rfl) (RkQ.mn _ _ _ _ e79 g)).snoc (RkQ.upd hhs9 (.inl rfl) ⟨hrkh, hrkr, hokF, ys, e79 _ _ h6, ex_dps e79 hD6⟩)
      · have e78 := e7.trans e8
        have hrs8 := e78 _ _ hrs6
        refine s_atU (l := rt) (ev_var rfl) hrs8 (eu_tup (ea_cons (ev_var rfl) (ea_cons (ev_var rfl) ea_nil)) (by show 2 ≤ 100000; decide)) (by rw [List.length_map]; omega) fun tp H9 htp e9 h9 => ?_
        have e79 := e78.trans e9
        have hrs9 := e9 _ _ hrs8
        have hS : hstep mem (decide (t = 3)) S (fnd ke r) = (S.1, S.2.1, S.2.2 ++ [fnd ke r]) := by
          unfold hstep
          rw [if_neg (by rw [hb', Bool.false_or, Bool.or_comm, hc]; decide)]
        refine ⟨_, _, _, hs, rs ++ [tp], M ++ [r], rfl, Ex.mut (x6.trans e79) hrt0, by rw [upd_ne hne]; exact e79 _ _ hhs6, ?_, by rw [upd_same, List.map_append]; rfl, ?_, ?_, fun z hz => ?_⟩
        · rw [hstp, hS]
          exact hsA6.mono fun q x _ g => RkQ.upd hrs9 (.inr rfl) (RkQ.mn _ _ _ _ e79 g)
        · exact (hrsA6.mono fun q x _ g => PrQ.upd hrs9 (.inr rfl) (PrQ.mn _ _ _ _ e79 g)).snoc (PrQ.upd hrs9 (.inr rfl) ⟨fa, rp, h9, hfh, hfr, (e6.trans e79) _ _ h5, hrow⟩)
        · rw [hstp, hS, List.map_append, hMF]
          rfl
        · rcases List.mem_append.mp hz with h | h
          · exact hMm z h
          · rw [List.mem_singleton.mp h]; exact hrL
    · have hb' : hasR S.1 (fnd ke r) = true := by cases h : hasR S.1 (fnd ke r) with | true => rfl | false => rw [h] at hb; cases hb
      have hS : hstep mem (decide (t = 3)) S (fnd ke r) = (S.1, S.2.1 ++ [fnd ke r], S.2.2) := by
        unfold hstep
        rw [if_pos (by rw [hb']; rfl)]
        unfold addR
        rw [if_pos hb']
      refine ⟨_, _, _, hs, rs, M, rfl, x6.trans e7, e7 _ _ hhs6, ?_, e7 _ _ hrs6, hrsA6.mono fun q x _ g => PrQ.mn _ _ _ _ e7 g, by rw [hstp, hS]; exact hMF, hMm⟩
      rw [hstp, hS]
      exact hsA6.mono fun q x _ g => RkQ.mn _ _ _ _ e7 g
  · obtain ⟨v7, v8, v9, hs, rs, M, rfl, x9, hhs, hsA, hrs, hrsA, hMF, hMm⟩ := pv
    rw [hlen, ← List.length_map (f := fnd ke), List.take_length] at hsA hMF
    have hsum := hold_sum mem (decide (t = 3)) (L.map (fnd ke))
    have hML : M.length ≤ L.length := by
      have : M.length = (holdL mem (decide (t = 3)) (L.map (fnd ke))).2.2.length := by rw [← hMF, List.length_map]
      rw [List.length_map] at hsum
      omega
    have hrl : rs.length = M.length := hrsA.1
    refine q_when (b := decide (M.length = 0)) (et_test (ev_is (ev_op (ev_len (ev_var rfl) (sq_of hrs)) ev_c (rv_eq rfl)) (by rw [List.length_map, hrl]; exact congrArg V.bl (decide_eq_decide.mpr ⟨fun z => by have := V.int.inj z; omega, fun z => by rw [z]; rfl⟩)))) (fun hb H3 e3 => ?_) fun hb H3 e3 => ?_
    · have hM0 : M = [] := List.eq_nil_of_length_eq_zero (of_decide_eq_true hb)
      rw [hM0] at hMF
      refine s_ret ev_c fun H4 e4 => ?_
      have := q H4 (x9.trans (e3.trans e4))
      rw [wr_done ht3 hMF.symm] at this
      exact this
    have hM0 : M.length ≠ 0 := of_decide_eq_false hb
    have ht2 : t ≤ 2 := by
      by_cases h3 : t = 3
      · subst h3
        rw [show (decide ((3 : Nat) = 3)) = true from rfl, hold_all] at hMF
        have := congrArg List.length hMF
        rw [List.length_map] at this
        exact absurd this hM0
      · omega
    obtain ⟨hw, hwF⟩ : True ∧ ∀ r ∈ M, (∀ v ∈ fnd ke r, WV v) ∧ (fnd ke r).length ≤ 1000 ∧ OkRw (fnd ke r) := ⟨trivial, fun r hr => hF r (hMm r hr)⟩
    refine q_empties (fun σ H => el_lst ea_nil (by decide)) (n := 8) ev_c (by decide) (fun _ => rfl) fun pp H4 qs hpp e4 h4 hq8 hnd hqs => ?_
    have hppq : ∀ q ∈ qs, q ≠ pp := fun q hq => (hqs q hq).2.1
    have e34 := e3.trans e4
    have hqH : ∀ q ∈ qs, H' q = none := fun q hq => fresh_back e3 (hqs q hq).2.2
    have hpH : H' pp = none := fresh_back e3 hpp
    refine q_forLG (xs := rs.map V.ref) (ev_var rfl) (sq_of (e34 _ _ hrs)) (LpW H H' kv a f' t mem (fnd ke) h' M hd rt pp qs v9) (fun H5 e5 => ⟨_, _, rfl, e34.trans e5, e5 _ _ h4, fun j q hj => ⟨[], e5 _ _ (hqs q (List.mem_of_getElem? hj)).1, Al2.nil⟩⟩) (fun i σ' H5 _ pv => ?_) (fun i x σ' H5 hi pv => ?_) fun σ' H5 pv => ?_
    · obtain ⟨_, _, rfl, x, _⟩ := pv
      exact sq_of (x _ _ hrs)
    · obtain ⟨u7, u8, rfl, x5, hp5, hq5⟩ := pv
      obtain ⟨tp, r, rfl, htp, hr, fa, rp, htup, _, _, hfa, hrow⟩ := al2_at hrsA hi
      obtain ⟨hw1, hw2, _⟩ := hwF r (List.mem_of_getElem? hr)
      refine gt2 (st_of (x5 _ _ htup)) ?_
      have hp8 : partI h' t (fnd ke r) < 8 := Nat.mod_lt _ (by decide)
      obtain ⟨qi, hqi⟩ : ∃ qi, qs[partI h' t (fnd ke r)]? = some qi := ⟨_, List.getElem?_eq_getElem (by omega)⟩
      have hqm := List.mem_of_getElem? hqi
      obtain ⟨ti, hti, htA⟩ := hq5 _ qi hqi
      obtain ⟨dv, dvn, hdv, hdvn, hd0, hd1⟩ : ∃ (d : Int) (dn : Nat), ([V.int 64, .int 8, .int 1] : List V)[t]? = some (.int d) ∧ (divL2.getD t 1 = dn ∧ d = (dn : Int)) ∧ 0 < d ∧ d < 1073741824 := by
        rcases (show t = 0 ∨ t = 1 ∨ t = 2 by omega) with z | z | z <;> subst z
        · exact ⟨64, 64, rfl, ⟨rfl, rfl⟩, by decide, by decide⟩
        · exact ⟨8, 8, rfl, ⟨rfl, rfl⟩, by decide, by decide⟩
        · exact ⟨1, 1, rfl, ⟨rfl, rfl⟩, by decide, by decide⟩
      have htl : ti.length ≤ 100 := by
        rw [htA.1]
        refine Nat.le_trans (List.length_filter_le _ _) ?_
        rw [List.length_take]
        omega
      refine s_app (l := qi) (v := .ref rp) hti (ev_op (y := .int ((partI h' t (fnd ke r) : Nat) : Int)) (ev_var rfl) (ev_is (ev_op (ev_int (ev_op (x := .int ((h' (fnd ke r) : Nat) : Int)) (fun H6 e6 Q k => ⟨f', spH h', rfl, heldM (P := P) (w := w) (K := K) (mg := mg) (base := base) hH (by omega), .ref fa, rfl, fa, fnd ke r, rfl, (x5.trans e6) _ _ hfa, hw1, hw2, fun H7 e7 => k H7 e7⟩) (ev_ixU (eu_tup (ea_cons ev_c (ea_cons ev_c (ea_cons ev_c ea_nil))) (by show 3 ≤ 100000; decide)) (ev_var rfl) (atI_nat hdv)) (rv_I ⟨hd0, hd1⟩))) ev_c (rv_I (by decide))) (by unfold partI; rw [hdvn.1, hdvn.2, Int.natCast_emod, Int.natCast_ediv]; rfl)) (rv_ixL (sq_of hp5) (atI_nat (by rw [List.getElem?_map, hqi]; rfl)))) (ev_var rfl) (by rw [List.length_map]; omega) fun H6 e6 => ?_
      refine ⟨_, _, rfl, Ex.mut (x5.trans e6) (hqH qi hqm), by rw [upd_ne (Ne.symm (hppq qi hqm))]; exact e6 _ _ hp5, fun j q hj => ?_⟩
      have htk : M.take (i + 1) = M.take i ++ [r] := take_snoc hr
      rw [htk, List.filter_append]
      by_cases hji : j = partI h' t (fnd ke r)
      · subst hji
        rw [hqi] at hj
        cases hj
        have h1 : [r].filter (fun x => decide (partI h' t (fnd ke x) = partI h' t (fnd ke r))) = [r] := by simp
        rw [h1]
        exact ⟨ti ++ [rp], by rw [upd_same, List.map_append]; rfl, (htA.mono fun q x _ g => g).snoc hrow⟩
      · obtain ⟨ts, hts, hTA⟩ := hq5 j q hj
        have h1 : [r].filter (fun x => decide (partI h' t (fnd ke x) = j)) = [] := by simp [Ne.symm hji]
        rw [h1, List.append_nil]
        have hqq : q ≠ qi := fun z => by
          subst z
          have := (List.getElem?_inj (List.getElem?_eq_some_iff.mp hj).1 hnd).mp (hj.trans hqi.symm)
          exact hji this
        exact ⟨ts, by rw [upd_ne hqq]; exact e6 _ _ hts, hTA.mono fun q x _ g => g⟩
    · obtain ⟨u7, u8, rfl, x5, hp5, hq5⟩ := pv
      rw [List.length_map, hrl, List.take_length] at hq5
      have c0 : ((rs.map V.ref).length : Int) = (M.length : Int) := by rw [List.length_map, hrl]
      refine q_asg (v := .int ((M.length : Nat) : Int)) (ev_is (ev_len (ev_var rfl) (sq_of (x5 _ _ hrs))) (by rw [c0])) fun H6 e6 => ?_
      refine q_forLn (xs := qs.map V.ref) (ev_var rfl) (sq_of (e6 _ _ hp5)) (fun i σ' H' => ∃ v12, σ' = [some kv, some (.ref a), some (.int (t : Int)), some (.int (mem : Int)), some (.ref f'), some (.ref hd), some (.ref rt), u7, u8, v9, some (.ref pp), some (.int ((M.length + ((((List.range 8).take i).map fun j => wr h' mem (3 - (t + 1)) ((M.filter fun r => decide (partI h' t (fnd ke r) = j)).map (fnd ke))).sum) : Nat) : Int)), v12, none, none] ∧ Ex H6 H') (fun H7 e7 => ⟨none, rfl, e7⟩) (fun i σ' H7 _ pv => ?_) (fun i x σ' H7 hi pv => ?_) fun σ' H7 pv => ?_
      · obtain ⟨_, rfl, x⟩ := pv
        exact sq_of (x _ _ (e6 _ _ hp5))
      · obtain ⟨v12, rfl, x7⟩ := pv
        rw [List.getElem?_map] at hi
        obtain ⟨qi, hqi, rfl⟩ := Option.map_eq_some_iff.mp hi
        have hi8 : i < 8 := by rw [← hq8]; exact (List.getElem?_eq_some_iff.mp hqi).1
        obtain ⟨ts, hts, hTA⟩ := hq5 i qi hqi
        have xx : Ex H H7 := x9.trans (x5.trans (e6.trans x7))
        have hmem : ∀ r ∈ M.filter (fun r => decide (partI h' t (fnd ke r) = i)), r ∈ L := fun r hr => hMm r (List.mem_filter.mp hr).1
        have hln : (M.filter (fun r => decide (partI h' t (fnd ke r) = i))).length ≤ 100 := Nat.le_trans (List.length_filter_le _ _) (by omega)
        obtain ⟨n', rfl⟩ : ∃ n', rn = n' + 1 := ⟨rn - 1, by omega⟩
        refine s_aug rfl (ev_call (ea_cons (ev_var rfl) (ea_cons (ev_var rfl) (ea_cons (ev_op (ev_var rfl) ev_c rv_I0) (ea_cons (ev_var rfl) (ea_cons (ev_var rfl) ea_nil))))) fun H8 e8 Q k E => ⟨kv, qi, f', t + 1, mem, ke, M.filter (fun r => decide (partI h' t (fnd ke r) = i)), h', rfl, hK.ex (xx.trans e8), ⟨ts, (e6.trans (x7.trans e8)) _ _ hts, hTA.mono fun q x _ g => RowAt.mn _ _ _ _ (xx.trans e8) g⟩, ⟨by omega, fun r hr => hok.2 r (hmem r hr)⟩, ⟨by rw [List.length_map]; exact hln, fun x hx => ?_⟩, by omega, by omega, hH, fun H9 e9 => k H9 e9⟩) fun H8 e8 => ⟨some (.ref qi), ?_, x7.trans e8⟩
        · obtain ⟨r, hr, rfl⟩ := List.mem_map.mp hx
          exact hF r (hmem r hr)
        · have h1 : (List.range 8).take (i + 1) = (List.range 8).take i ++ [i] := take_snoc (by rw [List.getElem?_range hi8])
          rw [h1, List.map_append, List.sum_append, List.map_cons, List.map_nil, List.sum_cons, List.sum_nil, Nat.add_zero, ← Nat.add_assoc, Int.natCast_add]
          rfl
      · obtain ⟨v12, rfl, x7⟩ := pv
        have hl8 : (List.range 8).take (qs.map V.ref).length = List.range 8 := by rw [List.length_map, hq8]; exact List.take_of_length_le (by rw [List.length_range]; exact Nat.le_refl _)
        rw [hl8, ← wr_sum ht2 hMF]
        exact s_ret (ev_var rfl) fun H8 e8 => q H8 (x9.trans (x5.trans (e6.trans (x7.trans e8))))
end

--@SPLIT
section
variable {K : PySem.W.Frag} {σ : L2.St} {H : Hp} {ta tb te : TE} {D : Ends} {tz : TS} {z : V}
theorem ev_callN {sp : Sp} {n m : Nat} {gV : List V → List V → List V} {E : XK} {t tk : TA} {vs zs : List V} (h : EvA t σ H vs) (hk : ∀ H1, Ex H H1 → EvA tk σ H1 zs) (l1 : vs.length = n) (l2 : zs.length = m) (hs : ∀ H1, Ex H H1 → ∀ Q : VK, (∀ H2, Ex H1 H2 → Q z H2) → ∀ E : XK, sp (gV vs zs) H1 Q E) : Ev (tCallN n m sp gV E t tk) σ H z := fun H1 e Q q =>
  h H1 e _ fun H2 e2 => hk H2 (e.trans e2) H2 (Ex.refl H2) _ fun H3 e3 => ⟨l1, l2, hs H3 (e.trans (e2.trans e3)) Q (fun H4 e4 => q H4 (e2.trans (e3.trans e4))) E⟩
theorem q_asgE {i : Nat} (h : te σ H fun v H1 => tz D (σ.set i (some v)) H1) : tSeq (tAsg te (gName i)) tz D σ H := h
end
theorem keyc_ok {e : Cnd} (h : KeyC e) : e.dep ≤ 8 ∧ e.ok 2 := by
  rcases h with ⟨n, hn, rfl⟩ | rfl
  · exact ⟨by show 1 ≤ 8; decide, .col n hn⟩
  · exact ⟨by show 2 ≤ 8; decide, .un _ _ (by decide +kernel) (.col 1 (by decide))⟩
theorem un_wv (nm : Str) (x : V) : WV (unV nm x) := by
  unfold unV
  split
  · unfold neg3
    split
    · exact .bl _
    · split
      · exact .bl _
      · exact .non
  · exact .bl _
theorem keyc_wv {e : Cnd} (h : KeyC e) {r : List V} (hr : r.length = 2) (hd : ∀ x ∈ r, DV x) : WV (evE r e) ∧ Ok (evE r e) := by
  rcases h with ⟨n, hn, rfl⟩ | rfl
  · have hg : r[n]? = some r[n] := List.getElem?_eq_getElem (by omega)
    have : evE r (.col n) = r[n] := getD_is hg
    rw [this]
    have := hd _ (List.getElem_mem (by omega : n < r.length))
    exact ⟨this.wv, dv_ok this⟩
  · exact ⟨un_wv _ _, un_ok _ _⟩
def sp_law (K : PySem.W.Frag) : Sp := fun vs H Q _ => ∃ (a : Addr) (ns : List Int), vs = [.ref a] ∧ SqL K H a (ns.map V.int) ∧ ns.length ≤ 63 ∧ ∀ H', Q (.bl true) H'
theorem sp_law_of {K : PySem.W.Frag} {H : Hp} {a : Addr} {ns : List Int} (hl : ns.length ≤ 63) (hS : SqL K H a (ns.map V.int)) : sp_law K [.ref a] H (fun v _ => v = .bl true) fun _ _ _ => False :=
  ⟨a, ns, rfl, hS, hl, fun _ => rfl⟩
section
variable {P : Program} {w : World} {K : PySem.W.Frag} {mg : Str → Option Value} {base : Heap}
section
variable {σ : L2.St} {H : Hp} {tk tr tm th tz tt : TE} {E : XK} {kv : V} {ke : Option (List Cnd)} {a f : Addr} {mem : Nat} {L : List (List V)} {h : List V → Nat} {z : Str} {es : List Cnd} {t : Addr}
theorem ec_written (hk : Ev tk σ H kv) (hr : Ev tr σ H (.ref a)) (ht : Ev tt σ H (.int 0)) (hm : Ev tm σ H (.int (mem : Int))) (hh : Ev th σ H (.ref f)) (h1 : KeysAt K H kv ke) (h2 : Lst2 RowAt H a L) (h3 : OkRows L) (h4 : OkW (L.map (fnd ke))) (h5 : L2.Held P w K mg base 3 f (spH h)) : Ev (tCall (sp__law_written P w K mg base) [] E (tCons tk (tCons tr (tCons tt (tCons tm (tCons th tNil)))))) σ H (.int ((wr h mem 3 (L.map (fnd ke)) : Nat) : Int)) :=
  ev_call (ea_cons hk (ea_cons hr (ea_cons ht (ea_cons hm (ea_cons hh ea_nil))))) fun H1 e Q q E => ⟨kv, a, f, 0, mem, ke, L, h, rfl, h1.ex e, Lst2.mn RowAt.mn _ _ _ _ e h2, h3, h4, by decide, by decide, h5, q⟩
theorem ec_distinct (hz : Ev tz σ H (.str z)) (hr : Ev tr σ H (.ref a)) (hm : Ev tm σ H (.int (mem : Int))) (hh : Ev th σ H (.ref f)) (h2 : Lst2 RowAt H a L) (h3 : OkRows L) (h4 : OkW L) (h5 : L2.Held P w K mg base 3 f (spH h)) : Ev (tCallN 2 2 (sp_distinct_written P w K mg base) (fun vs zs => vs ++ zs) E (tCons tz (tCons tr tNil)) (tCons tm (tCons th tNil))) σ H (.int ((if decide (V.str z = V.str ("sort" : Str)) = true then (if L.length > mem then L.length else 0) else wr h mem 3 L : Nat) : Int)) :=
  ev_callN (ea_cons hz (ea_cons hr ea_nil)) (fun H1 e1 => ea_cons (hm.mono e1) (ea_cons (hh.mono e1) ea_nil)) rfl rfl fun H1 e Q q E => ⟨z, a, f, mem, L, h, rfl, Lst2.mn RowAt.mn _ _ _ _ e h2, h3, h4, h5, q⟩
theorem ec_group (hz : Ev tz σ H (.str z)) (hk : Ev tk σ H (.ref t)) (hr : Ev tr σ H (.ref a)) (hm : Ev tm σ H (.int (mem : Int))) (hh : Ev th σ H (.ref f)) (h0 : ExprsAt K H t es) (h1 : OkXs es) (h2 : Lst2 RowAt H a L) (h3 : OkRows L) (h4 : OkW (L.map fun r => es.map (evE r))) (h5 : L2.Held P w K mg base 3 f (spH h)) : Ev (tCallN 3 2 (sp_group_written P w K mg base) (fun vs zs => vs ++ zs) E (tCons tz (tCons tk (tCons tr tNil))) (tCons tm (tCons th tNil))) σ H (.int ((if es.isEmpty = true then 0 else if decide (V.str z = V.str ("sort" : Str)) = true then (if L.length > mem then L.length else 0) else wr h mem 3 (L.map fun r => es.map (evE r)) : Nat) : Int)) :=
  ev_callN (ea_cons hz (ea_cons hk (ea_cons hr ea_nil))) (fun H1 e1 => ea_cons (hm.mono e1) (ea_cons (hh.mono e1) ea_nil)) rfl rfl fun H1 e Q q E => ⟨z, t, a, f, mem, es, L, h, rfl, ExprsAt.mn _ _ _ _ e h0, h1, Lst2.mn RowAt.mn _ _ _ _ e h2, h3, h4, h5, q⟩
end
theorem ok_law {f : Addr} {fd : FuncData} (D : C8.Def K mg "law" s_law f fd) (c__law_cell : C8.Cal P w K mg base 1 "_law_cell" (sp__law_cell K) []) (c__law_digit : C8.Cal P w K mg base 1 "_law_digit" (sp__law_digit K) []) (c__law_hash : C8.Cal P w K mg base 4 "_law_hash" (sp__law_hash P w K mg base) []) (c__law_is_integer : C8.Cal P w K mg base 1 "_law_is_integer" (sp__law_is_integer K) []) (c__law_key_list : C8.Cal P w K mg base 2 "_law_key_list" (sp__law_key_list K) []) (c__law_rows : C8.Cal P w K mg base 4 "_law_rows" (sp__law_rows K) []) (c__law_state : C8.Cal P w K mg base 1 "_law_state" (sp__law_state K) []) (c__law_written : C8.Cal P w K mg base 20 "_law_written" (sp__law_written P w K mg base) []) (c_distinct_written : CalK P w K mg base 6 "distinct_written" 2 ["memory", "hashed"] (sp_distinct_written P w K mg base)) (c_group_written : CalK P w K mg base 18 "group_written" 3 ["memory", "hashed"] (sp_group_written P w K mg base)) (z_int : mg "int" = none) (z_len : mg "len" = none) (z_max : mg "max" = none) (z_range : mg "range" = none) :
    FnOk P w K mg base C8.CX0 21 f fd ["script"] (sp_law K) := by
  refine C8.fn0 D.fn sc_law (fun vs H Q E h => ?_) (fun cdv A outer s H vs Q E hr h => ?_)
  · obtain ⟨_, _, rfl, _⟩ := h
    rfl
  refine ⟨_, (pss_cons (ps_set (i := 1) sc_law.nd rfl (.inl rfl) (C8.pe_c c__law_rows hr (by decide) (by rfl) (pa_cons (pv 0) (pa_cons pe_int (pa_cons pe_int (pa_cons pe_int pa_nil))))))
    (pss_cons (ps_for PassesOwn.never rfl (pi_range1 rfl z_range (pa_cons pe_int pa_nil)) (pg_name (i := 2) sc_law.nd rfl (.inl rfl))
      (pss_cons (ps_set (i := 3) sc_law.nd rfl (.inl rfl) (C8.pe_c c__law_state hr (by decide) (by rfl) (pa_cons (C8.pe_c c__law_cell hr (by decide) (by rfl) (pa_cons (pv 0) (pa_cons pe_int pa_nil))) (pa_cons (pe_op op_add pe_int (pv 2)) pa_nil))))
    (pss_cons (ps_set (i := 4) sc_law.nd rfl (.inl rfl) (C8.pe_c c__law_key_list hr (by decide) (by rfl) (pa_cons (pv 3) pa_nil)))
    (pss_cons (ps_set (i := 5) sc_law.nd rfl (.inl rfl) (pe_ix ix_tup (pe_tup (pa_cons (pe_op op_add pe_int (C8.pe_c c__law_digit hr (by decide) (by rfl) (pa_cons (pv 3) (pa_cons pe_int pa_nil)))) (pa_cons (pe_callB (call_max2 rfl) (by rfl) z_max (by decide +kernel) (pa_cons pe_int (pa_cons (pe_callB call_len_seq (by rfl) z_len PySem.boot_len (pa_cons (pv 1) pa_nil)) pa_nil))) (pa_cons (pe_callB (call_max2 rfl) (by rfl) z_max (by decide +kernel) (pa_cons pe_int (pa_cons (pe_op op_sub (pe_callB call_len_seq (by rfl) z_len PySem.boot_len (pa_cons (pv 1) pa_nil)) pe_int) pa_nil))) pa_nil)))) (C8.pe_c c__law_digit hr (by decide) (by rfl) (pa_cons (pv 3) (pa_cons pe_int pa_nil))) (fun _ _ => rfl)))
    (pss_cons (ps_set (i := 6) sc_law.nd rfl (.inl rfl) (C8.pe_c c__law_hash hr (by decide) (by rfl) (pa_cons (C8.pe_c c__law_digit hr (by decide) (by rfl) (pa_cons (pv 3) (pa_cons pe_int pa_nil))) pa_nil)))
    (pss_cons (ps_set (i := 7) sc_law.nd rfl (.inl rfl) (pe_op op_mul (pe_callB call_len_seq (by rfl) z_len PySem.boot_len (pa_cons (pv 1) pa_nil)) (pe_callTy call_int1 (by rfl) z_int (by decide +kernel) (pa_cons (pe_cmpR op_gt (pe_callB call_len_seq (by rfl) z_len PySem.boot_len (pa_cons (pv 1) pa_nil)) (pv 5) (nomark _)) pa_nil))))
    (pss_cons (ps_set (i := 8) sc_law.nd rfl (.inl rfl) pe_int)
    (pss_cons (ps_if (pt_cmpR op_gt (pe_callB call_len_seq (by rfl) z_len PySem.boot_len (pa_cons (pv 4) pa_nil)) pe_int (nomark _))
      (pss_one (ps_set (i := 8) sc_law.nd rfl (.inl rfl) (C8.pe_c c__law_written hr (by decide) (by rfl) (pa_cons (pv 4) (pa_cons (pv 1) (pa_cons pe_int (pa_cons (pv 5) (pa_cons (pv 6) pa_nil))))))))
      pss_nil)
    (pss_cons (ps_set (i := 9) sc_law.nd rfl (.inl rfl) (pe_cK c_group_written hr (by decide) (by rfl) (pa_cons pe_str (pa_cons (pv 4) (pa_cons (pv 1) pa_nil))) (pk_cons (pv 5) (pk_cons (pv 6) pk_nil))))
    (pss_cons (ps_if (PW.pt (pw_or (pt_not (pt_val (C8.pe_c c__law_is_integer hr (by decide) (by rfl) (pa_cons (pv 9) pa_nil)))) (pw_or1 (pt_cmpR op_ne (pv 9) (pv 8) (nomark _)))))
      (pss_one (ps_ret pe_bl))
      pss_nil)
    (pss_cons (ps_if (pt_cmpR op_ne (pe_cK c_group_written hr (by decide) (by rfl) (pa_cons pe_str (pa_cons (pv 4) (pa_cons (pv 1) pa_nil))) (pk_cons (pv 5) (pk_cons (pv 6) pk_nil))) (pe_op op_mul (pv 7) (pe_callTy call_int1 (by rfl) z_int (by decide +kernel) (pa_cons (pe_cmpR op_gt (pe_callB call_len_seq (by rfl) z_len PySem.boot_len (pa_cons (pv 4) pa_nil)) pe_int (nomark _)) pa_nil))) (nomark _))
      (pss_one (ps_ret pe_bl))
      pss_nil)
    (pss_cons (ps_set (i := 9) sc_law.nd rfl (.inl rfl) (pe_cK c_distinct_written hr (by decide) (by rfl) (pa_cons pe_str (pa_cons (pv 1) pa_nil)) (pk_cons (pv 5) (pk_cons (pv 6) pk_nil))))
    (pss_cons (ps_if (PW.pt (pw_or (pt_not (pt_val (C8.pe_c c__law_is_integer hr (by decide) (by rfl) (pa_cons (pv 9) pa_nil)))) (pw_or1 (pt_cmpR op_ne (pv 9) (C8.pe_c c__law_written hr (by decide) (by rfl) (pa_cons pe_non (pa_cons (pv 1) (pa_cons pe_int (pa_cons (pv 5) (pa_cons (pv 6) pa_nil)))))) (nomark _)))))
      (pss_one (ps_ret pe_bl))
      pss_nil)
    (pss_one (ps_if (pt_cmpR op_ne (pe_cK c_distinct_written hr (by decide) (by rfl) (pa_cons pe_str (pa_cons (pv 1) pa_nil)) (pk_cons (pv 5) (pk_cons (pv 6) pk_nil))) (pv 7) (nomark _))
      (pss_one (ps_ret pe_bl))
      pss_nil)))))))))))))))
    (pss_one (ps_ret pe_bl)))), ?_⟩
  obtain ⟨a, ns, rfl, hS, h63, q⟩ := h
  refine q_asgE ⟨.ref a, rfl, a, ns, 1, 45, 2, rfl, hS, h63, by decide, by decide, by decide, fun pr H1 L hpr e1 hL hLd hL63 => ?_⟩
  have hOk : OkRows L := ⟨by omega, fun r hr => ⟨fun x hx => dv_ok ((hLd r hr).2 x hx), by rw [(hLd r hr).1]; decide⟩⟩
  have hOkW : OkW L := ⟨by omega, fun r hr => ⟨fun x hx => ((hLd r hr).2 x hx).wv, by rw [(hLd r hr).1]; decide, by rw [(hLd r hr).1]; decide, fun x hx => dv_ok ((hLd r hr).2 x hx)⟩⟩
  have hid : L.map (fnd none) = L := List.map_id L
  refine q_forR1 (n := 6) (ea_cons ev_c ea_nil) ⟨by decide, by decide⟩ (fun i σ' H' => ∃ v2 v3 v4 v5 v6 v7 v8 v9, σ' = [some (.ref a), some (.ref pr), v2, v3, v4, v5, v6, v7, v8, v9] ∧ Ex H1 H') (fun H2 e2 => ⟨none, none, none, none, none, none, none, none, rfl, e2⟩) (fun i σ' Ho hi pv => ?_) fun σ' H' pv => ?_
  · obtain ⟨v2, v3, v4, v5, v6, v7, v8, v9, rfl, xo⟩ := pv
    refine q_asgC (ec_state (ec_cell (k := 0) (ev_var rfl) ev_c (ex_l (e1.trans xo) hS) (by decide)) (ev_op ev_c (ev_var rfl) rv_I0)) fun ps Ha hps ea da => ?_
    refine q_asgE ⟨.ref ps, rfl, ps, rfl, da, fun v Hb es hes hel hD eb db => ?_⟩
    have xb : Ex Ho Hb := wx_back hps ea eb
    have hlen : ∀ {Hx : Hp}, Ex H1 Hx → ∃ qs : List Addr, Hx pr = some (.lst (qs.map V.ref)) ∧ qs.length = L.length := fun ex => by
      obtain ⟨qs, h1, h2⟩ := hL
      exact ⟨qs, ex _ _ h1, h2.1⟩
    have evl : ∀ {Hx : Hp} {σ : L2.St}, Ex H1 Hx → σ[1]? = some (some (V.ref pr)) → Ev (tCB (fun xs H Q => ∃ p ys, xs = [.ref p] ∧ (SqL K H p ys ∨ SqT K H p ys) ∧ Q (.int ys.length) H) (tCons (tVar 1) tNil)) σ Hx (.int (L.length : Int)) := fun ex h => by
      obtain ⟨qs, h1, h2⟩ := hlen ex
      exact ev_is (ev_len (ev_var h) (sq_of h1)) (by rw [List.length_map, h2])
    have xwb : Ex H1 (wo ps Hb) := wx_to (fresh_back xo hps) (xo.trans xb)
    refine qx_asg (x_ix (R := fun d => ∃ i : Int, d = .int i ∧ 0 ≤ i) (m := 3) (PL := fun ds => ∃ i j k : Int, ds = [.int i, .int j, .int k] ∧ 0 ≤ i ∧ 0 ≤ j ∧ 0 ≤ k) (x_mono (x_tup (xa_cons (x_int (PI := fun i => 0 ≤ i) (ez_op0 (e1_int (PI := fun j => j = 1) ev_c rfl) (ez_digit (ev_var rfl) ev_c (by decide) (by decide)) fun i j hi hj => by omega)) (xa_cons (x_int (PI := fun i => 0 ≤ i) (e1_int (Evl.ev_max2 ev_c (evl xwb rfl)) (by split <;> omega))) (xa_cons (x_int (PI := fun i => 0 ≤ i) (e1_int (Evl.ev_max2 ev_c (ev_op (evl xwb rfl) ev_c rv_I0)) (by split <;> omega))) xa_nil))) ?_) ?_) (ez_digit (ev_var rfl) ev_c (by decide) (by decide)) ?_) db fun vm Hc d' ⟨mi, hd', hm0⟩ hn' hv' ec dc => ?_
    · rintro ds ⟨_, _, rfl, _, _, _, rfl, _, _, _, rfl, _, rfl⟩
      show 3 ≤ 100000
      decide
    · rintro d ⟨ds, rfl, _, _, rfl, ⟨i, hi, rfl⟩, _, _, rfl, ⟨j, hj, rfl⟩, _, _, rfl, ⟨k, hk, rfl⟩, rfl⟩
      exact ⟨_, rfl, i, j, k, rfl, hi, hj, hk⟩
    · rintro ds j ⟨i1, i2, i3, rfl, h1, h2, h3⟩ hj
      rcases (show j = 0 ∨ j = 1 ∨ j = 2 by omega) with z | z | z <;> subst z
      · exact ⟨_, rfl, i1, rfl, h1⟩
      · exact ⟨_, rfl, i2, rfl, h2⟩
      · exact ⟨_, rfl, i3, rfl, h3⟩
    subst hd'
    cases hv'
    obtain ⟨mem, rfl⟩ := Int.eq_ofNat_of_zero_le hm0
    refine q_asgE ((ez_digit (ev_var rfl) ev_c (by decide) (by decide)) Hc (wo_le _ _) dc _ fun vk Hd ⟨n, hvn, hn⟩ ed dd => ?_)
    subst hvn
    refine ⟨n, rfl, hn.1, hn.2, fun f' h' He hH ee => ?_⟩
    have hnl : noL (.tuple (es.map Cnd.d)) = true := noLs_cx es
    have hDe : Dp K He v (.tuple (es.map Cnd.d)) := ex_dp ee (dp_wx hD hnl db (wx_trans ec ed))
    have xe : Ex H1 He := xo.trans ((wx_back hps xb (wx_trans ec ed)).trans ee)
    obtain ⟨t, ys, rfl, hSt, hDs⟩ := dp_tupD hDe
    have hyl : ys.length = es.length := by have := dps_len hDs; rw [List.length_map] at this; exact this
    have hEx : ExprsAt K He t es := ⟨ys, hSt, hyl, fun i v x h1 h2 => by
      obtain ⟨y, hy, hd⟩ := dps_atI (i := i) (d := x.d) hDs (by rw [List.getElem?_map, h2]; rfl)
      rw [hy] at h1
      cases h1
      obtain ⟨g1, g2⟩ := keyc_ok (hes x (List.mem_of_getElem? h2))
      exact ⟨hd, g1, 2, g2⟩⟩
    have hXs : OkXs es := ⟨by omega, fun e he => ⟨2, (keyc_ok (hes e he)).2⟩⟩
    have hOkE : OkW (L.map fun r => es.map (evE r)) := ⟨by rw [List.length_map]; omega, fun x hx => by
      obtain ⟨r, hr, rfl⟩ := List.mem_map.mp hx
      obtain ⟨g1, g2⟩ := hLd r hr
      refine ⟨fun v hv => ?_, by rw [List.length_map]; omega, by rw [List.length_map]; omega, fun v hv => ?_⟩
      · obtain ⟨e, he, rfl⟩ := List.mem_map.mp hv
        exact (keyc_wv (hes e he) g1 g2).1
      · obtain ⟨e, he, rfl⟩ := List.mem_map.mp hv
        exact (keyc_wv (hes e he) g1 g2).2⟩
    have hLe : Lst2 RowAt He pr L := Lst2.mn RowAt.mn _ _ _ _ xe hL
    have nh : decide (V.str ("hash" : Str) = V.str ("sort" : Str)) = false := by decide +kernel
    have ns' : decide (V.str ("sort" : Str) = V.str ("sort" : Str)) = true := by decide +kernel
    have gt0 : ∀ (b : Bool), (if b = true then (1 : Int) else 0) = if b = true then 1 else 0 := fun _ => rfl
    refine q_asg (v := .int ((if L.length > mem then L.length else 0 : Nat) : Int)) (ev_is (ev_op (evl xe rfl) (ev_intB (b := decide (L.length > mem)) (ev_is (ev_op (evl xe rfl) (ev_var rfl) rv_I0) (congrArg V.bl (decide_eq_decide.mpr (by omega))))) (rv_I (.inr (by split <;> exact ⟨by decide, by decide⟩)))) ?_) fun Hf ef => ?_
    · by_cases hm : L.length > mem
      · rw [decide_eq_true hm, if_pos rfl, if_pos hm, Int.mul_one]
      · rw [decide_eq_false hm, if_neg hm]
        rfl
    refine q_asg (v := .int ((0 : Nat) : Int)) ev_c fun Hg eg => ?_
    have xg := ef.trans eg
    have hLg := Lst2.mn RowAt.mn _ _ _ _ xg hLe
    have hEg := ExprsAt.mn _ _ _ _ xg hEx
    have evk : ∀ {Hx : Hp} {σ : L2.St}, Ex He Hx → σ[4]? = some (some (V.ref t)) → Ev (tOp (rI0 fun i j => .bl (decide (i > j))) (tCB (fun xs H Q => ∃ p ys, xs = [.ref p] ∧ (SqL K H p ys ∨ SqT K H p ys) ∧ Q (.int ys.length) H) (tCons (tVar 4) tNil)) (tC (.int 0))) σ Hx (.bl (!es.isEmpty)) := fun ex h => ev_is (ev_op (ev_lenT (ev_var h) (ex_t ex hSt)) ev_c rv_I0) (by
      rw [hyl]
      cases es with
      | nil => rfl
      | cons x r => exact congrArg V.bl (decide_eq_true (by rw [List.length_cons]; omega)))
    refine q_ifI (p := ((wr h' mem 3 (L.map (fnd (some es))) : Nat) : Int)) (q := ((0 : Nat) : Int)) (et_test (evk xg rfl)) (fun _ => ec_written (ev_var rfl) (ev_var rfl) ev_c (ev_var rfl) (ev_var rfl) (ke := some es) ⟨t, rfl, hEg, hXs⟩ hLg hOk hOkE hH) rfl fun Hh eh => ?_
    have xh := xg.trans eh
    have hLh := Lst2.mn RowAt.mn _ _ _ _ xh hLe
    have hEh := ExprsAt.mn _ _ _ _ xh hEx
    have hdue : (if (!es.isEmpty) = true then ((wr h' mem 3 (L.map (fnd (some es))) : Nat) : Int) else ((0 : Nat) : Int)) = ((if es.isEmpty = true then 0 else if decide (V.str ("hash" : Str) = V.str ("sort" : Str)) = true then (if L.length > mem then L.length else 0) else wr h' mem 3 (L.map fun r => es.map (evE r)) : Nat) : Int) := by
      rw [nh]
      cases es.isEmpty <;> rfl
    rw [hdue]
    generalize hgw : (if es.isEmpty = true then 0 else if decide (V.str ("hash" : Str) = V.str ("sort" : Str)) = true then (if L.length > mem then L.length else 0) else wr h' mem 3 (L.map fun r => es.map (evE r)) : Nat) = gw
    refine q_asg (v := .int (gw : Int)) (ev_is (ec_group ev_c (ev_var rfl) (ev_var rfl) (ev_var rfl) (ev_var rfl) hEh hXs hLh hOk hOkE hH) (by rw [hgw])) fun Hi ei => ?_
    have xi := xh.trans ei
    refine q_when (b := !true || !decide (V.int (gw : Int) = V.int (gw : Int))) (et_or (et_not (et_B (ec_isint (x := .int (gw : Int)) (ev_var rfl) (.int _)))) fun _ => et_test (ev_op (ev_var rfl) (ev_var rfl) (rv_ne rfl))) (fun hb => by simp at hb) fun _ Hj ej => ?_
    have xj := xi.trans ej
    have hLj := Lst2.mn RowAt.mn _ _ _ _ xj hLe
    have hEj := ExprsAt.mn _ _ _ _ xj hEx
    generalize hso : (if L.length > mem then L.length else 0 : Nat) = so
    refine q_when (b := !decide (V.int ((if es.isEmpty = true then 0 else so : Nat) : Int) = V.int ((if es.isEmpty = true then 0 else so : Nat) : Int))) (et_test (ev_op (ev_is (ec_group ev_c (ev_var rfl) (ev_var rfl) (ev_var rfl) (ev_var rfl) hEj hXs hLj hOk hOkE hH) (by rw [ns', if_pos rfl, hso])) (ev_is (ev_op (ev_var rfl) (ev_intB (evk xj rfl)) (rv_I (.inr (by split <;> exact ⟨by decide, by decide⟩)))) ?_) (rv_ne rfl))) (fun hb => by simp at hb) fun _ Hk ek => ?_
    · cases es.isEmpty
      · show V.int ((so : Int) * 1) = V.int (so : Int)
        rw [Int.mul_one]
      · show V.int ((so : Int) * 0) = V.int 0
        rw [Int.mul_zero]
    have xk := xj.trans ek
    have hLk := Lst2.mn RowAt.mn _ _ _ _ xk hLe
    refine q_asg (v := .int ((wr h' mem 3 L : Nat) : Int)) (ev_is (ec_distinct ev_c (ev_var rfl) (ev_var rfl) (ev_var rfl) hLk hOk hOkW hH) (by rw [nh]; rfl)) fun Hl el => ?_
    have xl := xk.trans el
    have hLl := Lst2.mn RowAt.mn _ _ _ _ xl hLe
    refine q_when (b := !true || !decide (V.int ((wr h' mem 3 L : Nat) : Int) = V.int ((wr h' mem 3 L : Nat) : Int))) (et_or (et_not (et_B (ec_isint (x := .int _) (ev_var rfl) (.int _)))) fun _ => et_test (ev_op (ev_var rfl) (ev_is (ec_written ev_c (ev_var rfl) ev_c (ev_var rfl) (ev_var rfl) (ke := none) rfl hLl hOk (by rw [hid]; exact hOkW) hH) (by rw [hid])) (rv_ne rfl))) (fun hb => by simp at hb) fun _ Hm em => ?_
    have xm := xl.trans em
    have hLm := Lst2.mn RowAt.mn _ _ _ _ xm hLe
    exact s_when (b := !decide (V.int (so : Int) = V.int (so : Int))) (et_test (ev_op (ev_is (ec_distinct ev_c (ev_var rfl) (ev_var rfl) (ev_var rfl) hLm hOk hOkW hH) (by rw [ns', if_pos rfl, hso])) (ev_var rfl) (rv_ne rfl))) (fun hb => by simp at hb) fun _ Hn en => ⟨_, _, _, _, _, _, _, _, rfl, xe.trans (xm.trans en)⟩
  · obtain ⟨v2, v3, v4, v5, v6, v7, v8, v9, rfl, xo⟩ := pv
    exact s_ret ev_c fun H5 e5 => q H5
end

theorem all_mk {P : Program} {w : World} {K : PySem.W.Frag} {h : Heap} {mg : Str → Option Value} {fa : Addr} (X : K.In h) (G : h.Ns mainGlobals mg) (hfa : mg "law" = some (.ref fa))
    {f0 : Addr} {od0 an0 : Option Addr} {sl0 : Array (Option Value)} {oc0 kV0 dc0 pm0 cd0 ct0 : Value} (a0 : PySem.W.nsIn K mainGlobals "kind_rank" = some (some (.ref f0))) (l0 : K.lookup f0 = some ⟨oc0, od0, .func (PySem.W.fnOf "kind_rank" "kind_rank" (C8.fnArgs s_kind_rank) (C8.fnBody s_kind_rank) (C8.fnScope s_kind_rank) .none kV0 dc0 pm0 an0 cd0 ct0), sl0⟩) (b0 : PySem.W.codeIn K cd0 "kind_rank" = true) (k0 : PySem.W.keepIn K (.ref f0) = true)
    {f1 : Addr} {od1 an1 : Option Addr} {sl1 : Array (Option Value)} {oc1 kV1 dc1 pm1 cd1 ct1 : Value} (a1 : PySem.W.nsIn K mainGlobals "is_integer" = some (some (.ref f1))) (l1 : K.lookup f1 = some ⟨oc1, od1, .func (PySem.W.fnOf "is_integer" "is_integer" (C8.fnArgs s_is_integer) (C8.fnBody s_is_integer) (C8.fnScope s_is_integer) .none kV1 dc1 pm1 an1 cd1 ct1), sl1⟩) (b1 : PySem.W.codeIn K cd1 "is_integer" = true) (k1 : PySem.W.keepIn K (.ref f1) = true)
    {f2 : Addr} {od2 an2 : Option Addr} {sl2 : Array (Option Value)} {oc2 kV2 dc2 pm2 cd2 ct2 : Value} (a2 : PySem.W.nsIn K mainGlobals "rank" = some (some (.ref f2))) (l2 : K.lookup f2 = some ⟨oc2, od2, .func (PySem.W.fnOf "rank" "rank" (C8.fnArgs s_rank) (C8.fnBody s_rank) (C8.fnScope s_rank) .none kV2 dc2 pm2 an2 cd2 ct2), sl2⟩) (b2 : PySem.W.codeIn K cd2 "rank" = true) (k2 : PySem.W.keepIn K (.ref f2) = true)
    {f3 : Addr} {od3 an3 : Option Addr} {sl3 : Array (Option Value)} {oc3 kV3 dc3 pm3 cd3 ct3 : Value} (a3 : PySem.W.nsIn K mainGlobals "row_rank" = some (some (.ref f3))) (l3 : K.lookup f3 = some ⟨oc3, od3, .func (PySem.W.fnOf "row_rank" "row_rank" (C8.fnArgs s_row_rank) (C8.fnBody s_row_rank) (C8.fnScope s_row_rank) .none kV3 dc3 pm3 an3 cd3 ct3), sl3⟩) (b3 : PySem.W.codeIn K cd3 "row_rank" = true) (k3 : PySem.W.keepIn K (.ref f3) = true)
    {f4 : Addr} {od4 an4 : Option Addr} {sl4 : Array (Option Value)} {oc4 kV4 dc4 pm4 cd4 ct4 : Value} (a4 : PySem.W.nsIn K mainGlobals "same" = some (some (.ref f4))) (l4 : K.lookup f4 = some ⟨oc4, od4, .func (PySem.W.fnOf "same" "same" (C8.fnArgs s_same) (C8.fnBody s_same) (C8.fnScope s_same) .none kV4 dc4 pm4 an4 cd4 ct4), sl4⟩) (b4 : PySem.W.codeIn K cd4 "same" = true) (k4 : PySem.W.keepIn K (.ref f4) = true)
    {f5 : Addr} {od5 an5 : Option Addr} {sl5 : Array (Option Value)} {oc5 kV5 dc5 pm5 cd5 ct5 : Value} (a5 : PySem.W.nsIn K mainGlobals "before" = some (some (.ref f5))) (l5 : K.lookup f5 = some ⟨oc5, od5, .func (PySem.W.fnOf "before" "before" (C8.fnArgs s_before) (C8.fnBody s_before) (C8.fnScope s_before) .none kV5 dc5 pm5 an5 cd5 ct5), sl5⟩) (b5 : PySem.W.codeIn K cd5 "before" = true) (k5 : PySem.W.keepIn K (.ref f5) = true)
    {f6 : Addr} {od6 an6 : Option Addr} {sl6 : Array (Option Value)} {oc6 kV6 dc6 pm6 cd6 ct6 : Value} (a6 : PySem.W.nsIn K mainGlobals "negated" = some (some (.ref f6))) (l6 : K.lookup f6 = some ⟨oc6, od6, .func (PySem.W.fnOf "negated" "negated" (C8.fnArgs s_negated) (C8.fnBody s_negated) (C8.fnScope s_negated) .none kV6 dc6 pm6 an6 cd6 ct6), sl6⟩) (b6 : PySem.W.codeIn K cd6 "negated" = true) (k6 : PySem.W.keepIn K (.ref f6) = true)
    {f7 : Addr} {od7 an7 : Option Addr} {sl7 : Array (Option Value)} {oc7 kV7 dc7 pm7 cd7 ct7 : Value} (a7 : PySem.W.nsIn K mainGlobals "both" = some (some (.ref f7))) (l7 : K.lookup f7 = some ⟨oc7, od7, .func (PySem.W.fnOf "both" "both" (C8.fnArgs s_both) (C8.fnBody s_both) (C8.fnScope s_both) .none kV7 dc7 pm7 an7 cd7 ct7), sl7⟩) (b7 : PySem.W.codeIn K cd7 "both" = true) (k7 : PySem.W.keepIn K (.ref f7) = true)
    {f8 : Addr} {od8 an8 : Option Addr} {sl8 : Array (Option Value)} {oc8 kV8 dc8 pm8 cd8 ct8 : Value} (a8 : PySem.W.nsIn K mainGlobals "either" = some (some (.ref f8))) (l8 : K.lookup f8 = some ⟨oc8, od8, .func (PySem.W.fnOf "either" "either" (C8.fnArgs s_either) (C8.fnBody s_either) (C8.fnScope s_either) .none kV8 dc8 pm8 an8 cd8 ct8), sl8⟩) (b8 : PySem.W.codeIn K cd8 "either" = true) (k8 : PySem.W.keepIn K (.ref f8) = true)
    {f9 : Addr} {od9 an9 : Option Addr} {sl9 : Array (Option Value)} {oc9 kV9 dc9 pm9 cd9 ct9 : Value} (a9 : PySem.W.nsIn K mainGlobals "value_of_one" = some (some (.ref f9))) (l9 : K.lookup f9 = some ⟨oc9, od9, .func (PySem.W.fnOf "value_of_one" "value_of_one" (C8.fnArgs s_value_of_one) (C8.fnBody s_value_of_one) (C8.fnScope s_value_of_one) .none kV9 dc9 pm9 an9 cd9 ct9), sl9⟩) (b9 : PySem.W.codeIn K cd9 "value_of_one" = true) (k9 : PySem.W.keepIn K (.ref f9) = true)
    {f10 : Addr} {od10 an10 : Option Addr} {sl10 : Array (Option Value)} {oc10 kV10 dc10 pm10 cd10 ct10 : Value} (a10 : PySem.W.nsIn K mainGlobals "_both" = some (some (.ref f10))) (l10 : K.lookup f10 = some ⟨oc10, od10, .func (PySem.W.fnOf "_both" "_both" (C8.fnArgs s__both) (C8.fnBody s__both) (C8.fnScope s__both) .none kV10 dc10 pm10 an10 cd10 ct10), sl10⟩) (b10 : PySem.W.codeIn K cd10 "_both" = true) (k10 : PySem.W.keepIn K (.ref f10) = true)
    {f11 : Addr} {od11 an11 : Option Addr} {sl11 : Array (Option Value)} {oc11 kV11 dc11 pm11 cd11 ct11 : Value} (a11 : PySem.W.nsIn K mainGlobals "_either" = some (some (.ref f11))) (l11 : K.lookup f11 = some ⟨oc11, od11, .func (PySem.W.fnOf "_either" "_either" (C8.fnArgs s__either) (C8.fnBody s__either) (C8.fnScope s__either) .none kV11 dc11 pm11 an11 cd11 ct11), sl11⟩) (b11 : PySem.W.codeIn K cd11 "_either" = true) (k11 : PySem.W.keepIn K (.ref f11) = true)
    {f12 : Addr} {od12 an12 : Option Addr} {sl12 : Array (Option Value)} {oc12 kV12 dc12 pm12 cd12 ct12 : Value} (a12 : PySem.W.nsIn K mainGlobals "_same" = some (some (.ref f12))) (l12 : K.lookup f12 = some ⟨oc12, od12, .func (PySem.W.fnOf "_same" "_same" (C8.fnArgs s__same) (C8.fnBody s__same) (C8.fnScope s__same) .none kV12 dc12 pm12 an12 cd12 ct12), sl12⟩) (b12 : PySem.W.codeIn K cd12 "_same" = true) (k12 : PySem.W.keepIn K (.ref f12) = true)
    {f13 : Addr} {od13 an13 : Option Addr} {sl13 : Array (Option Value)} {oc13 kV13 dc13 pm13 cd13 ct13 : Value} (a13 : PySem.W.nsIn K mainGlobals "_equal" = some (some (.ref f13))) (l13 : K.lookup f13 = some ⟨oc13, od13, .func (PySem.W.fnOf "_equal" "_equal" (C8.fnArgs s__equal) (C8.fnBody s__equal) (C8.fnScope s__equal) .none kV13 dc13 pm13 an13 cd13 ct13), sl13⟩) (b13 : PySem.W.codeIn K cd13 "_equal" = true) (k13 : PySem.W.keepIn K (.ref f13) = true)
    {f14 : Addr} {od14 an14 : Option Addr} {sl14 : Array (Option Value)} {oc14 kV14 dc14 pm14 cd14 ct14 : Value} (a14 : PySem.W.nsIn K mainGlobals "_less" = some (some (.ref f14))) (l14 : K.lookup f14 = some ⟨oc14, od14, .func (PySem.W.fnOf "_less" "_less" (C8.fnArgs s__less) (C8.fnBody s__less) (C8.fnScope s__less) .none kV14 dc14 pm14 an14 cd14 ct14), sl14⟩) (b14 : PySem.W.codeIn K cd14 "_less" = true) (k14 : PySem.W.keepIn K (.ref f14) = true)
    {f15 : Addr} {od15 an15 : Option Addr} {sl15 : Array (Option Value)} {oc15 kV15 dc15 pm15 cd15 ct15 : Value} (a15 : PySem.W.nsIn K mainGlobals "_at_most" = some (some (.ref f15))) (l15 : K.lookup f15 = some ⟨oc15, od15, .func (PySem.W.fnOf "_at_most" "_at_most" (C8.fnArgs s__at_most) (C8.fnBody s__at_most) (C8.fnScope s__at_most) .none kV15 dc15 pm15 an15 cd15 ct15), sl15⟩) (b15 : PySem.W.codeIn K cd15 "_at_most" = true) (k15 : PySem.W.keepIn K (.ref f15) = true)
    {f16 : Addr} {od16 an16 : Option Addr} {sl16 : Array (Option Value)} {oc16 kV16 dc16 pm16 cd16 ct16 : Value} (a16 : PySem.W.nsIn K mainGlobals "_are_alike" = some (some (.ref f16))) (l16 : K.lookup f16 = some ⟨oc16, od16, .func (PySem.W.fnOf "_are_alike" "_are_alike" (C8.fnArgs s__are_alike) (C8.fnBody s__are_alike) (C8.fnScope s__are_alike) .none kV16 dc16 pm16 an16 cd16 ct16), sl16⟩) (b16 : PySem.W.codeIn K cd16 "_are_alike" = true) (k16 : PySem.W.keepIn K (.ref f16) = true)
    {f17 : Addr} {od17 an17 : Option Addr} {sl17 : Array (Option Value)} {oc17 kV17 dc17 pm17 cd17 ct17 : Value} (a17 : PySem.W.nsIn K mainGlobals "value_of_two" = some (some (.ref f17))) (l17 : K.lookup f17 = some ⟨oc17, od17, .func (PySem.W.fnOf "value_of_two" "value_of_two" (C8.fnArgs s_value_of_two) (C8.fnBody s_value_of_two) (C8.fnScope s_value_of_two) .none kV17 dc17 pm17 an17 cd17 ct17), sl17⟩) (b17 : PySem.W.codeIn K cd17 "value_of_two" = true) (k17 : PySem.W.keepIn K (.ref f17) = true)
    {f18 : Addr} {od18 an18 : Option Addr} {sl18 : Array (Option Value)} {oc18 kV18 dc18 pm18 cd18 ct18 : Value} (a18 : PySem.W.nsIn K mainGlobals "unary" = some (some (.ref f18))) (l18 : K.lookup f18 = some ⟨oc18, od18, .func (PySem.W.fnOf "unary" "unary" (C8.fnArgs s_unary) (C8.fnBody s_unary) (C8.fnScope s_unary) .none kV18 dc18 pm18 an18 cd18 ct18), sl18⟩) (b18 : PySem.W.codeIn K cd18 "unary" = true) (k18 : PySem.W.keepIn K (.ref f18) = true)
    {f19 : Addr} {od19 an19 : Option Addr} {sl19 : Array (Option Value)} {oc19 kV19 dc19 pm19 cd19 ct19 : Value} (a19 : PySem.W.nsIn K mainGlobals "binary" = some (some (.ref f19))) (l19 : K.lookup f19 = some ⟨oc19, od19, .func (PySem.W.fnOf "binary" "binary" (C8.fnArgs s_binary) (C8.fnBody s_binary) (C8.fnScope s_binary) .none kV19 dc19 pm19 an19 cd19 ct19), sl19⟩) (b19 : PySem.W.codeIn K cd19 "binary" = true) (k19 : PySem.W.keepIn K (.ref f19) = true)
    {f20 : Addr} {od20 an20 : Option Addr} {sl20 : Array (Option Value)} {oc20 kV20 dc20 pm20 cd20 ct20 : Value} (a20 : PySem.W.nsIn K mainGlobals "evaluate" = some (some (.ref f20))) (l20 : K.lookup f20 = some ⟨oc20, od20, .func (PySem.W.fnOf "evaluate" "evaluate" (C8.fnArgs s_evaluate) (C8.fnBody s_evaluate) (C8.fnScope s_evaluate) .none kV20 dc20 pm20 an20 cd20 ct20), sl20⟩) (b20 : PySem.W.codeIn K cd20 "evaluate" = true) (k20 : PySem.W.keepIn K (.ref f20) = true)
    {f21 : Addr} {od21 an21 : Option Addr} {sl21 : Array (Option Value)} {oc21 kV21 dc21 pm21 cd21 ct21 : Value} (a21 : PySem.W.nsIn K mainGlobals "evaluate_all" = some (some (.ref f21))) (l21 : K.lookup f21 = some ⟨oc21, od21, .func (PySem.W.fnOf "evaluate_all" "evaluate_all" (C8.fnArgs s_evaluate_all) (C8.fnBody s_evaluate_all) (C8.fnScope s_evaluate_all) .none kV21 dc21 pm21 an21 cd21 ct21), sl21⟩) (b21 : PySem.W.codeIn K cd21 "evaluate_all" = true) (k21 : PySem.W.keepIn K (.ref f21) = true)
    {f22 : Addr} {od22 an22 : Option Addr} {sl22 : Array (Option Value)} {oc22 kV22 dc22 pm22 cd22 ct22 : Value} (a22 : PySem.W.nsIn K mainGlobals "_text_hash" = some (some (.ref f22))) (l22 : K.lookup f22 = some ⟨oc22, od22, .func (PySem.W.fnOf "_text_hash" "_text_hash" (C8.fnArgs s__text_hash) (C8.fnBody s__text_hash) (C8.fnScope s__text_hash) .none kV22 dc22 pm22 an22 cd22 ct22), sl22⟩) (b22 : PySem.W.codeIn K cd22 "_text_hash" = true) (k22 : PySem.W.keepIn K (.ref f22) = true)
    {f23 : Addr} {od23 an23 : Option Addr} {sl23 : Array (Option Value)} {oc23 kV23 dc23 pm23 cd23 ct23 : Value} (a23 : PySem.W.nsIn K mainGlobals "_value_hash" = some (some (.ref f23))) (l23 : K.lookup f23 = some ⟨oc23, od23, .func (PySem.W.fnOf "_value_hash" "_value_hash" (C8.fnArgs s__value_hash) (C8.fnBody s__value_hash) (C8.fnScope s__value_hash) .none kV23 dc23 pm23 an23 cd23 ct23), sl23⟩) (b23 : PySem.W.codeIn K cd23 "_value_hash" = true) (k23 : PySem.W.keepIn K (.ref f23) = true)
    {f24 : Addr} {od24 an24 : Option Addr} {sl24 : Array (Option Value)} {oc24 kV24 dc24 pm24 cd24 ct24 : Value} (a24 : PySem.W.nsIn K mainGlobals "hash_of" = some (some (.ref f24))) (l24 : K.lookup f24 = some ⟨oc24, od24, .func (PySem.W.fnOf "hash_of" "hash_of" (C8.fnArgs s_hash_of) (C8.fnBody s_hash_of) (C8.fnScope s_hash_of) .none kV24 dc24 pm24 an24 cd24 ct24), sl24⟩) (b24 : PySem.W.codeIn K cd24 "hash_of" = true) (k24 : PySem.W.keepIn K (.ref f24) = true)
    {f25 : Addr} {od25 an25 : Option Addr} {sl25 : Array (Option Value)} {oc25 kV25 dc25 pm25 cd25 ct25 : Value} (a25 : PySem.W.nsIn K mainGlobals "part_of" = some (some (.ref f25))) (l25 : K.lookup f25 = some ⟨oc25, od25, .func (PySem.W.fnOf "part_of" "part_of" (C8.fnArgs s_part_of) (C8.fnBody s_part_of) (C8.fnScope s_part_of) .none kV25 dc25 pm25 an25 cd25 ct25), sl25⟩) (b25 : PySem.W.codeIn K cd25 "part_of" = true) (k25 : PySem.W.keepIn K (.ref f25) = true)
    {f26 : Addr} {od26 an26 : Option Addr} {sl26 : Array (Option Value)} {oc26 kV26 dc26 pm26 cd26 ct26 : Value} (a26 : PySem.W.nsIn K mainGlobals "sort_written" = some (some (.ref f26))) (l26 : K.lookup f26 = some ⟨oc26, od26, .func (PySem.W.fnOf "sort_written" "sort_written" (C8.fnArgs s_sort_written) (C8.fnBody s_sort_written) (C8.fnScope s_sort_written) .none kV26 dc26 pm26 an26 cd26 ct26), sl26⟩) (b26 : PySem.W.codeIn K cd26 "sort_written" = true) (k26 : PySem.W.keepIn K (.ref f26) = true)
    {f27 : Addr} {od27 an27 : Option Addr} {sl27 : Array (Option Value)} {oc27 kV27 dc27 pm27 cd27 ct27 : Value} (a27 : PySem.W.nsIn K mainGlobals "_held_and_parts" = some (some (.ref f27))) (l27 : K.lookup f27 = some ⟨oc27, od27, .func (PySem.W.fnOf "_held_and_parts" "_held_and_parts" (C8.fnArgs s__held_and_parts) (C8.fnBody s__held_and_parts) (C8.fnScope s__held_and_parts) .none kV27 dc27 pm27 an27 cd27 ct27), sl27⟩) (b27 : PySem.W.codeIn K cd27 "_held_and_parts" = true) (k27 : PySem.W.keepIn K (.ref f27) = true)
    {f28 : Addr} {od28 an28 : Option Addr} {sl28 : Array (Option Value)} {oc28 kV28 dc28 pm28 cd28 ct28 : Value} (a28 : PySem.W.nsIn K mainGlobals "_divided" = some (some (.ref f28))) (l28 : K.lookup f28 = some ⟨oc28, od28, .func (PySem.W.fnOf "_divided" "_divided" (C8.fnArgs s__divided) (C8.fnBody s__divided) (C8.fnScope s__divided) .none kV28 dc28 pm28 an28 cd28 ct28), sl28⟩) (b28 : PySem.W.codeIn K cd28 "_divided" = true) (k28 : PySem.W.keepIn K (.ref f28) = true)
    {f29 : Addr} {od29 an29 : Option Addr} {sl29 : Array (Option Value)} {oc29 kV29 dc29 pm29 cd29 ct29 : Value} (a29 : PySem.W.nsIn K mainGlobals "_with_keys" = some (some (.ref f29))) (l29 : K.lookup f29 = some ⟨oc29, od29, .func (PySem.W.fnOf "_with_keys" "_with_keys" (C8.fnArgs s__with_keys) (C8.fnBody s__with_keys) (C8.fnScope s__with_keys) .none kV29 dc29 pm29 an29 cd29 ct29), sl29⟩) (b29 : PySem.W.codeIn K cd29 "_with_keys" = true) (k29 : PySem.W.keepIn K (.ref f29) = true)
    {f30 : Addr} {od30 an30 : Option Addr} {sl30 : Array (Option Value)} {oc30 kV30 dc30 pm30 cd30 ct30 : Value} (a30 : PySem.W.nsIn K mainGlobals "_with_themselves" = some (some (.ref f30))) (l30 : K.lookup f30 = some ⟨oc30, od30, .func (PySem.W.fnOf "_with_themselves" "_with_themselves" (C8.fnArgs s__with_themselves) (C8.fnBody s__with_themselves) (C8.fnScope s__with_themselves) .none kV30 dc30 pm30 an30 cd30 ct30), sl30⟩) (b30 : PySem.W.codeIn K cd30 "_with_themselves" = true) (k30 : PySem.W.keepIn K (.ref f30) = true)
    {f31 : Addr} {od31 an31 : Option Addr} {sl31 : Array (Option Value)} {oc31 kV31 dc31 pm31 cd31 ct31 : Value} (a31 : PySem.W.nsIn K mainGlobals "group_written" = some (some (.ref f31))) (l31 : K.lookup f31 = some ⟨oc31, od31, .func (PySem.W.fnOf "group_written" "group_written" (C8.fnArgs s_group_written) (C8.fnBody s_group_written) (C8.fnScope s_group_written) .none kV31 dc31 pm31 an31 cd31 ct31), sl31⟩) (b31 : PySem.W.codeIn K cd31 "group_written" = true) (k31 : PySem.W.keepIn K (.ref f31) = true)
    {f32 : Addr} {od32 an32 : Option Addr} {sl32 : Array (Option Value)} {oc32 kV32 dc32 pm32 cd32 ct32 : Value} (a32 : PySem.W.nsIn K mainGlobals "distinct_written" = some (some (.ref f32))) (l32 : K.lookup f32 = some ⟨oc32, od32, .func (PySem.W.fnOf "distinct_written" "distinct_written" (C8.fnArgs s_distinct_written) (C8.fnBody s_distinct_written) (C8.fnScope s_distinct_written) .none kV32 dc32 pm32 an32 cd32 ct32), sl32⟩) (b32 : PySem.W.codeIn K cd32 "distinct_written" = true) (k32 : PySem.W.keepIn K (.ref f32) = true)
    {f33 : Addr} {od33 an33 : Option Addr} {sl33 : Array (Option Value)} {oc33 kV33 dc33 pm33 cd33 ct33 : Value} (a33 : PySem.W.nsIn K mainGlobals "_law_cell" = some (some (.ref f33))) (l33 : K.lookup f33 = some ⟨oc33, od33, .func (PySem.W.fnOf "_law_cell" "_law_cell" (C8.fnArgs s__law_cell) (C8.fnBody s__law_cell) (C8.fnScope s__law_cell) .none kV33 dc33 pm33 an33 cd33 ct33), sl33⟩) (b33 : PySem.W.codeIn K cd33 "_law_cell" = true) (k33 : PySem.W.keepIn K (.ref f33) = true)
    {f34 : Addr} {od34 an34 : Option Addr} {sl34 : Array (Option Value)} {oc34 kV34 dc34 pm34 cd34 ct34 : Value} (a34 : PySem.W.nsIn K mainGlobals "_law_state" = some (some (.ref f34))) (l34 : K.lookup f34 = some ⟨oc34, od34, .func (PySem.W.fnOf "_law_state" "_law_state" (C8.fnArgs s__law_state) (C8.fnBody s__law_state) (C8.fnScope s__law_state) .none kV34 dc34 pm34 an34 cd34 ct34), sl34⟩) (b34 : PySem.W.codeIn K cd34 "_law_state" = true) (k34 : PySem.W.keepIn K (.ref f34) = true)
    {f35 : Addr} {od35 an35 : Option Addr} {sl35 : Array (Option Value)} {oc35 kV35 dc35 pm35 cd35 ct35 : Value} (a35 : PySem.W.nsIn K mainGlobals "_law_digit" = some (some (.ref f35))) (l35 : K.lookup f35 = some ⟨oc35, od35, .func (PySem.W.fnOf "_law_digit" "_law_digit" (C8.fnArgs s__law_digit) (C8.fnBody s__law_digit) (C8.fnScope s__law_digit) .none kV35 dc35 pm35 an35 cd35 ct35), sl35⟩) (b35 : PySem.W.codeIn K cd35 "_law_digit" = true) (k35 : PySem.W.keepIn K (.ref f35) = true)
    {f36 : Addr} {od36 an36 : Option Addr} {sl36 : Array (Option Value)} {oc36 kV36 dc36 pm36 cd36 ct36 : Value} (a36 : PySem.W.nsIn K mainGlobals "_law_is_integer" = some (some (.ref f36))) (l36 : K.lookup f36 = some ⟨oc36, od36, .func (PySem.W.fnOf "_law_is_integer" "_law_is_integer" (C8.fnArgs s__law_is_integer) (C8.fnBody s__law_is_integer) (C8.fnScope s__law_is_integer) .none kV36 dc36 pm36 an36 cd36 ct36), sl36⟩) (b36 : PySem.W.codeIn K cd36 "_law_is_integer" = true) (k36 : PySem.W.keepIn K (.ref f36) = true)
    {f37 : Addr} {od37 an37 : Option Addr} {sl37 : Array (Option Value)} {oc37 kV37 dc37 pm37 cd37 ct37 : Value} (a37 : PySem.W.nsIn K mainGlobals "_law_rank" = some (some (.ref f37))) (l37 : K.lookup f37 = some ⟨oc37, od37, .func (PySem.W.fnOf "_law_rank" "_law_rank" (C8.fnArgs s__law_rank) (C8.fnBody s__law_rank) (C8.fnScope s__law_rank) .none kV37 dc37 pm37 an37 cd37 ct37), sl37⟩) (b37 : PySem.W.codeIn K cd37 "_law_rank" = true) (k37 : PySem.W.keepIn K (.ref f37) = true)
    {f38 : Addr} {od38 an38 : Option Addr} {sl38 : Array (Option Value)} {oc38 kV38 dc38 pm38 cd38 ct38 : Value} (a38 : PySem.W.nsIn K mainGlobals "_law_ranks" = some (some (.ref f38))) (l38 : K.lookup f38 = some ⟨oc38, od38, .func (PySem.W.fnOf "_law_ranks" "_law_ranks" (C8.fnArgs s__law_ranks) (C8.fnBody s__law_ranks) (C8.fnScope s__law_ranks) .none kV38 dc38 pm38 an38 cd38 ct38), sl38⟩) (b38 : PySem.W.codeIn K cd38 "_law_ranks" = true) (k38 : PySem.W.keepIn K (.ref f38) = true)
    {f39 : Addr} {od39 an39 : Option Addr} {sl39 : Array (Option Value)} {oc39 kV39 dc39 pm39 cd39 ct39 : Value} (a39 : PySem.W.nsIn K mainGlobals "_law_text" = some (some (.ref f39))) (l39 : K.lookup f39 = some ⟨oc39, od39, .func (PySem.W.fnOf "_law_text" "_law_text" (C8.fnArgs s__law_text) (C8.fnBody s__law_text) (C8.fnScope s__law_text) .none kV39 dc39 pm39 an39 cd39 ct39), sl39⟩) (b39 : PySem.W.codeIn K cd39 "_law_text" = true) (k39 : PySem.W.keepIn K (.ref f39) = true)
    {f40 : Addr} {od40 an40 : Option Addr} {sl40 : Array (Option Value)} {oc40 kV40 dc40 pm40 cd40 ct40 : Value} (a40 : PySem.W.nsIn K mainGlobals "_law_value" = some (some (.ref f40))) (l40 : K.lookup f40 = some ⟨oc40, od40, .func (PySem.W.fnOf "_law_value" "_law_value" (C8.fnArgs s__law_value) (C8.fnBody s__law_value) (C8.fnScope s__law_value) .none kV40 dc40 pm40 an40 cd40 ct40), sl40⟩) (b40 : PySem.W.codeIn K cd40 "_law_value" = true) (k40 : PySem.W.keepIn K (.ref f40) = true)
    {f41 : Addr} {od41 an41 : Option Addr} {sl41 : Array (Option Value)} {oc41 kV41 dc41 pm41 cd41 ct41 : Value} (a41 : PySem.W.nsIn K mainGlobals "_law_rows" = some (some (.ref f41))) (l41 : K.lookup f41 = some ⟨oc41, od41, .func (PySem.W.fnOf "_law_rows" "_law_rows" (C8.fnArgs s__law_rows) (C8.fnBody s__law_rows) (C8.fnScope s__law_rows) .none kV41 dc41 pm41 an41 cd41 ct41), sl41⟩) (b41 : PySem.W.codeIn K cd41 "_law_rows" = true) (k41 : PySem.W.keepIn K (.ref f41) = true)
    {f42 : Addr} {od42 an42 : Option Addr} {sl42 : Array (Option Value)} {oc42 kV42 dc42 pm42 cd42 ct42 : Value} (a42 : PySem.W.nsIn K mainGlobals "_law_zero" = some (some (.ref f42))) (l42 : K.lookup f42 = some ⟨oc42, od42, .func (PySem.W.fnOf "_law_zero" "_law_zero" (C8.fnArgs s__law_zero) (C8.fnBody s__law_zero) (C8.fnScope s__law_zero) .none kV42 dc42 pm42 an42 cd42 ct42), sl42⟩) (b42 : PySem.W.codeIn K cd42 "_law_zero" = true) (k42 : PySem.W.keepIn K (.ref f42) = true)
    {f43 : Addr} {od43 an43 : Option Addr} {sl43 : Array (Option Value)} {oc43 kV43 dc43 pm43 cd43 ct43 : Value} (a43 : PySem.W.nsIn K mainGlobals "_law_by_size" = some (some (.ref f43))) (l43 : K.lookup f43 = some ⟨oc43, od43, .func (PySem.W.fnOf "_law_by_size" "_law_by_size" (C8.fnArgs s__law_by_size) (C8.fnBody s__law_by_size) (C8.fnScope s__law_by_size) .none kV43 dc43 pm43 an43 cd43 ct43), sl43⟩) (b43 : PySem.W.codeIn K cd43 "_law_by_size" = true) (k43 : PySem.W.keepIn K (.ref f43) = true)
    {f44 : Addr} {od44 an44 : Option Addr} {sl44 : Array (Option Value)} {oc44 kV44 dc44 pm44 cd44 ct44 : Value} (a44 : PySem.W.nsIn K mainGlobals "_law_spread" = some (some (.ref f44))) (l44 : K.lookup f44 = some ⟨oc44, od44, .func (PySem.W.fnOf "_law_spread" "_law_spread" (C8.fnArgs s__law_spread) (C8.fnBody s__law_spread) (C8.fnScope s__law_spread) .none kV44 dc44 pm44 an44 cd44 ct44), sl44⟩) (b44 : PySem.W.codeIn K cd44 "_law_spread" = true) (k44 : PySem.W.keepIn K (.ref f44) = true)
    {f45 : Addr} {od45 an45 : Option Addr} {sl45 : Array (Option Value)} {oc45 kV45 dc45 pm45 cd45 ct45 : Value} (a45 : PySem.W.nsIn K mainGlobals "_law_hash" = some (some (.ref f45))) (l45 : K.lookup f45 = some ⟨oc45, od45, .func (PySem.W.fnOf "_law_hash" "_law_hash" (C8.fnArgs s__law_hash) (C8.fnBody s__law_hash) (C8.fnScope s__law_hash) .none kV45 dc45 pm45 an45 cd45 ct45), sl45⟩) (b45 : PySem.W.codeIn K cd45 "_law_hash" = true) (k45 : PySem.W.keepIn K (.ref f45) = true)
    {f46 : Addr} {od46 an46 : Option Addr} {sl46 : Array (Option Value)} {oc46 kV46 dc46 pm46 cd46 ct46 : Value} (a46 : PySem.W.nsIn K mainGlobals "_law_key_list" = some (some (.ref f46))) (l46 : K.lookup f46 = some ⟨oc46, od46, .func (PySem.W.fnOf "_law_key_list" "_law_key_list" (C8.fnArgs s__law_key_list) (C8.fnBody s__law_key_list) (C8.fnScope s__law_key_list) .none kV46 dc46 pm46 an46 cd46 ct46), sl46⟩) (b46 : PySem.W.codeIn K cd46 "_law_key_list" = true) (k46 : PySem.W.keepIn K (.ref f46) = true)
    {f47 : Addr} {od47 an47 : Option Addr} {sl47 : Array (Option Value)} {oc47 kV47 dc47 pm47 cd47 ct47 : Value} (a47 : PySem.W.nsIn K mainGlobals "_law_written" = some (some (.ref f47))) (l47 : K.lookup f47 = some ⟨oc47, od47, .func (PySem.W.fnOf "_law_written" "_law_written" (C8.fnArgs s__law_written) (C8.fnBody s__law_written) (C8.fnScope s__law_written) .none kV47 dc47 pm47 an47 cd47 ct47), sl47⟩) (b47 : PySem.W.codeIn K cd47 "_law_written" = true) (k47 : PySem.W.keepIn K (.ref f47) = true)
    {f48 : Addr} {od48 an48 : Option Addr} {sl48 : Array (Option Value)} {oc48 kV48 dc48 pm48 cd48 ct48 : Value} (a48 : PySem.W.nsIn K mainGlobals "law" = some (some (.ref f48))) (l48 : K.lookup f48 = some ⟨oc48, od48, .func (PySem.W.fnOf "law" "law" (C8.fnArgs s_law) (C8.fnBody s_law) (C8.fnScope s_law) .none kV48 dc48 pm48 an48 cd48 ct48), sl48⟩) (b48 : PySem.W.codeIn K cd48 "law" = true) (k48 : PySem.W.keepIn K (.ref f48) = true)
    (z_bool : PySem.W.nsIn K mainGlobals "bool" = some none)
    (z_int : PySem.W.nsIn K mainGlobals "int" = some none)
    (z_isinstance : PySem.W.nsIn K mainGlobals "isinstance" = some none)
    (z_len : PySem.W.nsIn K mainGlobals "len" = some none)
    (z_max : PySem.W.nsIn K mainGlobals "max" = some none)
    (z_min : PySem.W.nsIn K mainGlobals "min" = some none)
    (z_ord : PySem.W.nsIn K mainGlobals "ord" = some none)
    (z_range : PySem.W.nsIn K mainGlobals "range" = some none)
    (z_reversed : PySem.W.nsIn K mainGlobals "reversed" = some none)
    (z_str : PySem.W.nsIn K mainGlobals "str" = some none)
    (z_tuple : PySem.W.nsIn K mainGlobals "tuple" = some none)
    {t_PARTS : Tok} (q_PARTS : PySem.W.nsIn K mainGlobals "PARTS" = some (some (.int (8) t_PARTS)))
    {t_TIMES : Tok} (q_TIMES : PySem.W.nsIn K mainGlobals "TIMES" = some (some (.int (3) t_TIMES)))
    {t__ABOVE_BOOLEANS : Tok} (q__ABOVE_BOOLEANS : PySem.W.nsIn K mainGlobals "_ABOVE_BOOLEANS" = some (some (.int (3) t__ABOVE_BOOLEANS)))
    {t__ABOVE_INTEGERS : Tok} (q__ABOVE_INTEGERS : PySem.W.nsIn K mainGlobals "_ABOVE_INTEGERS" = some (some (.int (1000006) t__ABOVE_INTEGERS)))
    {p__DIVISORS : Addr} (q__DIVISORS : PySem.W.nsIn K mainGlobals "_DIVISORS" = some (some (.ref p__DIVISORS))) (r__DIVISORS : ∀ H : Hp, SqT K H p__DIVISORS ([.int 64, .int 8, .int 1]))
    {t__FACTOR : Tok} (q__FACTOR : PySem.W.nsIn K mainGlobals "_FACTOR" = some (some (.int (131) t__FACTOR)))
    {t__FACTOR_OF_TEXTS : Tok} (q__FACTOR_OF_TEXTS : PySem.W.nsIn K mainGlobals "_FACTOR_OF_TEXTS" = some (some (.int (31) t__FACTOR_OF_TEXTS)))
    {t__FIRST : Tok} (q__FIRST : PySem.W.nsIn K mainGlobals "_FIRST" = some (some (.int (17) t__FIRST)))
    {t__FIRST_OF_TEXTS : Tok} (q__FIRST_OF_TEXTS : PySem.W.nsIn K mainGlobals "_FIRST_OF_TEXTS" = some (some (.int (7) t__FIRST_OF_TEXTS)))
    {p__OF_ALIKE : Addr} {es__OF_ALIKE : Array DictEntry} {n__OF_ALIKE : Nat} (q__OF_ALIKE : PySem.W.nsIn K mainGlobals "_OF_ALIKE" = some (some (.ref p__OF_ALIKE))) (ka__OF_ALIKE : K.lookup p__OF_ALIKE = some ⟨.type "dict", none, .dict es__OF_ALIKE n__OF_ALIKE, #[]⟩) (kl__OF_ALIKE : PySem.W.KeysLit w.params es__OF_ALIKE.toList) (ko__OF_ALIKE : (p__OF_ALIKE == sysModules) = false)
    (e__OF_ALIKE_0 : PySem.W.nsIn K p__OF_ALIKE "equal" = some (some (.ref f13)))
    (e__OF_ALIKE_1 : PySem.W.nsIn K p__OF_ALIKE "less" = some (some (.ref f14)))
    (e__OF_ALIKE_2 : PySem.W.nsIn K p__OF_ALIKE "at most" = some (some (.ref f15)))
    {p__OF_ANY : Addr} {es__OF_ANY : Array DictEntry} {n__OF_ANY : Nat} (q__OF_ANY : PySem.W.nsIn K mainGlobals "_OF_ANY" = some (some (.ref p__OF_ANY))) (ka__OF_ANY : K.lookup p__OF_ANY = some ⟨.type "dict", none, .dict es__OF_ANY n__OF_ANY, #[]⟩) (kl__OF_ANY : PySem.W.KeysLit w.params es__OF_ANY.toList) (ko__OF_ANY : (p__OF_ANY == sysModules) = false)
    (e__OF_ANY_0 : PySem.W.nsIn K p__OF_ANY "and" = some (some (.ref f10)))
    (e__OF_ANY_1 : PySem.W.nsIn K p__OF_ANY "or" = some (some (.ref f11)))
    (e__OF_ANY_2 : PySem.W.nsIn K p__OF_ANY "same" = some (some (.ref f12)))
    (e__OF_ANY_3 : PySem.W.nsIn K p__OF_ANY "equal" = some none)
    (e__OF_ANY_4 : PySem.W.nsIn K p__OF_ANY "less" = some none)
    (e__OF_ANY_5 : PySem.W.nsIn K p__OF_ANY "at most" = some none)
    {t__PRIME : Tok} (q__PRIME : PySem.W.nsIn K mainGlobals "_PRIME" = some (some (.int (1000003) t__PRIME)))
    : ∃ fd : FuncData, (∀ (s : Shared) (v : Value), BindsTo s fd ⟨[v], []⟩ [("script", v)]) ∧ ∀ base : Heap, K.In base → base.Ns mainGlobals mg → FnOk P w K mg base C8.CX0 21 fa fd ["script"] (sp_law K) := by
  have D_kind_rank : Dn K mg "kind_rank" s_kind_rank ["value"] := dn_mk l0 b0 k0 (PySem.W.mg_of X G a0) (fun _ _ _ _ _ _ us hl => match us, hl with | [_], _ => rfl)
  have D_is_integer : Dn K mg "is_integer" s_is_integer ["value"] := dn_mk l1 b1 k1 (PySem.W.mg_of X G a1) (fun _ _ _ _ _ _ us hl => match us, hl with | [_], _ => rfl)
  have D_rank : Dn K mg "rank" s_rank ["value"] := dn_mk l2 b2 k2 (PySem.W.mg_of X G a2) (fun _ _ _ _ _ _ us hl => match us, hl with | [_], _ => rfl)
  have D_row_rank : Dn K mg "row_rank" s_row_rank ["row"] := dn_mk l3 b3 k3 (PySem.W.mg_of X G a3) (fun _ _ _ _ _ _ us hl => match us, hl with | [_], _ => rfl)
  have D_same : Dn K mg "same" s_same ["first", "second"] := dn_mk l4 b4 k4 (PySem.W.mg_of X G a4) (fun _ _ _ _ _ _ us hl => match us, hl with | [_, _], _ => rfl)
  have D_before : Dn K mg "before" s_before ["first", "second"] := dn_mk l5 b5 k5 (PySem.W.mg_of X G a5) (fun _ _ _ _ _ _ us hl => match us, hl with | [_, _], _ => rfl)
  have D_negated : Dn K mg "negated" s_negated ["value"] := dn_mk l6 b6 k6 (PySem.W.mg_of X G a6) (fun _ _ _ _ _ _ us hl => match us, hl with | [_], _ => rfl)
  have D_both : Dn K mg "both" s_both ["first", "second"] := dn_mk l7 b7 k7 (PySem.W.mg_of X G a7) (fun _ _ _ _ _ _ us hl => match us, hl with | [_, _], _ => rfl)
  have D_either : Dn K mg "either" s_either ["first", "second"] := dn_mk l8 b8 k8 (PySem.W.mg_of X G a8) (fun _ _ _ _ _ _ us hl => match us, hl with | [_, _], _ => rfl)
  have D_value_of_one : Dn K mg "value_of_one" s_value_of_one ["name", "value"] := dn_mk l9 b9 k9 (PySem.W.mg_of X G a9) (fun _ _ _ _ _ _ us hl => match us, hl with | [_, _], _ => rfl)
  have D__both : Dn K mg "_both" s__both ["first", "second"] := dn_mk l10 b10 k10 (PySem.W.mg_of X G a10) (fun _ _ _ _ _ _ us hl => match us, hl with | [_, _], _ => rfl)
  have D__either : Dn K mg "_either" s__either ["first", "second"] := dn_mk l11 b11 k11 (PySem.W.mg_of X G a11) (fun _ _ _ _ _ _ us hl => match us, hl with | [_, _], _ => rfl)
  have D__same : Dn K mg "_same" s__same ["first", "second"] := dn_mk l12 b12 k12 (PySem.W.mg_of X G a12) (fun _ _ _ _ _ _ us hl => match us, hl with | [_, _], _ => rfl)
  have D__equal : Dn K mg "_equal" s__equal ["first", "second"] := dn_mk l13 b13 k13 (PySem.W.mg_of X G a13) (fun _ _ _ _ _ _ us hl => match us, hl with | [_, _], _ => rfl)
  have D__less : Dn K mg "_less" s__less ["first", "second"] := dn_mk l14 b14 k14 (PySem.W.mg_of X G a14) (fun _ _ _ _ _ _ us hl => match us, hl with | [_, _], _ => rfl)
  have D__at_most : Dn K mg "_at_most" s__at_most ["first", "second"] := dn_mk l15 b15 k15 (PySem.W.mg_of X G a15) (fun _ _ _ _ _ _ us hl => match us, hl with | [_, _], _ => rfl)
  have D__are_alike : Dn K mg "_are_alike" s__are_alike ["first", "second"] := dn_mk l16 b16 k16 (PySem.W.mg_of X G a16) (fun _ _ _ _ _ _ us hl => match us, hl with | [_, _], _ => rfl)
  have D_value_of_two : Dn K mg "value_of_two" s_value_of_two ["name", "first", "second"] := dn_mk l17 b17 k17 (PySem.W.mg_of X G a17) (fun _ _ _ _ _ _ us hl => match us, hl with | [_, _, _], _ => rfl)
  have D_unary : Dn K mg "unary" s_unary ["name", "value"] := dn_mk l18 b18 k18 (PySem.W.mg_of X G a18) (fun _ _ _ _ _ _ us hl => match us, hl with | [_, _], _ => rfl)
  have D_binary : Dn K mg "binary" s_binary ["name", "first", "second"] := dn_mk l19 b19 k19 (PySem.W.mg_of X G a19) (fun _ _ _ _ _ _ us hl => match us, hl with | [_, _, _], _ => rfl)
  have D_evaluate : Dn K mg "evaluate" s_evaluate ["expression", "row"] := dn_mk l20 b20 k20 (PySem.W.mg_of X G a20) (fun _ _ _ _ _ _ us hl => match us, hl with | [_, _], _ => rfl)
  have D_evaluate_all : Dn K mg "evaluate_all" s_evaluate_all ["expressions", "row"] := dn_mk l21 b21 k21 (PySem.W.mg_of X G a21) (fun _ _ _ _ _ _ us hl => match us, hl with | [_, _], _ => rfl)
  have D__text_hash : Dn K mg "_text_hash" s__text_hash ["text"] := dn_mk l22 b22 k22 (PySem.W.mg_of X G a22) (fun _ _ _ _ _ _ us hl => match us, hl with | [_], _ => rfl)
  have D__value_hash : Dn K mg "_value_hash" s__value_hash ["value"] := dn_mk l23 b23 k23 (PySem.W.mg_of X G a23) (fun _ _ _ _ _ _ us hl => match us, hl with | [_], _ => rfl)
  have D_hash_of : Dn K mg "hash_of" s_hash_of ["values"] := dn_mk l24 b24 k24 (PySem.W.mg_of X G a24) (fun _ _ _ _ _ _ us hl => match us, hl with | [_], _ => rfl)
  have D_part_of : Dn K mg "part_of" s_part_of ["number", "time"] := dn_mk l25 b25 k25 (PySem.W.mg_of X G a25) (fun _ _ _ _ _ _ us hl => match us, hl with | [_, _], _ => rfl)
  have D_sort_written : Dn K mg "sort_written" s_sort_written ["rows", "memory"] := dn_mk l26 b26 k26 (PySem.W.mg_of X G a26) (fun _ _ _ _ _ _ us hl => match us, hl with | [_, _], _ => rfl)
  have D__held_and_parts : Dn K mg "_held_and_parts" s__held_and_parts ["pairs", "time", "memory", "hashed"] := dn_mk l27 b27 k27 (PySem.W.mg_of X G a27) (fun _ _ _ _ _ _ us hl => match us, hl with | [_, _, _, _], _ => rfl)
  have D__divided : Dn K mg "_divided" s__divided ["pairs", "memory", "hashed"] := dn_mk l28 b28 k28 (PySem.W.mg_of X G a28) (fun _ _ _ _ _ _ us hl => match us, hl with | [_, _, _], _ => rfl)
  have D__with_keys : Dn K mg "_with_keys" s__with_keys ["keys", "rows"] := dn_mk l29 b29 k29 (PySem.W.mg_of X G a29) (fun _ _ _ _ _ _ us hl => match us, hl with | [_, _], _ => rfl)
  have D__with_themselves : Dn K mg "_with_themselves" s__with_themselves ["rows"] := dn_mk l30 b30 k30 (PySem.W.mg_of X G a30) (fun _ _ _ _ _ _ us hl => match us, hl with | [_], _ => rfl)
  have D_group_written : DnK K mg "group_written" s_group_written ["way", "keys", "rows", "memory", "hashed"] 3 ["memory", "hashed"] := dnK_mk l31 b31 k31 (PySem.W.mg_of X G a31) (fun us ws h1 h2 => match us, h1, ws, h2 with | [_, _, _], _, [_, _], _ => rfl)
  have D_distinct_written : DnK K mg "distinct_written" s_distinct_written ["way", "rows", "memory", "hashed"] 2 ["memory", "hashed"] := dnK_mk l32 b32 k32 (PySem.W.mg_of X G a32) (fun us ws h1 h2 => match us, h1, ws, h2 with | [_, _], _, [_, _], _ => rfl)
  have D__law_cell : Dn K mg "_law_cell" s__law_cell ["script", "k"] := dn_mk l33 b33 k33 (PySem.W.mg_of X G a33) (fun _ _ _ _ _ _ us hl => match us, hl with | [_, _], _ => rfl)
  have D__law_state : Dn K mg "_law_state" s__law_state ["cell", "k"] := dn_mk l34 b34 k34 (PySem.W.mg_of X G a34) (fun _ _ _ _ _ _ us hl => match us, hl with | [_, _], _ => rfl)
  have D__law_digit : Dn K mg "_law_digit" s__law_digit ["state", "many"] := dn_mk l35 b35 k35 (PySem.W.mg_of X G a35) (fun _ _ _ _ _ _ us hl => match us, hl with | [_, _], _ => rfl)
  have D__law_is_integer : Dn K mg "_law_is_integer" s__law_is_integer ["told"] := dn_mk l36 b36 k36 (PySem.W.mg_of X G a36) (fun _ _ _ _ _ _ us hl => match us, hl with | [_], _ => rfl)
  have D__law_rank : Dn K mg "_law_rank" s__law_rank ["value"] := dn_mk l37 b37 k37 (PySem.W.mg_of X G a37) (fun _ _ _ _ _ _ us hl => match us, hl with | [_], _ => rfl)
  have D__law_ranks : Dn K mg "_law_ranks" s__law_ranks ["row"] := dn_mk l38 b38 k38 (PySem.W.mg_of X G a38) (fun _ _ _ _ _ _ us hl => match us, hl with | [_], _ => rfl)
  have D__law_text : Dn K mg "_law_text" s__law_text ["state"] := dn_mk l39 b39 k39 (PySem.W.mg_of X G a39) (fun _ _ _ _ _ _ us hl => match us, hl with | [_], _ => rfl)
  have D__law_value : Dn K mg "_law_value" s__law_value ["state"] := dn_mk l40 b40 k40 (PySem.W.mg_of X G a40) (fun _ _ _ _ _ _ us hl => match us, hl with | [_], _ => rfl)
  have D__law_rows : Dn K mg "_law_rows" s__law_rows ["script", "first", "most", "width"] := dn_mk l41 b41 k41 (PySem.W.mg_of X G a41) (fun _ _ _ _ _ _ us hl => match us, hl with | [_, _, _, _], _ => rfl)
  have D__law_zero : Dn K mg "_law_zero" s__law_zero ["values"] := dn_mk l42 b42 k42 (PySem.W.mg_of X G a42) (fun _ _ _ _ _ _ us hl => match us, hl with | [_], _ => rfl)
  have D__law_by_size : Dn K mg "_law_by_size" s__law_by_size ["values"] := dn_mk l43 b43 k43 (PySem.W.mg_of X G a43) (fun _ _ _ _ _ _ us hl => match us, hl with | [_], _ => rfl)
  have D__law_spread : Dn K mg "_law_spread" s__law_spread ["values"] := dn_mk l44 b44 k44 (PySem.W.mg_of X G a44) (fun _ _ _ _ _ _ us hl => match us, hl with | [_], _ => rfl)
  have D__law_hash : Dn K mg "_law_hash" s__law_hash ["kind"] := dn_mk l45 b45 k45 (PySem.W.mg_of X G a45) (fun _ _ _ _ _ _ us hl => match us, hl with | [_], _ => rfl)
  have D__law_key_list : Dn K mg "_law_key_list" s__law_key_list ["state"] := dn_mk l46 b46 k46 (PySem.W.mg_of X G a46) (fun _ _ _ _ _ _ us hl => match us, hl with | [_], _ => rfl)
  have D__law_written : Dn K mg "_law_written" s__law_written ["keys", "rows", "time", "memory", "hashed"] := dn_mk l47 b47 k47 (PySem.W.mg_of X G a47) (fun _ _ _ _ _ _ us hl => match us, hl with | [_, _, _, _, _], _ => rfl)
  have y_bool : mg "bool" = none := PySem.W.mg_none_of X G z_bool
  have y_int : mg "int" = none := PySem.W.mg_none_of X G z_int
  have y_isinstance : mg "isinstance" = none := PySem.W.mg_none_of X G z_isinstance
  have y_len : mg "len" = none := PySem.W.mg_none_of X G z_len
  have y_max : mg "max" = none := PySem.W.mg_none_of X G z_max
  have y_min : mg "min" = none := PySem.W.mg_none_of X G z_min
  have y_ord : mg "ord" = none := PySem.W.mg_none_of X G z_ord
  have y_range : mg "range" = none := PySem.W.mg_none_of X G z_range
  have y_reversed : mg "reversed" = none := PySem.W.mg_none_of X G z_reversed
  have y_str : mg "str" = none := PySem.W.mg_none_of X G z_str
  have y_tuple : mg "tuple" = none := PySem.W.mg_none_of X G z_tuple
  have v_PARTS : ∃ u, mg "PARTS" = some u ∧ RelV (.int (8)) u := ⟨_, PySem.W.mg_of X G q_PARTS, ⟨_, rfl⟩⟩
  have v_TIMES : ∃ u, mg "TIMES" = some u ∧ RelV (.int (3)) u := ⟨_, PySem.W.mg_of X G q_TIMES, ⟨_, rfl⟩⟩
  have v__ABOVE_BOOLEANS : ∃ u, mg "_ABOVE_BOOLEANS" = some u ∧ RelV (.int (3)) u := ⟨_, PySem.W.mg_of X G q__ABOVE_BOOLEANS, ⟨_, rfl⟩⟩
  have v__ABOVE_INTEGERS : ∃ u, mg "_ABOVE_INTEGERS" = some u ∧ RelV (.int (1000006)) u := ⟨_, PySem.W.mg_of X G q__ABOVE_INTEGERS, ⟨_, rfl⟩⟩
  have v__DIVISORS : ∃ u, mg "_DIVISORS" = some u ∧ RelV (.ref p__DIVISORS) u := ⟨_, PySem.W.mg_of X G q__DIVISORS, rfl⟩
  have w__DIVISORS := r__DIVISORS
  have v__FACTOR : ∃ u, mg "_FACTOR" = some u ∧ RelV (.int (131)) u := ⟨_, PySem.W.mg_of X G q__FACTOR, ⟨_, rfl⟩⟩
  have v__FACTOR_OF_TEXTS : ∃ u, mg "_FACTOR_OF_TEXTS" = some u ∧ RelV (.int (31)) u := ⟨_, PySem.W.mg_of X G q__FACTOR_OF_TEXTS, ⟨_, rfl⟩⟩
  have v__FIRST : ∃ u, mg "_FIRST" = some u ∧ RelV (.int (17)) u := ⟨_, PySem.W.mg_of X G q__FIRST, ⟨_, rfl⟩⟩
  have v__FIRST_OF_TEXTS : ∃ u, mg "_FIRST_OF_TEXTS" = some u ∧ RelV (.int (7)) u := ⟨_, PySem.W.mg_of X G q__FIRST_OF_TEXTS, ⟨_, rfl⟩⟩
  have v__OF_ALIKE : ∃ u, mg "_OF_ALIKE" = some u ∧ RelV (.ref p__OF_ALIKE) u := ⟨_, PySem.W.mg_of X G q__OF_ALIKE, rfl⟩
  have w__OF_ALIKE : KDict K w p__OF_ALIKE es__OF_ALIKE n__OF_ALIKE := ⟨ka__OF_ALIKE, kl__OF_ALIKE, ko__OF_ALIKE⟩
  have v__OF_ANY : ∃ u, mg "_OF_ANY" = some u ∧ RelV (.ref p__OF_ANY) u := ⟨_, PySem.W.mg_of X G q__OF_ANY, rfl⟩
  have w__OF_ANY : KDict K w p__OF_ANY es__OF_ANY n__OF_ANY := ⟨ka__OF_ANY, kl__OF_ANY, ko__OF_ANY⟩
  have v__PRIME : ∃ u, mg "_PRIME" = some u ∧ RelV (.int (1000003)) u := ⟨_, PySem.W.mg_of X G q__PRIME, ⟨_, rfl⟩⟩
  have e := hfa.symm.trans (PySem.W.mg_of X G a48)
  cases e
  have D_law := def_mk (x := "law") (st := s_law) l48 b48 k48 hfa
  refine ⟨PySem.W.fnOf "law" "law" (C8.fnArgs s_law) (C8.fnBody s_law) (C8.fnScope s_law) .none kV48 dc48 pm48 an48 cd48 ct48, fun s v => .of_eq rfl, fun base _ _ => ?_⟩
  have c_kind_rank := ok_kind_rank (P := P) (w := w) (base := base) D_kind_rank y_bool y_int y_isinstance 
  have c_is_integer := ok_is_integer (P := P) (w := w) (base := base) D_is_integer y_bool y_int y_isinstance 
  have c_rank := ok_rank (P := P) (w := w) (base := base) D_rank c_kind_rank y_int 
  have c_row_rank := ok_row_rank (P := P) (w := w) (base := base) D_row_rank c_rank y_tuple 
  have c_same := ok_same (P := P) (w := w) (base := base) D_same c_rank 
  have c_before := ok_before (P := P) (w := w) (base := base) D_before c_rank 
  have c_negated := ok_negated (P := P) (w := w) (base := base) D_negated 
  have c_both := ok_both (P := P) (w := w) (base := base) D_both 
  have c_either := ok_either (P := P) (w := w) (base := base) D_either 
  have c_value_of_one := ok_value_of_one (P := P) (w := w) (base := base) D_value_of_one c_negated 
  have c__both := ok__both (P := P) (w := w) (base := base) D__both c_both 
  have c__either := ok__either (P := P) (w := w) (base := base) D__either c_either 
  have c__same := ok__same (P := P) (w := w) (base := base) D__same c_same 
  have c__equal := ok__equal (P := P) (w := w) (base := base) D__equal c_same 
  have c__less := ok__less (P := P) (w := w) (base := base) D__less c_before 
  have c__at_most := ok__at_most (P := P) (w := w) (base := base) D__at_most c_before 
  have c__are_alike := ok__are_alike (P := P) (w := w) (base := base) D__are_alike c_kind_rank 
  have tab : ∀ nm x y, nm ∈ binNames → Ok x → Ok y → Opr2 P w K mg base p__OF_ANY p__OF_ALIKE nm x y (binV nm x y) := by
    intro nm x y h hx hy
    simp only [binNames, List.mem_cons, List.not_mem_nil, or_false] at h
    rcases h with rfl | rfl | rfl | rfl | rfl | rfl
    · exact .any e__OF_ANY_0 (held_of c__both (PySem.W.mg_of X G a10) (by decide)) trivial
    · exact .any e__OF_ANY_1 (held_of c__either (PySem.W.mg_of X G a11) (by decide)) trivial
    · exact .alike e__OF_ANY_3 e__OF_ALIKE_0 (held_of c__equal (PySem.W.mg_of X G a13) (by decide))
    · exact .alike e__OF_ANY_4 e__OF_ALIKE_1 (held_of c__less (PySem.W.mg_of X G a14) (by decide))
    · exact .alike e__OF_ANY_5 e__OF_ALIKE_2 (held_of c__at_most (PySem.W.mg_of X G a15) (by decide))
    · exact .any e__OF_ANY_2 (held_of c__same (PySem.W.mg_of X G a12) (by decide)) ⟨hx, hy⟩
  have c_value_of_two := ok_value_of_two (P := P) (w := w) (base := base) D_value_of_two c__are_alike v__OF_ALIKE w__OF_ALIKE v__OF_ANY w__OF_ANY tab
  have c_unary := ok_unary (P := P) (w := w) (base := base) D_unary c_value_of_one 
  have c_binary := ok_binary (P := P) (w := w) (base := base) D_binary c_value_of_two 
  have c_evaluate_0 : C8.Cal P w K mg base 7 "evaluate" (spR_evaluate 0 K) [] := cal_no D_evaluate sc_evaluate (fun _ _ _ _ h => h.elim)
  have c_evaluate_1 := ok_evaluate (P := P) (w := w) (base := base) (rn := 0) D_evaluate c_binary c_unary y_len  c_evaluate_0
  have c_evaluate_2 := ok_evaluate (P := P) (w := w) (base := base) (rn := 1) D_evaluate c_binary c_unary y_len  c_evaluate_1
  have c_evaluate_3 := ok_evaluate (P := P) (w := w) (base := base) (rn := 2) D_evaluate c_binary c_unary y_len  c_evaluate_2
  have c_evaluate_4 := ok_evaluate (P := P) (w := w) (base := base) (rn := 3) D_evaluate c_binary c_unary y_len  c_evaluate_3
  have c_evaluate_5 := ok_evaluate (P := P) (w := w) (base := base) (rn := 4) D_evaluate c_binary c_unary y_len  c_evaluate_4
  have c_evaluate_6 := ok_evaluate (P := P) (w := w) (base := base) (rn := 5) D_evaluate c_binary c_unary y_len  c_evaluate_5
  have c_evaluate_7 := ok_evaluate (P := P) (w := w) (base := base) (rn := 6) D_evaluate c_binary c_unary y_len  c_evaluate_6
  have c_evaluate_8 := ok_evaluate (P := P) (w := w) (base := base) (rn := 7) D_evaluate c_binary c_unary y_len  c_evaluate_7
  have c_evaluate : C8.Cal P w K mg base 15 "evaluate" (sp_evaluate K) [] := c_evaluate_8
  have c_evaluate_all := ok_evaluate_all (P := P) (w := w) (base := base) D_evaluate_all c_evaluate 
  have c__text_hash := ok__text_hash (P := P) (w := w) (base := base) D__text_hash y_ord v__ABOVE_INTEGERS v__FACTOR_OF_TEXTS v__FIRST_OF_TEXTS v__PRIME 
  have c__value_hash := ok__value_hash (P := P) (w := w) (base := base) D__value_hash c__text_hash c_is_integer y_isinstance y_str v__ABOVE_BOOLEANS v__PRIME 
  have c_hash_of := ok_hash_of (P := P) (w := w) (base := base) D_hash_of c__value_hash v__FACTOR v__FIRST v__PRIME 
  have c_part_of := ok_part_of (P := P) (w := w) (base := base) D_part_of v_PARTS v__DIVISORS w__DIVISORS 
  have c_sort_written := ok_sort_written (P := P) (w := w) (base := base) D_sort_written y_len 
  have c__held_and_parts := ok__held_and_parts (P := P) (w := w) (base := base) D__held_and_parts c_part_of c_row_rank y_len y_range v_PARTS v_TIMES 
  have c__divided := ok__divided (P := P) (w := w) (base := base) D__divided c__held_and_parts y_len y_reversed 
  have c__with_keys := ok__with_keys (P := P) (w := w) (base := base) D__with_keys c_evaluate_all 
  have c__with_themselves := ok__with_themselves (P := P) (w := w) (base := base) D__with_themselves 
  have c_group_written := ok_group_written (P := P) (w := w) (base := base) D_group_written c__divided c__with_keys c_sort_written 
  have c_distinct_written := ok_distinct_written (P := P) (w := w) (base := base) D_distinct_written c__divided c__with_themselves c_sort_written 
  have c__law_cell := ok__law_cell (P := P) (w := w) (base := base) D__law_cell y_len 
  have c__law_state := ok__law_state (P := P) (w := w) (base := base) D__law_state y_int 
  have c__law_digit := ok__law_digit (P := P) (w := w) (base := base) D__law_digit y_int 
  have c__law_is_integer := ok__law_is_integer (P := P) (w := w) (base := base) D__law_is_integer y_bool y_int y_isinstance 
  have c__law_rank := ok__law_rank (P := P) (w := w) (base := base) D__law_rank y_bool y_int y_isinstance 
  have c__law_ranks := ok__law_ranks (P := P) (w := w) (base := base) D__law_ranks c__law_rank 
  have c__law_text := ok__law_text (P := P) (w := w) (base := base) D__law_text c__law_digit y_range 
  have c__law_value := ok__law_value (P := P) (w := w) (base := base) D__law_value c__law_digit c__law_text 
  have c__law_rows := ok__law_rows (P := P) (w := w) (base := base) D__law_rows c__law_digit c__law_state c__law_value y_len y_max y_min y_range 
  have c__law_zero := ok__law_zero (P := P) (w := w) (base := base) D__law_zero 
  have c__law_by_size := ok__law_by_size (P := P) (w := w) (base := base) D__law_by_size y_len 
  have c__law_spread := ok__law_spread (P := P) (w := w) (base := base) D__law_spread y_int y_isinstance 
  have c__law_hash := ok__law_hash (P := P) (w := w) (base := base) D__law_hash c__law_by_size c__law_spread c__law_zero c_hash_of 
  have c__law_key_list := ok__law_key_list (P := P) (w := w) (base := base) D__law_key_list c__law_digit y_range y_tuple 
  have c__law_written_0 : C8.Cal P w K mg base 16 "_law_written" (spR__law_written P w K mg base 0) [] := cal_no D__law_written sc__law_written (fun _ _ _ _ h => h.elim)
  have c__law_written_1 := ok__law_written (P := P) (w := w) (base := base) (rn := 0) D__law_written c__law_ranks c_evaluate y_int y_len y_range  c__law_written_0
  have c__law_written_2 := ok__law_written (P := P) (w := w) (base := base) (rn := 1) D__law_written c__law_ranks c_evaluate y_int y_len y_range  c__law_written_1
  have c__law_written_3 := ok__law_written (P := P) (w := w) (base := base) (rn := 2) D__law_written c__law_ranks c_evaluate y_int y_len y_range  c__law_written_2
  have c__law_written_4 := ok__law_written (P := P) (w := w) (base := base) (rn := 3) D__law_written c__law_ranks c_evaluate y_int y_len y_range  c__law_written_3
  have c__law_written : C8.Cal P w K mg base 20 "_law_written" (sp__law_written P w K mg base) [] := c__law_written_4
  exact ok_law (P := P) (w := w) (base := base) D_law c__law_cell c__law_digit c__law_hash c__law_is_integer c__law_key_list c__law_rows c__law_state c__law_written c_distinct_written c_group_written y_int y_len y_max y_range 
end My
open PySem PySem.W PyProof.Rows
set_option maxHeartbeats 0 in
theorem PySem.Challenge.cw_stylobate_k61_rows_written_by_groups_holds : PySem.Challenge.rw_stylobate_k61_rows_written_by_groups.Holds := by
  w_on; o_law; k_head; (case hw => w_witness2)
  k_fill
  refine L2.walk_of (l := PySem.Challenge.rw_stylobate_k61_rows_written_by_groups) (n := 63) (k := 21) (x := "script") (CX := fun _ => C8.CX0) (sp := fun w => My.sp_law _) rfl (by decide) rfl ⟨rfl, by decide, by decide⟩ (fun w h Y => PySem.W.kIn_of Y) ?F (fun _ _ a ns hl _ hS => My.sp_law_of hl hS) (fun _ _ _ _ _ h => h)
  case F =>
    intro w mg fa h KX G hmg
    refine' My.all_mk KX G hmg ?a0 ?l0 ?b0 ?k0 ?a1 ?l1 ?b1 ?k1 ?a2 ?l2 ?b2 ?k2 ?a3 ?l3 ?b3 ?k3 ?a4 ?l4 ?b4 ?k4 ?a5 ?l5 ?b5 ?k5 ?a6 ?l6 ?b6 ?k6 ?a7 ?l7 ?b7 ?k7 ?a8 ?l8 ?b8 ?k8 ?a9 ?l9 ?b9 ?k9 ?a10 ?l10 ?b10 ?k10 ?a11 ?l11 ?b11 ?k11 ?a12 ?l12 ?b12 ?k12 ?a13 ?l13 ?b13 ?k13 ?a14 ?l14 ?b14 ?k14 ?a15 ?l15 ?b15 ?k15 ?a16 ?l16 ?b16 ?k16 ?a17 ?l17 ?b17 ?k17 ?a18 ?l18 ?b18 ?k18 ?a19 ?l19 ?b19 ?k19 ?a20 ?l20 ?b20 ?k20 ?a21 ?l21 ?b21 ?k21 ?a22 ?l22 ?b22 ?k22 ?a23 ?l23 ?b23 ?k23 ?a24 ?l24 ?b24 ?k24 ?a25 ?l25 ?b25 ?k25 ?a26 ?l26 ?b26 ?k26 ?a27 ?l27 ?b27 ?k27 ?a28 ?l28 ?b28 ?k28 ?a29 ?l29 ?b29 ?k29 ?a30 ?l30 ?b30 ?k30 ?a31 ?l31 ?b31 ?k31 ?a32 ?l32 ?b32 ?k32 ?a33 ?l33 ?b33 ?k33 ?a34 ?l34 ?b34 ?k34 ?a35 ?l35 ?b35 ?k35 ?a36 ?l36 ?b36 ?k36 ?a37 ?l37 ?b37 ?k37 ?a38 ?l38 ?b38 ?k38 ?a39 ?l39 ?b39 ?k39 ?a40 ?l40 ?b40 ?k40 ?a41 ?l41 ?b41 ?k41 ?a42 ?l42 ?b42 ?k42 ?a43 ?l43 ?b43 ?k43 ?a44 ?l44 ?b44 ?k44 ?a45 ?l45 ?b45 ?k45 ?a46 ?l46 ?b46 ?k46 ?a47 ?l47 ?b47 ?k47 ?a48 ?l48 ?b48 ?k48 ?z_bool ?z_int ?z_isinstance ?z_len ?z_max ?z_min ?z_ord ?z_range ?z_reversed ?z_str ?z_tuple ?q_PARTS ?q_TIMES ?q__ABOVE_BOOLEANS ?q__ABOVE_INTEGERS ?q__DIVISORS ?r__DIVISORS ?q__FACTOR ?q__FACTOR_OF_TEXTS ?q__FIRST ?q__FIRST_OF_TEXTS ?q__OF_ALIKE ?ka__OF_ALIKE ?kl__OF_ALIKE ?ko__OF_ALIKE ?e__OF_ALIKE_0 ?e__OF_ALIKE_1 ?e__OF_ALIKE_2 ?q__OF_ANY ?ka__OF_ANY ?kl__OF_ANY ?ko__OF_ANY ?e__OF_ANY_0 ?e__OF_ANY_1 ?e__OF_ANY_2 ?e__OF_ANY_3 ?e__OF_ANY_4 ?e__OF_ANY_5 ?q__PRIME
    (case a0 => k_is); (case l0 => k_is); (case b0 => k_is); (case k0 => k_is); (case a1 => k_is); (case l1 => k_is); (case b1 => k_is); (case k1 => k_is); (case a2 => k_is); (case l2 => k_is); (case b2 => k_is); (case k2 => k_is); (case a3 => k_is); (case l3 => k_is); (case b3 => k_is); (case k3 => k_is); (case a4 => k_is); (case l4 => k_is); (case b4 => k_is); (case k4 => k_is); (case a5 => k_is); (case l5 => k_is); (case b5 => k_is); (case k5 => k_is); (case a6 => k_is); (case l6 => k_is); (case b6 => k_is); (case k6 => k_is); (case a7 => k_is); (case l7 => k_is); (case b7 => k_is); (case k7 => k_is); (case a8 => k_is); (case l8 => k_is); (case b8 => k_is); (case k8 => k_is); (case a9 => k_is); (case l9 => k_is); (case b9 => k_is); (case k9 => k_is); (case a10 => k_is); (case l10 => k_is); (case b10 => k_is); (case k10 => k_is); (case a11 => k_is); (case l11 => k_is); (case b11 => k_is); (case k11 => k_is); (case a12 => k_is); (case l12 => k_is); (case b12 => k_is); (case k12 => k_is); (case a13 => k_is); (case l13 => k_is); (case b13 => k_is); (case k13 => k_is); (case a14 => k_is); (case l14 => k_is); (case b14 => k_is); (case k14 => k_is); (case a15 => k_is); (case l15 => k_is); (case b15 => k_is); (case k15 => k_is); (case a16 => k_is); (case l16 => k_is); (case b16 => k_is); (case k16 => k_is); (case a17 => k_is); (case l17 => k_is); (case b17 => k_is); (case k17 => k_is); (case a18 => k_is); (case l18 => k_is); (case b18 => k_is); (case k18 => k_is); (case a19 => k_is); (case l19 => k_is); (case b19 => k_is); (case k19 => k_is); (case a20 => k_is); (case l20 => k_is); (case b20 => k_is); (case k20 => k_is); (case a21 => k_is); (case l21 => k_is); (case b21 => k_is); (case k21 => k_is); (case a22 => k_is); (case l22 => k_is); (case b22 => k_is); (case k22 => k_is); (case a23 => k_is); (case l23 => k_is); (case b23 => k_is); (case k23 => k_is); (case a24 => k_is); (case l24 => k_is); (case b24 => k_is); (case k24 => k_is); (case a25 => k_is); (case l25 => k_is); (case b25 => k_is); (case k25 => k_is); (case a26 => k_is); (case l26 => k_is); (case b26 => k_is); (case k26 => k_is); (case a27 => k_is); (case l27 => k_is); (case b27 => k_is); (case k27 => k_is); (case a28 => k_is); (case l28 => k_is); (case b28 => k_is); (case k28 => k_is); (case a29 => k_is); (case l29 => k_is); (case b29 => k_is); (case k29 => k_is); (case a30 => k_is); (case l30 => k_is); (case b30 => k_is); (case k30 => k_is); (case a31 => k_is); (case l31 => k_is); (case b31 => k_is); (case k31 => k_is); (case a32 => k_is); (case l32 => k_is); (case b32 => k_is); (case k32 => k_is); (case a33 => k_is); (case l33 => k_is); (case b33 => k_is); (case k33 => k_is); (case a34 => k_is); (case l34 => k_is); (case b34 => k_is); (case k34 => k_is); (case a35 => k_is); (case l35 => k_is); (case b35 => k_is); (case k35 => k_is); (case a36 => k_is); (case l36 => k_is); (case b36 => k_is); (case k36 => k_is); (case a37 => k_is); (case l37 => k_is); (case b37 => k_is); (case k37 => k_is); (case a38 => k_is); (case l38 => k_is); (case b38 => k_is); (case k38 => k_is); (case a39 => k_is); (case l39 => k_is); (case b39 => k_is); (case k39 => k_is); (case a40 => k_is); (case l40 => k_is); (case b40 => k_is); (case k40 => k_is); (case a41 => k_is); (case l41 => k_is); (case b41 => k_is); (case k41 => k_is); (case a42 => k_is); (case l42 => k_is); (case b42 => k_is); (case k42 => k_is); (case a43 => k_is); (case l43 => k_is); (case b43 => k_is); (case k43 => k_is); (case a44 => k_is); (case l44 => k_is); (case b44 => k_is); (case k44 => k_is); (case a45 => k_is); (case l45 => k_is); (case b45 => k_is); (case k45 => k_is); (case a46 => k_is); (case l46 => k_is); (case b46 => k_is); (case k46 => k_is); (case a47 => k_is); (case l47 => k_is); (case b47 => k_is); (case k47 => k_is); (case a48 => k_is); (case l48 => k_is); (case b48 => k_is); (case k48 => k_is); (case z_bool => k_is); (case z_int => k_is); (case z_isinstance => k_is); (case z_len => k_is); (case z_max => k_is); (case z_min => k_is); (case z_ord => k_is); (case z_range => k_is); (case z_reversed => k_is); (case z_str => k_is); (case z_tuple => k_is); (case q_PARTS => k_is); (case q_TIMES => k_is); (case q__ABOVE_BOOLEANS => k_is); (case q__ABOVE_INTEGERS => k_is); (case q__DIVISORS => k_is); (case q__FACTOR => k_is); (case q__FACTOR_OF_TEXTS => k_is); (case q__FIRST => k_is); (case q__FIRST_OF_TEXTS => k_is); (case q__OF_ALIKE => k_is); (case ka__OF_ALIKE => k_is); (case e__OF_ALIKE_0 => k_is); (case e__OF_ALIKE_1 => k_is); (case e__OF_ALIKE_2 => k_is); (case q__OF_ANY => k_is); (case ka__OF_ANY => k_is); (case e__OF_ANY_0 => k_is); (case e__OF_ANY_1 => k_is); (case e__OF_ANY_2 => k_is); (case e__OF_ANY_3 => k_is); (case e__OF_ANY_4 => k_is); (case e__OF_ANY_5 => k_is); (case q__PRIME => k_is)
    (case r__DIVISORS => exact fun _ => .inr ⟨_, _, _, (by k_is), rfl, rfl, by decide, by repeat (first | exact .nil | refine .cons ⟨_, rfl⟩ ?_ | refine .cons rfl ?_)⟩)
    (case kl__OF_ALIKE => k_keys)
    (case ko__OF_ALIKE => decide)
    (case kl__OF_ANY => k_keys)
    (case ko__OF_ANY => decide)

