import PyProof.Rows.All
import Wide.All
import OpenK.AllK
import Wide.FinOn
import HandS.ForMost
import HandS.Codes
import HandS.Evl
import HandS.IsInst
import HandS.Wide
import HandS.Defaults
import HandS.Walk
import HandS.Flow
import HandS.TupAny
import HandS.Zip
import HandS.Property
import HandS.OwnEq
import HandS.Deep
import HandS.WideBits
import HandS.Iter
import HandS.Rev
import HandS.SortKw
import HandS.TupLe
import HandS.Dict
import HandS.Text
import HandS.StrMore
import HandS.FStr
import HandS.Style
import HandS.More
import HandS.CallLocal
import HandS.Conv
import KE.KEqSeq
import KE.DataEq
import PyProof.StrOps2
import PyProof.StrLawsFrom
import KE.RegKIsAll
import KE.KDictZip
import PySem.Challenge.RW_stylobate_k59_rows_written_by_joins
set_option Elab.async false
set_option linter.all false
set_option maxRecDepth 100000
set_option maxHeartbeats 4000000
namespace My
open PySem PySem.Spec PyProof.Rows L2 Evl
/-! ### defs of the text, promises, the end -/
def Dn (K : PySem.W.Frag) (mg : Str → Option Value) (x : Str) (st : Stmt) (ps : List Str) : Prop := ∃ f fd, C8.Def K mg x st f fd ∧ Binds K fd ps []
section
variable {P : Program} {w : World} {K : PySem.W.Frag} {mg : Str → Option Value} {base : Heap}
theorem cal_of {x : Str} {st : Stmt} {N ps : List Str} {k : Nat} {sp : Sp} (D : Dn K mg x st ps) (S : FnScope N ps (C8.fnScope st)) (len : ∀ vs H Q E, sp vs H Q E → vs.length = ps.length)
    (hbody : ∀ (f : Addr) (cdv : Value) (A : Around) (outer : List Env) (s : Shared) (H : Hp) (vs : List V) (Q : VK) (E : XK), Room k (A.deeper (envOfC x (C8.fnScope st) s.heap.objs.size f cdv)) → sp vs H Q E →
      ∃ t, PSs (cxOf C8.CX0 P w K mg base N x (C8.fnScope st) f cdv A outer s H E).nox (C8.fnBody st) t ∧ t { nx := fun _ H' => Q .non H', rt := Q } (start N vs) H) : C8.Cal P w K mg base (k + 1) x sp [] := by
  obtain ⟨f, fd, F, b⟩ := D
  exact C8.cal0 F b .nil S len (hbody f)
theorem def_mk {x : Str} {st : Stmt} {f : Addr} {oc : Value} {od an : Option Addr} {osl : Array (Option Value)} {kV doc pm cdv ct : Value}
    (l : K.lookup f = some ⟨oc, od, .func (PySem.W.fnOf x x (C8.fnArgs st) (C8.fnBody st) (C8.fnScope st) .none kV doc pm an cdv ct), osl⟩)
    (c : PySem.W.codeIn K cdv x = true) (k : PySem.W.keepIn K (.ref f) = true) (m : mg x = some (.ref f)) : C8.Def K mg x st f (PySem.W.fnOf x x (C8.fnArgs st) (C8.fnBody st) (C8.fnScope st) .none kV doc pm an cdv ct) :=
  ⟨⟨oc, od, .none, kV, doc, pm, an, cdv, ct, osl, rfl, l, c⟩, m, k⟩
theorem dn_mk {x : Str} {st : Stmt} {f : Addr} {oc : Value} {od an : Option Addr} {osl : Array (Option Value)} {kV doc pm cdv ct : Value} {ps : List Str}
    (l : K.lookup f = some ⟨oc, od, .func (PySem.W.fnOf x x (C8.fnArgs st) (C8.fnBody st) (C8.fnScope st) .none kV doc pm an cdv ct), osl⟩)
    (c : PySem.W.codeIn K cdv x = true) (k : PySem.W.keepIn K (.ref f) = true) (m : mg x = some (.ref f))
    (h : ∀ (kV doc pm : Value) (an : Option Addr) (cdv ct : Value) (us : List Value), us.length = ps.length → bindArgs (PySem.W.fnOf x x (C8.fnArgs st) (C8.fnBody st) (C8.fnScope st) .none kV doc pm an cdv ct) ⟨us, []⟩ = pure (ps.zip us)) : Dn K mg x st ps :=
  ⟨f, _, def_mk l c k m, C8.Fun.binds (def_mk l c k m).fn rfl h⟩
end
/-! ### x is True, x is False, of any value -/
def rIsT : R2 := fun x y H Q => ∃ b : Bool, y = .bl b ∧ Q (.bl (decide (x = .bl b))) H
def rNotT : R2 := fun x y H Q => ∃ b : Bool, y = .bl b ∧ Q (.bl (!decide (x = .bl b))) H
section
variable {X : Cx}
theorem rel_bl {x : V} {v : Value} {b : Bool} (rx : RelV x v) : PySem.plainIs v (.bool b) = true ∧ (v == .bool b) = decide (x = .bl b) ∨ ∃ n, v = .builtin n := by
  cases x with
  | non => cases (show v = Value.none from rx); exact .inl ⟨rfl, rfl⟩
  | bl c => cases (show v = Value.bool c from rx); exact .inl ⟨rfl, by cases b <;> cases c <;> rfl⟩
  | int i => obtain ⟨t, e⟩ := (show ∃ t, v = Value.int i t from rx); cases e; exact .inl ⟨rfl, rfl⟩
  | str i => obtain ⟨t, e⟩ := (show ∃ t, v = Value.str i t from rx); cases e; exact .inl ⟨rfl, rfl⟩
  | byt i => obtain ⟨t, e⟩ := (show ∃ t, v = Value.bytes i t from rx); cases e; exact .inl ⟨rfl, rfl⟩
  | flt i => obtain ⟨t, e⟩ := (show ∃ t, v = Value.float i t from rx); cases e; exact .inl ⟨rfl, rfl⟩
  | ref a => cases (show v = Value.ref a from rx); exact .inl ⟨rfl, rfl⟩
  | ty n => cases (show v = Value.type n from rx); exact .inl ⟨rfl, rfl⟩
theorem rel_bl' {x : V} {v : Value} {b : Bool} (rx : RelV x v) : PySem.plainIs v (.bool b) = true ∧ (v == .bool b) = decide (x = .bl b) := by
  rcases rel_bl (b := b) rx with h | ⟨n, rfl⟩
  · exact h
  · cases x <;> first | exact nomatch (rx : Value.builtin n = _) | (obtain ⟨t, e⟩ := rx; exact nomatch e)
theorem op_isTF : OpR X (compareOp .Is) rIsT := by
  intro pins s σ H x y v u Q I rx ry h
  obtain ⟨b, rfl, q⟩ := h
  cases (show u = Value.bool b from ry)
  obtain ⟨h1, h2⟩ := rel_bl' (b := b) rx
  exact wpAny_is_plain h1 ⟨.bl _, H, I, rfl, by rw [h2]; exact q⟩
theorem op_notTF : OpR X (compareOp .IsNot) rNotT := by
  intro pins s σ H x y v u Q I rx ry h
  obtain ⟨b, rfl, q⟩ := h
  cases (show u = Value.bool b from ry)
  obtain ⟨h1, h2⟩ := rel_bl' (b := b) rx
  exact wpAny_isNot_plain h1 ⟨.bl _, H, I, rfl, by rw [h2]; exact q⟩
end
/-! ### what evaluates to what: further -/
section
variable {K : PySem.W.Frag} {σ : L2.St} {H H' : Hp} {ta tb te tx : TE} {t u : TT} {x y z v : V} {r : R2}
theorem rv_isT {b : Bool} : RV rIsT x (.bl b) H (.bl (decide (x = .bl b))) := fun H1 _ _ q => ⟨b, rfl, q H1 (Ex.refl H1)⟩
theorem rv_notT {b : Bool} : RV rNotT x (.bl b) H (.bl (!decide (x = .bl b))) := fun H1 _ _ q => ⟨b, rfl, q H1 (Ex.refl H1)⟩
theorem rv_isN : RV (fun x y H Q => y = .non ∧ Q (.bl (decide (x = .non))) H) x .non H (.bl (decide (x = .non))) := fun H1 _ _ q => ⟨rfl, q H1 (Ex.refl H1)⟩
theorem rv_notN : RV (fun x y H Q => y = .non ∧ Q (.bl (!decide (x = .non))) H) x .non H (.bl (!decide (x = .non))) := fun H1 _ _ q => ⟨rfl, q H1 (Ex.refl H1)⟩
theorem ev_int {i : Int} (h : Ev ta σ H (.int i)) : Ev (tCB (fun xs H Q => (∃ i, xs = [.int i] ∧ Q (.int i) H) ∨ ∃ k, xs = [.bl k] ∧ Q (.int (if k then 1 else 0)) H) (tCons ta tNil)) σ H (.int i) :=
  fun H1 e Q q => h H1 e _ fun H2 e2 => .inl ⟨i, rfl, q H2 e2⟩
theorem ev_intB {b : Bool} (h : Ev ta σ H (.bl b)) : Ev (tCB (fun xs H Q => (∃ i, xs = [.int i] ∧ Q (.int i) H) ∨ ∃ k, xs = [.bl k] ∧ Q (.int (if k then 1 else 0)) H) (tCons ta tNil)) σ H (.int (if b then 1 else 0)) :=
  fun H1 e Q q => h H1 e _ fun H2 e2 => .inr ⟨b, rfl, q H2 e2⟩
theorem ev_abs {i : Int} (h : Ev ta σ H (.int i)) : Ev (tCB (fun xs H Q => ∃ i, xs = [.int i] ∧ Q (.int (if i < 0 then -i else i)) H) (tCons ta tNil)) σ H (.int (if i < 0 then -i else i)) :=
  fun H1 e Q q => h H1 e _ fun H2 e2 => ⟨i, rfl, q H2 e2⟩
theorem ev_min2 {i j : Int} (ha : Ev ta σ H (.int i)) (hb : Ev tb σ H (.int j)) : Ev (tCB (fun xs H Q => ∃ i j, xs = [.int i, .int j] ∧ Q (.int (if j < i then j else i)) H) (tCons ta (tCons tb tNil))) σ H (.int (if j < i then j else i)) := fun H1 e Q q =>
  ha H1 e _ fun H2 e2 => hb H2 (e.trans e2) _ fun H3 e3 => ⟨i, j, rfl, q H3 (e2.trans e3)⟩
theorem ev_lenS {s : Str} (h : Ev ta σ H (.str s)) (hz : s.length ≤ 100000) : Ev (tCB (fun xs H Q => ∃ z, xs = [.str z] ∧ z.length ≤ sizeLine ∧ Q (.int z.length) H) (tCons ta tNil)) σ H (.int s.length) :=
  fun H1 e Q q => h H1 e _ fun H2 e2 => ⟨s, rfl, sz_of hz, q H2 e2⟩
/-- isinstance(x, T) of a plain value -/
def tyOf : V → String
  | .non => "NoneType"
  | .bl _ => "bool"
  | .int _ => "int"
  | .str _ => "str"
  | .byt _ => "bytes"
  | .flt _ => "float"
  | _ => "?"
def isTy (x : V) (T : String) : Bool := ((kitB (tyOf x) T).getD false)
theorem ev_isi {T : String} {tn : String} {b : Bool} (ha : Ev ta σ H x) (ht : ∀ H1, TyX K H1 x (.type tn)) (hk : kitB tn T = some b) : Ev (tCB (rIsi K) (tCons ta (tCons (tC (.ty T)) tNil))) σ H (.bl b) :=
  fun H1 e Q q => ha H1 e _ fun H2 e2 => ⟨x, .ty T, .type tn, .type T, b, rfl, .ty T, ht H2, kit_ty hk, q H2 e2⟩
theorem tx_int (i : Int) (H1 : Hp) : TyX K H1 (.int i) (.type "int") := .base (.int i)
theorem tx_bl (i : Bool) (H1 : Hp) : TyX K H1 (.bl i) (.type "bool") := .base (.bl i)
theorem tx_str (i : Str) (H1 : Hp) : TyX K H1 (.str i) (.type "str") := .base (.str i)
theorem tx_non (H1 : Hp) : TyX K H1 .non (.type "NoneType") := .base .non
section
variable {D : Ends} {tz : TS}
/-- if c: x = e, an int: told by the value x has behind it -/
theorem q_ifI {b : Bool} {i : Nat} {p q : Int} (h : EvT t σ H b) (h1 : b = true → Ev te σ H (.int p)) (h0 : σ[i]? = some (some (.int q))) (k : ∀ H1, Ex H H1 → tz D (σ.set i (some (.int (if b = true then p else q)))) H1) : tSeq (tIfS t (tAsg te (gName i)) tNext) tz D σ H := by
  refine q_ifAsg h (fun hb => ?_) (fun hb => ?_) k
  · rw [if_pos hb]
    exact h1 hb
  · rw [hb]
    show σ.set i (some (V.int q)) = σ
    apply List.ext_getElem?
    intro j
    rw [List.getElem?_set]
    split
    · rename_i e
      subst e
      rw [h0]
      have := (List.getElem?_eq_some_iff.mp h0).1
      rw [if_pos this]
    · rfl
end
/-- a promise of one value, all else as it was -/
theorem spv {sp : Sp} {vs : List V} (h : ∀ H1, Ex H H1 → ∀ Q : VK, (∀ H2, Ex H1 H2 → Q z H2) → ∀ E : XK, sp vs H1 Q E) : SpV sp vs H z := h
end
local macro_rules | `(tactic| walk_at "side") => `(tactic| first
  | exact .inr ⟨by decide, by decide⟩
  | exact .inl ⟨by decide, by decide⟩
  | exact .inl ⟨by omega, by omega⟩
  | exact .inr ⟨by omega, by omega⟩
  | exact ⟨by decide, by decide⟩
  | exact ⟨by omega, by omega⟩
  | decide
  | (show (_ : Int) < _; omega)
  | omega)
local macro_rules | `(tactic| walk_at "rv") => `(tactic| first
  | exact rv_I0
  | ((refine' rv_I ?k1); (case k1 => walk_at "side"))
  | exact rv_isT
  | exact rv_notT
  | exact rv_isN
  | exact rv_notN
  | exact rv_eq rfl
  | exact rv_ne rfl)
local macro_rules | `(tactic| walk_at "sq") => `(tactic| first | assumption | exact ex_l (by assumption) (by assumption) | exact sq_of (by assumption))
/-- what a part gives, read off its form -/
local macro_rules | `(tactic| walk_at "ev") => `(tactic| first
  | exact ev_var rfl
  | exact ev_c
  | ((with_reducible refine' ev_op ?k1 ?k2 ?k3); (case k1 => walk_at "ev"); (case k2 => walk_at "ev"); (case k3 => walk_at "rv"))
  | ((with_reducible refine' ev_un ?k1 ?k2); (case k1 => walk_at "ev"); (case k2 => exact ru_neg))
  | ((with_reducible refine' ev_int ?k1); (case k1 => walk_at "ev"))
  | ((with_reducible refine' ev_abs ?k1); (case k1 => walk_at "ev"))
  | ((with_reducible refine' ev_andV ?k1 ?k2); (case k1 => walk_at "ev"); (case k2 => intro _; walk_at "ev"))
  | ((with_reducible refine' ev_orV ?k1 ?k2); (case k1 => walk_at "ev"); (case k2 => intro _; walk_at "ev"))
  | ((with_reducible refine' ev_notV ?k1); (case k1 => walk_at "ev"))
  | ((refine' ev_len ?k1 ?k2); (case k1 => walk_at "ev"); (case k2 => walk_at "sq")))
local macro_rules | `(tactic| walk_at "et") => `(tactic| first
  | ((with_reducible refine' et_or ?k1 ?k2); (case k1 => walk_at "et"); (case k2 => intro _; walk_at "et"))
  | ((with_reducible refine' et_and ?k1 ?k2); (case k1 => walk_at "et"); (case k2 => intro _; walk_at "et"))
  | ((with_reducible refine' et_not ?k1); (case k1 => walk_at "et"))
  | (refine' et_test ?k1; (case k1 => walk_at "ev"))
  | (refine' et_B ?k1; (case k1 => walk_at "ev")))

/-! ### zip(xs, ys) whose tuples are kept: for pair in zip(..) -/
section
open PySem.Sem
variable {prog : Program} {w : World} {A : Around} {E : Value → Shared → Prop} {s : Shared}
/-- the record of a zip: what it gave out last, whether it knows it out -/
abbrev ZR (h : Heap) (z TI TO : Addr) (f g : Value) : Prop := h.get? z = some { cls := .type "zip", dict := none, data := .fields #[f, g, .bool false, .ref TI, .ref TO], slots := #[] }
theorem zn_turn {z TI TO a1 a2 b1 b2 : Addr} {m n : Nat} {xs ys : Array Value} {x y u v f g : Value} {Q : Value → Shared → Prop} (D : ZipApart z TI TO a1 a2 b1 b2)
    (r0 : ZR s.heap z TI TO f g) (free : ∀ R : Bool → Shared → Prop, R true s → wpAny (model prog w) A (Builtin.SmallTypes.ownedTupleIsFree (.ref z)) R E s) (pI : IsPair s.heap TI (.ref a1) (.ref a2)) (pO : IsPair s.heap TO u v)
    (j1 : s.heap.IsListIter a1 b1 m) (j2 : s.heap.IsListIter a2 b2 n) (L1 : s.heap.IsList b1 xs) (L2 : s.heap.IsList b2 ys) (ex : xs[m]? = some x) (ey : ys[n]? = some y)
    (done : ∀ h', ZR h' z TI TO (rawInt s.heap.objs.size) (.bool false) → IsPair h' TO x y → h'.IsListIter a1 b1 (m + 1) → h'.IsListIter a2 b2 (n + 1) → IsPair h' s.heap.objs.size x y → h'.objs.size = s.heap.objs.size + 1 →
      (∀ c o, c ≠ z → c ≠ TO → c ≠ a1 → c ≠ a2 → s.heap.get? c = some o → h'.get? c = some o) → Q (.ref s.heap.objs.size) { s with heap := h' }) :
    wpAny (model prog w) A (Builtin.«zip.__next__» ⟨[.ref z], []⟩) (fun fin s' => ∃ t, fin = .done (.ret t) ∧ Q t s') E s := by
  show wpAny _ _ (field (.ref z) 2 >>= _) _ _ _
  refine wpAny_bind (wpAny_field r0 rfl (x := .bool false) rfl ?_)
  show wpAny _ _ (field (.ref z) 3 >>= _) _ _ _
  refine wpAny_bind (wpAny_field r0 rfl (x := .ref TI) rfl (wpAny_bind (wpAny_seqItems pI rfl ?_)))
  show wpAny _ _ (Builtin.SmallTypes.ownedTupleIsFree (.ref z) >>= _) _ _ _
  refine wpAny_bind (free _ ?_)
  simp only [if_true]
  refine wpAny_bind (wpAny_rule (wpAny_bind (wpAny_field r0 rfl (x := .ref TO) rfl ?_)))
  refine wpAny_bind (wpAny_setField_rec r0 (by simp) fun g1 r1 k1 => ?_)
  replace r1 : ZR g1 z TI TO .ellipsis g := r1
  refine wpAny_bind ?_
  simp only [List.zipIdx_cons, List.zipIdx_nil, List.forIn_cons, List.forIn_nil]
  refine wpAny_bind (wpAny_bind (wpAny_onRaise ?_))
  show wpAny _ _ (Builtin.SmallTypes.nextOf (.ref a1) >>= _) _ _ _
  refine wpAny_bind (wpAny_nextOf_list_item (j1.extBut k1.extBut D.i1z) (L1.extBut k1.extBut D.l1z) ex fun g2 i2 k2 => wpAny_pure ?_)
  have p2 : IsPair g2 TO u v := k2.extBut _ _ D.TOi1 (k1.extBut _ _ D.TOz pO)
  refine wpAny_bind (wpAny_seqItems p2 rfl (wpAny_bind (wpAny_updateSeq_pair p2 fun g3 p3 k3 => ?_)))
  replace p3 : IsPair g3 TO x v := p3
  refine wpAny_bind (wpAny_letGo (wpAny_pure (wpAny_bind (wpAny_bind (wpAny_onRaise ?_)))))
  show wpAny _ _ (Builtin.SmallTypes.nextOf (.ref a2) >>= _) _ _ _
  refine wpAny_bind (wpAny_nextOf_list_item (((j2.extBut k1.extBut D.i2z).extBut k2.extBut D.i12.symm).extBut k3.extBut D.TOi2.symm) (((L2.extBut k1.extBut D.l2z).extBut k2.extBut D.l2i1).extBut k3.extBut D.l2TO) ey fun g4 i4 k4 => wpAny_pure ?_)
  have p4 : IsPair g4 TO x v := k4.extBut _ _ D.TOi2 p3
  refine wpAny_bind (wpAny_seqItems p4 rfl (wpAny_bind (wpAny_updateSeq_pair p4 fun g5 p5 k5 => ?_)))
  replace p5 : IsPair g5 TO x y := p5
  refine wpAny_bind (wpAny_letGo (wpAny_pure (wpAny_pure (wpAny_bind (wpAny_seqItems p5 rfl (wpAny_bind (wpAny_newTuple ?_)))))))
  have sz5 : g5.objs.size = s.heap.objs.size := by rw [k5.1, k4.1, k3.1, k2.1, k1.1]
  have r5 : ZR g5 z TI TO .ellipsis g := k5.extBut _ _ D.TOz.symm (k4.extBut _ _ D.i2z.symm (k3.extBut _ _ D.TOz.symm (k2.extBut _ _ D.i1z.symm r1)))
  have old : ∀ c o, c ≠ z → c ≠ TO → c ≠ a1 → c ≠ a2 → s.heap.get? c = some o → g5.get? c = some o := fun c o n1 n2 n3 n4 e => k5.extBut _ _ n2 (k4.extBut _ _ n4 (k3.extBut _ _ n2 (k2.extBut _ _ n3 (k1.extBut _ _ n1 e))))
  have q1 : g5.IsListIter a1 b1 (m + 1) := ((i2.extBut k3.extBut D.TOi1.symm).extBut k4.extBut D.i12).extBut k5.extBut D.TOi1.symm
  have q2 : g5.IsListIter a2 b2 (n + 1) := i4.extBut k5.extBut D.TOi2.symm
  have zl : z < g5.objs.size := Heap.lt_size r5
  show wpAny _ _ (Builtin.SmallTypes.ownedTupleHandOut (.ref z) (.ref g5.objs.size) >>= _) _ _ _
  refine wpAny_bind ?_
  unfold Builtin.SmallTypes.ownedTupleHandOut
  have r6 : ZR (g5.push { cls := .type "tuple", data := .seq #[x, y] }) z TI TO .ellipsis g := Heap.get?_push_of_some _ r5
  refine wpAny_bind (wpAny_setField_rec r6 (by simp) fun g7 r7 k7 => ?_)
  replace r7 : ZR g7 z TI TO (rawInt g5.objs.size) g := r7
  refine wpAny_setField_rec r7 (by simp) fun g8 r8 k8 => ?_
  replace r8 : ZR g8 z TI TO (rawInt g5.objs.size) (.bool false) := r8
  have upz : ∀ c o, c ≠ z → g5.get? c = some o → g8.get? c = some o := fun c o n1 e => k8.extBut _ _ n1 (k7.extBut _ _ n1 (Heap.get?_push_of_some _ e))
  have pT : IsPair g8 g5.objs.size x y := k8.extBut _ _ (Nat.ne_of_gt zl) (k7.extBut _ _ (Nat.ne_of_gt zl) (Heap.get?_push_size _ rfl))
  have sz8 : g8.objs.size = g5.objs.size + 1 := by rw [k8.1, k7.1, Heap.size_push]
  rw [sz5] at r8 pT sz8
  refine wpAny_pure ⟨_, rfl, ?_⟩
  show Q (.ref g5.objs.size) _
  rw [sz5]
  exact done g8 r8 (upz _ _ D.TOz p5) (q1.at fun o e => upz _ o D.i1z e) (q2.at fun o e => upz _ o D.i2z e) pT sz8 fun c o n1 n2 n3 n4 e => upz c o n1 (old c o n1 n2 n3 n4 e)
theorem zn_last {z TI TO a1 a2 b1 b2 : Addr} {m n : Nat} {xs ys : Array Value} {u v f g : Value} {Q : PySem.Fin → Shared → Prop} (hh : A.handled = none) (D : ZipApart z TI TO a1 a2 b1 b2)
    (r0 : ZR s.heap z TI TO f g) (free : ∀ R : Bool → Shared → Prop, R true s → wpAny (model prog w) A (Builtin.SmallTypes.ownedTupleIsFree (.ref z)) R E s) (pI : IsPair s.heap TI (.ref a1) (.ref a2)) (pO : IsPair s.heap TO u v)
    (j1 : s.heap.IsListIter a1 b1 m) (j2 : s.heap.IsListIter a2 b2 n) (L1 : s.heap.IsList b1 xs) (L2 : s.heap.IsList b2 ys) (over : xs[m]? = none ∨ ys[n]? = none)
    (ends : ∀ h' e, (∀ c o, c ≠ z → c ≠ TO → c ≠ a1 → c ≠ a2 → s.heap.get? c = some o → h'.get? c = some o) → (∃ o, h'.get? e = some o ∧ o.cls = .type "StopIteration") → E (.ref e) { s with heap := h' }) :
    wpAny (model prog w) A (Builtin.«zip.__next__» ⟨[.ref z], []⟩) Q E s := by
  show wpAny _ _ (field (.ref z) 2 >>= _) _ _ _
  refine wpAny_bind (wpAny_field r0 rfl (x := .bool false) rfl ?_)
  show wpAny _ _ (field (.ref z) 3 >>= _) _ _ _
  refine wpAny_bind (wpAny_field r0 rfl (x := .ref TI) rfl (wpAny_bind (wpAny_seqItems pI rfl ?_)))
  show wpAny _ _ (Builtin.SmallTypes.ownedTupleIsFree (.ref z) >>= _) _ _ _
  refine wpAny_bind (free _ ?_)
  simp only [if_true]
  refine wpAny_bind (wpAny_rule (wpAny_bind (wpAny_field r0 rfl (x := .ref TO) rfl ?_)))
  refine wpAny_bind (wpAny_setField_rec r0 (by simp) fun g1 r1 k1 => ?_)
  replace r1 : ZR g1 z TI TO .ellipsis g := r1
  refine wpAny_bind ?_
  simp only [List.zipIdx_cons, List.zipIdx_nil, List.forIn_cons, List.forIn_nil]
  refine wpAny_bind (wpAny_bind (wpAny_onRaise ?_))
  show wpAny _ _ (Builtin.SmallTypes.nextOf (.ref a1) >>= _) _ _ _
  cases ex : xs[m]? with
  | none =>
    refine wpAny_bind (wpAny_nextOf_list_end hh (j1.extBut k1.extBut D.i1z) (L1.extBut k1.extBut D.l1z) ex fun g2 e k2 he => ?_)
    obtain ⟨oe, ho, hc⟩ := he
    have r2 : ZR g2 z TI TO .ellipsis g := k2 _ _ D.i1z.symm r1
    have nz : e ≠ z := fun q => by subst q; rw [r2] at ho; cases ho; simp at hc
    refine wpAny_setField_rec r2 (by simp) fun g3 _ k3 => ends g3 e (fun c o n1 _ n3 _ q => k3.extBut _ _ n1 (k2 _ _ n3 (k1.extBut _ _ n1 q))) ⟨oe, k3.extBut _ _ nz ho, hc⟩
  | some x =>
    have ey : ys[n]? = none := by rcases over with h | h; rw [ex] at h; cases h; exact h
    refine wpAny_bind (wpAny_nextOf_list_item (j1.extBut k1.extBut D.i1z) (L1.extBut k1.extBut D.l1z) ex fun g2 i2 k2 => wpAny_pure ?_)
    have p2 : IsPair g2 TO u v := k2.extBut _ _ D.TOi1 (k1.extBut _ _ D.TOz pO)
    refine wpAny_bind (wpAny_seqItems p2 rfl (wpAny_bind (wpAny_updateSeq_pair p2 fun g3 p3 k3 => ?_)))
    refine wpAny_bind (wpAny_letGo (wpAny_pure (wpAny_bind (wpAny_bind (wpAny_onRaise ?_)))))
    show wpAny _ _ (Builtin.SmallTypes.nextOf (.ref a2) >>= _) _ _ _
    refine wpAny_bind (wpAny_nextOf_list_end hh (((j2.extBut k1.extBut D.i2z).extBut k2.extBut D.i12.symm).extBut k3.extBut D.TOi2.symm) (((L2.extBut k1.extBut D.l2z).extBut k2.extBut D.l2i1).extBut k3.extBut D.l2TO) ey fun g4 e k4 he => ?_)
    obtain ⟨oe, ho, hc⟩ := he
    have r4 : ZR g4 z TI TO .ellipsis g := k4 _ _ D.i2z.symm (k3.extBut _ _ D.TOz.symm (k2.extBut _ _ D.i1z.symm r1))
    have nz : e ≠ z := fun q => by subst q; rw [r4] at ho; cases ho; simp at hc
    refine wpAny_setField_rec r4 (by simp) fun g5 _ k5 => ends g5 e (fun c o n1 n2 n3 n4 q => k5.extBut _ _ n1 (k4 _ _ n4 (k3.extBut _ _ n2 (k2.extBut _ _ n3 (k1.extBut _ _ n1 q))))) ⟨oe, k5.extBut _ _ nz ho, hc⟩
/-- nothing was given out, or it is gone -/
theorem zn_free0 {z TI TO : Addr} {g : Value} (r0 : ZR s.heap z TI TO .none g) (R : Bool → Shared → Prop) (h : R true s) : wpAny (model prog w) A (Builtin.SmallTypes.ownedTupleIsFree (.ref z)) R E s := by
  unfold Builtin.SmallTypes.ownedTupleIsFree
  exact wpAny_bind (wpAny_field r0 rfl (x := .none) rfl (wpAny_pure h))
theorem zn_gone {a : Addr} {Q : Option Obj → Shared → Prop} (gone : s.heap.get? a = none) (h : Q none s) : wpAny (model prog w) A (loadIfAlive a) Q E s := by
  have h2 : Q (s.heap.get? a) s := gone.symm ▸ h
  exact fun _ _ _ => h2
theorem zn_free1 {z TI TO T : Addr} {g : Value} (r0 : ZR s.heap z TI TO (rawInt T) g) (gone : s.heap.get? T = none) (R : Bool → Shared → Prop) (h : R true s) : wpAny (model prog w) A (Builtin.SmallTypes.ownedTupleIsFree (.ref z)) R E s := by
  unfold Builtin.SmallTypes.ownedTupleIsFree
  refine wpAny_bind (wpAny_field r0 rfl (x := rawInt T) rfl ?_)
  show wpAny _ _ (loadIfAlive ((T : Int).toNat) >>= _) _ _ _
  rw [Int.toNat_natCast]
  refine wpAny_bind (zn_gone gone ?_)
  simp only [Option.isNone_none, if_true]
  exact wpAny_pure h
/-- next(z), whatever was given out before -/
theorem zn_next {z TI TO a1 a2 b1 b2 : Addr} {m n : Nat} {xs ys : Array Value} {x y u v : Value} {Q : Option Value → Shared → Prop} (D : ZipApart z TI TO a1 a2 b1 b2)
    (r0 : (∃ g, ZR s.heap z TI TO .none (.bool g)) ∨ ∃ (T : Addr) (g : Bool), ZR s.heap z TI TO (rawInt T) (.bool g)) (pI : IsPair s.heap TI (.ref a1) (.ref a2)) (pO : IsPair s.heap TO u v)
    (j1 : s.heap.IsListIter a1 b1 m) (j2 : s.heap.IsListIter a2 b2 n) (L1 : s.heap.IsList b1 xs) (L2 : s.heap.IsList b2 ys) (ex : xs[m]? = some x) (ey : ys[n]? = some y)
    (done : ∀ h', (∃ (T : Addr) (g : Bool), ZR h' z TI TO (rawInt T) (.bool g)) → (∃ p q, IsPair h' TO p q) → h'.IsListIter a1 b1 (m + 1) → h'.IsListIter a2 b2 (n + 1) → IsPair h' s.heap.objs.size x y → h'.objs.size = s.heap.objs.size + 1 →
      (∀ c o, c ≠ z → c ≠ TO → c ≠ a1 → c ≠ a2 → s.heap.get? c = some o → h'.get? c = some o) → Q (some (.ref s.heap.objs.size)) { s with heap := h' }) :
    wpAny (model prog w) A (pyNext (.ref z)) Q E s := by
  have go : ∀ f g, ZR s.heap z TI TO f g → (∀ (B : Around) (F : Value → Shared → Prop) (R : Bool → Shared → Prop), R true s → wpAny (model prog w) B (Builtin.SmallTypes.ownedTupleIsFree (.ref z)) R F s) → wpAny (model prog w) A (pyNext (.ref z)) Q E s := fun f g r free => by
    have ty : s.TypeIs (.ref z) "zip" := ⟨_, r, rfl⟩
    unfold pyNext
    exact wpAny_bind (wpAny_attempt (wpAny_callSpecial?_slot (name := Str.ofString "__next__") ty F.slot_zip_next
      (wpAny_call_entry F.slot_zip_next ty F.entry_zip_next (zn_turn D r (fun R => free _ _ R) pI pO j1 j2 L1 L2 ex ey fun h' c1 c2 c3 c4 c5 c6 c7 => wpAny_pure (done h' ⟨_, _, c1⟩ ⟨_, _, c2⟩ c3 c4 c5 c6 c7)) (F.args_zip_next_1 _))))
  rcases r0 with ⟨g, r⟩ | ⟨T, g, r⟩
  · exact go _ _ r fun B F R => zn_free0 r R
  · cases hT : s.heap.get? T with
    | none => exact go _ _ r fun B F R => zn_free1 r hT R
    | some oT => exact wpAny_pyNext_zip_item_held D r hT pI j1 j2 L1 L2 ex ey fun h' c1 c2 c3 c4 c5 c6 => done h' ⟨T, true, c1⟩ ⟨u, v, c6 _ _ D.TOz D.TOi1 D.TOi2 pO⟩ c2 c3 c4 c5 fun c o n1 _ n3 n4 e => c6 c o n1 n3 n4 e
theorem zn_stop {z TI TO a1 a2 b1 b2 : Addr} {m n : Nat} {xs ys : Array Value} {u v : Value} {Q : Option Value → Shared → Prop} (hh : A.handled = none) (D : ZipApart z TI TO a1 a2 b1 b2)
    (r0 : (∃ g, ZR s.heap z TI TO .none (.bool g)) ∨ ∃ (T : Addr) (g : Bool), ZR s.heap z TI TO (rawInt T) (.bool g)) (pI : IsPair s.heap TI (.ref a1) (.ref a2)) (pO : IsPair s.heap TO u v)
    (j1 : s.heap.IsListIter a1 b1 m) (j2 : s.heap.IsListIter a2 b2 n) (L1 : s.heap.IsList b1 xs) (L2 : s.heap.IsList b2 ys) (over : xs[m]? = none ∨ ys[n]? = none)
    (done : ∀ h', (∀ c o, c ≠ z → c ≠ TO → c ≠ a1 → c ≠ a2 → s.heap.get? c = some o → h'.get? c = some o) → Q none { s with heap := h' }) :
    wpAny (model prog w) A (pyNext (.ref z)) Q E s := by
  have go : ∀ f g, ZR s.heap z TI TO f g → (∀ (B : Around) (F : Value → Shared → Prop) (R : Bool → Shared → Prop), R true s → wpAny (model prog w) B (Builtin.SmallTypes.ownedTupleIsFree (.ref z)) R F s) → wpAny (model prog w) A (pyNext (.ref z)) Q E s := fun f g r free => by
    have ty : s.TypeIs (.ref z) "zip" := ⟨_, r, rfl⟩
    unfold pyNext
    refine wpAny_bind (wpAny_attempt (wpAny_callSpecial?_slot (name := Str.ofString "__next__") ty F.slot_zip_next
      (wpAny_call_entry F.slot_zip_next ty F.entry_zip_next (zn_last hh D r (fun R => free _ _ R) pI pO j1 j2 L1 L2 over fun h' e hk he => ?_) (F.args_zip_next_1 _))))
    obtain ⟨o, ho, hc⟩ := he
    exact wpAny_bind (wpAny_isInstance (T := "StopIteration") (b := true) ⟨o, ho, hc⟩ isSubtype_stop (wpAny_pure (done _ hk)))
  rcases r0 with ⟨g, r⟩ | ⟨T, g, r⟩
  · exact go _ _ r fun B F R => zn_free0 r R
  · cases hT : s.heap.get? T with
    | none => exact go _ _ r fun B F R => zn_free1 r hT R
    | some oT => exact wpAny_pyNext_zip_end_held hh D r hT pI j1 j2 L1 L2 over fun h' hk => done h' fun c o n1 _ n3 n4 e => hk c o n1 n3 n4 e
end
/-! the walk -/
section
open PySem.Sem
variable {P : Program} {w : World} {K : PySem.W.Frag}
def NoTup : Expr → Prop
  | .Tuple .. | .List .. => False
  | _ => True
theorem zn_go {M : Model} {A : Around} {E : Value → Shared → Prop} {s : Shared} {x : Str} {pos : Pos} {it v : Value} {Q : Unit → Shared → Prop} (h : Q () s) : wpAny M A (letOwnedTupleGo (.Name x pos) it v) Q E s := wpAny_pure h
theorem turn_zipN {x : Str} {tpos : Pos} {a b z TI TO i1 i2 : Addr} (D : ZipApart z TI TO i1 i2 a b) :
    Turn P w K (.Name x tpos) (Itz K a b) [z, TI, TO, i1, i2] z (fun i h => ((∃ g, ZR h z TI TO .none (.bool g)) ∨ ∃ (T : Addr) (g : Bool), ZR h z TI TO (rawInt T) (.bool g)) ∧ IsPair h TI (.ref i1) (.ref i2) ∧ (∃ p q, IsPair h TO p q) ∧ h.IsListIter i1 a i ∧ h.IsListIter i2 b i) where
  mem := by simp
  obj := fun i h st c hc => by
    obtain ⟨hz, hTI, ⟨p, q, hTO⟩, ⟨o1, e1, _, d1⟩, ⟨o2, e2, _, d2⟩⟩ := st
    have zz : ∃ f g, ZR h z TI TO f g := by
      rcases hz with ⟨g, r⟩ | ⟨T, g, r⟩
      · exact ⟨_, _, r⟩
      · exact ⟨_, _, r⟩
    obtain ⟨f, g, r⟩ := zz
    rcases (show c = z ∨ c = TI ∨ c = TO ∨ c = i1 ∨ c = i2 by simpa using hc) with e | e | e | e | e <;> rw [e]
    · exact ⟨_, r, fun v y => nomatch y⟩
    · exact ⟨_, hTI, fun v y => nomatch y⟩
    · exact ⟨_, hTO, fun v y => nomatch y⟩
    · exact ⟨o1, e1, fun v y => by rw [d1] at y; cases y⟩
    · exact ⟨o2, e2, fun v y => by rw [d2] at y; cases y⟩
  keep := fun i h h' st k => by
    obtain ⟨hz, hTI, ⟨p, q, hTO⟩, h1, h2⟩ := st
    refine ⟨?_, k TI (by simp) _ hTI, ⟨p, q, k TO (by simp) _ hTO⟩, h1.at fun o y => k i1 (by simp) o y, h2.at fun o y => k i2 (by simp) o y⟩
    rcases hz with ⟨g, r⟩ | ⟨T, g, r⟩
    · exact .inl ⟨g, k z (by simp) _ r⟩
    · exact .inr ⟨T, g, k z (by simp) _ r⟩
  item := by
    intro X hP hw hK hc i pins s σ H E I hf st hg
    subst hP hw hK
    obtain ⟨hz, hTI, ⟨p0, q0, hTO⟩, h1, h2⟩ := st
    obtain ⟨xs, ys, x', y', hqx, hqy, hx, hy⟩ := hg
    obtain ⟨its, rv, p, _⟩ := I.list hqx
    obtain ⟨its2, rv2, p2, _⟩ := I.list hqy
    obtain ⟨u, hu, ru⟩ := rv.get hx
    obtain ⟨u2, hu2, ru2⟩ := rv2.get hy
    have hlt : ∀ c ∈ [z, TI, TO, i1, i2], c < s.heap.objs.size := fun c hcm => by
      have zz : ∃ o, s.heap.get? z = some o := by
        rcases hz with ⟨g, r⟩ | ⟨T, g, r⟩
        · exact ⟨_, r⟩
        · exact ⟨_, r⟩
      obtain ⟨o, ho⟩ := zz
      rcases (show c = z ∨ c = TI ∨ c = TO ∨ c = i1 ∨ c = i2 by simpa using hcm) with e | e | e | e | e <;> rw [e]
      · exact Heap.lt_size ho
      · exact Heap.lt_size hTI
      · exact Heap.lt_size hTO
      · obtain ⟨_, e1, _⟩ := h1; exact Heap.lt_size e1
      · obtain ⟨_, e2, _⟩ := h2; exact Heap.lt_size e2
    refine zn_next D hz hTI hTO h1 h2 p.isList p2.isList (x := u) (y := u2) (by simpa using hu) (by simpa using hu2) fun h' z' TO' h1' h2' hT hsz hk => ?_
    refine ⟨_, rfl, zn_go ?_⟩
    have two : 2 ≤ sizeLine := by decide
    have hz5 : ∃ o, h'.get? z = some o ∧ True := by
      obtain ⟨T, g, r⟩ := z'
      exact ⟨_, r, trivial⟩
    have new : ObjOk X.prog X.w (upd H s.heap.objs.size (.tup [x', y'])) h' s.heap.objs.size (.tup [x', y']) :=
      ⟨two, [u, u2], .cons ru (.cons ru2 .nil), ⟨_, hT, rfl, _, rfl⟩⟩
    have I1 : Inv X pins σ (upd H s.heap.objs.size (.tup [x', y'])) { s with heap := h' } :=
      I.turnedNew (t' := s.toks) (ch := [z, TI, TO, i1, i2]) (fun c o hb q => hk c o (fun y => hb (by simp [y])) (fun y => hb (by simp [y])) (fun y => hb (by simp [y])) (fun y => hb (by simp [y])) q) hf (Nat.le_refl _) new
    refine ⟨.ref s.heap.objs.size, _, I1, rfl, ⟨_, x', y', rfl, I.hok.fresh (Nat.le_refl _), rfl, fun l hl => by rw [I.list_inj hl hqx]; exact hx, fun l hl => by rw [I.list_inj hl hqy]; exact hy⟩, ⟨.inr z', ?_, TO', h1', h2'⟩, fun c hcm => ?_⟩
    · exact hk _ _ D.TIz D.TITO D.TIi1 D.TIi2 hTI
    · rw [upd_ne (Nat.ne_of_lt (hlt c hcm))]
      exact (hf c hcm).1
  done := by
    intro X hP hw hK hc i pins s σ H E I hf st hg
    subst hP hw hK
    obtain ⟨hz, hTI, ⟨p0, q0, hTO⟩, h1, h2⟩ := st
    obtain ⟨xs, ys, hqx, hqy, hend⟩ := hg
    obtain ⟨its, rv, p, _⟩ := I.list hqx
    obtain ⟨its2, rv2, p2, _⟩ := I.list hqy
    have l1 := rv.length
    have l2 := rv2.length
    have he : its.toArray[i]? = none ∨ its2.toArray[i]? = none := by
      rcases hend with q | q
      · exact .inl (by simp; omega)
      · exact .inr (by simp; omega)
    exact zn_stop (I.ok.hd hc) D hz hTI hTO h1 h2 p.isList p2.isList he fun h' hk => ⟨rfl, I.turnedL (t' := s.toks) (ch := [z, TI, TO, i1, i2]) (fun c o hb q => hk c o (fun y => hb (by simp [y])) (fun y => hb (by simp [y])) (fun y => hb (by simp [y])) (fun y => hb (by simp [y])) q) hf⟩
  self := fun A i s Q E st h => by
    obtain ⟨hz, _⟩ := st
    have go : ∀ f g, ZR s.heap z TI TO f g → wpAny (model P w) A (pyIter (.ref z)) Q E s := fun f g r => by
      have ty : s.TypeIs (.ref z) "zip" := ⟨_, r, rfl⟩
      refine wpAny_pyIter_slot ty F.slot_zip_iter (wpAny_call_entry F.slot_zip_iter ty F.entry_zip_iter ?_ (F.args_zip_iter_1 _))
      exact wpAny_pure ⟨_, rfl, "zip", _, ty, F.slot_zip_next.lookup, h⟩
    rcases hz with ⟨g, r⟩ | ⟨T, g, r⟩
    · exact go _ _ r
    · exact go _ _ r
theorem pi_zipN {X : Cx} {e e2 : Expr} {ta : TA} {p pos tpos : Pos} {x : Str} (hg : Gl X "zip") (hm : X.mg "zip" = none) (ha : PA X [e, e2] ta)
    (hs : starEach [e, e2] X.env = (false, eval e X.env) :: starEach [e2] X.env := by rfl) (hpl : (backTo pos (starEach [e2] X.env)).any (·.1) = false := by rfl) :
    PI X (.Name x tpos) (.Call (.Name "zip" p) [e, e2] [] pos) (iZip X.K ta) := by
  refine ⟨fun pins s σ H R I h => ?_⟩
  refine Call_ (ld_blt I hg hm PyProof.Rows.boot_zip (PyProof.Rows.callWith_type1 (thn (ha.run pos pins s σ H _ I h) fun us s1 ⟨vs, H1, I1, r1, q1⟩ => ?_) hs hpl))
  obtain ⟨a, b, xs, ys, rfl, hqx, hqy, q⟩ := q1
  obtain ⟨u1, u2, rfl, e1, e2'⟩ := vals2 r1
  cases e1
  cases e2'
  obtain ⟨its, rv, p1, _⟩ := I1.list hqx
  obtain ⟨its2, rv2, p2, _⟩ := I1.list hqy
  refine call_zip_2 p1.isList p2.isList fun h' hz hTI hTO h1 h2 hsz hk => wpAny_pyIter_zip hz ?_
  have I2 : Inv X pins σ H1 { s1 with heap := h' } := I1.kept (t' := s1.toks) hk
  refine ⟨s1.heap.objs.size + 4, [s1.heap.objs.size + 4, s1.heap.objs.size + 2, s1.heap.objs.size + 3, s1.heap.objs.size, s1.heap.objs.size + 1], _, _, H1, rfl, I2, turn_zipN (PySem.W.ktu_apart s1.heap.objs.size a b p1.lt p2.lt), ⟨.inl ⟨false, hz⟩, hTI, ⟨_, _, hTO⟩, h1, h2⟩, fun c hcm => ?_, q⟩
  have hle : s1.heap.objs.size ≤ c := by
    rcases (show c = s1.heap.objs.size + 4 ∨ c = s1.heap.objs.size + 2 ∨ c = s1.heap.objs.size + 3 ∨ c = s1.heap.objs.size ∨ c = s1.heap.objs.size + 1 by simpa using hcm) with z | z | z | z | z <;> rw [z] <;> first | exact Nat.le_add_right _ _ | exact Nat.le_refl _
  exact I1.fpOk hle (I1.hok.fresh hle)
end

/-! ### tuples made, tuples read, data compared -/
def SpU (sp : Sp) (vs : List V) (H : Hp) (xs : List V) : Prop := ∀ H1, Ex H H1 → ∀ Q : VK, (∀ p H2, H1 p = none → Ex H1 H2 → H2 p = some (.tup xs) → Q (.ref p) H2) → ∀ E : XK, sp vs H1 Q E
section
variable {K : PySem.W.Frag} {σ : L2.St} {H H' : Hp} {ta tb te : TE} {x y z v : V}
theorem eu_call {sp : Sp} {dvs vs xs : List V} {E : XK} {ta : TA} (h : EvA ta σ H vs) (hs : SpU sp (vs ++ dvs) H xs) : EvU (tCall sp dvs E ta) σ H xs := fun H1 e Q q =>
  h H1 e _ fun H2 e2 => hs H2 (e.trans e2) Q (fun p H3 hp e3 h3 => q p H3 (fresh_back e2 hp) (e2.trans e3) h3) E
theorem ev_lenT {p : Addr} {xs : List V} (ha : Ev ta σ H (.ref p)) (h : SqT K H p xs) : Ev (tCB (fun xs H Q => ∃ p ys, xs = [.ref p] ∧ (SqL K H p ys ∨ SqT K H p ys) ∧ Q (.int ys.length) H) (tCons ta tNil)) σ H (.int (xs.length : Int)) := fun H1 e Q q =>
  ha H1 e _ fun H2 e2 => ⟨p, xs, rfl, Or.inr (ex_t (e.trans e2) h), q H2 e2⟩
theorem eu_divmod {i j : Int} (ha : Ev ta σ H (.int i)) (hb : Ev tb σ H (.int j)) (hc : CDiv i j) :
    EvU (tCB (fun xs H Q => ∃ i j, xs = [.int i, .int j] ∧ CDiv i j ∧ ∀ p, H p = none → Q (.ref p) (upd H p (.tup [.int (i / j), .int (i % j)]))) (tCons ta (tCons tb tNil))) σ H [.int (i / j), .int (i % j)] := fun H1 e Q q =>
  ha H1 e _ fun H2 e2 => hb H2 (e.trans e2) _ fun H3 e3 => ⟨i, j, rfl, hc, fun p hp => q p _ (fresh_back (e2.trans e3) hp) ((e2.trans e3).trans (Ex.new hp)) upd_same⟩
theorem dp_ints : ∀ ns : List Int, DpAll K H (ns.map V.int) (ns.map PyData.int)
  | [] => .nil
  | n :: r => .cons (.int n) (dp_ints r)
theorem eqv_ints : ∀ ns ms : List Int, PyData.eqv (.tuple (ns.map PyData.int)) (.tuple (ms.map PyData.int)) = decide (ns = ms)
  | [], [] => rfl
  | [], _ :: _ => rfl
  | _ :: _, [] => rfl
  | n :: r, m :: t => by
    have ih := eqv_ints r t
    show ((n == m) && PyData.eqv (.tuple (r.map PyData.int)) (.tuple (t.map PyData.int))) = _
    rw [ih, Bool.eq_iff_iff, Bool.and_eq_true, decide_eq_true_eq, decide_eq_true_eq, beq_iff_eq, List.cons.injEq]
theorem dp_tup {p : Addr} {ns : List Int} (h : SqT K H p (ns.map V.int)) : Dp K H (.ref p) (.tuple (ns.map PyData.int)) := .tup h (dp_ints ns)
def shI (n : Nat) : Bool := SeqAt.shaped (.tuple ((List.replicate n 0).map PyData.int))
theorem rv_neT {p q : Addr} {ns ms : List Int} (hp : SqT K H p (ns.map V.int)) (hq : SqT K H q (ms.map V.int)) (s1 : SeqAt.shaped (.tuple (ns.map PyData.int)) = true) (s2 : SeqAt.shaped (.tuple (ms.map PyData.int)) = true) : RV (rNeD K) (.ref p) (.ref q) H (.bl (!decide (ns = ms))) := fun H1 e Q k =>
  ⟨_, _, dp_tup (ex_t e hp), dp_tup (ex_t e hq), s1, s2, by rw [eqv_ints]; exact k H1 (Ex.refl H1)⟩
theorem tx_tup {a : Addr} {xs : List V} (h : H a = some (.tup xs)) : ∀ H1, Ex H H1 → TyX K H1 (.ref a) (.type "tuple") := fun H1 e => .base (.tup (e _ _ h))
theorem ev_isi' {T : String} {tn : String} {b : Bool} (ha : Ev ta σ H x) (ht : ∀ H1, Ex H H1 → TyX K H1 x (.type tn)) (hk : kitB tn T = some b) : Ev (tCB (rIsi K) (tCons ta (tCons (tC (.ty T)) tNil))) σ H (.bl b) :=
  fun H1 e Q q => ha H1 e _ fun H2 e2 => ⟨x, .ty T, .type tn, .type T, b, rfl, .ty T, ht H2 (e.trans e2), kit_ty hk, q H2 e2⟩
theorem ev_chain {r r' : R2} {tc : TE} {b c : Bool} (ha : Ev ta σ H x) (hb : Ev tb σ H y) (hr : RV r x y H (.bl b)) (hc : b = true → Ev tc σ H z) (hr' : b = true → RV r' y z H (.bl c)) : Ev (tChain r r' ta tb tc) σ H (.bl (b && c)) := fun H1 e Q q =>
  ha H1 e _ fun H2 e2 => hb H2 (e.trans e2) _ fun H3 e3 => hr H3 ((e.trans e2).trans e3) _ fun H4 e4 => ⟨b, rfl, by
    cases b with
    | true =>
      show tc σ H4 fun w' H5 => r' y w' H5 Q
      exact hc rfl H4 (((e.trans e2).trans e3).trans e4) _ fun H5 e5 => hr' rfl H5 ((((e.trans e2).trans e3).trans e4).trans e5) Q fun H6 e6 => q H6 ((((e2.trans e3).trans e4).trans e5).trans e6)
    | false =>
      show Q (.bl false) H4
      exact q H4 ((e2.trans e3).trans e4)⟩
/-- a, b = (..): a new tuple unpacked into names -/
theorem gt2 {p : Addr} {i j : Nat} (h : SqT K H p [x, y]) {Q : L2.St → Hp → Prop} (k : Q ((σ.set i (some x)).set j (some y)) H) : gTup K 2 (gCons (gName i) (gCons (gName j) gNil)) (.ref p) σ H Q :=
  ⟨p, [x, y], rfl, h, rfl, x, [y], rfl, y, [], rfl, rfl, k⟩
theorem gt3 {p : Addr} {i j l : Nat} (h : SqT K H p [x, y, z]) {Q : L2.St → Hp → Prop} (k : Q (((σ.set i (some x)).set j (some y)).set l (some z)) H) : gTup K 3 (gCons (gName i) (gCons (gName j) (gCons (gName l) gNil))) (.ref p) σ H Q :=
  ⟨p, [x, y, z], rfl, h, rfl, x, [y, z], rfl, y, [z], rfl, z, [], rfl, rfl, k⟩
end
theorem hu64 {A : Around} {k : Nat} (hr : Room k A) : A.units + 64 < cLine := by
  have := hr.un
  omega
section
variable {K : PySem.W.Frag} {σ : L2.St} {H : Hp} {te : TE} {D : Ends} {tz : TS} {g : TG} {xs : List V}
theorem q_asgG (h : EvU te σ H xs) (k : ∀ p H1, H p = none → Ex H H1 → H1 p = some (.tup xs) → g (.ref p) σ H1 (tz D)) : tSeq (tAsg te g) tz D σ H := h H (Ex.refl H) _ fun p H1 hp e h1 => k p H1 hp e h1
theorem q_asgV {v : V} (h : Ev te σ H v) (k : ∀ H1, Ex H H1 → g v σ H1 (tz D)) : tSeq (tAsg te g) tz D σ H := h H (Ex.refl H) _ fun H1 e => k H1 e
end
/-! ### plain values and their types -/
inductive Pl : V → Prop where
  | non : Pl .non
  | bl (b : Bool) : Pl (.bl b)
  | int (i : Int) : Pl (.int i)
  | str (s : Str) : Pl (.str s)
def tyN : V → String
  | .bl _ => "bool"
  | .int _ => "int"
  | .str _ => "str"
  | _ => "NoneType"
def isInt : V → Bool
  | .int _ => true
  | _ => false
theorem tx_pl {K : PySem.W.Frag} {x : V} (h : Pl x) (H1 : Hp) : TyX K H1 x (.type (tyN x)) := by
  cases h with
  | non => exact .base .non
  | bl b => exact .base (.bl b)
  | int i => exact .base (.int i)
  | str s => exact .base (.str s)
theorem ev_isiP {K : PySem.W.Frag} {σ : L2.St} {H : Hp} {ta : TE} {x : V} {T : String} {b : Bool} (ha : Ev ta σ H x) (hx : Pl x) (hk : kitB (tyN x) T = some b) : Ev (tCB (rIsi K) (tCons ta (tCons (tC (.ty T)) tNil))) σ H (.bl b) :=
  ev_isi ha (tx_pl hx) hk
/-- isinstance(x, int) and not isinstance(x, bool) -/
theorem ev_isInt {K : PySem.W.Frag} {σ : L2.St} {H : Hp} {ta tb : TE} {x : V} (ha : Ev ta σ H x) (hb : Ev tb σ H x) (hx : Pl x) :
    Ev (tAndV (tCB (rIsi K) (tCons ta (tCons (tC (.ty "int")) tNil))) (tNotV (tCB (rIsi K) (tCons tb (tCons (tC (.ty "bool")) tNil))))) σ H (.bl (isInt x)) := by
  cases hx with
  | non => exact ev_is (ev_andV (ev_isiP (b := false) ha .non (by decide +kernel)) fun z => nomatch z) (show V.bl (false && true) = _ from rfl)
  | bl b => exact ev_is (ev_andV (ev_isiP (b := true) ha (.bl b) (by show kitB "bool" "int" = some true; decide +kernel)) fun _ => ev_notV (ev_isiP (b := true) hb (.bl b) (by show kitB "bool" "bool" = some true; decide +kernel))) rfl
  | int i => exact ev_is (ev_andV (ev_isiP (b := true) ha (.int i) (by show kitB "int" "int" = some true; decide +kernel)) fun _ => ev_notV (ev_isiP (b := false) hb (.int i) (by show kitB "int" "bool" = some false; decide +kernel))) rfl
  | str s => exact ev_is (ev_andV (ev_isiP (b := false) ha (.str s) (by show kitB "str" "int" = some false; decide +kernel)) fun z => nomatch z) (show V.bl (false && true) = _ from rfl)

/-! ### the order of tuples that need not be alike behind the first difference -/
section
open PySem.SeqAt PySem.MeetsSeq PySem.MeetsSeq2 PySem.MeetsSeq3
open PySem.AutoSeq1 (wpAny_loadPart')
/-- pairs walked from the left: the first that differ decide; z where none do -/
inductive Lx (A : Around) (s : Shared) (z : Bool) : List (Value × Value) → Bool → Prop
  | nil : Lx A s z [] z
  | eq {y x : Value} {ps : List (Value × Value)} {c : Bool} : EqAt A s y x true → Lx A s z ps c → Lx A s z ((y, x) :: ps) c
  | lt {y x : Value} {ps : List (Value × Value)} {c : Bool} : EqAt A s y x false → Ob.RcOp .Lt A s y x c → Lx A s z ((y, x) :: ps) c
theorem lt_meets (l b : Addr) (us vs : Array Value) (n m : Nat) (dl db : Option Addr) (sl sb : Array (Option Value)) :
    Meets (Builtin.«tuple.__lt__» ⟨[.ref l, .ref b], []⟩)
      (fun A R s => s.heap.get? l = some { cls := .type "tuple", dict := dl, data := .seq us n, slots := sl } ∧ s.heap.get? b = some { cls := .type "tuple", dict := db, data := .seq vs m, slots := sb } ∧
        ∃ c, Lx A.in1 s (decide (us.size < vs.size)) (us.toList.zip vs.toList) c ∧ R (.ok (.ret (.bool c))) s) := by
  refine .of_wp fun prog w A R s h => ?_
  obtain ⟨hp, g, d, tk, os⟩ := s
  obtain ⟨hl, hb, c, hx, h⟩ := h
  have f2 := AutoSeq1.sub_tuple_tuple
  wp_walk using wpAny_loadPart' hl, wpAny_loadPart' hb, wpAny_forIn_list _ (fun ps b s' => b.1 = none ∧ s' = ⟨hp, g, d, tk, os⟩ ∧ ∃ c, Lx A.in1 ⟨hp, g, d, tk, os⟩ (decide (us.size < vs.size)) ps c ∧ R (.ok (.ret (.bool c))) ⟨hp, g, d, tk, os⟩) _
  case turn =>
    rintro ⟨y, x⟩ ps b s' ⟨hb', rfl, c, hz, hR⟩
    cases hz with
    | eq he ht =>
      refine wpAny_bind (he prog w _ _ ?_)
      wp_walk
      exact ⟨rfl, rfl, c, ht, hR⟩
    | lt he hr =>
      refine wpAny_bind (he prog w _ _ ?_)
      have hri := hr prog w
      wp_walk using hri
      exact ⟨_, rfl, hR⟩
  case fin =>
    rintro ⟨b1, b2⟩ s' ⟨hb', rfl, c, hz, hR⟩
    simp only at hb'
    subst hb'
    cases hz
    wp_walk
    exact ⟨_, rfl, by simpa [Builtin.Tuple.tupleCompareSizes] using hR⟩
  case h => exact ⟨rfl, rfl, c, hx, h⟩
theorem lt_tuples {A : Around} {s : Shared} {l b : Addr} {us vs : Array Value} {c : Bool} (hl : s.heap.IsTuple l us) (hb : s.heap.IsTuple b vs) (hu : A.units < cLine) (hx : Lx A.in1 s (decide (us.size < vs.size)) (us.toList.zip vs.toList) c) :
    Ob.RcOp .Lt A s (.ref l) (.ref b) c := by
  intro prog w E Q h
  obtain ⟨⟨k1, dl, da, sl⟩, ho, hc, n, hd⟩ := hl
  obtain ⟨⟨k2, db, da2, sb⟩, ho2, hc2, m, hd2⟩ := hb
  simp only at hc hd hc2 hd2
  subst hc hd hc2 hd2
  exact richCompare_meets_room (op := .Lt) ⟨_, ho, rfl⟩ ⟨_, ho2, rfl⟩ F.slot_tuple_lt F.entry_tuple_lt (F.args_tuple_lt_2 _ _) (lt_meets l b us vs n m dl db sl sb) ⟨ho, ho2, c, hx, ⟨(fun z => nomatch z), h⟩⟩ hu
end
mutual
/-- less, of data -/
def ltD : PyData → PyData → Bool
  | .int a, .int b => decide (a < b)
  | .str x, .str y => decide (x.cps.toList < y.cps.toList)
  | .tuple xs, .tuple ys => ltDs xs ys
  | _, _ => false
def ltDs : List PyData → List PyData → Bool
  | [], [] => false
  | [], _ :: _ => true
  | _ :: _, [] => false
  | x :: xs, y :: ys => if PyData.eqv x y then ltDs xs ys else ltD x y
end
mutual
/-- may be compared by less -/
def ordD : PyData → PyData → Bool
  | .int _, .int _ => true
  | .str _, .str _ => true
  | .tuple xs, .tuple ys => ordDs xs ys
  | _, _ => false
def ordDs : List PyData → List PyData → Bool
  | [], _ => true
  | _ :: _, [] => true
  | x :: xs, y :: ys => if PyData.eqv x y then ordDs xs ys else ordD x y
end
theorem reads_len {h : Heap} : ∀ {ds : List PyData} {us : List Value} {as : List Addr}, ReadsAll h us ds as → us.length = ds.length
  | [], _, _, r => by cases r; rfl
  | _ :: ds, _, _, r => by
    cases r with
    | cons r1 r2 => exact congrArg (· + 1) (reads_len r2)
theorem lt_list {n : Nat} (IH : ∀ (d e : PyData) (A : Around) (s : Shared) (u v : Value) (as bs : List Addr), d.depth ≤ n → Reads s.heap u d as → Reads s.heap v e bs → d.canLay0 = true → e.canLay0 = true → ordD d e = true →
    A.units + d.depth < cLine → Ob.RcOp .Lt A s u v (ltD d e)) (A : Around) (s : Shared) : ∀ (xs ys : List PyData) (us vs : List Value) (as bs : List Addr), PyData.depthAll xs ≤ n → ReadsAll s.heap us xs as → ReadsAll s.heap vs ys bs →
    PyData.canLayAll0 xs = true → PyData.canLayAll0 ys = true → ordDs xs ys = true → A.units + PyData.depthAll xs < cLine → Lx A s (decide (xs.length < ys.length)) (us.zip vs) (ltDs xs ys) := by
  intro xs
  induction xs with
  | nil =>
    intro ys us vs as bs hn r1 r2 c1 c2 ho hu
    cases r1
    cases ys with
    | nil => exact .nil
    | cons y ys =>
      rw [show decide (([] : List PyData).length < (y :: ys).length) = true from decide_eq_true (Nat.zero_lt_succ _)]
      show Lx A s true [] true
      exact .nil
  | cons x xs ih =>
    intro ys us vs as bs hn r1 r2 c1 c2 ho hu
    cases ys with
    | nil =>
      cases r2
      rw [show decide ((x :: xs).length < ([] : List PyData).length) = false from decide_eq_false (Nat.not_lt_zero _), List.zip_nil_right]
      exact .nil
    | cons y ys =>
      have a1 : x.canLay0 = true ∧ PyData.canLayAll0 xs = true := by simpa [PyData.canLayAll0] using c1
      have a2 : y.canLay0 = true ∧ PyData.canLayAll0 ys = true := by simpa [PyData.canLayAll0] using c2
      have hd : A.units + max x.depth (PyData.depthAll xs) < cLine := hu
      have hn' : max x.depth (PyData.depthAll xs) ≤ n := hn
      rw [show decide ((x :: xs).length < (y :: ys).length) = decide (xs.length < ys.length) by simp]
      cases r1 with
      | cons p1 q1 =>
        cases r2 with
        | cons p2 q2 =>
          have he := PySem.SeqAt.eqAt_reads x y A s _ _ _ _ p1 p2 a1.1 a2.1 (by omega)
          by_cases c : PyData.eqv x y = true
          · have o : ordDs xs ys = true := by rw [ordDs, if_pos c] at ho; exact ho
            rw [show ltDs (x :: xs) (y :: ys) = ltDs xs ys by rw [ltDs, if_pos c]]
            rw [c] at he
            exact .eq he (ih ys _ _ _ _ (by omega) q1 q2 a1.2 a2.2 o (by omega))
          · have o : ordD x y = true := by rw [ordDs, if_neg c] at ho; exact ho
            rw [show ltDs (x :: xs) (y :: ys) = ltD x y by rw [ltDs, if_neg c]]
            rw [Bool.not_eq_true] at c
            rw [c] at he
            exact .lt he (IH x y A s _ _ _ _ (by omega) p1 p2 a1.1 a2.1 o (by omega))
theorem lt_reads : ∀ (n : Nat) (d e : PyData) (A : Around) (s : Shared) (u v : Value) (as bs : List Addr), d.depth ≤ n → Reads s.heap u d as → Reads s.heap v e bs → d.canLay0 = true → e.canLay0 = true → ordD d e = true →
    A.units + d.depth < cLine → Ob.RcOp .Lt A s u v (ltD d e) := by
  intro n
  induction n with
  | zero =>
    intro d e A s u v as bs hn r1 r2 c1 c2 ho hu
    cases r1 with
    | int a t =>
      cases r2 with
      | int b t' => rw [ltD]; exact Ob.RcOp.lt_int _ _ _ _
      | _ => simp [ordD] at ho
    | str a t =>
      cases r2 with
      | str b t' => rw [ltD]; exact fun prog w E Q h => lt_str h
      | _ => simp [ordD] at ho
    | tuple => simp [PyData.depth] at hn
    | _ => simp [ordD] at ho
  | succ n ih =>
    intro d e A s u v as bs hn r1 r2 c1 c2 ho hu
    cases r1 with
    | int a t =>
      cases r2 with
      | int b t' => rw [ltD]; exact Ob.RcOp.lt_int _ _ _ _
      | _ => simp [ordD] at ho
    | str a t =>
      cases r2 with
      | str b t' => rw [ltD]; exact fun prog w E Q h => lt_str h
      | _ => simp [ordD] at ho
    | tuple h1 h2 h3 h4 =>
      cases r2 with
      | tuple k1 k2 k3 k4 =>
        rename_i xs _ _ _ _ _ ys
        simp only [PyData.depth] at hn hu
        have l1 := reads_len h4
        have l2 := reads_len k4
        rw [ltD]
        refine lt_tuples ⟨_, h1, h2, _, h3⟩ ⟨_, k1, k2, _, k3⟩ (by omega) ?_
        rw [← Array.length_toList, ← Array.length_toList, l1, l2]
        exact lt_list ih A.in1 s _ _ _ _ _ _ (by omega) h4 k4 (by simpa [PyData.canLay0] using c1) (by simpa [PyData.canLay0] using c2) (by simpa [ordD] using ho) (by show A.units + 1 + _ < _; omega)
      | _ => simp [ordD] at ho
    | _ => simp [ordD] at ho
def rLtD (K : PySem.W.Frag) : R2 := fun x y H Q => ∃ d e, Dp K H x d ∧ Dp K H y e ∧ d.canLay0 = true ∧ e.canLay0 = true ∧ ordD d e = true ∧ d.depth ≤ 60 ∧ Q (.bl (ltD d e)) H
theorem op_ltD {X : Cx} (hu : X.A.units + 64 < cLine) : OpR X (compareOp .Lt) (rLtD X.K) := by
  intro pins s σ H x y v u Q I rx ry h
  obtain ⟨d, e, hd, he, c1, c2, o, dp, q⟩ := h
  obtain ⟨as, r1⟩ := Dp.reads I d x v hd rx
  obtain ⟨bs, r2⟩ := Dp.reads I e y u he ry
  exact lt_reads _ d e X.A s v u as bs (Nat.le_refl _) r1 r2 c1 c2 o (by omega) X.prog X.w _ _ ⟨.bl _, H, I, rfl, q⟩

/-! ### parts that give data -/
section
variable {K : PySem.W.Frag}
mutual
theorem ex_dp {H H' : Hp} (e : Ex H H') : ∀ {v : V} {d : PyData}, Dp K H v d → Dp K H' v d
  | _, _, .non => .non
  | _, _, .bl b => .bl b
  | _, _, .int i => .int i
  | _, _, .str x => .str x
  | _, _, .lst h a => .lst (ex_l e h) (ex_dps e a)
  | _, _, .tup h a => .tup (ex_t e h) (ex_dps e a)
theorem ex_dps {H H' : Hp} (e : Ex H H') : ∀ {vs : List V} {ds : List PyData}, DpAll K H vs ds → DpAll K H' vs ds
  | _, _, .nil => .nil
  | _, _, .cons h t => .cons (ex_dp e h) (ex_dps e t)
end
def EvD (K : PySem.W.Frag) (te : TE) (σ : L2.St) (H : Hp) (d : PyData) : Prop := ∀ H1, Ex H H1 → ∀ Q : VK, (∀ v H2, Ex H1 H2 → Dp K H2 v d → Q v H2) → te σ H1 Q
/-- a new list, a new tuple of data -/
def EvLD (K : PySem.W.Frag) (te : TE) (σ : L2.St) (H : Hp) (ds : List PyData) : Prop := ∀ H1, Ex H H1 → ∀ Q : VK, (∀ p H2 ys, H1 p = none → Ex H1 H2 → H2 p = some (.lst ys) → DpAll K H2 ys ds → Q (.ref p) H2) → te σ H1 Q
def EvUD (K : PySem.W.Frag) (te : TE) (σ : L2.St) (H : Hp) (ds : List PyData) : Prop := ∀ H1, Ex H H1 → ∀ Q : VK, (∀ p H2 ys, H1 p = none → Ex H1 H2 → H2 p = some (.tup ys) → DpAll K H2 ys ds → Q (.ref p) H2) → te σ H1 Q
def EvAD (K : PySem.W.Frag) (ta : TA) (σ : L2.St) (H : Hp) (ds : List PyData) : Prop := ∀ H1, Ex H H1 → ∀ Q : List V → Hp → Prop, (∀ vs H2, Ex H1 H2 → DpAll K H2 vs ds → Q vs H2) → ta σ H1 Q
variable {σ : L2.St} {H H' : Hp} {ta tb te : TE} {tr : TA} {x y z v : V} {d e : PyData} {ds es : List PyData}
theorem ed_val (h : Ev te σ H v) (hd : Dp K H v d) : EvD K te σ H d := fun H1 e Q q => h H1 e _ fun H2 e2 => q v H2 e2 (ex_dp (e.trans e2) hd)
theorem ed_tupU (h : EvUD K te σ H ds) : EvD K te σ H (.tuple ds) := fun H1 e Q q => h H1 e _ fun p H2 ys _ e2 h2 hd => q _ H2 e2 (.tup (st_of h2) hd)
theorem ed_lst (h : EvLD K te σ H ds) : EvD K te σ H (.list ds) := fun H1 e Q q => h H1 e _ fun p H2 ys _ e2 h2 hd => q _ H2 e2 (.lst (sq_of h2) hd)
theorem ad_nil : EvAD K tNil σ H [] := fun H1 _ _ q => q [] H1 (Ex.refl H1) .nil
theorem ad_cons (h : EvD K te σ H d) (hr : EvAD K tr σ H ds) : EvAD K (tCons te tr) σ H (d :: ds) := fun H1 e Q q =>
  h H1 e _ fun v H2 e2 hd => hr H2 (e.trans e2) _ fun vs H3 e3 hds => q (v :: vs) H3 (e2.trans e3) (.cons (ex_dp e3 hd) hds)
theorem dps_len : ∀ {vs : List V} {ds : List PyData} {H : Hp}, DpAll K H vs ds → vs.length = ds.length
  | _, _, _, .nil => rfl
  | _, _, _, .cons _ t => congrArg (· + 1) (dps_len t)
theorem ud_tup (h : EvAD K tr σ H ds) (hl : ds.length ≤ 100000) : EvUD K (tTup tr) σ H ds := fun H1 e Q q =>
  h H1 e _ fun vs H2 e2 hd => ⟨sz_of (by rw [dps_len hd]; exact hl), fun p hp => q p _ vs (fresh_back e2 hp) (e2.trans (Ex.new hp)) upd_same (ex_dps (Ex.new hp) hd)⟩
theorem ld_lst (h : EvAD K tr σ H ds) (hl : ds.length ≤ 100000) : EvLD K (tLst tr) σ H ds := fun H1 e Q q =>
  h H1 e _ fun vs H2 e2 hd => ⟨sz_of (by rw [dps_len hd]; exact hl), fun p hp => q p _ vs (fresh_back e2 hp) (e2.trans (Ex.new hp)) upd_same (ex_dps (Ex.new hp) hd)⟩
def SpD (K : PySem.W.Frag) (sp : Sp) (vs : List V) (H : Hp) (d : PyData) : Prop := ∀ H1, Ex H H1 → ∀ Q : VK, (∀ v H2, Ex H1 H2 → Dp K H2 v d → Q v H2) → ∀ E : XK, sp vs H1 Q E
def SpUD (K : PySem.W.Frag) (sp : Sp) (vs : List V) (H : Hp) (ds : List PyData) : Prop := ∀ H1, Ex H H1 → ∀ Q : VK, (∀ p H2 ys, H1 p = none → Ex H1 H2 → H2 p = some (.tup ys) → DpAll K H2 ys ds → Q (.ref p) H2) → ∀ E : XK, sp vs H1 Q E
theorem ud_call {sp : Sp} {dvs vs : List V} {E : XK} {ta : TA} (h : EvA ta σ H vs) (hs : SpUD K sp (vs ++ dvs) H ds) : EvUD K (tCall sp dvs E ta) σ H ds := fun H1 e Q q =>
  h H1 e _ fun H2 e2 => hs H2 (e.trans e2) Q (fun p H3 ys hp e3 h3 hd => q p H3 ys (fresh_back e2 hp) (e2.trans e3) h3 hd) E
/-- == , != , < of data -/
theorem ev_eqD (ha : EvD K ta σ H d) (hb : EvD K tb σ H e) (s1 : SeqAt.shaped d = true) (s2 : SeqAt.shaped e = true) : Ev (tOp (rEqD K) ta tb) σ H (.bl (PyData.eqv d e)) := fun H1 ex Q q =>
  ha H1 ex _ fun x H2 e2 h2 => hb H2 (ex.trans e2) _ fun y H3 e3 h3 => ⟨d, e, ex_dp e3 h2, h3, s1, s2, q H3 (e2.trans e3)⟩
theorem ev_neD (ha : EvD K ta σ H d) (hb : EvD K tb σ H e) (s1 : SeqAt.shaped d = true) (s2 : SeqAt.shaped e = true) : Ev (tOp (rNeD K) ta tb) σ H (.bl (!PyData.eqv d e)) := fun H1 ex Q q =>
  ha H1 ex _ fun x H2 e2 h2 => hb H2 (ex.trans e2) _ fun y H3 e3 h3 => ⟨d, e, ex_dp e3 h2, h3, s1, s2, q H3 (e2.trans e3)⟩
theorem ev_ltD (ha : EvD K ta σ H d) (hb : EvD K tb σ H e) (s1 : SeqAt.shaped d = true) (s2 : SeqAt.shaped e = true) (o : ordD d e = true) (dp : d.depth ≤ 60) : Ev (tOp (rLtD K) ta tb) σ H (.bl (ltD d e)) := fun H1 ex Q q =>
  ha H1 ex _ fun x H2 e2 h2 => hb H2 (ex.trans e2) _ fun y H3 e3 h3 => ⟨d, e, ex_dp e3 h2, h3, SeqAt.canLay_of_shaped s1, SeqAt.canLay_of_shaped s2, o, dp, q H3 (e2.trans e3)⟩
/-- tuple(a new list) -/
theorem ud_tuple {tl : TE} (h : EvLD K tl σ H ds) : EvUD K (tCB (fun xs H Q => ∃ p ys, xs = [.ref p] ∧ ((SqL K H p ys ∧ ∀ l, H l = none → Q (.ref l) (upd H l (.tup ys))) ∨ (SqT K H p ys ∧ Q (.ref p) H))) (tCons tl tNil)) σ H ds := fun H1 e Q q =>
  h H1 e _ fun p H2 ys _ e2 h2 hd => ⟨p, ys, rfl, .inl ⟨sq_of h2, fun l hl => q l _ ys (fresh_back e2 hl) (e2.trans (Ex.new hl)) upd_same (ex_dps (Ex.new hl) hd)⟩⟩
mutual
/-- no list within -/
def noL : PyData → Bool
  | .list _ => false
  | .tuple xs => noLs xs
  | .dict _ => false
  | .none | .bool _ | .int _ | .str _ => true
def noLs : List PyData → Bool
  | [] => true
  | x :: xs => noL x && noLs xs
end
mutual
theorem dp_upd {H : Hp} {D : Addr} {ys zs : List V} (hD : H D = some (.lst ys)) : ∀ {v : V} {d : PyData}, noL d = true → Dp K H v d → Dp K (upd H D (.lst zs)) v d
  | _, _, _, .non => .non
  | _, _, _, .bl b => .bl b
  | _, _, _, .int i => .int i
  | _, _, _, .str x => .str x
  | _, _, n, .lst h a => by simp [noL] at n
  | _, _, n, .tup h a => by
    refine .tup ?_ (dps_upd hD (by simpa [noL] using n) a)
    rcases h with (h | ⟨o, h⟩) | h
    · exact .inl (.inl (by rw [upd_ne (by intro z; rw [z, hD] at h; cases h)]; exact h))
    · exact .inl (.inr ⟨o, by rw [upd_ne (by intro z; rw [z, hD] at h; cases h)]; exact h⟩)
    · exact .inr h
theorem dps_upd {H : Hp} {D : Addr} {ys zs : List V} (hD : H D = some (.lst ys)) : ∀ {vs : List V} {ds : List PyData}, noLs ds = true → DpAll K H vs ds → DpAll K (upd H D (.lst zs)) vs ds
  | _, _, _, .nil => .nil
  | _, _, n, .cons h t => by
    have n' : (noL _ && noLs _) = true := n
    rw [Bool.and_eq_true] at n'
    exact .cons (dp_upd hD n'.1 h) (dps_upd hD n'.2 t)
end
theorem noLs_map {f : Nat → PyData} (h : ∀ i, noL (f i) = true) : ∀ l : List Nat, noLs (l.map f) = true
  | [] => rfl
  | i :: l => by
    show (noL (f i) && noLs (l.map f)) = true
    rw [h i, noLs_map h l]
    rfl
/-- [f(x) for x in xs] -/
theorem dps_snoc : ∀ {vs : List V} {ds : List PyData} {H : Hp} {v : V} {d : PyData}, DpAll K H vs ds → Dp K H v d → DpAll K H (vs ++ [v]) (ds ++ [d])
  | _, _, _, _, _, .nil, h => .cons h .nil
  | _, _, _, _, _, .cons a t, h => .cons a (dps_snoc t h)
theorem ld_lcL {a : Addr} {xs : List V} {tl : TE} {j : Nat} {vs : List Nat} (f : Nat → PyData) (h : Ev tl σ H (.ref a)) (hx : SqL K H a xs) (hz : xs.length ≤ 40000) (hn : ∀ i, noL (f i) = true) (hw : ∀ x, wipe ((wipe σ vs).set j (some x)) vs = wipe σ vs)
    (he : ∀ (i : Nat) (x : V) H1, Ex H H1 → xs[i]? = some x → EvD K te ((wipe σ vs).set j (some x)) H1 (f i)) :
    EvLD K (tLc (iList K tl) (gName j) tYes te vs) σ H ((List.range xs.length).map f) := fun H0 e0 Q q => h H0 e0 _ fun H1 e1 => ⟨a, rfl, ⟨xs, ex_l (e0.trans e1) hx⟩, fun D hD =>
  lc_list (xs := xs) (fun i H' => H1 D = none ∧ Ex H1 H' ∧ ∃ ys, H' D = some (.lst ys) ∧ DpAll K H' ys ((List.range i).map f)) ⟨hD, Ex.new hD, [], upd_same, .nil⟩ (fun i H' _ p => ex_l ((e0.trans e1).trans p.2.1) hx)
    (fun i x H' hi p => by
      obtain ⟨p1, p2, ys, p3, p4⟩ := p
      refine ⟨hw x, ?_⟩
      show te ((wipe σ vs).set j (some x)) H' fun y H4 => ∃ acc, H4 D = some (.lst acc) ∧ acc.length < sizeLine ∧ _
      refine he i x H' ((e0.trans e1).trans p2) hi H' (Ex.refl H') _ fun y H4 e4 hy => ⟨ys, e4 _ _ p3, sz_lt ?_, p1, Ex.mut (p2.trans e4) p1, ys ++ [y], upd_same, ?_⟩
      · have := dps_len p4
        rw [List.length_map, List.length_range] at this
        have := (List.getElem?_eq_some_iff.mp hi).1
        omega
      · rw [List.range_succ, List.map_append]
        exact dps_snoc (dps_upd (e4 _ _ p3) (noLs_map hn _) (ex_dps e4 p4)) (dp_upd (e4 _ _ p3) (hn i) hy))
    (fun H' p => by
      obtain ⟨p1, p2, ys, p3, p4⟩ := p
      exact q D H' ys (fresh_back e1 p1) (e1.trans p2) p3 p4)⟩
end

/-! ### a call of a local that holds a def -/
def tCallH (P : Program) (w : World) (K : PySem.W.Frag) (mg : Str → Option Value) (base : Heap) (i k : Nat) (t : TA) : TE := fun σ H Q => ∃ f sp, σ[i]? = some (some (.ref f)) ∧ L2.Held P w K mg base k f sp ∧ t σ H fun vs H1 => sp vs H1 Q (fun _ _ _ => False)
theorem pe_callH {X : Cx} {x : Str} {p pos : Pos} {e : Expr} {es : List Expr} {t : TA} {i k : Nat} (hr : Room k X.A) (hN : X.N[i]? = some x) (hv : Vis X.env.scope x) (ha : PA X (e :: es) t)
    (hdb : (x == ("__debug__" : Str)) = false := by decide) (hcd : (x == ("__classdict__" : Str)) = false := by decide)
    (he : starEach (e :: es) X.env = (false, eval e X.env) :: starEach es X.env := by rfl) (hpl : (backTo pos (starEach es X.env)).any (·.1) = false := by rfl) : PE X (.Call (.Name x p) (e :: es) [] pos) (tCallH X.prog X.w X.K X.mg X.base i k t) := by
  refine ⟨fun pins s σ H Q I h => ?_⟩
  obtain ⟨f, sp, hs, hH, ht⟩ := h
  refine (L2.pe_callA (S := fun g => if g = f then some sp else none) (fun g sq z => ?_) hr hN hv ha hdb hcd he hpl).run pins s σ H Q I ⟨f, sp, hs, if_pos rfl, ht⟩
  by_cases e : g = f
  · rw [if_pos e] at z
    cases z
    rw [e]
    exact hH
  · rw [if_neg e] at z
    cases z
theorem held_of {P : Program} {w : World} {K : PySem.W.Frag} {mg : Str → Option Value} {base : Heap} {j k : Nat} {x : Str} {sp : Sp} {f : Addr} (c : C8.Cal P w K mg base j x sp []) (m : mg x = some (.ref f)) (h : j ≤ k) : L2.Held P w K mg base k f sp := by
  obtain ⟨f', fd, ps, ds, F, hm, kp, b, v⟩ := c.ex
  rw [m] at hm
  cases hm
  cases v
  exact ⟨fd, ps, F.mono h, kp, b⟩
/-- a def of two values that gives a value -/
def spBin (pre : V → V → Prop) (op : V → V → V) : Sp := fun vs H Q _ => ∃ x y : V, vs = [x, y] ∧ pre x y ∧ ∀ H', Ex H H' → Q (op x y) H'
theorem ec_held {P : Program} {w : World} {K : PySem.W.Frag} {mg : Str → Option Value} {base : Heap} {i k : Nat} {σ : L2.St} {H : Hp} {ta tb : TE} {f : Addr} {pre : V → V → Prop} {op : V → V → V} {x y : V} (hσ : σ[i]? = some (some (.ref f))) (h : L2.Held P w K mg base k f (spBin pre op)) (hp : pre x y) (ha : Ev ta σ H x) (hb : Ev tb σ H y) :
    Ev (tCallH P w K mg base i k (tCons ta (tCons tb tNil))) σ H (op x y) := fun H1 e Q q => ⟨f, _, hσ, h, ha H1 e _ fun H2 e2 => hb H2 (e.trans e2) _ fun H3 e3 => ⟨x, y, rfl, hp, fun H' e' => q H' ((e2.trans e3).trans e')⟩⟩

/-! ### classes of the program -/
def clsAt (K : PySem.W.Frag) (x : Str) : Addr := match PySem.W.nsIn K mainGlobals x with
  | some (some (.ref a)) => a
  | _ => 0
def NoAts (K : PySem.W.Frag) (C : Addr) : List Str → Prop
  | [] => True
  | f :: r => NoAttr K C f ∧ NoAts K C r
/-- a class by its name: plain, and none of these names stands in it -/
structure ClsD (K : PySem.W.Frag) (mg : Str → Option Value) (x : Str) (fs : List Str) : Prop where
  cl : Cls K (clsAt K x)
  at_ : mg x = some (.ref (clsAt K x))
  mks : PySem.W.makesIn K (clsAt K x) = true
  kc : PySem.W.keepIn K (.ref (clsAt K x)) = true
  na : NoAts K (clsAt K x) fs
/-- a method's def -/
def MetD (K : PySem.W.Frag) (x m qual : Str) (st : Stmt) (ps : List Str) : Prop := ∃ f fd, Meth K (clsAt K x) m f ∧ C8.Fun K m qual st f fd ∧ Binds K fd ps []
/-- a property's getter -/
def PrpD (K : PySem.W.Frag) (x m qual : Str) (st : Stmt) (ps : List Str) : Prop := ∃ p f fd, PropOf K (clsAt K x) m p f ∧ C8.Fun K m qual st f fd ∧ Binds K fd ps []
def Prp (P : Program) (w : World) (K : PySem.W.Frag) (mg : Str → Option Value) (base : Heap) (k : Nat) (C : Addr) (m : Str) (sp : Sp) : Prop := ∃ p f fd ps, Cls K C ∧ PropOf K C m p f ∧ FnOk P w K mg base C8.CX0 k f fd ps sp ∧ Binds K fd ps []
section
variable {P : Program} {w : World} {K : PySem.W.Frag} {mg : Str → Option Value} {base : Heap} {x m qual : Str} {st : Stmt} {ps N fs : List Str} {k : Nat} {sp : Sp}
theorem clsD_mk {C : Addr} (h : PySem.W.nsIn K mainGlobals x = some (some (.ref C))) (hm : mg x = some (.ref C)) (pg : PySem.W.plainGet K C Str.empty = true) (hd : PySem.W.hasDictIn K C = true) (po : PySem.W.plainOver K C = true) (sa : PySem.W.findIn K (.ref C) "__setattr__" = some (some (.builtin "object.__setattr__"))) (mk : PySem.W.makesIn K C = true) (kc : PySem.W.keepIn K (.ref C) = true) (na : NoAts K C fs) : ClsD K mg x fs := by
  have e : clsAt K x = C := by unfold clsAt; rw [h]
  exact ⟨by rw [e]; exact ⟨pg, hd, po, sa⟩, by rw [e]; exact hm, by rw [e]; exact mk, by rw [e]; exact kc, by rw [e]; exact na⟩
theorem metD_mk {C f : Addr} {fd : FuncData} (h : PySem.W.nsIn K mainGlobals x = some (some (.ref C))) (a : PySem.W.findIn K (.ref C) m = some (some (.ref f))) (i : PySem.W.isFn K (.ref f) = true) (kp : PySem.W.keepIn K (.ref f) = true) (F : C8.Fun K m qual st f fd) (b : Binds K fd ps []) : MetD K x m qual st ps := by
  have e : clsAt K x = C := by unfold clsAt; rw [h]
  exact ⟨f, fd, by rw [e]; exact ⟨a, i, kp⟩, F, b⟩
theorem prpD_mk {C p f : Addr} {fd : FuncData} {r : List Value} (h : PySem.W.nsIn K mainGlobals x = some (some (.ref C))) (a : PySem.W.findIn K (.ref C) m = some (some (.ref p))) (g : PySem.W.specialIn K (.ref p) "__get__" = some (some (.builtin "property.__get__"))) (tk : PySem.W.takesIn K (.ref p) = some true) (rc : PySem.W.recIn K p "property" = some (.ref f :: r)) (F : C8.Fun K m qual st f fd) (b : Binds K fd ps []) : PrpD K x m qual st ps := by
  have e : clsAt K x = C := by unfold clsAt; rw [h]
  exact ⟨p, f, fd, by rw [e]; exact ⟨a, g, tk, r, rc⟩, F, b⟩
theorem met_of (C : ClsD K mg x fs) (D : MetD K x m qual st ps) (S : FnScope N ps (C8.fnScope st)) (len : ∀ vs H Q E, sp vs H Q E → vs.length = ps.length)
    (hbody : ∀ (f : Addr) (cdv : Value) (A : Around) (outer : List Env) (s : Shared) (H : Hp) (vs : List V) (Q : VK) (E : XK), Room k (A.deeper (envOfC qual (C8.fnScope st) s.heap.objs.size f cdv)) → sp vs H Q E →
      ∃ t, PSs (cxOf C8.CX0 P w K mg base N qual (C8.fnScope st) f cdv A outer s H E).nox (C8.fnBody st) t ∧ t { nx := fun _ H' => Q .non H', rt := Q } (start N vs) H) : C8.Met P w K mg base (k + 1) (clsAt K x) m sp [] := by
  obtain ⟨f, fd, M, F, b⟩ := D
  exact C8.met0 C.cl M F b S len (hbody f)
theorem prp_of (C : ClsD K mg x fs) (D : PrpD K x m qual st ps) (S : FnScope N ps (C8.fnScope st)) (len : ∀ vs H Q E, sp vs H Q E → vs.length = ps.length)
    (hbody : ∀ (f : Addr) (cdv : Value) (A : Around) (outer : List Env) (s : Shared) (H : Hp) (vs : List V) (Q : VK) (E : XK), Room k (A.deeper (envOfC qual (C8.fnScope st) s.heap.objs.size f cdv)) → sp vs H Q E →
      ∃ t, PSs (cxOf C8.CX0 P w K mg base N qual (C8.fnScope st) f cdv A outer s H E).nox (C8.fnBody st) t ∧ t { nx := fun _ H' => Q .non H', rt := Q } (start N vs) H) : Prp P w K mg base (k + 1) (clsAt K x) m sp := by
  obtain ⟨p, f, fd, M, F, b⟩ := D
  exact ⟨p, f, fd, ps, C.cl, M, C8.fn0 F S len (hbody f), b⟩
theorem mak_of (C : ClsD K mg x fs) (D : MetD K x "__init__" qual st ps) (S : FnScope N ps (C8.fnScope st)) (len : ∀ vs H Q E, sp vs H Q E → vs.length = ps.length)
    (hbody : ∀ (f : Addr) (cdv : Value) (A : Around) (outer : List Env) (s : Shared) (H : Hp) (vs : List V) (Q : VK) (E : XK), Room k (A.deeper (envOfC qual (C8.fnScope st) s.heap.objs.size f cdv)) → sp vs H Q E →
      ∃ t, PSs (cxOf C8.CX0 P w K mg base N qual (C8.fnScope st) f cdv A outer s H E).nox (C8.fnBody st) t ∧ t { nx := fun _ H' => Q .non H', rt := Q } (start N vs) H) : C8.Mak P w K mg base (k + 1) x (clsAt K x) sp [] := by
  obtain ⟨f, fd, M, F, b⟩ := D
  exact C8.mak0 ⟨C.mks, M.at_, M.fn, C.kc⟩ C.at_ F b .nil S len (hbody f)
end
section
variable {X : Cx} {k j : Nat} {C : Addr} {m : Str} {sp : Sp} {e : Expr} {pos : Pos} {ta : TE}
theorem pe_pr (c : Prp X.prog X.w X.K X.mg X.base k C m sp) (hr : Room j X.A) (hk : k + 1 ≤ j) (he : PE X e ta) (hab : attributeBase e m X.env (eval e X.env) = eval e X.env) : PE X (.Attribute e m pos) (tProp C sp [] C8.E0 ta) := by
  obtain ⟨p, f, fd, ps, hc, hp, F, b⟩ := c
  exact pe_prop he hc hp F (hr.mono hk) b .nil C8.pass0 hab
end

/-! ### further loops: reversed(a list), range(n - 1, -1, -1), a new tuple -/
section
variable {K : PySem.W.Frag} {σ : L2.St} {H H' : Hp} {D : Ends} {tz tu : TS} {te tl : TE} {g : TG}
theorem s_break (h : D.bk σ H) : tBreak D σ H := h
theorem q_forRev {a : Addr} {xs : List V} {tr : TA} {j : Nat} (h : EvA tr σ H [.ref a]) (hS : SqL K H a xs) (Pv : Nat → L2.St → Hp → Prop) (h0 : ∀ H1, Ex H H1 → Pv 0 σ H1) (hl : ∀ i σ' H', Pv i σ' H' → SqL K H' a xs)
    (hs : ∀ (i : Nat) x σ' H', i < xs.length → xs[xs.length - 1 - i]? = some x → Pv i σ' H' → tu { D with nx := Pv (i + 1), ct := Pv (i + 1), bk := tz D } (σ'.set j (some x)) H') (hd : ∀ σ' H', Pv xs.length σ' H' → tz D σ' H') : tSeq (tFor (iRev K tr) (gName j) tu) tz D σ H :=
  h H (Ex.refl H) _ fun H1 e => ⟨a, xs, rfl, ex_l e hS, RT.for_Itv (D := { D with nx := tz D }) Pv (h0 H1 e) hl hs hd⟩
theorem s_forDown {tr : TA} {j n : Nat} (h : EvA tr σ H [.int ((n : Int) - 1), .int (-1), .int (-1)]) (hn : n ≤ 100000) (Pv : Nat → L2.St → Hp → Prop) (h0 : ∀ H1, Ex H H1 → Pv 0 σ H1)
    (hs : ∀ (i : Nat) σ' H', i < n → Pv i σ' H' → tu { D with nx := Pv (i + 1), ct := Pv (i + 1), bk := D.nx } (σ'.set j (some (.int (((n - 1 - i : Nat) : Int))))) H') (hd : ∀ σ' H', Pv n σ' H' → D.nx σ' H') : tFor (iRng3 tr) (gName j) tu D σ H := by
  refine h H (Ex.refl H) _ fun H1 e => ⟨(n : Int) - 1, -1, -1, ((n : Int) - 1 - (-1)).toNat, rfl, RgC.neg (by omega) (by omega) (by omega) (by omega), for_rangeC Pv (h0 H1 e) (fun i σ' H' hi p => ?_) fun σ' H' p => hd σ' H' ?_⟩
  · have e0 : (n : Int) - 1 + (i : Nat) * (-1) = ((n - 1 - i : Nat) : Int) := by omega
    show tu { D with nx := Pv (i + 1), ct := Pv (i + 1), bk := D.nx } (σ'.set j (some (.int ((n : Int) - 1 + (i : Nat) * (-1))))) H'
    rw [e0]
    exact hs i σ' H' (by omega) p
  · rw [show ((n : Int) - 1 - (-1)).toNat = n by omega] at p
    exact p
theorem q_forDown {tr : TA} {j n : Nat} (h : EvA tr σ H [.int ((n : Int) - 1), .int (-1), .int (-1)]) (hn : n ≤ 100000) (Pv : Nat → L2.St → Hp → Prop) (h0 : ∀ H1, Ex H H1 → Pv 0 σ H1)
    (hs : ∀ (i : Nat) σ' H', i < n → Pv i σ' H' → tu { D with nx := Pv (i + 1), ct := Pv (i + 1), bk := tz D } (σ'.set j (some (.int (((n - 1 - i : Nat) : Int))))) H') (hd : ∀ σ' H', Pv n σ' H' → tz D σ' H') : tSeq (tFor (iRng3 tr) (gName j) tu) tz D σ H :=
  s_forDown (D := { D with nx := tz D }) h hn Pv h0 hs hd
/-- over a new tuple: the turns' word speaks of what grows out of H1 -/
theorem q_forU {xs : List V} {j : Nat} (h : EvU tl σ H xs) (Pv : Nat → L2.St → Hp → Prop) (h0 : Pv 0 σ H) (hm : ∀ i σ' H1 H2, Pv i σ' H1 → Ex H1 H2 → Pv i σ' H2)
    (hs : ∀ i x σ' H1, xs[i]? = some x → Pv i σ' H1 → ∀ N : L2.St → Hp → Prop, (∀ σ2 H2, Pv (i + 1) σ2 H2 → Ex H1 H2 → N σ2 H2) → tu { D with nx := N, ct := N, bk := tz D } (σ'.set j (some x)) H1) (hd : ∀ σ' H', Pv xs.length σ' H' → tz D σ' H') : tSeq (tFor (iTup K tl) (gName j) tu) tz D σ H :=
  h H (Ex.refl H) _ fun p H1 hp e h1 => ⟨p, rfl, ⟨xs, st_of h1⟩, for_tup (D := { D with nx := tz D }) (fun i σ' H' => Pv i σ' H' ∧ H' p = some (.tup xs)) ⟨hm _ _ _ _ h0 e, h1⟩ (fun i σ' H' _ q => st_of q.2)
    (fun i x σ' H' hx q => hs i x σ' H' hx q.1 _ fun σ2 H2 q2 e2 => ⟨q2, e2 _ _ q.2⟩) fun σ' H' q => hd σ' H' q.1⟩
end

/-! ### defs with keyword-only parameters, called with all of them -/
def DnK (K : PySem.W.Frag) (mg : Str → Option Value) (x : Str) (st : Stmt) (ps : List Str) (n : Nat) (ks : List Str) : Prop := ∃ f fd, C8.Def K mg x st f fd ∧ L2.KBn K fd ps n ks (fun us ws => us ++ ws) fun vs zs => vs ++ zs
structure CalK (P : Program) (w : World) (K : PySem.W.Frag) (mg : Str → Option Value) (base : Heap) (k : Nat) (x : Str) (n : Nat) (ks : List Str) (sp : Sp) : Prop where
  ex : ∃ (f : Addr) (fd : FuncData) (ps : List Str), FnOk P w K mg base C8.CX0 k f fd ps sp ∧ mg x = some (.ref f) ∧ PySem.W.keepIn K (.ref f) = true ∧ L2.KBn K fd ps n ks (fun us ws => us ++ ws) fun vs zs => vs ++ zs
section
variable {P : Program} {w : World} {K : PySem.W.Frag} {mg : Str → Option Value} {base : Heap}
theorem dnK_mk {x : Str} {st : Stmt} {f : Addr} {oc : Value} {od an : Option Addr} {osl : Array (Option Value)} {kV doc pm cdv ct : Value} {ps ks : List Str} {n : Nat}
    (l : K.lookup f = some ⟨oc, od, .func (PySem.W.fnOf x x (C8.fnArgs st) (C8.fnBody st) (C8.fnScope st) .none kV doc pm an cdv ct), osl⟩)
    (c : PySem.W.codeIn K cdv x = true) (k : PySem.W.keepIn K (.ref f) = true) (m : mg x = some (.ref f))
    (h : ∀ (us ws : List Value), us.length = n → ws.length = ks.length → bindArgs (PySem.W.fnOf x x (C8.fnArgs st) (C8.fnBody st) (C8.fnScope st) .none kV doc pm an cdv ct) ⟨us, ks.zip ws⟩ = pure (ps.zip (us ++ ws))) : DnK K mg x st ps n ks :=
  ⟨f, _, def_mk l c k m, ⟨fun s us ws _ l1 l2 => .of_eq (h us ws l1 l2), fun r1 r2 => r1.append r2⟩⟩
theorem calK_of {x : Str} {st : Stmt} {N ps ks : List Str} {k n : Nat} {sp : Sp} (D : DnK K mg x st ps n ks) (S : FnScope N ps (C8.fnScope st)) (len : ∀ vs H Q E, sp vs H Q E → vs.length = ps.length)
    (hbody : ∀ (f : Addr) (cdv : Value) (A : Around) (outer : List Env) (s : Shared) (H : Hp) (vs : List V) (Q : VK) (E : XK), Room k (A.deeper (envOfC x (C8.fnScope st) s.heap.objs.size f cdv)) → sp vs H Q E →
      ∃ t, PSs (cxOf C8.CX0 P w K mg base N x (C8.fnScope st) f cdv A outer s H E).nox (C8.fnBody st) t ∧ t { nx := fun _ H' => Q .non H', rt := Q } (start N vs) H) : CalK P w K mg base (k + 1) x n ks sp := by
  obtain ⟨f, fd, F, b⟩ := D
  exact ⟨f, fd, ps, C8.fn0 F.fn S len (hbody f), F.mgf, F.kp, b⟩
end
theorem pe_cK {X : L2.Cx} {k j n : Nat} {x : Str} {ks : List Str} {sp : Sp} {p pos : Pos} {e : Expr} {es : List Expr} {kws : List Keyword} {t tk : TA} (c : CalK X.prog X.w X.K X.mg X.base k x n ks sp) (hr : Room j X.A) (hk : k ≤ j) (hg : Gl X x) (ha : PA X (e :: es) t) (hkw : PK X kws tk)
    (hall : (backToKw pos (keywordEach kws X.env)).all (·.1.isSome) = true := by rfl) (hks : (backToKw pos (keywordEach kws X.env)).filterMap (·.1) = ks := by rfl)
    (hdb : (x == ("__debug__" : Str)) = false := by decide) (he : starEach (e :: es) X.env = (false, eval e X.env) :: starEach es X.env := by rfl)
    (hpl : ((backTo pos (starEach (e :: es) X.env)).any (·.1) || (backToKw pos (keywordEach kws X.env)).any (·.1.isNone)) = false := by rfl) :
    PE X (.Call (.Name x p) (e :: es) kws pos) (tCallN n ks.length sp (fun vs zs => vs ++ zs) C8.E0 t tk) := by
  obtain ⟨f, fd, ps, F, hm, kp, b⟩ := c.ex
  exact pe_callN F (hr.mono hk) hg hm kp b C8.pass0 ha hkw hall hks hdb he hpl

def limV (n : Int) : V := if -1000000000000000 ≤ n ∧ n ≤ 1000000000000000 then .int n else .non
/-! ### the mathematics: digits -/
abbrev dval : List Nat → Nat := NumText.digitsVal
def isD (c : Nat) : Bool := decide (48 ≤ c) && decide (c ≤ 57)
def digs (l : List Nat) : Bool := !l.isEmpty && l.all isD
theorem uni_dig : ∀ c : Fin 128, Unicode.isDigit c.1 = isD c.1 := by decide +kernel
theorem all_dig : ∀ l : List Nat, (l.all Unicode.isDigit && l.all fun c => decide (c < 128)) = l.all isD
  | [] => rfl
  | c :: r => by
    have ih := all_dig r
    rw [List.all_cons, List.all_cons, List.all_cons, ← ih]
    by_cases h : c < 128
    · rw [decide_eq_true h, show Unicode.isDigit c = isD c from uni_dig ⟨c, h⟩]
      cases isD c <;> cases r.all Unicode.isDigit <;> simp
    · have : isD c = false := by
        unfold isD
        rw [decide_eq_false (show ¬ c ≤ 57 by omega), Bool.and_false]
      rw [this, decide_eq_false h]
      simp
theorem digs_txt (l : List Nat) : (Txt.isdigit (SX.S l) && Txt.isascii (SX.S l)) = digs l := by
  unfold Txt.isdigit Txt.isascii digs
  rw [SX.S_len, show (SX.S l).cps.all Unicode.isDigit = l.all Unicode.isDigit from List.all_toArray, show ((SX.S l).cps.all fun c => decide (c < 128)) = l.all fun c => decide (c < 128) from List.all_toArray, Bool.and_assoc, all_dig]
  cases l <;> rfl
theorem mem_dig {l : List Nat} (h : l.all isD = true) : NumText.AllDigits l := fun c hc => by
  have := List.all_eq_true.mp h c hc
  unfold isD at this
  rw [Bool.and_eq_true, decide_eq_true_eq, decide_eq_true_eq] at this
  exact this
theorem fold_app (l : List Nat) : ∀ a : Nat, l.foldl (fun acc c => acc * 10 + (c - 48)) a = a * 10 ^ l.length + dval l := by
  induction l with
  | nil => intro a; simp [dval, NumText.digitsVal]
  | cons c r ih =>
    intro a
    show r.foldl _ (a * 10 + (c - 48)) = _ + r.foldl _ (0 * 10 + (c - 48))
    rw [ih, ih, List.length_cons, Nat.pow_succ, Nat.add_mul, Nat.zero_mul, Nat.zero_add, Nat.mul_assoc, Nat.mul_comm 10, Nat.add_assoc]
theorem dval_app (l r : List Nat) : dval (l ++ r) = dval l * 10 ^ r.length + dval r := by
  show (l ++ r).foldl _ 0 = _
  rw [List.foldl_append, fold_app]
  rfl
theorem dval_cons (c : Nat) (r : List Nat) : dval (c :: r) = (c - 48) * 10 ^ r.length + dval r := by
  have := dval_app [c] r
  rw [show dval [c] = c - 48 from by show 0 * 10 + (c - 48) = _; omega] at this
  exact this
theorem dval_lt : ∀ l : List Nat, l.all isD = true → dval l < 10 ^ l.length
  | [], _ => by decide
  | c :: r, h => by
    rw [List.all_cons, Bool.and_eq_true] at h
    have ih := dval_lt r h.2
    have hc := mem_dig (l := [c]) (by rw [List.all_cons, h.1]; rfl) c (List.mem_singleton.mpr rfl)
    rw [dval_cons, List.length_cons, Nat.pow_succ]
    have : (c - 48) * 10 ^ r.length ≤ 9 * 10 ^ r.length := Nat.mul_le_mul_right _ (by omega)
    omega
def noZ (l : List Nat) : List Nat := l.dropWhile (fun c => c == 48)
theorem dval_noZ : ∀ l : List Nat, dval (noZ l) = dval l
  | [] => rfl
  | c :: r => by
    unfold noZ
    rw [List.dropWhile_cons]
    split
    · rename_i h
      rw [show List.dropWhile (fun c => c == 48) r = noZ r from rfl, dval_noZ r, dval_cons, beq_iff_eq.mp h, Nat.sub_self, Nat.zero_mul, Nat.zero_add]
    · rfl
theorem all_noZ : ∀ {l : List Nat}, l.all isD = true → (noZ l).all isD = true
  | [], _ => rfl
  | c :: r, h => by
    unfold noZ
    rw [List.dropWhile_cons]
    split
    · exact all_noZ (by rw [List.all_cons, Bool.and_eq_true] at h; exact h.2)
    · exact h
theorem noZ_len (l : List Nat) : (noZ l).length ≤ l.length := (List.dropWhile_suffix _).length_le
/-- more than sixteen digits behind the zeros: beyond every limit -/
theorem noZ_big {l : List Nat} (h : l.all isD = true) (hl : 16 < (noZ l).length) : 10 ^ 16 ≤ dval l := by
  have ha := all_noZ h
  rw [← dval_noZ]
  have hd : ∀ c r, noZ l = c :: r → ¬ c = 48 := fun c r e hc => by
    have := List.head?_dropWhile_not (fun c => c == 48) l
    rw [show List.dropWhile (fun c => c == 48) l = c :: r from e] at this
    simp [hc] at this
  generalize noZ l = z at *
  cases z with
  | nil => simp at hl
  | cons c r =>
    have hc := mem_dig (l := [c]) (by rw [List.all_cons, Bool.and_eq_true] at ha; rw [List.all_cons, ha.1]; rfl) c (List.mem_singleton.mpr rfl)
    have hn := hd c r rfl
    rw [dval_cons]
    have h1 : 10 ^ 16 ≤ 10 ^ r.length := Nat.pow_le_pow_right (by decide) (by simp at hl; omega)
    have h2 : 1 * 10 ^ r.length ≤ (c - 48) * 10 ^ r.length := Nat.mul_le_mul_right _ (by omega)
    omega
theorem con48 : (SX.S [48]).cps.contains = fun c => c == 48 := by
  funext c
  show (#[48] : Array Nat).contains c = _
  rw [Bool.eq_iff_iff]
  simp
theorem tl_S (l : List Nat) : TL.tl (SX.S l) = l := TL.tl_mk l
theorem lstrip_S (l : List Nat) : Txt.lstripChars (SX.S l) (SX.S [48]) = SX.S (noZ l) := by
  unfold Txt.lstripChars
  rw [PySem.W.stripBy_eq, con48]
  apply TL.ext_tl
  unfold PySem.W.stripped
  simp only [if_true, Bool.false_eq_true, if_false]
  rw [TL.tl_strSub, TL.len_tl, tl_S, tl_S]
  show List.take _ (List.drop (List.takeWhile (fun c => c == 48) l).length l) = _
  have e : List.drop (List.takeWhile (fun c => c == 48) l).length l = noZ l := by
    have h := List.takeWhile_append_dropWhile (p := fun c => c == 48) (l := l)
    conv => lhs; arg 2; rw [← h]
    rw [List.drop_left]
    rfl
  rw [e]
  apply List.take_of_length_le
  have h := congrArg List.length (List.takeWhile_append_dropWhile (p := fun c => c == 48) (l := l))
  rw [List.length_append] at h
  have : (noZ l).length = (List.dropWhile (fun c => c == 48) l).length := rfl
  omega
/-- without zeros at the end -/
def noE (l : List Nat) : List Nat := (noZ l.reverse).reverse
theorem rstrip_S (l : List Nat) : Txt.rstripChars (SX.S l) (SX.S [48]) = SX.S (noE l) := by
  unfold Txt.rstripChars
  rw [PySem.W.stripBy_eq, con48]
  apply TL.ext_tl
  unfold PySem.W.stripped
  simp only [if_true, Bool.false_eq_true, if_false]
  rw [TL.tl_strSub, SX.S_len, tl_S, tl_S]
  show List.take (l.length - (List.takeWhile (fun c => c == 48) (List.drop 0 l).reverse).length - 0) (List.drop 0 l) = _
  rw [List.drop_zero, Nat.sub_zero]
  have h := List.takeWhile_append_dropWhile (p := fun c => c == 48) (l := l.reverse)
  have h2 : l = noE l ++ (List.takeWhile (fun c => c == 48) l.reverse).reverse := by
    have := congrArg List.reverse h
    rw [List.reverse_append, List.reverse_reverse] at this
    exact this.symm
  have h3 := congrArg List.length h2
  rw [List.length_append, List.length_reverse] at h3
  conv => lhs; arg 2; rw [h2]
  rw [show l.length - (List.takeWhile (fun c => c == 48) l.reverse).length = (noE l).length by omega, List.take_left]
theorem starts_S (l : List Nat) : Txt.startswith (SX.S l) (SX.S [45]) = decide (l.head? = some 45) := by
  cases l with
  | nil => rfl
  | cons c r =>
    unfold Txt.startswith
    rw [SX.S_len, SX.S_len, decide_eq_true (by simp), Bool.true_and]
    rw [Bool.eq_iff_iff, decide_eq_true_eq]
    show Builtin.Str.subAt (SX.S (c :: r)) (SX.S [45]) 0 = true ↔ some c = some 45
    unfold Builtin.Str.subAt
    simp
    show List.take 1 (c :: r) = [45] ↔ c = 45
    simp
/-- the text without a minus sign in front -/
def noM (l : List Nat) : List Nat := if l.head? = some 45 then l.drop 1 else l
def sgI (l : List Nat) (n : Nat) : Int := if l.head? = some 45 then -(n : Int) else (n : Int)
def rdI (l : List Nat) : V := if digs (noM l) = true then limV (sgI l (dval (noM l))) else .non
theorem numL_pad {r : Nat} (h : r < 10000) : List.replicate (4 - (TL.numL r).length) 48 ++ TL.numL r = [48 + r / 1000, 48 + r / 100 % 10, 48 + r / 10 % 10, 48 + r % 10] := by
  by_cases h1 : r < 10
  · rw [TL.numL_lt h1, show r / 1000 = 0 by omega, show r / 100 = 0 by omega, show r / 10 = 0 by omega, show r % 10 = r by omega]
    rfl
  by_cases h2 : r < 100
  · rw [TL.numL_step (by omega), TL.numL_lt (by omega), show r / 1000 = 0 by omega, show r / 100 = 0 by omega, show r / 10 % 10 = r / 10 by omega]
    rfl
  by_cases h3 : r < 1000
  · rw [TL.numL_step (by omega), TL.numL_step (by omega), TL.numL_lt (by omega), show r / 1000 = 0 by omega, show r / 10 / 10 = r / 100 by omega, show r / 100 % 10 = r / 100 by omega]
    rfl
  · rw [TL.numL_step (by omega), TL.numL_step (by omega), TL.numL_step (by omega), TL.numL_lt (by omega), show r / 10 / 10 / 10 = r / 1000 by omega, show r / 10 / 10 = r / 100 by omega]
    rfl
def four (r : Nat) : List Nat := [48 + r / 1000, 48 + r / 100 % 10, 48 + r / 10 % 10, 48 + r % 10]
theorem zfill_S {r : Nat} (h : r < 10000) : Txt.zfill (SX.S (TL.numL r)) 4 = SX.S (four r) := by
  unfold Txt.zfill four
  rw [← numL_pad h, SX.S_len]
  split
  · rename_i hl
    rw [show 4 - (TL.numL r).length = 0 by omega]
    rfl
  · unfold zfilled
    have hd := TL.numL_digits r
    cases e : TL.numL r with
    | nil => exact absurd e (TL.numL_ne r)
    | cons c t =>
      have hc := hd c (by rw [e]; exact List.mem_cons_self)
      have eg : (SX.S (c :: t)).cps[0]? = some c := rfl
      have e43 : ¬ c = 43 := by omega
      have e45 : ¬ c = 45 := by omega
      rw [eg]
      split
      · rename_i h; exact absurd (Option.some.inj h) e43
      · rename_i h; exact absurd (Option.some.inj h) e45
      · rw [Builtin.Str.padded.eq_1]
        apply TL.ext_tl
        rw [tl_S]
        show ((Array.replicate _ 48 ++ (SX.S (c :: t)).cps ++ Array.replicate 0 0) : Array Nat).toList = _
        simp [SX.S]
def dtx (n : Int) : List Nat := (if n < 0 then [45] else []) ++ (TL.numL (n.natAbs / 10000) ++ (if n.natAbs % 10000 = 0 then [] else 46 :: noE (four (n.natAbs % 10000))))

/-! ### texts as lists of codes: further words -/
theorem c48 : PySem.Str.ofString "0" = SX.S [48] := by decide +kernel
theorem c45 : PySem.Str.ofString "-" = SX.S [45] := by decide +kernel
theorem c46 : PySem.Str.ofString "." = SX.S [46] := by decide +kernel
theorem c00 : PySem.Str.ofString "" = SX.S [] := by decide +kernel
theorem mt_ljustF {X : Cx} : MtR X "str.ljust" fun x xs H Q => ∃ (a f : Str) (i : Int), x = .str a ∧ xs = [.int i, .str f] ∧ PadOk i = true ∧ f.length = 1 ∧ Q (.str (Txt.ljustF a i (f.cps.getD 0 0))) H := by
  intro pins s σ H x xs v us Q I rx rv h
  obtain ⟨a, f, i, rfl, rfl, hp, hf, q⟩ := h
  obtain ⟨t, rfl⟩ := (show ∃ t, v = Value.str a t from rx)
  cases rv with
  | cons r1 rv =>
    cases rv with
    | cons r2 rv =>
      cases rv
      obtain ⟨u, rfl⟩ := r1
      obtain ⟨u2, rfl⟩ := r2
      exact ljust_fill hp hf fun t' k => ⟨.str _, H, I.tok k, ⟨t', rfl⟩, q⟩
section
variable {K : PySem.W.Frag} {σ : L2.St} {H : Hp} {D : Ends} {te ta tl th tb : TE}
theorem ev_m0 {r : V → List V → Hp → VK → Prop} {a : Str} {z : V} (h : Ev ta σ H (.str a)) (hr : ∀ H1 Q, (∀ H2, Ex H1 H2 → Q z H2) → r (.str a) [] H1 Q) : Ev (tM0 r ta) σ H z := fun H1 e Q q => h H1 e _ fun H2 e2 => ⟨⟨_, rfl⟩, hr H2 Q fun H3 e3 => q H3 (e2.trans e3)⟩
theorem ev_m1 {r : V → List V → Hp → VK → Prop} {a : Str} {y z : V} (h : Ev ta σ H (.str a)) (hb : Ev tb σ H y) (hr : ∀ H1 Q, (∀ H2, Ex H1 H2 → Q z H2) → r (.str a) [y] H1 Q) : Ev (tM1 r ta tb) σ H z := fun H1 e Q q =>
  h H1 e _ fun H2 e2 => ⟨⟨_, rfl⟩, hb H2 (e.trans e2) _ fun H3 e3 => hr H3 Q fun H4 e4 => q H4 ((e2.trans e3).trans e4)⟩
theorem ev_bmS {r : V → List V → Hp → VK → Prop} {a : Str} {z : V} {tr : TA} {ys : List V} (h : Ev ta σ H (.str a)) (hb : EvA tr σ H ys) (hr : ∀ H1 Q, (∀ H2, Ex H1 H2 → Q z H2) → r (.str a) ys H1 Q) : Ev (tBM K "str" r ta tr) σ H z := fun H1 e Q q =>
  h H1 e _ fun H2 e2 => ⟨rfl, hb H2 (e.trans e2) _ fun H3 e3 => hr H3 Q fun H4 e4 => q H4 ((e2.trans e3).trans e4)⟩
theorem ev_intS {a : Str} {n : Int} (h : Ev ta σ H (.str a)) (hn : intText? a = some n) (hl : a.length ≤ 640) : Ev (tCB (fun xs H Q => ∃ a n, xs = [.str a] ∧ intText? a = some n ∧ a.length ≤ 640 ∧ Q (.int n) H) (tCons ta tNil)) σ H (.int n) := fun H1 e Q q =>
  h H1 e _ fun H2 e2 => ⟨a, n, rfl, hn, hl, q H2 e2⟩
theorem ev_slF {to : TO} {l : List Nat} {i : Nat} (ha : Ev ta σ H (.str (SX.S l))) (hl : Ev tl σ H (.int (i : Int))) (hn : ∀ σ H Q, Q none H → to σ H Q) (hz : l.length ≤ 100000) : Ev (tSl C8.rSlX ta (tPart tl) to) σ H (.str (SX.S (l.drop i))) := fun H1 e Q q =>
  ha H1 e _ fun H2 e2 => hl H2 (e.trans e2) _ fun H3 e3 => ⟨_, rfl, hn _ _ _ ⟨SX.S l, rfl, by rw [SX.S_len]; exact sz_of hz, by rw [SX.slice_from (by omega), Int.toNat_natCast]; exact q H3 (e2.trans e3)⟩⟩
theorem eu_part {a b : Str} (ha : Ev ta σ H (.str a)) (hb : Ev tb σ H (.str b)) (h1 : (b.length == 0) = false) (hz : a.length ≤ 100000) : EvU (tM1 (fun x xs H Q => ∃ a b, x = .str a ∧ xs = [.str b] ∧ (b.length == 0) = false ∧ a.length ≤ sizeLine ∧ ∀ p, H p = none → Q (.ref p) (upd H p (.tup [.str (Txt.partition a b).1, .str (Txt.partition a b).2.1, .str (Txt.partition a b).2.2]))) ta tb) σ H [.str (Txt.partition a b).1, .str (Txt.partition a b).2.1, .str (Txt.partition a b).2.2] := fun H1 e Q q =>
  ha H1 e _ fun H2 e2 => ⟨⟨_, rfl⟩, hb H2 (e.trans e2) _ fun H3 e3 => ⟨a, b, rfl, rfl, h1, sz_of hz, fun p hp => q p _ (fresh_back (e2.trans e3) hp) ((e2.trans e3).trans (Ex.new hp)) upd_same⟩⟩
end
theorem js_str {t : TE} {ts : List TE} {acc y : Str} {σ : L2.St} {H : Hp} {Q : Str → Hp → Prop} (h : Ev t σ H (.str y)) (hz : (acc ++ y).length ≤ 100000) (k : ∀ H1, Ex H H1 → tJs ts (acc ++ y) σ H1 Q) : tJs (t :: ts) acc σ H Q := h H (Ex.refl H) _ fun H1 e1 => ⟨y, rfl, sz_of hz, k H1 e1⟩
theorem pre1 {c : Nat} {l : List Nat} {i : Nat} : TL.pre [c] (l.drop i) = true ↔ l[i]? = some c := by
  by_cases h : i < l.length
  · rw [List.drop_eq_getElem_cons h, List.getElem?_eq_getElem h]
    constructor
    · intro e
      by_cases e2 : l[i] = c
      · rw [e2]
      · rw [TL.pre_of_head [] _ e2] at e
        exact nomatch e
    · intro e
      rw [Option.some.inj e]
      exact TL.pre_self [c] _
  · rw [List.drop_eq_nil_of_le (by omega), List.getElem?_eq_none (by omega), TL.pre_nil (List.cons_ne_nil _ _)]
    simp
theorem find1 (l : List Nat) (c : Nat) : (Txt.find (SX.S l) (SX.S [c]) = -1 ∧ ∀ i : Nat, ¬ l[i]? = some c) ∨ ∃ i : Nat, Txt.find (SX.S l) (SX.S [c]) = (i : Int) ∧ l[i]? = some c ∧ ∀ k : Nat, k < i → ¬ l[k]? = some c := by
  have ha : ∀ i, StrLaws.At (SX.S l) (SX.S [c]) (SX.S l).length i ↔ l[i]? = some c := fun i => by
    rw [TL.at_iff (by rw [tl_S]; exact List.cons_ne_nil _ _), tl_S, tl_S, pre1]
  rcases StrLaws.occ_head (SX.S l) (SX.S [c]) 1 (Nat.le_refl 1) with ⟨h1, h2⟩ | ⟨i, r, h1, h2, h3⟩
  · refine .inl ⟨?_, fun i h => h2 i ((ha i).mpr h)⟩
    unfold Txt.find
    rw [h1]
  · refine .inr ⟨i, ?_, (ha i).mp h2, fun k hk h => h3 k hk ((ha k).mpr h)⟩
    unfold Txt.find
    rw [h1]
def tenL : List Nat := [48, 49, 50, 51, 52, 53, 54, 55, 56, 57]
theorem cTen : PySem.Str.ofString "0123456789" = SX.S tenL := by decide +kernel
theorem ten_at {i : Nat} (h : i < 10) : tenL[i]? = some (48 + i) := by
  have : ∀ i : Fin 10, tenL[i.1]? = some (48 + i.1) := by decide
  exact this ⟨i, h⟩
theorem ten_in {i c : Nat} (h : tenL[i]? = some c) : c = 48 + i ∧ i < 10 := by
  have hi : i < 10 := (List.getElem?_eq_some_iff.mp h).1
  rw [ten_at hi] at h
  exact ⟨(Option.some.inj h).symm, hi⟩
theorem find_ten (c : Nat) : (isD c = false ∧ Txt.find (SX.S tenL) (SX.S [c]) = -1) ∨ (isD c = true ∧ Txt.find (SX.S tenL) (SX.S [c]) = ((c - 48 : Nat) : Int)) := by
  rcases find1 tenL c with ⟨h1, h2⟩ | ⟨i, h1, h2, _⟩
  · refine .inl ⟨?_, h1⟩
    cases h : isD c with
    | false => rfl
    | true =>
      unfold isD at h
      rw [Bool.and_eq_true, decide_eq_true_eq, decide_eq_true_eq] at h
      exact absurd (by rw [ten_at (by omega), show 48 + (c - 48) = c by omega]) (h2 (c - 48))
  · obtain ⟨e, hi⟩ := ten_in h2
    refine .inr ⟨?_, by rw [h1, show c - 48 = i by omega]⟩
    unfold isD
    rw [decide_eq_true (by omega), decide_eq_true (by omega)]
    rfl
section
variable {σ : L2.St} {H : Hp} {ta tb tl : TE} {K : PySem.W.Frag}
theorem ev_ixN {xs : List V} {i : Int} {v : V} (ha : EvL ta σ H xs) (hb : Ev tb σ H (.int i)) (hi : atI xs i = some v) : Ev (tOp (rIxL K) ta tb) σ H v := fun H1 e Q q =>
  ha H1 e _ fun p H2 hp e2 h2 => hb H2 (e.trans e2) _ fun H3 e3 => rv_ixL (sq_of (e3 _ _ h2)) hi H3 (Ex.refl H3) Q fun H4 e4 => q H4 ((e2.trans e3).trans e4)
theorem ev_ten {i : Nat} (h : i < 10) (hb : Ev tb σ H (.int (i : Int))) : Ev (tOp rIxS (tC (.str (PySem.Str.ofString "0123456789"))) tb) σ H (.str (SX.S [48 + i])) :=
  ev_op (x := .str (SX.S tenL)) (ev_is ev_c (by rw [cTen])) hb (rv_ixS (by decide) (atI_nat (ten_at h)))
theorem ev_slT {to : TO} {l : List Nat} {i : Nat} (ha : Ev ta σ H (.str (SX.S l))) (hn : ∀ σ H Q, Q none H → to σ H Q) (hl : Ev tl σ H (.int (i : Int))) (hz : l.length ≤ 100000) : Ev (tSl C8.rSlX ta to (tPart tl)) σ H (.str (SX.S (l.take i))) := fun H1 e Q q =>
  ha H1 e _ fun H2 e2 => hn _ _ _ (hl H2 (e.trans e2) _ fun H3 e3 => ⟨_, rfl, SX.S l, rfl, by rw [SX.S_len]; exact sz_of hz, by rw [SX.slice_to (by omega), Int.toNat_natCast]; exact q H3 (e2.trans e3)⟩)
end
theorem ev_lenX {σ : L2.St} {H : Hp} {ta : TE} {w : List Nat} (ha : Ev ta σ H (.str (SX.S w))) (hz : w.length ≤ 100000) : Ev (tCB (fun xs H Q => ∃ z, xs = [.str z] ∧ z.length ≤ sizeLine ∧ Q (.int z.length) H) (tCons ta tNil)) σ H (.int (w.length : Int)) :=
  ev_is (ev_lenS ha (by rw [SX.S_len]; exact hz)) (by rw [SX.S_len])
section
variable {K : PySem.W.Frag} {σ : L2.St} {H : Hp} {ta tb : TE}
theorem ev_cat {a b : Str} (ha : Ev ta σ H (.str a)) (hb : Ev tb σ H (.str b)) (h : a.length + b.length ≤ 100000) : Ev (tOp (fun x y H Q => ∃ i j, x = .str i ∧ y = .str j ∧ i.length + j.length ≤ sizeLine ∧ Q (.str (i ++ j)) H) ta tb) σ H (.str (a ++ b)) := fun H1 e Q q =>
  ha H1 e _ fun H2 e2 => hb H2 (e.trans e2) _ fun H3 e3 => ⟨a, b, rfl, rfl, sz_of h, q H3 (e2.trans e3)⟩
end
section
variable {σ : L2.St} {H : Hp} {D : Ends} {tz : TS} {te : TE}
theorem q_forX {tu : TS} {j : Nat} {w : List Nat} (h : Ev te σ H (.str (SX.S w))) (Pv : Nat → L2.St → Hp → Prop) (h0 : ∀ H1, Ex H H1 → Pv 0 σ H1)
    (hs : ∀ (i : Nat) (c : Nat) σ' H', w[i]? = some c → Pv i σ' H' → tu { nx := Pv (i + 1), rt := D.rt, bk := tz D, ct := Pv (i + 1) } (σ'.set j (some (.str ⟨#[c]⟩))) H')
    (hd : ∀ σ' H', Pv w.length σ' H' → tz D σ' H') : tSeq (tFor (iStr te) (gName j) tu) tz D σ H := by
  have ec : ∀ i, (SX.S w).cps[i]? = w[i]? := fun i => List.getElem?_toArray
  have es : (SX.S w).cps.size = w.length := List.size_toArray
  refine h H (Ex.refl H) _ fun H1 e1 => ⟨SX.S w, rfl, fun i m σ' H' => Pv i σ' H' ∧ i ≤ w.length ∧ w.length - i ≤ m, ⟨_, h0 H1 e1, Nat.zero_le _, Nat.le_refl _⟩, fun i m σ' H' p => ?_⟩
  obtain ⟨p, hi, hm⟩ := p
  by_cases hlt : i < w.length
  · refine .inr ⟨by show i < (SX.S w).cps.size; omega, fun σ2 H2 => Pv (i + 1) σ2 H2, fun σ2 H2 q => ⟨m - 1, by omega, q, hlt, by omega⟩, ?_⟩
    rintro x H2 ⟨rfl, c, hc, rfl⟩
    rw [ec] at hc
    exact hs i c σ' _ hc p
  · refine .inl ⟨by show (SX.S w).cps.size ≤ i; omega, ?_⟩
    rw [show i = w.length by omega] at p
    exact hd _ _ p
theorem q_callG {sp : Sp} {dvs vs : List V} {E : XK} {tr : TA} {g : TG} (h : EvA tr σ H vs) (k : ∀ H1, Ex H H1 → sp (vs ++ dvs) H1 (fun x H2 => g x σ H2 (tz D)) E) : tSeq (tAsg (tCall sp dvs E tr) g) tz D σ H := h H (Ex.refl H) _ fun H1 e1 => k H1 e1
end
theorem slice_mid {a : List Nat} {i j : Nat} (h : i ≤ j) (hj : j ≤ a.length) : Txt.slice (SX.S a) (some (i : Int)) (some (j : Int)) = SX.S ((a.drop i).take (j - i)) := by
  rw [← C8.cutS_slice]
  unfold cutS
  rw [SX.S_len, HT.sIx_nat, HT.sIx_nat, Nat.min_eq_left hj, Nat.min_eq_left (show i ≤ a.length by omega)]
theorem ev_slM {σ : L2.St} {H : Hp} {ta tl th : TE} {l : List Nat} {i j : Nat} (ha : Ev ta σ H (.str (SX.S l))) (hl : Ev tl σ H (.int (i : Int))) (hh : Ev th σ H (.int (j : Int))) (h : i ≤ j) (hj : j ≤ l.length) (hz : l.length ≤ 100000) : Ev (tSl C8.rSlX ta (tPart tl) (tPart th)) σ H (.str (SX.S ((l.drop i).take (j - i)))) := fun H1 e Q q =>
  ha H1 e _ fun H2 e2 => hl H2 (e.trans e2) _ fun H3 e3 => ⟨_, rfl, hh H3 ((e.trans e2).trans e3) _ fun H4 e4 => ⟨_, rfl, SX.S l, rfl, by rw [SX.S_len]; exact sz_of hz, by rw [slice_mid h hj]; exact q H4 ((e2.trans e3).trans e4)⟩⟩
theorem q_par2 {σ : L2.St} {H : Hp} {ta : TA} {D : Ends} {tz : TS} {i j : Nat} {x y : V} (h : EvA ta σ H [x, y]) (k : ∀ H1, Ex H H1 → tz D ((σ.set i (some x)).set j (some y)) H1) : tSeq (tPar i j ta) tz D σ H := h H (Ex.refl H) _ fun H1 e => ⟨x, y, rfl, k H1 e⟩
theorem q_par3 {σ : L2.St} {H : Hp} {ta : TA} {D : Ends} {tz : TS} {i j l : Nat} {x y z : V} (h : EvA ta σ H [x, y, z]) (k : ∀ H1, Ex H H1 → tz D (((σ.set i (some x)).set j (some y)).set l (some z)) H1) : tSeq (tPar3 i j l ta) tz D σ H := h H (Ex.refl H) _ fun H1 e => ⟨x, y, z, rfl, k H1 e⟩

def topS (i : Nat) : Stmt := PySem.Challenge.pw_stylobate_k59_rows_written_by_joins.main.body.getD i (.Pass ⟨0, 0, 0, 0⟩)
abbrev s_kind_rank : Stmt := topS 1
abbrev n_kind_rank : List Str := ["value"]
theorem sc_kind_rank : FnScope n_kind_rank ["value"] (C8.fnScope s_kind_rank) := C8.fnScope_by (by decide +kernel)
abbrev s_is_integer : Stmt := topS 2
abbrev n_is_integer : List Str := ["value"]
theorem sc_is_integer : FnScope n_is_integer ["value"] (C8.fnScope s_is_integer) := C8.fnScope_by (by decide +kernel)
abbrev s_rank : Stmt := topS 3
abbrev n_rank : List Str := ["value", "kind"]
theorem sc_rank : FnScope n_rank ["value"] (C8.fnScope s_rank) := C8.fnScope_by (by decide +kernel)
abbrev s_same : Stmt := topS 4
abbrev n_same : List Str := ["first", "second"]
theorem sc_same : FnScope n_same ["first", "second"] (C8.fnScope s_same) := C8.fnScope_by (by decide +kernel)
abbrev s_before : Stmt := topS 5
abbrev n_before : List Str := ["first", "second"]
theorem sc_before : FnScope n_before ["first", "second"] (C8.fnScope s_before) := C8.fnScope_by (by decide +kernel)
abbrev s_is_digits : Stmt := topS 8
abbrev n_is_digits : List Str := ["text"]
theorem sc_is_digits : FnScope n_is_digits ["text"] (C8.fnScope s_is_digits) := C8.fnScope_by (by decide +kernel)
abbrev s__pattern_parts : Stmt := topS 9
abbrev n__pattern_parts : List Str := ["pattern", "signs", "stars", "at", "sign"]
theorem sc__pattern_parts : FnScope n__pattern_parts ["pattern"] (C8.fnScope s__pattern_parts) := C8.fnScope_by (by decide +kernel)
abbrev s__places_of : Stmt := topS 10
abbrev n__places_of : List Str := ["signs", "wanted", "bits", "at", "sign"]
theorem sc__places_of : FnScope n__places_of ["signs", "wanted"] (C8.fnScope s__places_of) := C8.fnScope_by (by decide +kernel)
abbrev s_is_like : Stmt := topS 11
abbrev n_is_like : List Str := ["text", "pattern", "signs", "stars", "loops", "at", "star", "takes", "reached", "sign"]
theorem sc_is_like : FnScope n_is_like ["text", "pattern"] (C8.fnScope s_is_like) := C8.fnScope_by (by decide +kernel)
abbrev s_pieces : Stmt := topS 12
abbrev n_pieces : List Str := ["text", "separator"]
theorem sc_pieces : FnScope n_pieces ["text", "separator"] (C8.fnScope s_pieces) := C8.fnScope_by (by decide +kernel)
abbrev s_lowered : Stmt := topS 13
abbrev n_lowered : List Str := ["text"]
theorem sc_lowered : FnScope n_lowered ["text"] (C8.fnScope s_lowered) := C8.fnScope_by (by decide +kernel)
abbrev s_raised : Stmt := topS 14
abbrev n_raised : List Str := ["text"]
theorem sc_raised : FnScope n_raised ["text"] (C8.fnScope s_raised) := C8.fnScope_by (by decide +kernel)
abbrev s_is_day : Stmt := topS 24
abbrev n_is_day : List Str := ["value"]
theorem sc_is_day : FnScope n_is_day ["value"] (C8.fnScope s_is_day) := C8.fnScope_by (by decide +kernel)
abbrev s__is_leap : Stmt := topS 25
abbrev n__is_leap : List Str := ["year"]
theorem sc__is_leap : FnScope n__is_leap ["year"] (C8.fnScope s__is_leap) := C8.fnScope_by (by decide +kernel)
abbrev s_month_length : Stmt := topS 26
abbrev n_month_length : List Str := ["year", "month"]
theorem sc_month_length : FnScope n_month_length ["year", "month"] (C8.fnScope s_month_length) := C8.fnScope_by (by decide +kernel)
abbrev s_day_of : Stmt := topS 27
abbrev n_day_of : List Str := ["year", "month", "date", "gone", "days", "earlier"]
theorem sc_day_of : FnScope n_day_of ["year", "month", "date"] (C8.fnScope s_day_of) := C8.fnScope_by (by decide +kernel)
abbrev s_date_of : Stmt := topS 28
abbrev n_date_of : List Str := ["day", "cycles", "rest", "centuries", "fours", "years", "year", "month"]
theorem sc_date_of : FnScope n_date_of ["day"] (C8.fnScope s_date_of) := C8.fnScope_by (by decide +kernel)
abbrev s_date_text : Stmt := topS 29
abbrev n_date_text : List Str := ["day", "year", "month", "date"]
theorem sc_date_text : FnScope n_date_text ["day"] (C8.fnScope s_date_text) := C8.fnScope_by (by decide +kernel)
abbrev s_read_date : Stmt := topS 30
abbrev n_read_date : List Str := ["text", "year", "month", "date"]
theorem sc_read_date : FnScope n_read_date ["text"] (C8.fnScope s_read_date) := C8.fnScope_by (by decide +kernel)
abbrev s_limited : Stmt := topS 35
abbrev n_limited : List Str := ["number"]
theorem sc_limited : FnScope n_limited ["number"] (C8.fnScope s_limited) := C8.fnScope_by (by decide +kernel)
abbrev s_rounded : Stmt := topS 36
abbrev n_rounded : List Str := ["number", "divisor", "size"]
theorem sc_rounded : FnScope n_rounded ["number", "divisor"] (C8.fnScope s_rounded) := C8.fnScope_by (by decide +kernel)
abbrev s_quotient : Stmt := topS 37
abbrev n_quotient : List Str := ["number", "divisor", "size"]
theorem sc_quotient : FnScope n_quotient ["number", "divisor"] (C8.fnScope s_quotient) := C8.fnScope_by (by decide +kernel)
abbrev s_decimal_text : Stmt := topS 38
abbrev n_decimal_text : List Str := ["number", "whole", "rest", "sign", "digits"]
theorem sc_decimal_text : FnScope n_decimal_text ["number"] (C8.fnScope s_decimal_text) := C8.fnScope_by (by decide +kernel)
abbrev s_read_digits : Stmt := topS 39
abbrev n_read_digits : List Str := ["digits", "needed"]
theorem sc_read_digits : FnScope n_read_digits ["digits"] (C8.fnScope s_read_digits) := C8.fnScope_by (by decide +kernel)
abbrev s__signed : Stmt := topS 40
abbrev n__signed : List Str := ["sign", "digits", "size"]
theorem sc__signed : FnScope n__signed ["sign", "digits"] (C8.fnScope s__signed) := C8.fnScope_by (by decide +kernel)
abbrev s_read_integer : Stmt := topS 41
abbrev n_read_integer : List Str := ["text", "sign", "digits"]
theorem sc_read_integer : FnScope n_read_integer ["text"] (C8.fnScope s_read_integer) := C8.fnScope_by (by decide +kernel)
abbrev s_read_decimal : Stmt := topS 42
abbrev n_read_decimal : List Str := ["text", "sign", "size", "whole", "dot", "part"]
theorem sc_read_decimal : FnScope n_read_decimal ["text"] (C8.fnScope s_read_decimal) := C8.fnScope_by (by decide +kernel)
abbrev s_negated : Stmt := topS 44
abbrev n_negated : List Str := ["value"]
theorem sc_negated : FnScope n_negated ["value"] (C8.fnScope s_negated) := C8.fnScope_by (by decide +kernel)
abbrev s_both : Stmt := topS 45
abbrev n_both : List Str := ["first", "second"]
theorem sc_both : FnScope n_both ["first", "second"] (C8.fnScope s_both) := C8.fnScope_by (by decide +kernel)
abbrev s_either : Stmt := topS 46
abbrev n_either : List Str := ["first", "second"]
theorem sc_either : FnScope n_either ["first", "second"] (C8.fnScope s_either) := C8.fnScope_by (by decide +kernel)
abbrev s__negate : Stmt := topS 48
abbrev n__negate : List Str := ["number"]
theorem sc__negate : FnScope n__negate ["number"] (C8.fnScope s__negate) := C8.fnScope_by (by decide +kernel)
abbrev s__size : Stmt := topS 49
abbrev n__size : List Str := ["number"]
theorem sc__size : FnScope n__size ["number"] (C8.fnScope s__size) := C8.fnScope_by (by decide +kernel)
abbrev s__sign : Stmt := topS 50
abbrev n__sign : List Str := ["number"]
theorem sc__sign : FnScope n__sign ["number"] (C8.fnScope s__sign) := C8.fnScope_by (by decide +kernel)
abbrev s__value : Stmt := topS 51
abbrev n__value : List Str := ["value"]
theorem sc__value : FnScope n__value ["value"] (C8.fnScope s__value) := C8.fnScope_by (by decide +kernel)
abbrev s__to_decimal : Stmt := topS 52
abbrev n__to_decimal : List Str := ["number"]
theorem sc__to_decimal : FnScope n__to_decimal ["number"] (C8.fnScope s__to_decimal) := C8.fnScope_by (by decide +kernel)
abbrev s__to_integer : Stmt := topS 53
abbrev n__to_integer : List Str := ["number"]
theorem sc__to_integer : FnScope n__to_integer ["number"] (C8.fnScope s__to_integer) := C8.fnScope_by (by decide +kernel)
abbrev s__integer_text : Stmt := topS 54
abbrev n__integer_text : List Str := ["number"]
theorem sc__integer_text : FnScope n__integer_text ["number"] (C8.fnScope s__integer_text) := C8.fnScope_by (by decide +kernel)
abbrev s__decimal_text : Stmt := topS 55
abbrev n__decimal_text : List Str := ["number"]
theorem sc__decimal_text : FnScope n__decimal_text ["number"] (C8.fnScope s__decimal_text) := C8.fnScope_by (by decide +kernel)
abbrev s__lower : Stmt := topS 56
abbrev n__lower : List Str := ["text"]
theorem sc__lower : FnScope n__lower ["text"] (C8.fnScope s__lower) := C8.fnScope_by (by decide +kernel)
abbrev s__upper : Stmt := topS 57
abbrev n__upper : List Str := ["text"]
theorem sc__upper : FnScope n__upper ["text"] (C8.fnScope s__upper) := C8.fnScope_by (by decide +kernel)
abbrev s__length : Stmt := topS 58
abbrev n__length : List Str := ["text"]
theorem sc__length : FnScope n__length ["text"] (C8.fnScope s__length) := C8.fnScope_by (by decide +kernel)
abbrev s__trim : Stmt := topS 59
abbrev n__trim : List Str := ["text"]
theorem sc__trim : FnScope n__trim ["text"] (C8.fnScope s__trim) := C8.fnScope_by (by decide +kernel)
abbrev s__read_integer : Stmt := topS 60
abbrev n__read_integer : List Str := ["text"]
theorem sc__read_integer : FnScope n__read_integer ["text"] (C8.fnScope s__read_integer) := C8.fnScope_by (by decide +kernel)
abbrev s__read_decimal : Stmt := topS 61
abbrev n__read_decimal : List Str := ["text"]
theorem sc__read_decimal : FnScope n__read_decimal ["text"] (C8.fnScope s__read_decimal) := C8.fnScope_by (by decide +kernel)
abbrev s__read_date : Stmt := topS 62
abbrev n__read_date : List Str := ["text"]
theorem sc__read_date : FnScope n__read_date ["text"] (C8.fnScope s__read_date) := C8.fnScope_by (by decide +kernel)
abbrev s__year : Stmt := topS 63
abbrev n__year : List Str := ["day"]
theorem sc__year : FnScope n__year ["day"] (C8.fnScope s__year) := C8.fnScope_by (by decide +kernel)
abbrev s__month : Stmt := topS 64
abbrev n__month : List Str := ["day"]
theorem sc__month : FnScope n__month ["day"] (C8.fnScope s__month) := C8.fnScope_by (by decide +kernel)
abbrev s__date : Stmt := topS 65
abbrev n__date : List Str := ["day"]
theorem sc__date : FnScope n__date ["day"] (C8.fnScope s__date) := C8.fnScope_by (by decide +kernel)
abbrev s__weekday : Stmt := topS 66
abbrev n__weekday : List Str := ["day"]
theorem sc__weekday : FnScope n__weekday ["day"] (C8.fnScope s__weekday) := C8.fnScope_by (by decide +kernel)
abbrev s__month_start : Stmt := topS 67
abbrev n__month_start : List Str := ["day", "year", "month", "_"]
theorem sc__month_start : FnScope n__month_start ["day"] (C8.fnScope s__month_start) := C8.fnScope_by (by decide +kernel)
abbrev s__year_start : Stmt := topS 68
abbrev n__year_start : List Str := ["day"]
theorem sc__year_start : FnScope n__year_start ["day"] (C8.fnScope s__year_start) := C8.fnScope_by (by decide +kernel)
abbrev s__week_start : Stmt := topS 69
abbrev n__week_start : List Str := ["day"]
theorem sc__week_start : FnScope n__week_start ["day"] (C8.fnScope s__week_start) := C8.fnScope_by (by decide +kernel)
abbrev s__date_text : Stmt := topS 70
abbrev n__date_text : List Str := ["day"]
theorem sc__date_text : FnScope n__date_text ["day"] (C8.fnScope s__date_text) := C8.fnScope_by (by decide +kernel)
abbrev s_value_of_one : Stmt := topS 74
abbrev n_value_of_one : List Str := ["name", "value", "action"]
theorem sc_value_of_one : FnScope n_value_of_one ["name", "value"] (C8.fnScope s_value_of_one) := C8.fnScope_by (by decide +kernel)
abbrev s__part : Stmt := topS 76
abbrev n__part : List Str := ["text", "start", "count", "first", "behind"]
theorem sc__part : FnScope n__part ["text", "start", "count"] (C8.fnScope s__part) := C8.fnScope_by (by decide +kernel)
abbrev s__split : Stmt := topS 77
abbrev n__split : List Str := ["text", "separator", "number", "found"]
theorem sc__split : FnScope n__split ["text", "separator", "number"] (C8.fnScope s__split) := C8.fnScope_by (by decide +kernel)
abbrev s__replace : Stmt := topS 78
abbrev n__replace : List Str := ["text", "old", "new", "found", "length", "piece"]
theorem sc__replace : FnScope n__replace ["text", "old", "new"] (C8.fnScope s__replace) := C8.fnScope_by (by decide +kernel)
abbrev s__pad : Stmt := topS 79
abbrev n__pad : List Str := ["text", "sign", "length"]
theorem sc__pad : FnScope n__pad ["text", "sign", "length"] (C8.fnScope s__pad) := C8.fnScope_by (by decide +kernel)
abbrev s_value_of_three : Stmt := topS 81
abbrev n_value_of_three : List Str := ["name", "first", "second", "third", "action"]
theorem sc_value_of_three : FnScope n_value_of_three ["name", "first", "second", "third"] (C8.fnScope s_value_of_three) := C8.fnScope_by (by decide +kernel)
abbrev s__both : Stmt := topS 83
abbrev n__both : List Str := ["first", "second"]
theorem sc__both : FnScope n__both ["first", "second"] (C8.fnScope s__both) := C8.fnScope_by (by decide +kernel)
abbrev s__either : Stmt := topS 84
abbrev n__either : List Str := ["first", "second"]
theorem sc__either : FnScope n__either ["first", "second"] (C8.fnScope s__either) := C8.fnScope_by (by decide +kernel)
abbrev s__same : Stmt := topS 85
abbrev n__same : List Str := ["first", "second"]
theorem sc__same : FnScope n__same ["first", "second"] (C8.fnScope s__same) := C8.fnScope_by (by decide +kernel)
abbrev s__first_known : Stmt := topS 86
abbrev n__first_known : List Str := ["first", "second"]
theorem sc__first_known : FnScope n__first_known ["first", "second"] (C8.fnScope s__first_known) := C8.fnScope_by (by decide +kernel)
abbrev s__equal : Stmt := topS 87
abbrev n__equal : List Str := ["first", "second"]
theorem sc__equal : FnScope n__equal ["first", "second"] (C8.fnScope s__equal) := C8.fnScope_by (by decide +kernel)
abbrev s__less : Stmt := topS 88
abbrev n__less : List Str := ["first", "second"]
theorem sc__less : FnScope n__less ["first", "second"] (C8.fnScope s__less) := C8.fnScope_by (by decide +kernel)
abbrev s__at_most : Stmt := topS 89
abbrev n__at_most : List Str := ["first", "second"]
theorem sc__at_most : FnScope n__at_most ["first", "second"] (C8.fnScope s__at_most) := C8.fnScope_by (by decide +kernel)
abbrev s__least : Stmt := topS 90
abbrev n__least : List Str := ["first", "second"]
theorem sc__least : FnScope n__least ["first", "second"] (C8.fnScope s__least) := C8.fnScope_by (by decide +kernel)
abbrev s__greatest : Stmt := topS 91
abbrev n__greatest : List Str := ["first", "second"]
theorem sc__greatest : FnScope n__greatest ["first", "second"] (C8.fnScope s__greatest) := C8.fnScope_by (by decide +kernel)
abbrev s__add : Stmt := topS 92
abbrev n__add : List Str := ["first", "second"]
theorem sc__add : FnScope n__add ["first", "second"] (C8.fnScope s__add) := C8.fnScope_by (by decide +kernel)
abbrev s__subtract : Stmt := topS 93
abbrev n__subtract : List Str := ["first", "second"]
theorem sc__subtract : FnScope n__subtract ["first", "second"] (C8.fnScope s__subtract) := C8.fnScope_by (by decide +kernel)
abbrev s__multiply : Stmt := topS 94
abbrev n__multiply : List Str := ["first", "second"]
theorem sc__multiply : FnScope n__multiply ["first", "second"] (C8.fnScope s__multiply) := C8.fnScope_by (by decide +kernel)
abbrev s__divide : Stmt := topS 95
abbrev n__divide : List Str := ["first", "second"]
theorem sc__divide : FnScope n__divide ["first", "second"] (C8.fnScope s__divide) := C8.fnScope_by (by decide +kernel)
abbrev s__rest : Stmt := topS 96
abbrev n__rest : List Str := ["first", "second"]
theorem sc__rest : FnScope n__rest ["first", "second"] (C8.fnScope s__rest) := C8.fnScope_by (by decide +kernel)
abbrev s__multiply_decimals : Stmt := topS 97
abbrev n__multiply_decimals : List Str := ["first", "second"]
theorem sc__multiply_decimals : FnScope n__multiply_decimals ["first", "second"] (C8.fnScope s__multiply_decimals) := C8.fnScope_by (by decide +kernel)
abbrev s__divide_decimals : Stmt := topS 98
abbrev n__divide_decimals : List Str := ["first", "second"]
theorem sc__divide_decimals : FnScope n__divide_decimals ["first", "second"] (C8.fnScope s__divide_decimals) := C8.fnScope_by (by decide +kernel)
abbrev s__join : Stmt := topS 99
abbrev n__join : List Str := ["first", "second"]
theorem sc__join : FnScope n__join ["first", "second"] (C8.fnScope s__join) := C8.fnScope_by (by decide +kernel)
abbrev s__like : Stmt := topS 100
abbrev n__like : List Str := ["first", "second"]
theorem sc__like : FnScope n__like ["first", "second"] (C8.fnScope s__like) := C8.fnScope_by (by decide +kernel)
abbrev s__position : Stmt := topS 101
abbrev n__position : List Str := ["first", "second"]
theorem sc__position : FnScope n__position ["first", "second"] (C8.fnScope s__position) := C8.fnScope_by (by decide +kernel)
abbrev s__add_days : Stmt := topS 102
abbrev n__add_days : List Str := ["day", "many", "later"]
theorem sc__add_days : FnScope n__add_days ["day", "many"] (C8.fnScope s__add_days) := C8.fnScope_by (by decide +kernel)
abbrev s__add_months : Stmt := topS 103
abbrev n__add_months : List Str := ["day", "many", "year", "month", "date", "years", "before_it"]
theorem sc__add_months : FnScope n__add_months ["day", "many"] (C8.fnScope s__add_months) := C8.fnScope_by (by decide +kernel)
abbrev s__are_alike : Stmt := topS 109
abbrev n__are_alike : List Str := ["first", "second"]
theorem sc__are_alike : FnScope n__are_alike ["first", "second"] (C8.fnScope s__are_alike) := C8.fnScope_by (by decide +kernel)
abbrev s_value_of_two : Stmt := topS 110
abbrev n_value_of_two : List Str := ["name", "first", "second", "action"]
theorem sc_value_of_two : FnScope n_value_of_two ["name", "first", "second"] (C8.fnScope s_value_of_two) := C8.fnScope_by (by decide +kernel)
abbrev s_unary : Stmt := topS 112
abbrev n_unary : List Str := ["name", "value"]
theorem sc_unary : FnScope n_unary ["name", "value"] (C8.fnScope s_unary) := C8.fnScope_by (by decide +kernel)
abbrev s_binary : Stmt := topS 113
abbrev n_binary : List Str := ["name", "first", "second"]
theorem sc_binary : FnScope n_binary ["name", "first", "second"] (C8.fnScope s_binary) := C8.fnScope_by (by decide +kernel)
abbrev s_ternary : Stmt := topS 114
abbrev n_ternary : List Str := ["name", "first", "second", "third"]
theorem sc_ternary : FnScope n_ternary ["name", "first", "second", "third"] (C8.fnScope s_ternary) := C8.fnScope_by (by decide +kernel)
abbrev s_evaluate : Stmt := topS 116
abbrev n_evaluate : List Str := ["expression", "row", "form", "number", "chosen", "first", "second", "third"]
theorem sc_evaluate : FnScope n_evaluate ["expression", "row"] (C8.fnScope s_evaluate) := C8.fnScope_by (by decide +kernel)
abbrev s_evaluate_all : Stmt := topS 117
abbrev n_evaluate_all : List Str := ["expressions", "row", "expression"]
theorem sc_evaluate_all : FnScope n_evaluate_all ["expressions", "row"] (C8.fnScope s_evaluate_all) := C8.fnScope_by (by decide +kernel)
abbrev s__text_hash : Stmt := topS 129
abbrev n__text_hash : List Str := ["text", "number", "sign"]
theorem sc__text_hash : FnScope n__text_hash ["text"] (C8.fnScope s__text_hash) := C8.fnScope_by (by decide +kernel)
abbrev s__value_hash : Stmt := topS 130
abbrev n__value_hash : List Str := ["value"]
theorem sc__value_hash : FnScope n__value_hash ["value"] (C8.fnScope s__value_hash) := C8.fnScope_by (by decide +kernel)
abbrev s_hash_of : Stmt := topS 131
abbrev n_hash_of : List Str := ["values", "number", "value"]
theorem sc_hash_of : FnScope n_hash_of ["values"] (C8.fnScope s_hash_of) := C8.fnScope_by (by decide +kernel)
abbrev s_part_of : Stmt := topS 132
abbrev n_part_of : List Str := ["number", "time"]
theorem sc_part_of : FnScope n_part_of ["number", "time"] (C8.fnScope s_part_of) := C8.fnScope_by (by decide +kernel)
abbrev s_paired_keys : Stmt := topS 134
abbrev n_paired_keys : List Str := ["left", "right", "many"]
theorem sc_paired_keys : FnScope n_paired_keys ["left", "right"] (C8.fnScope s_paired_keys) := C8.fnScope_by (by decide +kernel)
abbrev s_sort_written : Stmt := topS 136
abbrev n_sort_written : List Str := ["rows", "memory"]
theorem sc_sort_written : FnScope n_sort_written ["rows", "memory"] (C8.fnScope s_sort_written) := C8.fnScope_by (by decide +kernel)
abbrev s_way_of_join : Stmt := topS 138
abbrev n_way_of_join : List Str := ["way", "kind"]
theorem sc_way_of_join : FnScope n_way_of_join ["way", "kind"] (C8.fnScope s_way_of_join) := C8.fnScope_by (by decide +kernel)
abbrev s__in_parts : Stmt := topS 139
abbrev n__in_parts : List Str := ["keys", "rows", "time", "hashed", "parts", "row", "_"]
theorem sc__in_parts : FnScope n__in_parts ["keys", "rows", "time", "hashed"] (C8.fnScope s__in_parts) := C8.fnScope_by (by decide +kernel)
abbrev s__divided : Stmt := topS 140
abbrev n__divided : List Str := ["way", "keys", "sides", "memory", "hashed", "found", "written", "waiting", "a", "b", "time", "table", "lefts", "rights", "parts", "part"]
theorem sc__divided : FnScope n__divided ["way", "keys", "sides", "memory", "hashed"] (C8.fnScope s__divided) := C8.fnScope_by (by decide +kernel)
abbrev s_join_written : Stmt := topS 141
abbrev n_join_written : List Str := ["way", "kind", "left", "right", "a", "b", "memory", "hashed", "_", "written"]
theorem sc_join_written : FnScope n_join_written ["way", "kind", "left", "right", "a", "b", "memory", "hashed"] (C8.fnScope s_join_written) := C8.fnScope_by (by decide +kernel)
abbrev s__law_cell : Stmt := topS 143
abbrev n__law_cell : List Str := ["script", "k"]
theorem sc__law_cell : FnScope n__law_cell ["script", "k"] (C8.fnScope s__law_cell) := C8.fnScope_by (by decide +kernel)
abbrev s__law_state : Stmt := topS 144
abbrev n__law_state : List Str := ["cell", "k", "prime", "first", "second", "third", "fourth"]
theorem sc__law_state : FnScope n__law_state ["cell", "k"] (C8.fnScope s__law_state) := C8.fnScope_by (by decide +kernel)
abbrev s__law_digit : Stmt := topS 145
abbrev n__law_digit : List Str := ["state", "many", "digit"]
theorem sc__law_digit : FnScope n__law_digit ["state", "many"] (C8.fnScope s__law_digit) := C8.fnScope_by (by decide +kernel)
abbrev s__law_is_integer : Stmt := topS 146
abbrev n__law_is_integer : List Str := ["told"]
theorem sc__law_is_integer : FnScope n__law_is_integer ["told"] (C8.fnScope s__law_is_integer) := C8.fnScope_by (by decide +kernel)
abbrev s__law_rank : Stmt := topS 147
abbrev n__law_rank : List Str := ["value"]
theorem sc__law_rank : FnScope n__law_rank ["value"] (C8.fnScope s__law_rank) := C8.fnScope_by (by decide +kernel)
abbrev s__law_text : Stmt := topS 148
abbrev n__law_text : List Str := ["state", "signs", "k"]
theorem sc__law_text : FnScope n__law_text ["state"] (C8.fnScope s__law_text) := C8.fnScope_by (by decide +kernel)
abbrev s__law_value : Stmt := topS 149
abbrev n__law_value : List Str := ["state", "kind"]
theorem sc__law_value : FnScope n__law_value ["state"] (C8.fnScope s__law_value) := C8.fnScope_by (by decide +kernel)
abbrev s__law_rows : Stmt := topS 150
abbrev n__law_rows : List Str := ["script", "first", "most", "width", "rows", "k", "state", "row", "j"]
theorem sc__law_rows : FnScope n__law_rows ["script", "first", "most", "width"] (C8.fnScope s__law_rows) := C8.fnScope_by (by decide +kernel)
abbrev s__law_zero : Stmt := topS 151
abbrev n__law_zero : List Str := ["values"]
theorem sc__law_zero : FnScope n__law_zero ["values"] (C8.fnScope s__law_zero) := C8.fnScope_by (by decide +kernel)
abbrev s__law_by_size : Stmt := topS 152
abbrev n__law_by_size : List Str := ["values", "value"]
theorem sc__law_by_size : FnScope n__law_by_size ["values"] (C8.fnScope s__law_by_size) := C8.fnScope_by (by decide +kernel)
abbrev s__law_spread : Stmt := topS 153
abbrev n__law_spread : List Str := ["values", "total", "value"]
theorem sc__law_spread : FnScope n__law_spread ["values"] (C8.fnScope s__law_spread) := C8.fnScope_by (by decide +kernel)
abbrev s__law_hash : Stmt := topS 154
abbrev n__law_hash : List Str := ["kind"]
theorem sc__law_hash : FnScope n__law_hash ["kind"] (C8.fnScope s__law_hash) := C8.fnScope_by (by decide +kernel)
abbrev s__law_join_shape : Stmt := topS 155
abbrev n__law_join_shape : List Str := ["state", "keys", "left", "right", "k", "rest"]
theorem sc__law_join_shape : FnScope n__law_join_shape ["state"] (C8.fnScope s__law_join_shape) := C8.fnScope_by (by decide +kernel)
abbrev s__law_parts : Stmt := topS 156
abbrev n__law_parts : List Str := ["rows", "keys", "time", "hashed", "parts", "row", "number", "k", "key"]
theorem sc__law_parts : FnScope n__law_parts ["rows", "keys", "time", "hashed"] (C8.fnScope s__law_parts) := C8.fnScope_by (by decide +kernel)
abbrev s__law_written : Stmt := topS 157
abbrev n__law_written : List Str := ["way", "left", "right", "a", "b", "time", "memory", "hashed", "size", "total", "first", "second", "k"]
theorem sc__law_written : FnScope n__law_written ["way", "left", "right", "a", "b", "time", "memory", "hashed"] (C8.fnScope s__law_written) := C8.fnScope_by (by decide +kernel)
abbrev s__law_due : Stmt := topS 158
abbrev n__law_due : List Str := ["way", "kind", "left", "right", "a", "b", "memory", "hashed", "keys"]
theorem sc__law_due : FnScope n__law_due ["way", "kind", "left", "right", "a", "b", "memory", "hashed"] (C8.fnScope s__law_due) := C8.fnScope_by (by decide +kernel)
abbrev s_law : Stmt := topS 159
abbrev n_law : List Str := ["script", "split", "a", "b", "k", "state", "left", "right", "rest", "kind", "way", "memory", "hashed", "told"]
theorem sc_law : FnScope n_law ["script"] (C8.fnScope s_law) := C8.fnScope_by (by decide +kernel)
/-! ### a list that is drawn from: its one object may change -/
def wo (p : Addr) (H : Hp) : Hp := fun a => if a = p then none else H a
theorem wo_self (p : Addr) (H : Hp) : wo p H p = none := if_pos rfl
theorem wo_ne {p a : Addr} {H : Hp} (h : a ≠ p) : wo p H a = H a := if_neg h
theorem wo_le (p : Addr) (H : Hp) : Ex (wo p H) H := fun a o h => by
  unfold wo at h
  split at h
  · cases h
  · exact h
theorem wx_of {p : Addr} {H H' : Hp} (e : Ex H H') : Ex (wo p H) H' := (wo_le p H).trans e
theorem wx_trans {p : Addr} {H1 H2 H3 : Hp} (a : Ex (wo p H1) H2) (b : Ex (wo p H2) H3) : Ex (wo p H1) H3 := fun x o h => b x o (by
  have hx : x ≠ p := fun z => by
    rw [z, wo_self] at h
    cases h
  rw [wo_ne hx]
  exact a x o h)
theorem wx_back {p : Addr} {H0 H1 H2 : Hp} (h : H0 p = none) (e : Ex H0 H1) (x : Ex (wo p H1) H2) : Ex H0 H2 := fun a o ha => x a o (by
  have hx : a ≠ p := fun z => by
    rw [z, h] at ha
    cases ha
  rw [wo_ne hx]
  exact e a o ha)
theorem wx_to {p : Addr} {H0 H1 : Hp} (h : H0 p = none) (e : Ex H0 H1) : Ex H0 (wo p H1) := wx_back h e (fun _ _ z => z)
theorem wx_mut {p : Addr} {H1 H2 : Hp} {o : HO} (e : Ex (wo p H1) H2) : Ex (wo p H1) (upd H2 p o) := Ex.mut e (wo_self p H1)
def Dr (p : Addr) (H : Hp) : Prop := ∃ s : Int, 0 ≤ s ∧ H p = some (.lst [.int s])
theorem Dr.ex {p : Addr} {H H' : Hp} (d : Dr p H) (e : Ex H H') : Dr p H' := by
  obtain ⟨s, h0, h⟩ := d
  exact ⟨s, h0, e _ _ h⟩
/-- a value that is drawn: one of those with the word P -/
def EvD1 (te : TE) (σ : L2.St) (p : Addr) (H : Hp) (P : V → Prop) : Prop := ∀ H1, Ex (wo p H) H1 → Dr p H1 → ∀ Q : VK, (∀ v H2, P v → Ex (wo p H1) H2 → Dr p H2 → Q v H2) → te σ H1 Q
def EvDT (tt : TT) (σ : L2.St) (p : Addr) (H : Hp) (P : Bool → Prop) : Prop := ∀ H1, Ex (wo p H) H1 → Dr p H1 → ∀ Q : Bool → Hp → Prop, (∀ b H2, P b → Ex (wo p H1) H2 → Dr p H2 → Q b H2) → tt σ H1 Q
def ZP (P : Int → Prop) : V → Prop := fun v => ∃ i, v = .int i ∧ P i
/-- a value of which a word alone is known, all else as it was -/
def EvN (te : TE) (σ : L2.St) (H : Hp) (P : V → Prop) : Prop := ∀ H1, Ex H H1 → ∀ Q : VK, (∀ v H2, P v → Ex H1 H2 → Q v H2) → te σ H1 Q
/-- a new list to draw from -/
def EvC (te : TE) (σ : L2.St) (H : Hp) : Prop := ∀ H1, Ex H H1 → ∀ Q : VK, (∀ p H2, H1 p = none → Ex H1 H2 → Dr p H2 → Q (.ref p) H2) → te σ H1 Q
def sp__law_cell (K : PySem.W.Frag) : Sp := fun vs H Q _ => ∃ (a : Addr) (ns : List Int) (k : Int), vs = [.ref a, .int k] ∧ SqL K H a (ns.map V.int) ∧ 0 ≤ k ∧ ∀ H', Ex H H' → Q (.int (ns.getD k.toNat 0)) H'
def sp__law_state (K : PySem.W.Frag) : Sp := fun vs H Q _ => ∃ c k : Int, vs = [.int c, .int k] ∧ ∀ p H', H p = none → Ex H H' → Dr p H' → Q (.ref p) H'
def sp__law_digit (K : PySem.W.Frag) : Sp := fun vs H Q _ => ∃ (p : Addr) (m : Int), vs = [.ref p, .int m] ∧ Dr p H ∧ 0 < m ∧ m < 2 ^ 400 ∧ ∀ d H', 0 ≤ d → d < m → Ex (wo p H) H' → Dr p H' → Q (.int d) H'
section
variable {K : PySem.W.Frag} {σ : L2.St} {H H' : Hp} {p : Addr} {ta tb te tx : TE} {t u : TT} {x y z v : V} {r : R2} {P R S : V → Prop} {PI RI SI : Int → Prop} {D : Ends} {tz tu tw : TS} {E : XK}
theorem e1_pure (h : Ev te σ (wo p H) v) (hv : P v) : EvD1 te σ p H P := fun H1 e d Q q => h H1 e Q fun H2 e2 => q v H2 hv (wx_of e2) (d.ex e2)
theorem e1_int {i : Int} (h : Ev te σ (wo p H) (.int i)) (hv : PI i) : EvD1 te σ p H (ZP PI) := e1_pure h ⟨i, rfl, hv⟩
theorem e1_mono (h : EvD1 te σ p H P) (k : ∀ v, P v → R v) : EvD1 te σ p H R := fun H1 e d Q q => h H1 e d Q fun v H2 hv e2 d2 => q v H2 (k v hv) e2 d2
theorem ez_mono (h : EvD1 te σ p H (ZP PI)) (k : ∀ i, PI i → RI i) : EvD1 te σ p H (ZP RI) := e1_mono h fun v ⟨i, e, hi⟩ => ⟨i, e, k i hi⟩
theorem ez_op {C : Int → Int → Prop} {g : Int → Int → Int} (ha : EvD1 ta σ p H (ZP PI)) (hb : EvD1 tb σ p H (ZP RI)) (hc : ∀ i j, PI i → RI j → C i j ∧ SI (g i j)) : EvD1 (tOp (rI C fun i j => .int (g i j)) ta tb) σ p H (ZP SI) := fun H1 e d Q q =>
  ha H1 e d _ fun v H2 ⟨i, ev, hi⟩ e2 d2 => hb H2 (wx_trans e e2) d2 _ fun w H3 ⟨j, ew, hj⟩ e3 d3 => ⟨i, j, ev, ew, (hc i j hi hj).1, q _ H3 ⟨_, rfl, (hc i j hi hj).2⟩ (wx_trans e2 e3) d3⟩
theorem ez_op0 {g : Int → Int → Int} (ha : EvD1 ta σ p H (ZP PI)) (hb : EvD1 tb σ p H (ZP RI)) (hc : ∀ i j, PI i → RI j → SI (g i j)) : EvD1 (tOp (rI0 fun i j => .int (g i j)) ta tb) σ p H (ZP SI) := fun H1 e d Q q =>
  ha H1 e d _ fun v H2 ⟨i, ev, hi⟩ e2 d2 => hb H2 (wx_trans e e2) d2 _ fun w H3 ⟨j, ew, hj⟩ e3 d3 => ⟨i, j, ev, ew, q _ H3 ⟨_, rfl, hc i j hi hj⟩ (wx_trans e2 e3) d3⟩
theorem ez_cmp {g : Int → Int → Bool} (ha : EvD1 ta σ p H (ZP PI)) (hb : EvD1 tb σ p H (ZP RI)) : EvD1 (tOp (rI0 fun i j => .bl (g i j)) ta tb) σ p H (fun v => ∃ b, v = .bl b) := fun H1 e d Q q =>
  ha H1 e d _ fun v H2 ⟨i, ev, hi⟩ e2 d2 => hb H2 (wx_trans e e2) d2 _ fun w H3 ⟨j, ew, hj⟩ e3 d3 => ⟨i, j, ev, ew, q _ H3 ⟨_, rfl⟩ (wx_trans e2 e3) d3⟩
theorem ez_eq (ha : EvD1 ta σ p H (ZP PI)) (hb : EvD1 tb σ p H (ZP RI)) : EvD1 (tOp rEq ta tb) σ p H (fun v => ∃ b, v = .bl b) := fun H1 e d Q q =>
  ha H1 e d _ fun v H2 ⟨i, ev, hi⟩ e2 d2 => hb H2 (wx_trans e e2) d2 _ fun w H3 ⟨j, ew, hj⟩ e3 d3 => by
    subst ev ew
    exact ⟨rfl, q _ H3 ⟨_, rfl⟩ (wx_trans e2 e3) d3⟩
theorem ez_int (h : EvD1 ta σ p H (ZP PI)) : EvD1 (tCB (fun xs H Q => (∃ i, xs = [.int i] ∧ Q (.int i) H) ∨ ∃ k, xs = [.bl k] ∧ Q (.int (if k then 1 else 0)) H) (tCons ta tNil)) σ p H (ZP PI) :=
  fun H1 e d Q q => h H1 e d _ fun v H2 ⟨i, ev, hi⟩ e2 d2 => .inl ⟨i, by rw [ev], q _ H2 ⟨i, rfl, hi⟩ e2 d2⟩
/-- _law_digit(state, m) -/
theorem ez_digit {m : Int} (ha : Ev ta σ (wo p H) (.ref p)) (hb : Ev tb σ (wo p H) (.int m)) (h0 : 0 < m) (h1 : m < 2 ^ 400) : EvD1 (tCall (sp__law_digit K) [] E (tCons ta (tCons tb tNil))) σ p H (ZP fun d => 0 ≤ d ∧ d < m) := fun H1 e d Q q =>
  ha H1 e _ fun H2 e2 => hb H2 (e.trans e2) _ fun H3 e3 => ⟨p, m, rfl, d.ex (e2.trans e3), h0, h1, fun d H4 a b e4 d4 => q _ H4 ⟨d, rfl, a, b⟩ (wx_trans (wx_of (e2.trans e3)) e4) d4⟩
theorem edt_test (h : EvD1 te σ p H (fun v => ∃ b, v = .bl b)) : EvDT (tTest te) σ p H (fun _ => True) := fun H1 e d Q q => h H1 e d _ fun v H2 ⟨b, ev⟩ e2 d2 => ⟨b, ev, q b H2 trivial e2 d2⟩
theorem q1_asg {i : Nat} (h : EvD1 te σ p H P) (d : Dr p H) (k : ∀ v H1, P v → Ex (wo p H) H1 → Dr p H1 → tz D (σ.set i (some v)) H1) : tSeq (tAsg te (gName i)) tz D σ H := h H (wo_le p H) d _ fun v H1 hv e1 d1 => k v H1 hv e1 d1
theorem qz_asg {i : Nat} (h : EvD1 te σ p H (ZP PI)) (d : Dr p H) (k : ∀ (n : Int) H1, PI n → Ex (wo p H) H1 → Dr p H1 → tz D (σ.set i (some (.int n))) H1) : tSeq (tAsg te (gName i)) tz D σ H := q1_asg h d fun v H1 ⟨n, ev, hn⟩ e1 d1 => by
  subst ev
  exact k n H1 hn e1 d1
theorem s1_ret (h : EvD1 te σ p H P) (d : Dr p H) (k : ∀ v H1, P v → Ex (wo p H) H1 → Dr p H1 → D.rt v H1) : tRet te D σ H := h H (wo_le p H) d _ fun v H1 hv e1 d1 => k v H1 hv e1 d1
theorem q1_when (h : EvDT t σ p H (fun _ => True)) (d : Dr p H) (h1 : ∀ H1, Ex (wo p H) H1 → Dr p H1 → tu { D with nx := tz D } σ H1) (h2 : ∀ H1, Ex (wo p H) H1 → Dr p H1 → tz D σ H1) : tSeq (tIfS t tu tNext) tz D σ H := h H (wo_le p H) d _ fun b H1 _ e1 d1 => by
  cases b with
  | true =>
    show tu { D with nx := tz D } σ H1
    exact h1 H1 e1 d1
  | false =>
    show tz D σ H1
    exact h2 H1 e1 d1
/-- _law_cell(script, i), _law_state(cell, k) -/
theorem ec_cell {a : Addr} {ns : List Int} {k : Int} (ha : Ev ta σ H (.ref a)) (hb : Ev tb σ H (.int k)) (hS : SqL K H a (ns.map V.int)) (h0 : 0 ≤ k) : Ev (tCall (sp__law_cell K) [] E (tCons ta (tCons tb tNil))) σ H (.int (ns.getD k.toNat 0)) :=
  ev_call (ea_cons ha (ea_cons hb ea_nil)) fun H1 e Q q E => ⟨a, ns, k, rfl, ex_l e hS, h0, q⟩
theorem ec_state {c k : Int} (ha : Ev ta σ H (.int c)) (hb : Ev tb σ H (.int k)) : EvC (tCall (sp__law_state K) [] E (tCons ta (tCons tb tNil))) σ H := fun H1 e Q q =>
  ha H1 e _ fun H2 e2 => hb H2 (e.trans e2) _ fun H3 e3 => ⟨c, k, rfl, fun p H4 hp e4 d => q p H4 (fresh_back (e2.trans e3) hp) ((e2.trans e3).trans e4) d⟩
theorem q_asgC {i : Nat} (h : EvC te σ H) (k : ∀ p H1, H p = none → Ex H H1 → Dr p H1 → tz D (σ.set i (some (.ref p))) H1) : tSeq (tAsg te (gName i)) tz D σ H := h H (Ex.refl H) _ fun p H1 hp e d => k p H1 hp e d
theorem EvN.mono (e : Ex H H') (h : EvN te σ H P) : EvN te σ H' P := fun H1 a Q q => h H1 (e.trans a) Q q
theorem q_asgN {i : Nat} (h : EvN te σ H P) (k : ∀ v H1, P v → Ex H H1 → tz D (σ.set i (some v)) H1) : tSeq (tAsg te (gName i)) tz D σ H := h H (Ex.refl H) _ fun v H1 hv e => k v H1 hv e
theorem s_appN {l : Addr} {xs : List V} (hl : H l = some (.lst xs)) (ha : Ev ta σ H (.ref l)) (h : EvN te σ H P) (hz : xs.length < 100000) (k : ∀ v H1, P v → Ex H H1 → D.nx σ (upd H1 l (.lst (xs ++ [v])))) :
    tDrop (tBM K "list" rAppend ta (tCons te tNil)) D σ H := ha H (Ex.refl H) _ fun H1 e1 =>
  ⟨Or.inl ⟨rfl, xs, sq_of (e1 l _ hl)⟩, h H1 e1 _ fun v H2 hv e2 => ⟨l, xs, v, rfl, rfl, e2 l _ (e1 l _ hl), sz_lt hz, k v H2 hv (e1.trans e2)⟩⟩
end
section
variable {P : Program} {w : World} {K : PySem.W.Frag} {mg : Str → Option Value} {base : Heap}
theorem ok__law_cell (D : Dn K mg "_law_cell" s__law_cell ["script", "k"]) (z_len : mg "len" = none) :
    C8.Cal P w K mg base 1 "_law_cell" (sp__law_cell K) [] := by
  refine cal_of D sc__law_cell (fun vs H Q E h => ?_) (fun f cdv A outer s H vs Q E hr h => ?_)
  · obtain ⟨_, _, _, rfl, _⟩ := h
    rfl
  refine ⟨_, (pss_cons (ps_if (pt_cmpR op_lt (pv 1) (pe_callB call_len_seq (by rfl) z_len PySem.boot_len (pa_cons (pv 0) pa_nil)) (nomark _))
      (pss_one (ps_ret (pe_ix ix_list (pv 0) (pv 1) (fun _ _ => rfl))))
      pss_nil)
    (pss_one (ps_ret pe_int))), ?_⟩
  obtain ⟨a, ns, k, rfl, hS, h0, q⟩ := h
  refine q_when (b := decide (k < (((ns.map V.int).length : Nat) : Int))) (et_test (ev_op (ev_var rfl) (ev_len (ev_var rfl) hS) rv_I0)) (fun hb H1 e1 => ?_) fun hb H1 e1 => ?_
  · have hk : k.toNat < ns.length := by
      have := of_decide_eq_true hb
      rw [List.length_map] at this
      omega
    refine s_ret (v := .int (ns.getD k.toNat 0)) (ev_op (ev_var rfl) (ev_var rfl) (rv_ixL (ex_l e1 hS) ?_)) fun H2 e2 => q _ (e1.trans e2)
    obtain ⟨j, rfl⟩ := Int.eq_ofNat_of_zero_le h0
    rw [Int.toNat_natCast] at hk ⊢
    exact atI_nat (by rw [List.getElem?_map, List.getElem?_eq_getElem hk, List.getD_eq_getElem?_getD, List.getElem?_eq_getElem hk]; rfl)
  · have hk : ns.length ≤ k.toNat := by
      have := of_decide_eq_false hb
      rw [List.length_map] at this
      omega
    refine s_ret (v := .int (ns.getD k.toNat 0)) (ev_is ev_c ?_) fun H2 e2 => q _ (e1.trans e2)
    rw [List.getD_eq_getElem?_getD, List.getElem?_eq_none hk]
    rfl
theorem ok__law_state (D : Dn K mg "_law_state" s__law_state ["cell", "k"]) (z_int : mg "int" = none) :
    C8.Cal P w K mg base 1 "_law_state" (sp__law_state K) [] := by
  refine cal_of D sc__law_state (fun vs H Q E h => ?_) (fun f cdv A outer s H vs Q E hr h => ?_)
  · obtain ⟨_, _, rfl, _⟩ := h
    rfl
  refine ⟨_, (pss_cons (ps_if (pt_cmpR op_ge (pv 0) pe_int (nomark _))
      (pss_one (ps_ret (pe_lst (pa_cons (pv 0) pa_nil))))
      pss_nil)
    (pss_cons (ps_set (i := 2) sc__law_state.nd rfl (.inl rfl) pe_int)
    (pss_cons (ps_set (i := 3) sc__law_state.nd rfl (.inl rfl) (pe_op op_mod (pe_callTy call_int1 (by rfl) z_int (by decide +kernel) (pa_cons (pe_op op_add (pe_op op_add (pe_op op_mul (pv 0) pe_int) (pe_op op_mul (pe_op op_add (pv 1) pe_int) pe_int)) pe_int) pa_nil)) (pv 2)))
    (pss_cons (ps_set (i := 4) sc__law_state.nd rfl (.inl rfl) (pe_op op_mod (pe_callTy call_int1 (by rfl) z_int (by decide +kernel) (pa_cons (pe_op op_add (pe_op op_add (pe_op op_mulX (pv 3) (pv 3)) (pe_op op_mul pe_int (pv 3))) (pv 1)) pa_nil)) (pv 2)))
    (pss_cons (ps_set (i := 5) sc__law_state.nd rfl (.inl rfl) (pe_op op_mod (pe_callTy call_int1 (by rfl) z_int (by decide +kernel) (pa_cons (pe_op op_add (pe_op op_add (pe_op op_mul (pv 4) pe_int) (pe_op op_mul (pv 3) pe_int)) pe_int) pa_nil)) (pv 2)))
    (pss_cons (ps_set (i := 6) sc__law_state.nd rfl (.inl rfl) (pe_op op_mod (pe_callTy call_int1 (by rfl) z_int (by decide +kernel) (pa_cons (pe_op op_add (pe_op op_mulX (pv 5) (pv 5)) (pv 4)) pa_nil)) (pv 2)))
    (pss_one (ps_ret (pe_lst (pa_cons (pe_op op_add (pe_op op_mul (pe_op op_add (pe_op op_mul (pe_op op_add (pe_op op_mul (pv 6) (pv 2)) (pv 5)) (pv 2)) (pv 4)) (pv 2)) (pv 3)) pa_nil)))))))))), ?_⟩
  obtain ⟨c, k, rfl, q⟩ := h
  refine q_when (b := decide (c ≥ 1000000000000000000)) (et_test (ev_op (ev_var rfl) ev_c rv_I0)) (fun hb H1 e1 => ?_) fun hb H1 e1 => ?_
  · exact s_retL (el_lst (ea_cons (ev_var rfl) ea_nil) (by show 1 ≤ 100000; decide)) fun p H2 hp e2 h2 => q p H2 (fresh_back e1 hp) (e1.trans e2) ⟨c, by have := of_decide_eq_true hb; omega, h2⟩
  refine q_asg (v := .int 2305843009213693951) ev_c fun H2 e2 => ?_
  have mp : ∀ n : Int, 0 ≤ n % 2305843009213693951 ∧ n % 2305843009213693951 < 2305843009213693951 := fun n => by omega
  have mb : ∀ i j : Int, 0 ≤ i ∧ i < 2305843009213693951 → 0 ≤ j ∧ j < 2305843009213693951 → CMulX i j := fun i j hi hj => mulx_ok (a := 61) (b := 61) (by omega) (by omega) (by decide)
  refine q_asg (v := .int ((c * 6364136223 + (k + 1) * 104729 + 77) % 2305843009213693951)) ?_ fun H3 e3 => ?_
  · exact ev_op (ev_int (ev_op (ev_op (ev_op (ev_var rfl) ev_c (rv_I (.inr ⟨by decide, by decide⟩))) (ev_op (ev_op (ev_var rfl) ev_c rv_I0) ev_c (rv_I (.inr ⟨by decide, by decide⟩))) rv_I0) ev_c rv_I0)) (ev_var rfl) (rv_I (by decide))
  have h1 := mp (c * 6364136223 + (k + 1) * 104729 + 77)
  generalize (c * 6364136223 + (k + 1) * 104729 + 77) % 2305843009213693951 = f1 at *
  refine q_asg (v := .int ((f1 * f1 + 1013 * f1 + k) % 2305843009213693951)) ?_ fun H4 e4 => ?_
  · exact ev_op (ev_int (ev_op (ev_op (ev_op (ev_var rfl) (ev_var rfl) (rv_I (mb _ _ h1 h1))) (ev_op ev_c (ev_var rfl) (rv_I (.inl ⟨by decide, by decide⟩))) rv_I0) (ev_var rfl) rv_I0)) (ev_var rfl) (rv_I (by decide))
  have h2 := mp (f1 * f1 + 1013 * f1 + k)
  generalize (f1 * f1 + 1013 * f1 + k) % 2305843009213693951 = f2 at *
  refine q_asg (v := .int ((f2 * 48271 + f1 * 31 + 9) % 2305843009213693951)) ?_ fun H5 e5 => ?_
  · exact ev_op (ev_int (ev_op (ev_op (ev_op (ev_var rfl) ev_c (rv_I (.inr ⟨by decide, by decide⟩))) (ev_op (ev_var rfl) ev_c (rv_I (.inr ⟨by decide, by decide⟩))) rv_I0) ev_c rv_I0)) (ev_var rfl) (rv_I (by decide))
  have h3 := mp (f2 * 48271 + f1 * 31 + 9)
  generalize (f2 * 48271 + f1 * 31 + 9) % 2305843009213693951 = f3 at *
  refine q_asg (v := .int ((f3 * f3 + f2) % 2305843009213693951)) ?_ fun H6 e6 => ?_
  · exact ev_op (ev_int (ev_op (ev_op (ev_var rfl) (ev_var rfl) (rv_I (mb _ _ h3 h3))) (ev_var rfl) rv_I0)) (ev_var rfl) (rv_I (by decide))
  have h4 := mp (f3 * f3 + f2)
  generalize (f3 * f3 + f2) % 2305843009213693951 = f4 at *
  refine s_retL (xs := [.int (((f4 * 2305843009213693951 + f3) * 2305843009213693951 + f2) * 2305843009213693951 + f1)]) (el_lst (ea_cons ?_ ea_nil) (by show 1 ≤ 100000; decide)) fun p H7 hp e7 h7 => ?_
  · exact ev_op (ev_op (ev_op (ev_op (ev_op (ev_op (ev_var rfl) (ev_var rfl) (rv_I (.inr ⟨by decide, by decide⟩))) (ev_var rfl) rv_I0) (ev_var rfl) (rv_I (.inr ⟨by decide, by decide⟩))) (ev_var rfl) rv_I0) (ev_var rfl) (rv_I (.inr ⟨by decide, by decide⟩))) (ev_var rfl) rv_I0
  have x6 := ((((e1.trans e2).trans e3).trans e4).trans e5).trans e6
  exact q p H7 (fresh_back x6 hp) (x6.trans e7) ⟨_, by omega, h7⟩
theorem ok__law_digit (D : Dn K mg "_law_digit" s__law_digit ["state", "many"]) (z_int : mg "int" = none) :
    C8.Cal P w K mg base 1 "_law_digit" (sp__law_digit K) [] := by
  refine cal_of D sc__law_digit (fun vs H Q E h => ?_) (fun f cdv A outer s H vs Q E hr h => ?_)
  · obtain ⟨_, _, rfl, _⟩ := h
    rfl
  refine ⟨_, (pss_cons (ps_set (i := 2) sc__law_digit.nd rfl (.inl rfl) (pe_op op_mod (pe_callTy call_int1 (by rfl) z_int (by decide +kernel) (pa_cons (pe_ix ix_list (pv 0) pe_int (fun _ _ => rfl)) pa_nil)) (pv 1)))
    (pss_cons (ps_asg (pe_op op_fdivW (pe_ix ix_list (pv 0) pe_int (fun _ _ => rfl)) (pv 1)) (pg_sub (pv 0) pe_int set_list))
    (pss_one (ps_ret (pv 2))))), ?_⟩
  obtain ⟨p, m, rfl, ⟨s, s0, hp⟩, m0, m1, q⟩ := h
  refine q_asg (v := .int (s % m)) (ev_op (ev_int (ev_op (ev_var rfl) ev_c (rv_ixL (sq_of hp) rfl))) (ev_var rfl) (rv_I m0)) fun H1 e1 => ?_
  refine q_setL (v := .int (s / m)) (j := 0) (e1 _ _ hp) (ev_op (ev_op (ev_var rfl) ev_c (rv_ixL (sq_of (e1 _ _ hp)) rfl)) (ev_var rfl) (rv_I (wide_div (b := 400) m0 (by omega) (by decide) (by decide)))) (ev_var rfl) ev_c (by show 0 < 1; decide) fun H2 e2 => ?_
  exact s_ret (ev_var rfl) fun H3 e3 => q (s % m) H3 (Int.emod_nonneg _ (by omega)) (Int.emod_lt_of_pos _ m0) ((Ex.mut ((wo_le p H).trans (e1.trans e2)) (wo_self p H)).trans e3) ⟨s / m, Int.ediv_nonneg s0 (by omega), e3 _ _ upd_same⟩
end
section
variable {K : PySem.W.Frag} {σ : L2.St} {H : Hp} {p : Addr} {ta tb te : TE} {P : V → Prop} {D : Ends} {tz : TS}
/-- xs[i] = what is drawn -/
theorem q1_setL {l : Addr} {xs : List V} {j : Nat} (hl : wo p H l = some (.lst xs)) (h : EvD1 te σ p H P) (d : Dr p H) (ho : Ev ta σ (wo p H) (.ref l)) (hi : Ev tb σ (wo p H) (.int (j : Int))) (hj : j < xs.length) (k : ∀ v H1, P v → Ex (wo p H) H1 → Dr p H1 → tz D σ (upd H1 l (.lst (xs.set j v)))) :
    tSeq (tAsg te (gSub ta tb rSetL)) tz D σ H := h H (wo_le p H) d _ fun v H1 hv e1 d1 => ho H1 e1 _ fun H2 e2 => hi H2 (e1.trans e2) _ fun H3 e3 =>
  ⟨l, xs, (j : Int), j, rfl, rfl, ((e1.trans e2).trans e3) l _ hl, ixN_nat hj, k v H3 hv ((e1.trans e2).trans e3) (d1.ex (e2.trans e3))⟩
/-- a digit of a list that is new -/
theorem en_digit {m : Int} {E : XK} (ha : EvC ta σ H) (hb : Ev tb σ H (.int m)) (h0 : 0 < m) (h1 : m < 2 ^ 400) : EvN (tCall (sp__law_digit K) [] E (tCons ta (tCons tb tNil))) σ H (ZP fun d => 0 ≤ d ∧ d < m) := fun H1 e Q q =>
  ha H1 e _ fun p H2 hp e2 d2 => hb H2 (e.trans e2) _ fun H3 e3 => ⟨p, m, rfl, d2.ex e3, h0, h1, fun d H4 a b e4 _ => q _ H4 ⟨d, rfl, a, b⟩ (wx_back hp (e2.trans e3) e4)⟩
end
section
variable {K : PySem.W.Frag} {σ : L2.St} {H : Hp} {p : Addr} {te : TE} {t : TT} {P : V → Prop} {D : Ends} {tu : TS}
theorem s1_asg {i : Nat} (h : EvD1 te σ p H P) (d : Dr p H) (k : ∀ v H1, P v → Ex (wo p H) H1 → Dr p H1 → D.nx (σ.set i (some v)) H1) : tAsg te (gName i) D σ H := h H (wo_le p H) d _ fun v H1 hv e1 d1 => k v H1 hv e1 d1
theorem s1_when (h : EvDT t σ p H (fun _ => True)) (d : Dr p H) (h1 : ∀ H1, Ex (wo p H) H1 → Dr p H1 → tu D σ H1) (h2 : ∀ H1, Ex (wo p H) H1 → Dr p H1 → D.nx σ H1) : tIfS t tu tNext D σ H := h H (wo_le p H) d _ fun b H1 _ e1 d1 => by
  cases b with
  | true =>
    show tu D σ H1
    exact h1 H1 e1 d1
  | false =>
    show D.nx σ H1
    exact h2 H1 e1 d1
end

/-! ### lists compared, cut; list as a type -/
theorem cut_take {xs : List V} {m : Nat} (h : m ≤ xs.length) : cutV xs none (some (m : Int)) = xs.take m := by
  unfold cutV
  rw [HT.sIx_none, HT.sIx_nat, List.drop_zero, Nat.sub_zero, Nat.min_eq_left h]
theorem eqv_intsL : ∀ ns ms : List Int, PyData.eqv (.list (ns.map PyData.int)) (.list (ms.map PyData.int)) = decide (ns = ms)
  | [], [] => rfl
  | [], _ :: _ => rfl
  | _ :: _, [] => rfl
  | n :: r, m :: t => by
    have ih := eqv_intsL r t
    show ((n == m) && PyData.eqv (.list (r.map PyData.int)) (.list (t.map PyData.int))) = _
    rw [ih, Bool.eq_iff_iff, Bool.and_eq_true, decide_eq_true_eq, decide_eq_true_eq, beq_iff_eq, List.cons.injEq]
theorem rv_neL {K : PySem.W.Frag} {H : Hp} {p q : Addr} {ns ms : List Int} (hp : SqL K H p (ns.map V.int)) (hq : SqL K H q (ms.map V.int)) : RV (rNeD K) (.ref p) (.ref q) H (.bl (!decide (ns = ms))) := fun H1 e Q k =>
  ⟨_, _, .lst (ex_l e hp) (dp_ints ns), .lst (ex_l e hq) (dp_ints ms), PySem.W.ke_shaped_ints _, PySem.W.ke_shaped_ints _, by rw [eqv_intsL]; exact k H1 (Ex.refl H1)⟩
theorem tx_lst {K : PySem.W.Frag} {H : Hp} {a : Addr} {xs : List V} (h : H a = some (.lst xs)) : ∀ H1, Ex H H1 → TyX K H1 (.ref a) (.type "list") := fun H1 e => .base (.lst (e _ _ h))
theorem given_all (n : Nat) (v : Nat → V) : given n (fun _ => true) v = (List.range n).map v := by
  unfold given
  rw [List.filter_eq_self.mpr (fun _ _ => rfl)]
theorem foldl_take {α β : Type} {f : β → α → β} {l : List α} {i : Nat} {x : α} {b : β} (h : l[i]? = some x) : (l.take (i + 1)).foldl f b = f ((l.take i).foldl f b) x := by
  rw [List.take_add_one, h, List.foldl_append]
  rfl
theorem ix_listK {X : Cx} {K : PySem.W.Frag} (h : X.K = K) : IxR X (rIxL K) := h ▸ ix_list
theorem call_len_seqK {X : Cx} {K : PySem.W.Frag} (h : X.K = K) : CallR X (.builtin "len") (fun xs H Q => ∃ p ys, xs = [V.ref p] ∧ (SqL K H p ys ∨ SqT K H p ys) ∧ Q (V.int ys.length) H) := h ▸ call_len_seq
theorem ix_tupK {X : Cx} {K : PySem.W.Frag} (h : X.K = K) : IxR X (rIxT K) := h ▸ ix_tup

/-! ### lists of objects, each with a word of its own -/
def Al2 {α : Type} (R : Hp → Addr → α → Prop) (H : Hp) (qs : List Addr) (L : List α) : Prop := qs.length = L.length ∧ ∀ (i : Nat) q l, qs[i]? = some q → L[i]? = some l → R H q l
def Lst2 {α : Type} (R : Hp → Addr → α → Prop) (H : Hp) (p : Addr) (L : List α) : Prop := ∃ qs, H p = some (.lst (qs.map V.ref)) ∧ Al2 R H qs L
section
variable {α : Type} {R S : Hp → Addr → α → Prop} {H H' : Hp} {qs : List Addr} {L : List α}
theorem Al2.nil : Al2 R H [] [] := ⟨rfl, fun i q l h => by simp at h⟩
theorem Al2.mono (h : Al2 R H qs L) (k : ∀ q l, l ∈ L → R H q l → S H' q l) : Al2 S H' qs L := ⟨h.1, fun i q l a b => k q l (List.mem_of_getElem? b) (h.2 i q l a b)⟩
theorem Al2.snoc {q : Addr} {l : α} (h : Al2 R H qs L) (hr : R H q l) : Al2 R H (qs ++ [q]) (L ++ [l]) := by
  refine ⟨by rw [List.length_append, List.length_append, h.1, List.length_cons, List.length_cons]; rfl, fun i q' l' a b => ?_⟩
  by_cases hi : i < qs.length
  · rw [List.getElem?_append_left hi] at a
    rw [List.getElem?_append_left (by rw [← h.1]; exact hi)] at b
    exact h.2 i q' l' a b
  · rw [List.getElem?_append_right (by omega)] at a
    rw [List.getElem?_append_right (by rw [← h.1]; omega)] at b
    have e : i - qs.length = 0 := by
      by_cases z : i - qs.length = 0
      · exact z
      · rw [List.getElem?_eq_none (by show 1 ≤ _; omega)] at a; cases a
    rw [e] at a
    rw [← h.1, e] at b
    cases a
    cases b
    exact hr
theorem Al2.get (h : Al2 R H qs L) {i : Nat} (hi : i < L.length) : ∃ q, qs[i]? = some q ∧ R H q L[i] := by
  have hq : i < qs.length := by rw [h.1]; exact hi
  exact ⟨qs[i], List.getElem?_eq_getElem hq, h.2 i _ _ (List.getElem?_eq_getElem hq) (List.getElem?_eq_getElem hi)⟩
end
/-- an object that is new -/
def EvR (R : Hp → Addr → Prop) (te : TE) (σ : L2.St) (H : Hp) : Prop := ∀ H1, Ex H H1 → ∀ Q : VK, (∀ p H2, H1 p = none → Ex H1 H2 → R H2 p → Q (.ref p) H2) → te σ H1 Q
theorem slice_any {a : List Nat} {i j : Nat} : Txt.slice (SX.S a) (some (i : Int)) (some (j : Int)) = SX.S ((a.take j).drop i) := by
  rw [← C8.cutS_slice]
  unfold cutS
  rw [SX.S_len, HT.sIx_nat, HT.sIx_nat]
  refine congrArg SX.S ?_
  show (a.drop (min i a.length)).take (min j a.length - min i a.length) = (a.take j).drop i
  rw [List.drop_take]
  by_cases hi : i ≤ a.length
  · rw [Nat.min_eq_left hi]
    by_cases hj : j ≤ a.length
    · rw [Nat.min_eq_left hj]
    · rw [Nat.min_eq_right (show a.length ≤ j by omega), List.take_of_length_le (by rw [List.length_drop]; omega), List.take_of_length_le (by rw [List.length_drop]; omega)]
  · rw [Nat.min_eq_right (show a.length ≤ i by omega), List.drop_eq_nil_of_le (Nat.le_refl _), List.drop_eq_nil_of_le (by omega)]
    simp
theorem ev_slA {σ : L2.St} {H : Hp} {ta tl th : TE} {l : List Nat} {i j : Nat} (ha : Ev ta σ H (.str (SX.S l))) (hl : Ev tl σ H (.int (i : Int))) (hh : Ev th σ H (.int (j : Int))) (hz : l.length ≤ 100000) : Ev (tSl C8.rSlX ta (tPart tl) (tPart th)) σ H (.str (SX.S ((l.take j).drop i))) := fun H1 e Q q =>
  ha H1 e _ fun H2 e2 => hl H2 (e.trans e2) _ fun H3 e3 => ⟨_, rfl, hh H3 ((e.trans e2).trans e3) _ fun H4 e4 => ⟨_, rfl, SX.S l, rfl, by rw [SX.S_len]; exact sz_of hz, by rw [slice_any]; exact q H4 ((e2.trans e3).trans e4)⟩⟩
theorem getD_S (t : List Nat) (v : Nat) : (SX.S t).cps.getD v 0 = t.getD v 0 := by
  show t.toArray.getD v 0 = t.getD v 0
  rw [Array.getD_eq_getD_getElem?, List.getD_eq_getElem?_getD, List.getElem?_toArray]
/-- the first c at or behind i -/
theorem find3_at {t a m : List Nat} {c i : Nat} (h : t.drop i = a ++ c :: m) (ha : c ∉ a) : Txt.find3 (SX.S t) (SX.S [c]) (i : Int) = ((i + a.length : Nat) : Int) := by
  have hlen : i + (a.length + (m.length + 1)) = t.length := by
    have := congrArg List.length h
    rw [List.length_drop, List.length_append, List.length_cons] at this
    omega
  have hf : fromIndex (SX.S t).length (i : Int) = i := by
    unfold fromIndex
    rw [if_neg (by omega)]
    omega
  have at_ : ∀ v, i ≤ v → t.getD v 0 = (a ++ c :: m).getD (v - i) 0 := fun v hv => by
    rw [← h, List.getD_eq_getElem?_getD, List.getD_eq_getElem?_getD, List.getElem?_drop, show i + (v - i) = v by omega]
  have hc : t.getD (i + a.length) 0 = c := by
    rw [at_ _ (by omega), show i + a.length - i = a.length by omega, List.getD_eq_getElem?_getD, List.getElem?_append_right (Nat.le_refl _), Nat.sub_self]
    rfl
  rcases StrLaws.find3_spec (SX.S t) c (i : Int) with ⟨_, h2⟩ | ⟨k, h1, h2, h3, h4, h5⟩
  · have := h2 (i + a.length) (by rw [hf]; omega) (by rw [SX.S_len]; omega)
    rw [getD_S, hc] at this
    exact absurd rfl this
  · rw [hf] at h2 h5
    rw [getD_S] at h4
    have e1 : ¬ i + a.length < k := fun z => by
      have := h5 (i + a.length) (by omega) z
      rw [getD_S, hc] at this
      exact this rfl
    have e2 : ¬ k < i + a.length := fun z => by
      rw [at_ k h2, List.getD_eq_getElem?_getD, List.getElem?_append_left (by omega), List.getElem?_eq_getElem (by omega)] at h4
      exact ha (by rw [← h4]; exact List.getElem_mem _)
    rw [show k = i + a.length by omega] at h1
    exact h1
theorem at_drop {t r : List Nat} {i : Nat} {c : Nat} (h : t.drop i = c :: r) : t[i]? = some c ∧ i < t.length ∧ t.drop (i + 1) = r := by
  have hi : i < t.length := by
    have := congrArg List.length h
    rw [List.length_drop, List.length_cons] at this
    omega
  rw [List.drop_eq_getElem_cons hi] at h
  have h2 := List.cons.inj h
  exact ⟨by rw [List.getElem?_eq_getElem hi, h2.1], hi, h2.2⟩
theorem drop_nil {t : List Nat} {i : Nat} (h : t.drop i = []) : t.length ≤ i := by
  have := congrArg List.length h
  rw [List.length_drop] at this
  simp at this
  omega
theorem drop_app {t a b : List Nat} {i : Nat} (h : t.drop i = a ++ b) : t.drop (i + a.length) = b := by
  rw [← List.drop_drop, h, List.drop_left]
theorem take1 {t : List Nat} {i : Nat} : (t.take (i + 1)).drop i = (t.drop i).take 1 := by rw [List.drop_take, show i + 1 - i = 1 by omega]
theorem joinL_len (w : List Nat) : ∀ ps : List (List Nat), (ps.map (·.length)).sum ≤ (TL.joinL w ps).length
  | [] => Nat.le_refl _
  | [p] => by
    show p.length + 0 ≤ p.length
    omega
  | p :: q :: r => by
    have := joinL_len w (q :: r)
    show p.length + ((q :: r).map (·.length)).sum ≤ (p ++ (w ++ TL.joinL w (q :: r))).length
    rw [List.length_append, List.length_append]
    omega
theorem ev_joinL {K : PySem.W.Frag} {σ : L2.St} {H : Hp} {ta tb : TE} {w : List Nat} {pcs : List (List Nat)} {p : Addr} (ha : Ev ta σ H (.str (SX.S w))) (hb : Ev tb σ H (.ref p)) (hp : SqL K H p ((pcs.map SX.S).map V.str)) (h1 : (TL.joinL w pcs).length ≤ 100000) (h2 : pcs.length ≤ 100000) (h3 : w.length ≤ 10) :
    Ev (tM1 (fun x xs H Q => ∃ a p, ∃ ys : List Str, x = .str a ∧ xs = [.ref p] ∧ (SqL K H p (ys.map V.str) ∨ SqT K H p (ys.map V.str)) ∧
      (ys.map (·.length)).sum + ys.length * a.length ≤ 16777216 ∧ Q (.str (Txt.join a ys)) H) ta tb) σ H (.str (SX.S (TL.joinL w pcs))) := fun H1 e Q q =>
  ha H1 e _ fun H2 e2 => ⟨⟨_, rfl⟩, hb H2 (e.trans e2) _ fun H3 e3 => ⟨SX.S w, p, pcs.map SX.S, rfl, rfl, .inl (ex_l ((e.trans e2).trans e3) hp), by
    rw [SX.lens, SX.S_len, List.length_map]
    have := joinL_len w pcs
    have : pcs.length * w.length ≤ 100000 * 10 := Nat.mul_le_mul h2 h3
    omega, by rw [SX.join_S]; exact q H3 (e2.trans e3)⟩⟩
/-- return (a new object, ..) -/
theorem s_retUR {R : Hp → Addr → Prop} {te : TE} {tr : TA} {σ : L2.St} {H : Hp} {D : Ends} {vs : List V} (hm : ∀ H H' p, Ex H H' → R H p → R H' p) (h : EvR R te σ H) (hr : ∀ H1, Ex H H1 → EvA tr σ H1 vs) (hl : vs.length ≤ 1000)
    (k : ∀ q p H1, H q = none → Ex H H1 → R H1 p → H1 q = some (.tup (.ref p :: vs)) → D.rt (.ref q) H1) : tRet (tTup (tCons te tr)) D σ H :=
  h H (Ex.refl H) _ fun p H1 hp e1 hR => hr H1 e1 H1 (Ex.refl H1) _ fun H2 e2 => ⟨by rw [List.length_cons]; exact sz_of (by omega), fun q hq => k q p _ (fresh_back (e1.trans e2) hq) ((e1.trans e2).trans (Ex.new hq)) (hm _ _ _ (e2.trans (Ex.new hq)) hR) upd_same⟩
theorem wo_upd (p : Addr) (H : Hp) (o : HO) : wo p (upd H p o) = wo p H := by
  funext a
  unfold wo
  split
  · rfl
  · rename_i h
    exact upd_ne h
theorem wo_mono {p : Addr} {H H' : Hp} (e : Ex H H') : Ex (wo p H) (wo p H') := fun a o h => by
  have hx : a ≠ p := fun z => by rw [z, wo_self] at h; cases h
  rw [wo_ne hx] at h ⊢
  exact e a o h
theorem Lst2.mono {α : Type} {R : Hp → Addr → α → Prop} {H H' : Hp} {p : Addr} {L : List α} (h : Lst2 R H p L) (e : Ex H H') (k : ∀ q l, R H q l → R H' q l) : Lst2 R H' p L := by
  obtain ⟨qs, h1, h2⟩ := h
  exact ⟨qs, e _ _ h1, h2.mono fun q l _ => k q l⟩
/-- [a new object] -/
theorem er_one {R : Hp → Addr → Prop} {te : TE} {σ : L2.St} {H : Hp} (hm : ∀ H H' p, Ex H H' → R H p → R H' p) (h : EvR R te σ H) : EvR (fun H p => ∃ t, H p = some (.lst [.ref t]) ∧ R H t) (tLst (tCons te tNil)) σ H := fun H1 e Q q =>
  h H1 e _ fun t H2 ht e2 hR => ⟨sz_of (by show 1 ≤ 100000; decide), fun p hp => q p _ (fresh_back e2 hp) (e2.trans (Ex.new hp)) ⟨t, upd_same, hm _ _ _ (Ex.new hp) hR⟩⟩

/-! ### signs -/
def signsL : List Nat := (PySem.Str.ofString " !\"#$&'()*+,-./0123456789:;<=>?@ABCDEFGHIJKLMNOPQRSTUVWXYZ[\\]^_`abcdefghijklmnopqrstuvwxyz{|}~").cps.toList
def fewL : List Nat := (PySem.Str.ofString "ab*?\\ -'\"A").cps.toList
theorem signs_len : signsL.length = 94 := by decide +kernel
theorem few_len : fewL.length = 10 := by decide +kernel
theorem signs_ok : ∀ c ∈ signsL, 32 ≤ c ∧ c ≤ 126 := by decide +kernel
theorem few_ok : ∀ c ∈ fewL, 32 ≤ c ∧ c ≤ 126 := by decide +kernel
def okC (c : Nat) : Prop := 32 ≤ c ∧ c ≤ 126
theorem join_ones : ∀ l : List Nat, Txt.join (SX.S []) (l.map fun c => (⟨#[c]⟩ : Str)) = SX.S l := by
  intro l
  have e : (l.map fun c => (⟨#[c]⟩ : Str)) = (l.map fun c => [c]).map SX.S := by
    rw [List.map_map]
    rfl
  rw [e, SX.join_S]
  congr 1
  induction l with
  | nil => rfl
  | cons c r ih =>
    cases r with
    | nil => rfl
    | cons d r => 
      have e2 : TL.joinL [] (List.map (fun c => [c]) (c :: d :: r)) = c :: TL.joinL [] (List.map (fun c => [c]) (d :: r)) := rfl
      rw [e2, ih (by rw [List.map_map]; rfl)]

/-! ### texts and values that are drawn -/
def fewS : List Nat := (PySem.Str.ofString "abAB 19-'~").cps.toList
theorem fewS_len : fewS.length = 10 := by decide +kernel
theorem fewS_S : PySem.Str.ofString "abAB 19-'~" = SX.S fewS := by decide +kernel
theorem fewS_in : ∀ c ∈ fewS, c ∈ signsL := by decide +kernel
def EvLD1 (te : TE) (σ : L2.St) (p : Addr) (H : Hp) (P : List V → Prop) : Prop := ∀ H1, Ex (wo p H) H1 → Dr p H1 → ∀ Q : VK, (∀ l H2 xs, P xs → H1 l = none → Ex (wo p H1) H2 → Dr p H2 → H2 l = some (.lst xs) → Q (.ref l) H2) → te σ H1 Q
theorem dr_ne {p l : Addr} {H : Hp} (d : Dr p H) (h : H l = none) : p ≠ l := fun z => by
  obtain ⟨s, _, e⟩ := d
  rw [z, h] at e
  cases e
theorem Dr.upd {p l : Addr} {H : Hp} {o : HO} (d : Dr p H) (h : p ≠ l) : Dr p (upd H l o) := by
  obtain ⟨s, s0, e⟩ := d
  exact ⟨s, s0, by rw [upd_ne h]; exact e⟩
section
variable {K : PySem.W.Frag} {σ : L2.St} {H : Hp} {p : Addr} {ta tb te tn : TE} {R : V → Prop} {PI : Int → Prop} {D : Ends} {tz : TS}
/-- [what is drawn for k in range(a number that is drawn)] -/
theorem e1_lc {j : Nat} {vs : List Nat} {m : Int} (hn : EvD1 tn σ p H (ZP fun n => 0 ≤ n ∧ n ≤ m)) (hm : m ≤ 10000) (hw : ∀ x, wipe ((wipe σ vs).set j (some x)) vs = wipe σ vs)
    (he : ∀ i : Nat, EvD1 te ((wipe σ vs).set j (some (.int (i : Int)))) p H R) : EvLD1 (tLc (iRng1 (tCons tn tNil)) (gName j) tYes te vs) σ p H (fun xs => (xs.length : Int) ≤ m ∧ ∀ x ∈ xs, R x) := fun H0 e d Q q =>
  hn H0 e d _ fun v H1 ⟨n, ev, hn0, hn1⟩ e1 d1 => by
    subst ev
    refine ⟨n, rfl, by omega, by omega, fun Dl hD => ?_⟩
    have hpd : p ≠ Dl := dr_ne d1 hD
    refine lc_range (lo := 0) (n := n.toNat) (fun i H' => Ex (wo p H1) H' ∧ Dr p H' ∧ ∃ acc, H' Dl = some (.lst acc) ∧ acc.length = i ∧ ∀ x ∈ acc, R x) ⟨Ex.mut (wo_le p H1) (by rw [wo_ne (Ne.symm hpd)]; exact hD), d1.upd hpd, [], upd_same, rfl, fun x hx => by cases hx⟩ (fun i H' hi pv => ?_) (fun H' pv => ?_)
    · obtain ⟨p1, p2, acc, p3, p4, p5⟩ := pv
      have e0 : (0 : Int) + (i : Int) = (i : Int) := Int.zero_add _
      show wipe ((wipe σ vs).set j (some (.int ((0 : Int) + (i : Int))))) vs = wipe σ vs ∧ te ((wipe σ vs).set j (some (.int ((0 : Int) + (i : Int))))) H' fun y H4 => ∃ acc, H4 Dl = some (.lst acc) ∧ acc.length < sizeLine ∧ _
      rw [e0]
      refine ⟨hw _, he i H' (wx_trans e (wx_trans e1 p1)) p2 _ fun y H4 hy e4 d4 => ?_⟩
      refine ⟨acc, e4 Dl _ (by rw [wo_ne (Ne.symm hpd)]; exact p3), sz_lt (by omega), Ex.mut (wx_trans p1 e4) (by rw [wo_ne (Ne.symm hpd)]; exact hD), d4.upd hpd, acc ++ [y], upd_same, by rw [List.length_append, p4]; rfl, fun x hx => ?_⟩
      rcases List.mem_append.mp hx with h | h
      · exact p5 x h
      · rw [List.mem_singleton.mp h]
        exact hy
    · obtain ⟨p1, p2, acc, p3, p4, p5⟩ := pv
      have hD0 : H0 Dl = none := by
        cases z : H0 Dl with
        | none => rfl
        | some o =>
          have := e1 Dl o (by rw [wo_ne (Ne.symm hpd)]; exact z)
          rw [hD] at this
          cases this
      exact q Dl H' acc ⟨by omega, p5⟩ hD0 (wx_trans e1 p1) p2 p3
def oneS (L : List Nat) (v : V) : Prop := ∃ c, v = .str ⟨#[c]⟩ ∧ c ∈ L
theorem ones_of {L : List Nat} : ∀ {xs : List V}, (∀ x ∈ xs, oneS L x) → ∃ l : List Nat, xs = l.map (fun c => V.str ⟨#[c]⟩) ∧ ∀ c ∈ l, c ∈ L
  | [], _ => ⟨[], rfl, fun c hc => by cases hc⟩
  | x :: r, h => by
    obtain ⟨l, e, hl⟩ := ones_of (xs := r) fun y hy => h y (List.mem_cons_of_mem _ hy)
    obtain ⟨c, ec, hc⟩ := h x List.mem_cons_self
    refine ⟨c :: l, by rw [ec, e]; rfl, fun y hy => ?_⟩
    rcases List.mem_cons.mp hy with z | z
    · rw [z]; exact hc
    · exact hl y z
def txtP (L : List Nat) (m : Nat) (v : V) : Prop := ∃ l : List Nat, v = .str (SX.S l) ∧ l.length ≤ m ∧ ∀ c ∈ l, c ∈ L
/-- ''.join(a list of single signs) -/
theorem e1_join {L : List Nat} {m : Nat} (hm : m ≤ 10000) (h : EvLD1 te σ p H (fun xs => (xs.length : Int) ≤ (m : Int) ∧ ∀ x ∈ xs, oneS L x)) : EvD1 (tM1 (fun x xs H Q => ∃ a p, ∃ ys : List Str, x = .str a ∧ xs = [.ref p] ∧ (SqL K H p (ys.map V.str) ∨ SqT K H p (ys.map V.str)) ∧
      (ys.map (·.length)).sum + ys.length * a.length ≤ 16777216 ∧ Q (.str (Txt.join a ys)) H) (tC (.str (PySem.Str.ofString ""))) te) σ p H (txtP L m) := fun H1 e d Q q => by
  refine ⟨⟨_, rfl⟩, h H1 e d _ fun l H2 xs hP hl e2 d2 h2 => ?_⟩
  obtain ⟨hlen, hxs⟩ := hP
  obtain ⟨w, rfl, hw⟩ := ones_of hxs
  rw [List.length_map] at hlen
  have hw2 : w.length ≤ m := by omega
  refine ⟨SX.S [], l, w.map fun c => (⟨#[c]⟩ : Str), by rw [c00], rfl, .inl (sq_of ?_), ?_, ?_⟩
  · rw [h2, List.map_map]
    rfl
  · have e9 : (w.map fun c => (⟨#[c]⟩ : Str)).map (·.length) = List.replicate w.length 1 := by
      rw [List.map_map, List.eq_replicate_iff]
      refine ⟨by rw [List.length_map], fun b hb => ?_⟩
      obtain ⟨c, _, rfl⟩ := List.mem_map.mp hb
      rfl
    rw [e9, List.sum_replicate_nat, List.length_map]
    show w.length * 1 + w.length * 0 ≤ _
    omega
  · rw [join_ones]
    exact q _ H2 ⟨w, rfl, hw2, hw⟩ e2 d2
/-- signs[_law_digit(state, m)] -/
theorem e1_sign {L : List Nat} {m : Int} {E : XK} {i : Nat} (hs : σ[i]? = some (some (.str (SX.S L)))) (hL : (L.length : Int) = m) (h0 : 0 < m) (hm : m ≤ 1000) (ha : Ev ta σ (wo p H) (.ref p)) (hb : Ev tb σ (wo p H) (.int m)) : EvD1 (tOp rIxS (tVar i) (tCall (sp__law_digit K) [] E (tCons ta (tCons tb tNil)))) σ p H (oneS L) := fun H1 e d Q q =>
  ⟨.str (SX.S L), hs, ez_digit ha hb h0 (by omega) H1 e d _ fun v H2 ⟨n, ev, n0, n1⟩ e2 d2 => by
    subst ev
    obtain ⟨k, rfl⟩ := Int.eq_ofNat_of_zero_le n0
    have hk : k < L.length := by omega
    exact ⟨SX.S L, (k : Int), L[k], rfl, rfl, by rw [SX.S_len]; exact sz_of (by omega), atI_nat (List.getElem?_eq_getElem hk), q _ H2 ⟨L[k], rfl, List.getElem_mem hk⟩ e2 d2⟩⟩
end
/-- a value that is drawn -/
inductive DV : V → Prop where
  | non : DV .non
  | bl (b : Bool) : DV (.bl b)
  | int (i : Int) (h : -1000000000000000 ≤ i ∧ i ≤ 1000000000000000) : DV (.int i)
  | str (l : List Nat) (h : l.length ≤ 4) (hc : ∀ c ∈ l, c ∈ signsL) : DV (.str (SX.S l))
theorem DV.pl {x : V} (h : DV x) : Pl x := by cases h <;> constructor
def sp__law_text (K : PySem.W.Frag) : Sp := fun vs H Q _ => ∃ p : Addr, vs = [.ref p] ∧ Dr p H ∧ ∀ v H', txtP signsL 4 v → Ex (wo p H) H' → Dr p H' → Q v H'
def sp__law_value (K : PySem.W.Frag) : Sp := fun vs H Q _ => ∃ p : Addr, vs = [.ref p] ∧ Dr p H ∧ ∀ v H', DV v → Ex (wo p H) H' → Dr p H' → Q v H'
section
variable {P : Program} {w : World} {K : PySem.W.Frag} {mg : Str → Option Value} {base : Heap}
theorem ok__law_text (D : Dn K mg "_law_text" s__law_text ["state"]) (c__law_digit : C8.Cal P w K mg base 1 "_law_digit" (sp__law_digit K) []) (z_range : mg "range" = none) :
    C8.Cal P w K mg base 2 "_law_text" (sp__law_text K) [] := by
  refine cal_of D sc__law_text (fun vs H Q E h => ?_) (fun f cdv A outer s H vs Q E hr h => ?_)
  · obtain ⟨_, rfl, _⟩ := h
    rfl
  refine ⟨_, (pss_cons (ps_set (i := 1) sc__law_text.nd rfl (.inr rfl) pe_str)
    (pss_one (ps_ret (pe_join pe_str (pe_lc (own := [("k", 2)]) (g := gName 2) (tt := tYes) rfl sc__law_text.nd (pi_range1 rfl z_range (pa_cons (C8.pe_c c__law_digit hr (by decide) (by rfl) (pa_cons (pv 0) (pa_cons pe_int pa_nil))) pa_nil)) (blkOk_by (N := n__law_text) (sc := C8.fnScope s__law_text) (by decide +kernel)) (fun _ _ _ _ _ => pg_name (i := 2) sc__law_text.nd rfl (Or.inl rfl)) (fun _ _ _ _ _ => pts_nil) (fun _ _ _ _ _ => (pe_ix ix_str (pv 1) (C8.pe_c c__law_digit hr (by decide) (by rfl) (pa_cons (pv 0) (pa_cons pe_int pa_nil))) (fun _ _ => rfl)))))))), ?_⟩
  obtain ⟨p, rfl, d, q⟩ := h
  refine q_asg (v := .str (SX.S fewS)) (ev_is ev_c (by rw [fewS_S])) fun H1 e1 => ?_
  refine s1_ret (P := txtP fewS 4) (e1_join (by decide) (e1_lc (m := 4) (ez_mono (ez_digit (ev_var rfl) ev_c (by decide) (by decide)) fun i hi => by omega) (by decide) (fun _ => rfl) fun i => e1_sign rfl (by rw [fewS_len]; rfl) (by decide) (by decide) (ev_var rfl) ev_c)) (d.ex e1) fun v H2 hv e2 d2 => ?_
  obtain ⟨l, rfl, hl, hc⟩ := hv
  exact q _ H2 ⟨l, rfl, hl, fun c h => fewS_in c (hc c h)⟩ (wx_trans (wx_of e1) e2) d2
section
variable {σ : L2.St} {H : Hp} {ta : TE} {E : XK} {p : Addr}
theorem e1_text (ha : Ev ta σ (wo p H) (.ref p)) : EvD1 (tCall (sp__law_text K) [] E (tCons ta tNil)) σ p H (txtP signsL 4) := fun H1 e d Q q =>
  ha H1 e _ fun H2 e2 => ⟨p, rfl, d.ex e2, fun v H3 hv e3 d3 => q v H3 hv (wx_trans (wx_of e2) e3) d3⟩
theorem e1_value (ha : Ev ta σ (wo p H) (.ref p)) : EvD1 (tCall (sp__law_value K) [] E (tCons ta tNil)) σ p H DV := fun H1 e d Q q =>
  ha H1 e _ fun H2 e2 => ⟨p, rfl, d.ex e2, fun v H3 hv e3 d3 => q v H3 hv (wx_trans (wx_of e2) e3) d3⟩
end
theorem ok__law_value (D : Dn K mg "_law_value" s__law_value ["state"]) (c__law_digit : C8.Cal P w K mg base 1 "_law_digit" (sp__law_digit K) []) (c__law_text : C8.Cal P w K mg base 2 "_law_text" (sp__law_text K) []) :
    C8.Cal P w K mg base 3 "_law_value" (sp__law_value K) [] := by
  refine cal_of D sc__law_value (fun vs H Q E h => ?_) (fun f cdv A outer s H vs Q E hr h => ?_)
  · obtain ⟨_, rfl, _⟩ := h
    rfl
  refine ⟨_, (pss_cons (ps_set (i := 1) sc__law_value.nd rfl (.inl rfl) (C8.pe_c c__law_digit hr (by decide) (by rfl) (pa_cons (pv 0) (pa_cons pe_int pa_nil))))
    (pss_cons (ps_if (pt_cmpR op_lt (pv 1) pe_int (nomark _))
      (pss_one (ps_ret pe_non))
      pss_nil)
    (pss_cons (ps_if (pt_cmpR op_eq (pv 1) pe_int (nomark _))
      (pss_one (ps_ret (pe_cmpR op_eq (C8.pe_c c__law_digit hr (by decide) (by rfl) (pa_cons (pv 0) (pa_cons pe_int pa_nil))) pe_int (nomark _))))
      pss_nil)
    (pss_cons (ps_if (pt_cmpR op_lt (pv 1) pe_int (nomark _))
      (pss_one (ps_ret (pe_op op_sub (C8.pe_c c__law_digit hr (by decide) (by rfl) (pa_cons (pv 0) (pa_cons pe_int pa_nil))) pe_int)))
      pss_nil)
    (pss_cons (ps_if (pt_cmpR op_eq (pv 1) pe_int (nomark _))
      (pss_one (ps_ret (pe_op op_mul (pe_op op_sub (pe_op op_mul (C8.pe_c c__law_digit hr (by decide) (by rfl) (pa_cons (pv 0) (pa_cons pe_int pa_nil))) pe_int) pe_int) (pe_op op_sub pe_int (C8.pe_c c__law_digit hr (by decide) (by rfl) (pa_cons (pv 0) (pa_cons pe_int pa_nil)))))))
      pss_nil)
    (pss_one (ps_ret (C8.pe_c c__law_text hr (by decide) (by rfl) (pa_cons (pv 0) pa_nil))))))))), ?_⟩
  obtain ⟨p, rfl, d, q⟩ := h
  refine qz_asg (ez_digit (ev_var rfl) ev_c (by decide) (by decide)) d fun kd H1 hk e1 d1 => ?_
  have w2 : ∀ {H2 : Hp}, Ex H1 H2 → Ex (wo p H) H2 := fun e => wx_trans e1 (wx_of e)
  refine q_when (b := decide (kd < 2)) (by walk_at "et") (fun _ H2 e2 => s_ret ev_c fun H3 e3 => q _ H3 .non (w2 (e2.trans e3)) (d1.ex (e2.trans e3))) fun _ H2 e2 => ?_
  have dg : ∀ {m : Int} {σ : L2.St} {H0 : Hp}, σ[0]? = some (some (V.ref p)) → 0 < m → m < 2 ^ 400 → EvD1 (tCall (sp__law_digit K) [] C8.E0 (tCons (tVar 0) (tCons (tC (.int m)) tNil))) σ p H0 (ZP fun d => 0 ≤ d ∧ d < m) := fun h0 a b => ez_digit (ev_var h0) ev_c a b
  have cc : ∀ {c : Int} {σ : L2.St} {H0 : Hp}, EvD1 (tC (.int c)) σ p H0 (ZP fun d => d = c) := e1_int ev_c rfl
  refine q_when (b := decide (V.int kd = V.int 2)) (by walk_at "et") (fun _ H3 e3 => ?_) fun _ H3 e3 => ?_
  · refine s1_ret (P := fun v => ∃ b, v = .bl b) (ez_eq (dg rfl (by decide) (by decide)) cc) (d1.ex (e2.trans e3)) fun v H4 hv e4 d4 => ?_
    obtain ⟨b, rfl⟩ := hv
    exact q _ H4 (.bl b) (wx_trans (w2 (e2.trans e3)) e4) d4
  have x3 := e2.trans e3
  refine q_when (b := decide (kd < 5)) (by walk_at "et") (fun _ H4 e4 => ?_) fun _ H4 e4 => ?_
  · refine s1_ret (P := ZP fun i => -3 ≤ i ∧ i < 4) (ez_op0 (dg rfl (by decide) (by decide)) cc fun i j hi hj => ⟨by omega, by omega⟩) (d1.ex (x3.trans e4)) fun v H5 hv e5 d5 => ?_
    obtain ⟨i, rfl, hi⟩ := hv
    exact q _ H5 (.int i (by omega)) (wx_trans (w2 (x3.trans e4)) e5) d5
  refine q_when (b := decide (V.int kd = V.int 5)) (by walk_at "et") (fun _ H5 e5 => ?_) fun _ H5 e5 => ?_
  · refine s1_ret (P := ZP fun i => -1000000000000000 ≤ i ∧ i ≤ 1000000000000000) ?_ (d1.ex ((x3.trans e4).trans e5)) fun v H6 hv e6 d6 => ?_
    · refine ez_op (PI := fun i => i = -1 ∨ i = 1) (RI := fun j => 0 ≤ j ∧ j ≤ 1000000000000000) (ez_op0 (PI := fun i => i = 0 ∨ i = 2) (ez_op (dg rfl (by decide) (by decide)) cc fun i j hi hj => ⟨.inl ⟨by omega, by omega⟩, by subst hj; omega⟩) cc fun i j hi hj => by omega) (ez_op0 cc (dg rfl (by decide) (by decide)) fun i j hi hj => ⟨by omega, by omega⟩) fun i j hi hj => ⟨.inl ⟨by omega, by omega⟩, ?_⟩
      rcases hi with h | h <;> subst h <;> omega
    · obtain ⟨i, rfl, hi⟩ := hv
      exact q _ H6 (.int i hi) (wx_trans (w2 ((x3.trans e4).trans e5)) e6) d6
  · refine s1_ret (e1_text (ev_var rfl)) (d1.ex ((x3.trans e4).trans e5)) fun v H6 hv e6 d6 => ?_
    obtain ⟨l, rfl, hl, hc⟩ := hv
    exact q _ H6 (.str l hl hc) (wx_trans (w2 ((x3.trans e4).trans e5)) e6) d6
end

/-! ### a text by a number; s.index of what is there; a comprehension over a text -/
theorem fold_rep (l : List Nat) : ∀ (m : Nat) (acc : List Nat), (List.replicate m l.toArray).foldl (· ++ ·) acc.toArray = (acc ++ (List.replicate m l).flatten).toArray
  | 0, acc => by simp
  | m + 1, acc => by
    rw [List.replicate_succ, List.foldl_cons, List.append_toArray, fold_rep l m (acc ++ l), List.replicate_succ, List.flatten_cons, List.append_assoc]
theorem op_mulS {X : Cx} : OpR X (binaryOp .Mult) (fun x y H Q => ∃ (l : List Nat) (n : Nat), x = .str (SX.S l) ∧ y = .int (n : Int) ∧ 1 ≤ n ∧ n ≤ 100 ∧ l.length ≤ 1000 ∧ Q (.str (SX.S (List.replicate n l).flatten)) H) := by
  intro pins s σ H x y v u Q I rx ry h
  obtain ⟨l, n, rfl, rfl, n1, n2, hl, q⟩ := h
  obtain ⟨t, rfl⟩ := (show ∃ t, v = Value.str (SX.S l) t from rx)
  obtain ⟨t', rfl⟩ := (show ∃ t, u = Value.int (n : Int) t from ry)
  have hm : l.length * n ≤ 1000 * 100 := Nat.mul_le_mul hl n2
  refine PySem.P.mul_str (by rw [decide_eq_false (by omega), decide_eq_false (by omega)]; rfl) (fun _ _ => ?_) (fun _ _ => ?_) ?_
  · rw [SX.S_len]
    have : (l.length : Int) ≤ (2 ^ 63 - 1) / (n : Int) := Int.le_ediv_of_mul_le (by omega) (by
      have e : (l.length : Int) * (n : Int) = ((l.length * n : Nat) : Int) := by rw [Int.natCast_mul]
      rw [e]
      omega)
    omega
  · rw [SX.S_len, Int.toNat_natCast]
    exact decide_eq_false (Nat.not_lt.mpr (Nat.le_trans hm (by decide)))
  · rw [if_neg (by omega)]
    split
    · rename_i h
      rw [Bool.or_eq_true, beq_iff_eq, beq_iff_eq, SX.S_len] at h
      have e : (List.replicate n l).flatten = l := by
        rcases h with h | h
        · have : n = 1 := by omega
          rw [this]
          simp
        · have : l = [] := List.length_eq_zero_iff.mp h
          rw [this]
          simp
      rw [e] at q
      exact ⟨.str _, H, I, ⟨t, rfl⟩, q⟩
    · have e : (⟨(List.replicate ((n : Int)).toNat (SX.S l).cps).foldl (· ++ ·) #[]⟩ : Str) = SX.S (List.replicate n l).flatten := by
        have := fold_rep l n []
        rw [List.nil_append] at this
        rw [Int.toNat_natCast]
        exact congrArg Str.mk this
      rw [e]
      refine ⟨?_, .str _, H, I.tok _, ⟨_, rfl⟩, q⟩
      rw [SX.S_len]
      have : (List.replicate n l).flatten.length = n * l.length := by simp
      rw [this, Nat.mul_comm]
      exact Nat.le_trans hm (by decide)
/-- s.index(t), found -/
theorem mt_indexOk {X : Cx} : MtR X "str.index" (fun x xs H Q => ∃ (a b : Str) (k : Nat), x = .str a ∧ xs = [.str b] ∧ Txt.index0 a b = some k ∧ Q (.int (k : Int)) H) := by
  intro pins s σ H x xs v us Q I rx rs h
  obtain ⟨a, b, k, rfl, rfl, hk, w⟩ := h
  obtain ⟨t, rfl⟩ := (show ∃ t, v = Value.str a t from rx)
  cases rs with
  | cons r1 rs =>
    cases rs
    obtain ⟨u, rfl⟩ := r1
    cases q : Builtin.Str.occurrences a b 0 a.length 1 with
    | nil =>
      unfold Txt.index0 at hk
      rw [q] at hk
      cases hk
    | cons j rest =>
      have e : j = k := by
        unfold Txt.index0 at hk
        rw [q] at hk
        exact Option.some.inj hk
      subst e
      exact PySem.SC.index q ⟨.int (j : Nat), H, I.tok _, ⟨_, rfl⟩, w⟩
section
variable {K : PySem.W.Frag} {σ : L2.St} {H : Hp} {tl te ta tb : TE}
/-- [e for c in a text] -/
theorem el_lcX {w : List Nat} {j : Nat} {vs : List Nat} (f : Nat → V) (h : Ev tl σ H (.str (SX.S w))) (hz : w.length ≤ 40000) (hw : ∀ x, wipe ((wipe σ vs).set j (some x)) vs = wipe σ vs)
    (he : ∀ (i c : Nat) H1, Ex H H1 → w[i]? = some c → Ev te ((wipe σ vs).set j (some (.str ⟨#[c]⟩))) H1 (f c)) : EvL (tLc (iStr tl) (gName j) tYes te vs) σ H (w.map f) := fun H0 e Q q => h H0 e _ fun H1 e1 => ⟨SX.S w, rfl, fun Dl hD => by
  have ec : ∀ i, (SX.S w).cps[i]? = w[i]? := fun i => List.getElem?_toArray
  have es : (SX.S w).cps.size = w.length := List.size_toArray
  refine ⟨fun i m H' => (Ex H1 H' ∧ H' Dl = some (.lst ((w.take i).map f))) ∧ i ≤ w.length ∧ w.length - i ≤ m, ⟨_, ⟨Ex.new hD, upd_same⟩, Nat.zero_le _, Nat.le_refl _⟩, fun i m H' pv => ?_⟩
  obtain ⟨⟨p2, p3⟩, hi, hm⟩ := pv
  by_cases hlt : i < w.length
  · refine .inr ⟨by show i < (SX.S w).cps.size; omega, fun H2 => Ex H1 H2 ∧ H2 Dl = some (.lst ((w.take (i + 1)).map f)), fun H2 q2 => ⟨m - 1, by omega, q2, hlt, by omega⟩, ?_⟩
    rintro x H2 ⟨rfl, c, hc, rfl⟩
    rw [ec] at hc
    show wipe ((wipe σ vs).set j (some (.str ⟨#[c]⟩))) vs = wipe σ vs ∧ te ((wipe σ vs).set j (some (.str ⟨#[c]⟩))) _ fun y H4 => ∃ acc, H4 Dl = some (.lst acc) ∧ acc.length < sizeLine ∧ _
    refine ⟨hw _, he i c H1 (e.trans e1) hc _ p2 _ fun H4 e4 => ⟨_, e4 _ _ p3, sz_lt (by rw [List.length_map, List.length_take]; omega), Ex.mut (p2.trans e4) hD, ?_⟩⟩
    rw [upd_same, List.take_add_one, hc, List.map_append]
    rfl
  · refine .inl ⟨by show (SX.S w).cps.size ≤ i; omega, ?_⟩
    rw [show i = w.length by omega, List.take_length] at p3
    exact q Dl H' (fresh_back e1 hD) (e1.trans p2) p3⟩
/-- a new list + a new list -/
theorem el_catNN {xs ys : List V} (ha : EvL ta σ H xs) (hb : EvL tb σ H ys) (hz : xs.length + ys.length ≤ 100000) : EvL (tOp rCat ta tb) σ H (xs ++ ys) := fun H1 e Q q =>
  ha H1 e _ fun a H2 ha2 e2 h2 => hb H2 (e.trans e2) _ fun b H3 _ e3 hb3 => ⟨a, b, xs, ys, rfl, rfl, e3 _ _ h2, hb3, sz_of hz, fun p hp => q p _ (fresh_back (e2.trans e3) hp) ((e2.trans e3).trans (Ex.new hp)) upd_same⟩
end
theorem el_given {te : TE} {σ : L2.St} {H : Hp} {n : Nat} {f : Nat → Bool} {v : Nat → V} (h : EvL te σ H (given ((n : Int)).toNat f v)) : EvL te σ H (given n f v) := by
  rw [Int.toNat_natCast] at h
  exact h

/-! ### ranks -/
def kr : V → Int
  | .non => 0
  | .bl _ => 1
  | .int _ => 2
  | _ => 3
def payV : V → V
  | .non => .int 0
  | .bl b => .int (if b then 1 else 0)
  | x => x
def rkL (x : V) : List V := [.int (kr x), payV x]
def payD : V → PyData
  | .non => .int 0
  | .bl b => .int (if b then 1 else 0)
  | .int i => .int i
  | .str s => .str s
  | _ => .none
def rkDs (x : V) : List PyData := [.int (kr x), payD x]
def rkD (x : V) : PyData := .tuple (rkDs x)
/-- plain, and its signs are signs -/
inductive Ok : V → Prop where
  | non : Ok .non
  | bl (b : Bool) : Ok (.bl b)
  | int (i : Int) : Ok (.int i)
  | str (s : Str) (h : PyData.strOk s = true) : Ok (.str s)
theorem Ok.pl {x : V} (h : Ok x) : Pl x := by cases h <;> constructor
theorem strOk_S {l : List Nat} (h : ∀ c ∈ l, 32 ≤ c ∧ c ≤ 126) : PyData.strOk (SX.S l) = true := by
  unfold PyData.strOk
  rw [Array.all_eq_true']
  intro c hc
  have := h c (by simpa using hc)
  exact decide_eq_true (by omega)
theorem dp_pay {K : PySem.W.Frag} {H : Hp} {x : V} (h : Ok x) : Dp K H (payV x) (payD x) := by
  cases h with
  | non => exact .int 0
  | bl b => exact .int _
  | int i => exact .int i
  | str s _ => exact .str s
theorem dp_rks {K : PySem.W.Frag} {H : Hp} {x : V} (h : Ok x) : DpAll K H (rkL x) (rkDs x) := .cons (.int _) (.cons (dp_pay h) .nil)
theorem dp_rk {K : PySem.W.Frag} {H : Hp} {x : V} {p : Addr} (h : Ok x) (hp : H p = some (.tup (rkL x))) : Dp K H (.ref p) (rkD x) := .tup (st_of hp) (dp_rks h)
theorem lay_rk {x : V} (h : Ok x) : (rkD x).canLay0 = true := by
  cases h with
  | non => rfl
  | bl b => rfl
  | int i => rfl
  | str s hs =>
    show (true && (PyData.strOk s && true)) = true
    rw [hs]
    rfl
theorem dep_rk {x : V} (h : Ok x) : (rkD x).depth = 1 := by cases h <;> rfl
theorem shaped_rk {x : V} (h : Ok x) : SeqAt.shaped (rkD x) = true := by
  unfold SeqAt.shaped
  rw [lay_rk h, dep_rk h]
  rfl
theorem noL_rk {x : V} (h : Ok x) : noL (rkD x) = true := by cases h <;> rfl
theorem ord_rk {x y : V} (hx : Ok x) (hy : Ok y) : ordD (rkD x) (rkD y) = true := by
  have step : ∀ (a b : Int) (p q : PyData), (a = b → ordD p q = true) → ordD (.tuple [.int a, p]) (.tuple [.int b, q]) = true := by
    intro a b p q h
    rw [ordD, ordDs]
    split
    · rename_i e
      rw [ordDs]
      split
      · rfl
      · exact h (beq_iff_eq.mp (show (a == b) = true from e))
    · rfl
  refine step _ _ _ _ fun e => ?_
  cases hx <;> cases hy <;> first | rfl | (simp [kr] at e)
theorem lays_rk : ∀ {xs : List V}, (∀ x ∈ xs, Ok x) → PyData.canLayAll0 (xs.map rkD) = true
  | [], _ => rfl
  | x :: xs, h => by
    show ((rkD x).canLay0 && PyData.canLayAll0 (xs.map rkD)) = true
    rw [lay_rk (h x (List.mem_cons_self ..)), lays_rk fun y hy => h y (List.mem_cons_of_mem _ hy)]
    rfl
theorem deps_rk : ∀ {xs : List V}, (∀ x ∈ xs, Ok x) → PyData.depthAll (xs.map rkD) ≤ 1
  | [], _ => by show 0 ≤ 1; decide
  | x :: xs, h => by
    show max (rkD x).depth (PyData.depthAll (xs.map rkD)) ≤ 1
    rw [dep_rk (h x (List.mem_cons_self ..))]
    have := deps_rk fun y hy => h y (List.mem_cons_of_mem _ hy)
    omega
theorem shaped_row {xs : List V} (h : ∀ x ∈ xs, Ok x) : SeqAt.shaped (.tuple (xs.map rkD)) = true := by
  have hd := deps_rk h
  show (PyData.canLayAll0 (xs.map rkD) && decide (PyData.depthAll (xs.map rkD) + 1 ≤ 64)) = true
  rw [lays_rk h, decide_eq_true (by omega)]
  rfl
theorem ords_rk : ∀ {xs ys : List V}, (∀ x ∈ xs, Ok x) → (∀ y ∈ ys, Ok y) → ordDs (xs.map rkD) (ys.map rkD) = true
  | [], _, _, _ => by rw [List.map_nil, ordDs]
  | _ :: _, [], _, _ => rfl
  | x :: xs, y :: ys, h1, h2 => by
    rw [List.map_cons, List.map_cons, ordDs]
    split
    · exact ords_rk (fun z hz => h1 z (List.mem_cons_of_mem _ hz)) (fun z hz => h2 z (List.mem_cons_of_mem _ hz))
    · exact ord_rk (h1 x (List.mem_cons_self ..)) (h2 y (List.mem_cons_self ..))
def sp_kind_rank (K : PySem.W.Frag) : Sp := fun vs H Q _ => ∃ x : V, vs = [x] ∧ Ok x ∧ ∀ H', Ex H H' → Q (.int (kr x)) H'
def sp_is_integer (K : PySem.W.Frag) : Sp := fun vs H Q _ => ∃ x : V, vs = [x] ∧ Pl x ∧ ∀ H', Ex H H' → Q (.bl (isInt x)) H'
def sp__law_is_integer (K : PySem.W.Frag) : Sp := fun vs H Q _ => ∃ x : V, vs = [x] ∧ Pl x ∧ ∀ H', Ex H H' → Q (.bl (isInt x)) H'
def sp_rank (K : PySem.W.Frag) : Sp := fun vs H Q _ => ∃ x : V, vs = [x] ∧ Ok x ∧ ∀ p H', H p = none → Ex H H' → H' p = some (.tup (rkL x)) → Q (.ref p) H'
def sp__law_rank (K : PySem.W.Frag) : Sp := fun vs H Q _ => ∃ x : V, vs = [x] ∧ Ok x ∧ ∀ p H', H p = none → Ex H H' → H' p = some (.tup (rkL x)) → Q (.ref p) H'
def sp_same (K : PySem.W.Frag) : Sp := fun vs H Q _ => ∃ x y : V, vs = [x, y] ∧ Ok x ∧ Ok y ∧ ∀ H', Ex H H' → Q (.bl (PyData.eqv (rkD x) (rkD y))) H'
def sp_before (K : PySem.W.Frag) : Sp := fun vs H Q _ => ∃ x y : V, vs = [x, y] ∧ Ok x ∧ Ok y ∧ ∀ H', Ex H H' → Q (.bl (ltD (rkD x) (rkD y))) H'
section
variable {P : Program} {w : World} {K : PySem.W.Frag} {mg : Str → Option Value} {base : Heap}
section
variable {σ : L2.St} {H : Hp} {ta tb tc : TE} {E : XK} {x y : V}
theorem ec_isint0 (ha : Ev ta σ H x) (h : Pl x) : Ev (tCall (sp_is_integer K) [] E (tCons ta tNil)) σ H (.bl (isInt x)) := ev_call (ea_cons ha ea_nil) fun H1 e Q q E => ⟨x, rfl, h, q⟩
theorem ec_isint (ha : Ev ta σ H x) (h : Pl x) : Ev (tCall (sp__law_is_integer K) [] E (tCons ta tNil)) σ H (.bl (isInt x)) := ev_call (ea_cons ha ea_nil) fun H1 e Q q E => ⟨x, rfl, h, q⟩
theorem ec_kr (ha : Ev ta σ H x) (h : Ok x) : Ev (tCall (sp_kind_rank K) [] E (tCons ta tNil)) σ H (.int (kr x)) := ev_call (ea_cons ha ea_nil) fun H1 e Q q E => ⟨x, rfl, h, q⟩
theorem ec_rank (ha : Ev ta σ H x) (h : Ok x) : EvU (tCall (sp_rank K) [] E (tCons ta tNil)) σ H (rkL x) := eu_call (ea_cons ha ea_nil) fun H1 e Q q E => ⟨x, rfl, h, q⟩
theorem ec_lrank (ha : Ev ta σ H x) (h : Ok x) : EvU (tCall (sp__law_rank K) [] E (tCons ta tNil)) σ H (rkL x) := eu_call (ea_cons ha ea_nil) fun H1 e Q q E => ⟨x, rfl, h, q⟩
theorem ud_rk (h : EvU ta σ H (rkL x)) (hx : Ok x) : EvUD K ta σ H (rkDs x) := fun H1 e Q q => h H1 e _ fun p H2 hp e2 h2 => q p H2 _ hp e2 h2 (dp_rks hx)
theorem ed_rk (h : EvU ta σ H (rkL x)) (hx : Ok x) : EvD K ta σ H (rkD x) := ed_tupU (ud_rk h hx)
theorem ec_same (ha : Ev ta σ H x) (hb : Ev tb σ H y) (h1 : Ok x) (h2 : Ok y) : Ev (tCall (sp_same K) [] E (tCons ta (tCons tb tNil))) σ H (.bl (PyData.eqv (rkD x) (rkD y))) := ev_call (ea_cons ha (ea_cons hb ea_nil)) fun H1 e Q q E => ⟨x, y, rfl, h1, h2, q⟩
theorem ec_before (ha : Ev ta σ H x) (hb : Ev tb σ H y) (h1 : Ok x) (h2 : Ok y) : Ev (tCall (sp_before K) [] E (tCons ta (tCons tb tNil))) σ H (.bl (ltD (rkD x) (rkD y))) := ev_call (ea_cons ha (ea_cons hb ea_nil)) fun H1 e Q q E => ⟨x, y, rfl, h1, h2, q⟩
end
theorem ok_kind_rank (D : Dn K mg "kind_rank" s_kind_rank ["value"]) (z_bool : mg "bool" = none) (z_int : mg "int" = none) (z_isinstance : mg "isinstance" = none) :
    C8.Cal P w K mg base 1 "kind_rank" (sp_kind_rank K) [] := by
  refine cal_of D sc_kind_rank (fun vs H Q E h => ?_) (fun f cdv A outer s H vs Q E hr h => ?_)
  · obtain ⟨_, rfl, _⟩ := h
    rfl
  refine ⟨_, (pss_cons (ps_if (pt_cmpR op_isN (pv 0) pe_non (nomark _))
      (pss_one (ps_ret pe_int))
      pss_nil)
    (pss_cons (ps_if (pt_val (pe_callB call_isi (by rfl) z_isinstance (by decide +kernel) (pa_cons (pv 0) (pa_cons (pe_bltn (v := .ty "bool") (u := .type "bool") rfl z_bool (by decide +kernel) rfl) pa_nil))))
      (pss_one (ps_ret pe_int))
      pss_nil)
    (pss_cons (ps_if (pt_val (pe_callB call_isi (by rfl) z_isinstance (by decide +kernel) (pa_cons (pv 0) (pa_cons (pe_bltn (v := .ty "int") (u := .type "int") rfl z_int (by decide +kernel) rfl) pa_nil))))
      (pss_one (ps_ret pe_int))
      pss_nil)
    (pss_one (ps_ret pe_int))))), ?_⟩
  obtain ⟨x, rfl, hx, q⟩ := h
  refine q_when (b := decide (x = .non)) (by walk_at "et") (fun hb H1 e1 => s_ret (v := .int (kr x)) ?_ fun H2 e2 => q _ (e1.trans e2)) fun hb H1 e1 => ?_
  · rw [of_decide_eq_true hb]
    exact ev_c
  cases hx with
  | non => exact absurd hb (by decide)
  | bl b => exact q_when (b := true) (et_B (ev_isiP (ev_var rfl) (.bl b) (by show kitB "bool" "bool" = some true; decide +kernel))) (fun _ H2 e2 => s_ret ev_c fun H3 e3 => q _ ((e1.trans e2).trans e3)) fun hb => nomatch hb
  | int i => exact q_when (b := false) (et_B (ev_isiP (ev_var rfl) (.int i) (by show kitB "int" "bool" = some false; decide +kernel))) (fun hb => nomatch hb) fun _ H2 e2 => q_when (b := true) (et_B (ev_isiP (ev_var rfl) (.int i) (by show kitB "int" "int" = some true; decide +kernel))) (fun _ H3 e3 => s_ret ev_c fun H4 e4 => q _ (((e1.trans e2).trans e3).trans e4)) fun hb => nomatch hb
  | str s hs => exact q_when (b := false) (et_B (ev_isiP (ev_var rfl) (.str s) (by show kitB "str" "bool" = some false; decide +kernel))) (fun hb => nomatch hb) fun _ H2 e2 => q_when (b := false) (et_B (ev_isiP (ev_var rfl) (.str s) (by show kitB "str" "int" = some false; decide +kernel))) (fun hb => nomatch hb) fun _ H3 e3 => s_ret ev_c fun H4 e4 => q _ (((e1.trans e2).trans e3).trans e4)
theorem ok_is_integer (D : Dn K mg "is_integer" s_is_integer ["value"]) (z_bool : mg "bool" = none) (z_int : mg "int" = none) (z_isinstance : mg "isinstance" = none) :
    C8.Cal P w K mg base 1 "is_integer" (sp_is_integer K) [] := by
  refine cal_of D sc_is_integer (fun vs H Q E h => ?_) (fun f cdv A outer s H vs Q E hr h => ?_)
  · obtain ⟨_, rfl, _⟩ := h
    rfl
  refine ⟨_, (pss_one (ps_ret (pe_and (pe_callB call_isi (by rfl) z_isinstance (by decide +kernel) (pa_cons (pv 0) (pa_cons (pe_bltn (v := .ty "int") (u := .type "int") rfl z_int (by decide +kernel) rfl) pa_nil))) (pe_one (pe_not (pe_callB call_isi (by rfl) z_isinstance (by decide +kernel) (pa_cons (pv 0) (pa_cons (pe_bltn (v := .ty "bool") (u := .type "bool") rfl z_bool (by decide +kernel) rfl) pa_nil)))))))), ?_⟩
  obtain ⟨x, rfl, hx, q⟩ := h
  exact s_ret (ev_isInt (ev_var rfl) (ev_var rfl) hx) fun H2 e2 => q _ e2
theorem ok_rank (D : Dn K mg "rank" s_rank ["value"]) (c_kind_rank : C8.Cal P w K mg base 1 "kind_rank" (sp_kind_rank K) []) (z_int : mg "int" = none) :
    C8.Cal P w K mg base 2 "rank" (sp_rank K) [] := by
  refine cal_of D sc_rank (fun vs H Q E h => ?_) (fun f cdv A outer s H vs Q E hr h => ?_)
  · obtain ⟨_, rfl, _⟩ := h
    rfl
  refine ⟨_, (pss_cons (ps_set (i := 1) sc_rank.nd rfl (.inl rfl) (C8.pe_c c_kind_rank hr (by decide) (by rfl) (pa_cons (pv 0) pa_nil)))
    (pss_cons (ps_if (pt_cmpR op_eq (pv 1) pe_int (nomark _))
      (pss_one (ps_ret (pe_tup (pa_cons pe_int (pa_cons pe_int pa_nil)))))
      pss_nil)
    (pss_cons (ps_if (pt_cmpR op_eq (pv 1) pe_int (nomark _))
      (pss_one (ps_ret (pe_tup (pa_cons pe_int (pa_cons (pe_callTy call_int1 (by rfl) z_int (by decide +kernel) (pa_cons (pv 0) pa_nil)) pa_nil)))))
      pss_nil)
    (pss_one (ps_ret (pe_tup (pa_cons (pv 1) (pa_cons (pv 0) pa_nil)))))))), ?_⟩
  obtain ⟨x, rfl, hx, q⟩ := h
  refine q_asg (ec_kr (ev_var rfl) hx) fun H1 e1 => ?_
  refine q_when (b := decide (V.int (kr x) = V.int 0)) (by walk_at "et") (fun hb H2 e2 => s_retU (xs := rkL x) ?_ fun p H3 hp e3 h3 => q p H3 (fresh_back (e1.trans e2) hp) ((e1.trans e2).trans e3) h3) fun hb H2 e2 => ?_
  · cases hx with
    | non => exact eu_tup (ea_cons ev_c (ea_cons ev_c ea_nil)) (by show 2 ≤ 100000; decide)
    | _ => simp [kr] at hb
  refine q_when (b := decide (V.int (kr x) = V.int 1)) (by walk_at "et") (fun hb H3 e3 => s_retU (xs := rkL x) ?_ fun p H4 hp e4 h4 => q p H4 (fresh_back ((e1.trans e2).trans e3) hp) (((e1.trans e2).trans e3).trans e4) h4) fun hb H3 e3 => s_retU (xs := rkL x) ?_ fun p H4 hp e4 h4 => q p H4 (fresh_back ((e1.trans e2).trans e3) hp) (((e1.trans e2).trans e3).trans e4) h4
  · cases hx with
    | bl b => exact eu_tup (ea_cons ev_c (ea_cons (ev_intB (ev_var rfl)) ea_nil)) (by show 2 ≤ 100000; decide)
    | _ => simp [kr] at hb
  · cases hx with
    | non => exact absurd ‹decide (V.int (kr .non) = V.int 0) = false› (by decide)
    | bl b => exact absurd ‹decide (V.int (kr (.bl b)) = V.int 1) = false› (by show ¬ decide (V.int 1 = V.int 1) = false; decide)
    | int i => exact eu_tup (ea_cons (ev_var rfl) (ea_cons (ev_var rfl) ea_nil)) (by show 2 ≤ 100000; decide)
    | str s hs => exact eu_tup (ea_cons (ev_var rfl) (ea_cons (ev_var rfl) ea_nil)) (by show 2 ≤ 100000; decide)
theorem ok__law_rank (D : Dn K mg "_law_rank" s__law_rank ["value"]) (z_bool : mg "bool" = none) (z_int : mg "int" = none) (z_isinstance : mg "isinstance" = none) :
    C8.Cal P w K mg base 1 "_law_rank" (sp__law_rank K) [] := by
  refine cal_of D sc__law_rank (fun vs H Q E h => ?_) (fun f cdv A outer s H vs Q E hr h => ?_)
  · obtain ⟨_, rfl, _⟩ := h
    rfl
  refine ⟨_, (pss_cons (ps_if (pt_cmpR op_isN (pv 0) pe_non (nomark _))
      (pss_one (ps_ret (pe_tup (pa_cons pe_int (pa_cons pe_int pa_nil)))))
      pss_nil)
    (pss_cons (ps_if (pt_val (pe_callB call_isi (by rfl) z_isinstance (by decide +kernel) (pa_cons (pv 0) (pa_cons (pe_bltn (v := .ty "bool") (u := .type "bool") rfl z_bool (by decide +kernel) rfl) pa_nil))))
      (pss_one (ps_ret (pe_tup (pa_cons pe_int (pa_cons (pe_callTy call_int1 (by rfl) z_int (by decide +kernel) (pa_cons (pv 0) pa_nil)) pa_nil)))))
      pss_nil)
    (pss_cons (ps_if (pt_val (pe_callB call_isi (by rfl) z_isinstance (by decide +kernel) (pa_cons (pv 0) (pa_cons (pe_bltn (v := .ty "int") (u := .type "int") rfl z_int (by decide +kernel) rfl) pa_nil))))
      (pss_one (ps_ret (pe_tup (pa_cons pe_int (pa_cons (pv 0) pa_nil)))))
      pss_nil)
    (pss_one (ps_ret (pe_tup (pa_cons pe_int (pa_cons (pv 0) pa_nil)))))))), ?_⟩
  obtain ⟨x, rfl, hx, q⟩ := h
  have two : (2 : Nat) ≤ 100000 := by decide
  refine q_when (b := decide (x = .non)) (by walk_at "et") (fun hb H1 e1 => s_retU (xs := rkL x) ?_ fun p H2 hp e2 h2 => q p H2 (fresh_back e1 hp) (e1.trans e2) h2) fun hb H1 e1 => ?_
  · rw [of_decide_eq_true hb]
    exact eu_tup (ea_cons ev_c (ea_cons ev_c ea_nil)) (by show 2 ≤ 100000; decide)
  cases hx with
  | non => exact absurd hb (by decide)
  | bl b => exact q_when (b := true) (et_B (ev_isiP (ev_var rfl) (.bl b) (by show kitB "bool" "bool" = some true; decide +kernel))) (fun _ H2 e2 => s_retU (xs := rkL (.bl b)) (eu_tup (ea_cons ev_c (ea_cons (ev_intB (ev_var rfl)) ea_nil)) two) fun p H3 hp e3 h3 => q p H3 (fresh_back (e1.trans e2) hp) ((e1.trans e2).trans e3) h3) fun hb => nomatch hb
  | int i => exact q_when (b := false) (et_B (ev_isiP (ev_var rfl) (.int i) (by show kitB "int" "bool" = some false; decide +kernel))) (fun hb => nomatch hb) fun _ H2 e2 => q_when (b := true) (et_B (ev_isiP (ev_var rfl) (.int i) (by show kitB "int" "int" = some true; decide +kernel))) (fun _ H3 e3 => s_retU (xs := rkL (.int i)) (eu_tup (ea_cons ev_c (ea_cons (ev_var rfl) ea_nil)) two) fun p H4 hp e4 h4 => q p H4 (fresh_back ((e1.trans e2).trans e3) hp) (((e1.trans e2).trans e3).trans e4) h4) fun hb => nomatch hb
  | str s hs => exact q_when (b := false) (et_B (ev_isiP (ev_var rfl) (.str s) (by show kitB "str" "bool" = some false; decide +kernel))) (fun hb => nomatch hb) fun _ H2 e2 => q_when (b := false) (et_B (ev_isiP (ev_var rfl) (.str s) (by show kitB "str" "int" = some false; decide +kernel))) (fun hb => nomatch hb) fun _ H3 e3 => s_retU (xs := rkL (.str s)) (eu_tup (ea_cons ev_c (ea_cons (ev_var rfl) ea_nil)) two) fun p H4 hp e4 h4 => q p H4 (fresh_back ((e1.trans e2).trans e3) hp) (((e1.trans e2).trans e3).trans e4) h4
theorem ok_same (D : Dn K mg "same" s_same ["first", "second"]) (c_rank : C8.Cal P w K mg base 2 "rank" (sp_rank K) []) :
    C8.Cal P w K mg base 3 "same" (sp_same K) [] := by
  refine cal_of D sc_same (fun vs H Q E h => ?_) (fun f cdv A outer s H vs Q E hr h => ?_)
  · obtain ⟨_, _, rfl, _⟩ := h
    rfl
  refine ⟨_, (pss_one (ps_ret (pe_cmpR (op_eqD (hu64 hr)) (C8.pe_c c_rank hr (by decide) (by rfl) (pa_cons (pv 0) pa_nil)) (C8.pe_c c_rank hr (by decide) (by rfl) (pa_cons (pv 1) pa_nil)) (nomark _)))), ?_⟩
  obtain ⟨x, y, rfl, hx, hy, q⟩ := h
  exact s_ret (ev_eqD (ed_rk (ec_rank (ev_var rfl) hx) hx) (ed_rk (ec_rank (ev_var rfl) hy) hy) (shaped_rk hx) (shaped_rk hy)) fun H2 e2 => q _ e2
theorem ok_before (D : Dn K mg "before" s_before ["first", "second"]) (c_rank : C8.Cal P w K mg base 2 "rank" (sp_rank K) []) :
    C8.Cal P w K mg base 3 "before" (sp_before K) [] := by
  refine cal_of D sc_before (fun vs H Q E h => ?_) (fun f cdv A outer s H vs Q E hr h => ?_)
  · obtain ⟨_, _, rfl, _⟩ := h
    rfl
  refine ⟨_, (pss_one (ps_ret (pe_cmpR (op_ltD (hu64 hr)) (C8.pe_c c_rank hr (by decide) (by rfl) (pa_cons (pv 0) pa_nil)) (C8.pe_c c_rank hr (by decide) (by rfl) (pa_cons (pv 1) pa_nil)) (nomark _)))), ?_⟩
  obtain ⟨x, y, rfl, hx, hy, q⟩ := h
  exact s_ret (ev_ltD (ed_rk (ec_rank (ev_var rfl) hx) hx) (ed_rk (ec_rank (ev_var rfl) hy) hy) (shaped_rk hx) (shaped_rk hy) (ord_rk hx hy) (by rw [dep_rk hx]; decide)) fun H2 e2 => q _ e2
end

section
variable {P : Program} {w : World} {K : PySem.W.Frag} {mg : Str → Option Value} {base : Heap}
theorem ok__law_is_integer (D : Dn K mg "_law_is_integer" s__law_is_integer ["told"]) (z_bool : mg "bool" = none) (z_int : mg "int" = none) (z_isinstance : mg "isinstance" = none) :
    C8.Cal P w K mg base 1 "_law_is_integer" (sp__law_is_integer K) [] := by
  refine cal_of D sc__law_is_integer (fun vs H Q E h => ?_) (fun f cdv A outer s H vs Q E hr h => ?_)
  · obtain ⟨_, rfl, _⟩ := h
    rfl
  refine ⟨_, (pss_one (ps_ret (pe_and (pe_callB call_isi (by rfl) z_isinstance (by decide +kernel) (pa_cons (pv 0) (pa_cons (pe_bltn (v := .ty "int") (u := .type "int") rfl z_int (by decide +kernel) rfl) pa_nil))) (pe_one (pe_not (pe_callB call_isi (by rfl) z_isinstance (by decide +kernel) (pa_cons (pv 0) (pa_cons (pe_bltn (v := .ty "bool") (u := .type "bool") rfl z_bool (by decide +kernel) rfl) pa_nil)))))))), ?_⟩
  obtain ⟨x, rfl, hx, q⟩ := h
  exact s_ret (ev_isInt (ev_var rfl) (ev_var rfl) hx) fun H2 e2 => q _ e2
end

--@SPLIT
def unNames : List Str := ["not", "is null", "abs"]
def binNames : List Str := ["and", "or", "equal", "less", "at most", "same"]

theorem cal_no {P : Program} {w : World} {K : PySem.W.Frag} {mg : Str → Option Value} {base : Heap} {x : Str} {st : Stmt} {N ps : List Str} {k : Nat} {sp : Sp} (D : Dn K mg x st ps) (S : FnScope N ps (C8.fnScope st)) (no : ∀ vs H Q E, sp vs H Q E → False) : C8.Cal P w K mg base (k + 1) x sp [] :=
  cal_of D S (fun vs H Q E h => (no vs H Q E h).elim) fun f cdv A outer s H vs Q E hr h => (no vs H Q E h).elim
/-! ### conditions: what they are as data -/
inductive Cnd where
  | col (n : Nat)
  | cst (v : V)
  | un (nm : Str) (a : Cnd)
  | bin (nm : Str) (a b : Cnd)
def vDc : V → PyData
  | .bl b => .bool b
  | .int i => .int i
  | .str s => .str s
  | _ => .none
theorem dp_vDc {K : PySem.W.Frag} {H : Hp} {x : V} (h : Pl x) : Dp K H x (vDc x) := by
  cases h with
  | non => exact .non
  | bl b => exact .bl b
  | int i => exact .int i
  | str s => exact .str s
theorem vDc_is {K : PySem.W.Frag} {H : Hp} {v x : V} (h : Pl x) (hd : Dp K H v (vDc x)) : v = x := by cases h <;> cases hd <;> rfl
def Cnd.d : Cnd → PyData
  | .col n => .tuple [.str "column", .int (n : Int)]
  | .cst v => .tuple [.str "constant", vDc v]
  | .un nm a => .tuple [.str "unary", .str nm, a.d]
  | .bin nm a b => .tuple [.str "binary", .str nm, a.d, b.d]
def Cnd.dep : Cnd → Nat
  | .col _ => 1
  | .cst _ => 1
  | .un _ a => a.dep + 1
  | .bin _ a b => max a.dep b.dep + 1
/-- over w columns, of these names -/
inductive Cnd.ok (w : Nat) : Cnd → Prop where
  | col (n : Nat) (h : n < w) : Cnd.ok w (.col n)
  | cst (v : V) (h : DV v) : Cnd.ok w (.cst v)
  | un (nm : Str) (a : Cnd) (h : nm ∈ unNames) (ha : a.ok w) : Cnd.ok w (.un nm a)
  | bin (nm : Str) (a b : Cnd) (h : nm ∈ binNames) (ha : a.ok w) (hb : b.ok w) : Cnd.ok w (.bin nm a b)
theorem noL_vDc (v : V) : noL (vDc v) = true := by cases v <;> rfl
theorem noL_cx : ∀ e : Cnd, noL e.d = true
  | .col _ => rfl
  | .cst v => by
    show (true && (noL (vDc v) && true)) = true
    rw [noL_vDc]
    rfl
  | .un _ a => by
    show (true && (true && (noL a.d && true))) = true
    rw [noL_cx a]
    rfl
  | .bin _ a b => by
    show (true && (true && (noL a.d && (noL b.d && true)))) = true
    rw [noL_cx a, noL_cx b]
    rfl
/-! ### data that is drawn -/
mutual
theorem dp_wo {K : PySem.W.Frag} {H : Hp} {p : Addr} {ys : List V} (hp : H p = some (.lst ys)) : ∀ {v : V} {d : PyData}, noL d = true → Dp K H v d → Dp K (wo p H) v d
  | _, _, _, .non => .non
  | _, _, _, .bl b => .bl b
  | _, _, _, .int i => .int i
  | _, _, _, .str x => .str x
  | _, _, n, .lst h a => by simp [noL] at n
  | _, _, n, .tup h a => by
    refine .tup ?_ (dps_wo hp (by simpa [noL] using n) a)
    rcases h with (h | ⟨o, h⟩) | h
    · exact .inl (.inl (by rw [wo_ne (by intro z; rw [z, hp] at h; cases h)]; exact h))
    · exact .inl (.inr ⟨o, by rw [wo_ne (by intro z; rw [z, hp] at h; cases h)]; exact h⟩)
    · exact .inr h
theorem dps_wo {K : PySem.W.Frag} {H : Hp} {p : Addr} {ys : List V} (hp : H p = some (.lst ys)) : ∀ {vs : List V} {ds : List PyData}, noLs ds = true → DpAll K H vs ds → DpAll K (wo p H) vs ds
  | _, _, _, .nil => .nil
  | _, _, n, .cons h t => by
    have n' : (noL _ && noLs _) = true := n
    rw [Bool.and_eq_true] at n'
    exact .cons (dp_wo hp n'.1 h) (dps_wo hp n'.2 t)
end
theorem Dr.at {p : Addr} {H : Hp} (d : Dr p H) : ∃ xs, H p = some (.lst xs) := by
  obtain ⟨s, _, h⟩ := d
  exact ⟨_, h⟩
theorem dp_wx {K : PySem.W.Frag} {H H' : Hp} {p : Addr} {v : V} {d : PyData} (hd : Dp K H v d) (n : noL d = true) (dr : Dr p H) (e : Ex (wo p H) H') : Dp K H' v d := by
  obtain ⟨xs, hx⟩ := dr.at
  exact ex_dp e (dp_wo hx n hd)
theorem dps_wx {K : PySem.W.Frag} {H H' : Hp} {p : Addr} {vs : List V} {ds : List PyData} (hd : DpAll K H vs ds) (n : noLs ds = true) (dr : Dr p H) (e : Ex (wo p H) H') : DpAll K H' vs ds := by
  obtain ⟨xs, hx⟩ := dr.at
  exact ex_dps e (dps_wo hx n hd)
/-- an expression that is drawn -/
def EvX (K : PySem.W.Frag) (te : TE) (σ : L2.St) (p : Addr) (H : Hp) (P : PyData → Prop) : Prop := ∀ H1, Ex (wo p H) H1 → Dr p H1 → ∀ Q : VK, (∀ v H2 d, P d → noL d = true → Dp K H2 v d → Ex (wo p H1) H2 → Dr p H2 → Q v H2) → te σ H1 Q
def EvXA (K : PySem.W.Frag) (ta : TA) (σ : L2.St) (p : Addr) (H : Hp) (P : List PyData → Prop) : Prop := ∀ H1, Ex (wo p H) H1 → Dr p H1 → ∀ Q : List V → Hp → Prop, (∀ vs H2 ds, P ds → noLs ds = true → DpAll K H2 vs ds → Ex (wo p H1) H2 → Dr p H2 → Q vs H2) → ta σ H1 Q
section
variable {K : PySem.W.Frag} {σ : L2.St} {H : Hp} {p : Addr} {ta tb te : TE} {tr : TA} {P R : PyData → Prop} {PL : List PyData → Prop} {D : Ends} {tz : TS} {E : XK} {v : V} {t : TT}
theorem x_pure {d : PyData} (h : Ev te σ (wo p H) v) (hd : ∀ H, Dp K H v d) (n : noL d = true) : EvX K te σ p H (· = d) := fun H1 e dr Q q => h H1 e Q fun H2 e2 => q v H2 d rfl n (hd H2) (wx_of e2) (dr.ex e2)
theorem x_var {i : Nat} {d : PyData} (h : σ[i]? = some (some v)) (hd : Dp K H v d) (n : noL d = true) (d0 : Dr p H) : EvX K (tVar i) σ p H (· = d) := fun H1 e dr Q q => ⟨v, h, q v H1 d rfl n (dp_wx hd n d0 e) (wo_le p H1) dr⟩
theorem x_dv (h : EvD1 te σ p H DV) : EvX K te σ p H (fun d => ∃ x, DV x ∧ d = vDc x) := fun H1 e dr Q q => h H1 e dr Q fun v H2 hv e2 d2 => q v H2 (vDc v) ⟨v, hv, rfl⟩ (noL_vDc v) (dp_vDc hv.pl) e2 d2
theorem x_int {PI : Int → Prop} (h : EvD1 te σ p H (ZP PI)) : EvX K te σ p H (fun d => ∃ i, PI i ∧ d = .int i) := fun H1 e dr Q q => h H1 e dr Q fun v H2 ⟨i, ev, hi⟩ e2 d2 => by
  subst ev
  exact q _ H2 (.int i) ⟨i, hi, rfl⟩ rfl (.int i) e2 d2
theorem x_mono (h : EvX K te σ p H P) (k : ∀ d, P d → R d) : EvX K te σ p H R := fun H1 e dr Q q => h H1 e dr Q fun v H2 d hd => q v H2 d (k d hd)
theorem xa_nil : EvXA K tNil σ p H (· = []) := fun H1 _ dr _ q => q [] H1 [] rfl rfl .nil (wo_le p H1) dr
theorem xa_cons (h : EvX K te σ p H P) (hr : EvXA K tr σ p H PL) : EvXA K (tCons te tr) σ p H (fun ds => ∃ d r, ds = d :: r ∧ P d ∧ PL r) := fun H1 e dr Q q =>
  h H1 e dr _ fun v H2 d hd n hv e2 d2 => hr H2 (wx_trans e e2) d2 _ fun vs H3 r hr' n' hvs e3 d3 => q (v :: vs) H3 (d :: r) ⟨d, r, rfl, hd, hr'⟩ (by show (noL d && noLs r) = true; rw [n, n']; rfl) (.cons (dp_wx hv n d2 e3) hvs) (wx_trans e2 e3) d3
theorem x_tup (h : EvXA K tr σ p H PL) (hl : ∀ ds, PL ds → ds.length ≤ 100000) : EvX K (tTup tr) σ p H (fun d => ∃ ds, d = .tuple ds ∧ PL ds) := fun H1 e dr Q q =>
  h H1 e dr _ fun vs H2 ds hds n hvs e2 d2 => ⟨sz_of (by rw [dps_len hvs]; exact hl ds hds), fun a ha => q (.ref a) _ (.tuple ds) ⟨ds, rfl, hds⟩ n (.tup (st_of upd_same) (ex_dps (Ex.new ha) hvs)) (e2.trans (Ex.new ha)) (d2.ex (Ex.new ha))⟩
theorem qx_asg {i : Nat} (h : EvX K te σ p H P) (d : Dr p H) (k : ∀ v H1 d', P d' → noL d' = true → Dp K H1 v d' → Ex (wo p H) H1 → Dr p H1 → tz D (σ.set i (some v)) H1) : tSeq (tAsg te (gName i)) tz D σ H := h H (wo_le p H) d _ k
theorem sx_ret (h : EvX K te σ p H P) (d : Dr p H) (k : ∀ v H1 d', P d' → noL d' = true → Dp K H1 v d' → Ex (wo p H) H1 → Dr p H1 → D.rt v H1) : tRet te D σ H := h H (wo_le p H) d _ k
/-- (a, b, c)[i] -/
theorem ev_ixD {xs : List V} {i : Nat} {x : V} (ha : EvU ta σ H xs) (hb : Ev tb σ H (.int (i : Int))) (hi : xs[i]? = some x) : Ev (tOp (rIxT K) ta tb) σ H x := fun H1 e Q q =>
  ha H1 e _ fun a H2 ha2 e2 h2 => hb H2 (e.trans e2) _ fun H3 e3 => rv_ixT (st_of (e3 _ _ h2)) (atI_nat hi) H3 (Ex.refl H3) Q fun H4 e4 => q H4 ((e2.trans e3).trans e4)
end
def CondD (w n : Nat) (d : PyData) : Prop := ∃ e : Cnd, d = e.d ∧ e.ok w ∧ e.dep ≤ n
def spR__law_condition : Nat → PySem.W.Frag → Sp
  | 0, _ => fun _ _ _ _ => False
  | n + 1, K => fun vs H Q _ => ∃ (p : Addr) (w dp : Nat), vs = [.ref p, .int (w : Int), .int (dp : Int)] ∧ Dr p H ∧ 0 < w ∧ w ≤ 1000 ∧ dp ≤ n ∧ ∀ v H' d, CondD w (dp + 2) d → noL d = true → Dp K H' v d → Ex (wo p H) H' → Dr p H' → Q v H'
def sp__law_condition (K : PySem.W.Frag) : Sp := spR__law_condition 4 K

--@SPLIT
/-! ### the three tables -/
def neg3 (x : V) : V := if x = .bl true then .bl false else if x = .bl false then .bl true else .non
def and3 (x y : V) : V := if x = .bl false ∨ y = .bl false then .bl false else if x = .bl true ∧ y = .bl true then .bl true else .non
def or3 (x y : V) : V := if x = .bl true ∨ y = .bl true then .bl true else if x = .bl false ∧ y = .bl false then .bl false else .non
def sp_negated (K : PySem.W.Frag) : Sp := fun vs H Q _ => ∃ x : V, vs = [x] ∧ ∀ H', Ex H H' → Q (neg3 x) H'
def sp_both (K : PySem.W.Frag) : Sp := fun vs H Q _ => ∃ x y : V, vs = [x, y] ∧ ∀ H', Ex H H' → Q (and3 x y) H'
def sp_either (K : PySem.W.Frag) : Sp := fun vs H Q _ => ∃ x y : V, vs = [x, y] ∧ ∀ H', Ex H H' → Q (or3 x y) H'
section
variable {P : Program} {w : World} {K : PySem.W.Frag} {mg : Str → Option Value} {base : Heap}
theorem ok_both (D : Dn K mg "both" s_both ["first", "second"]) :
    C8.Cal P w K mg base 1 "both" (sp_both K) [] := by
  refine cal_of D sc_both (fun vs H Q E h => ?_) (fun f cdv A outer s H vs Q E hr h => ?_)
  · obtain ⟨_, _, rfl, _⟩ := h
    rfl
  refine ⟨_, (pss_cons (ps_if (PW.pt (pw_or (pt_cmpR op_isTF (pv 0) pe_bl (nomark _)) (pw_or1 (pt_cmpR op_isTF (pv 1) pe_bl (nomark _)))))
      (pss_one (ps_ret pe_bl))
      pss_nil)
    (pss_cons (ps_if (PW.pt (pw_and (pt_cmpR op_isTF (pv 0) pe_bl (nomark _)) (pw_and1 (pt_cmpR op_isTF (pv 1) pe_bl (nomark _)))))
      (pss_one (ps_ret pe_bl))
      pss_nil)
    (pss_one (ps_ret pe_non)))), ?_⟩
  obtain ⟨x, y, rfl, q⟩ := h
  refine q_when (b := decide (x = .bl false) || decide (y = .bl false)) (by walk_at "et") (fun hb H1 e1 => s_ret (v := and3 x y) ?_ fun H2 e2 => q _ (e1.trans e2)) fun hb H1 e1 => ?_
  · refine ev_is ev_c ?_
    unfold and3
    rw [if_pos (by rw [Bool.or_eq_true, decide_eq_true_eq, decide_eq_true_eq] at hb; exact hb)]
  have nb : ¬ (x = .bl false ∨ y = .bl false) := by
    intro z
    rw [Bool.or_eq_false_iff, decide_eq_false_iff_not, decide_eq_false_iff_not] at hb
    exact z.elim hb.1 hb.2
  refine q_when (b := decide (x = .bl true) && decide (y = .bl true)) (by walk_at "et") (fun hc H2 e2 => s_ret (v := and3 x y) ?_ fun H3 e3 => q _ ((e1.trans e2).trans e3)) fun hc H2 e2 => s_ret (v := and3 x y) ?_ fun H3 e3 => q _ ((e1.trans e2).trans e3)
  · refine ev_is ev_c ?_
    unfold and3
    rw [if_neg nb, if_pos (by rw [Bool.and_eq_true, decide_eq_true_eq, decide_eq_true_eq] at hc; exact hc)]
  · refine ev_is ev_c ?_
    unfold and3
    rw [if_neg nb, if_neg (fun z => by rw [decide_eq_true z.1, decide_eq_true z.2] at hc; cases hc)]
theorem ok_either (D : Dn K mg "either" s_either ["first", "second"]) :
    C8.Cal P w K mg base 1 "either" (sp_either K) [] := by
  refine cal_of D sc_either (fun vs H Q E h => ?_) (fun f cdv A outer s H vs Q E hr h => ?_)
  · obtain ⟨_, _, rfl, _⟩ := h
    rfl
  refine ⟨_, (pss_cons (ps_if (PW.pt (pw_or (pt_cmpR op_isTF (pv 0) pe_bl (nomark _)) (pw_or1 (pt_cmpR op_isTF (pv 1) pe_bl (nomark _)))))
      (pss_one (ps_ret pe_bl))
      pss_nil)
    (pss_cons (ps_if (PW.pt (pw_and (pt_cmpR op_isTF (pv 0) pe_bl (nomark _)) (pw_and1 (pt_cmpR op_isTF (pv 1) pe_bl (nomark _)))))
      (pss_one (ps_ret pe_bl))
      pss_nil)
    (pss_one (ps_ret pe_non)))), ?_⟩
  obtain ⟨x, y, rfl, q⟩ := h
  refine q_when (b := decide (x = .bl true) || decide (y = .bl true)) (by walk_at "et") (fun hb H1 e1 => s_ret (v := or3 x y) ?_ fun H2 e2 => q _ (e1.trans e2)) fun hb H1 e1 => ?_
  · refine ev_is ev_c ?_
    unfold or3
    rw [if_pos (by rw [Bool.or_eq_true, decide_eq_true_eq, decide_eq_true_eq] at hb; exact hb)]
  have nb : ¬ (x = .bl true ∨ y = .bl true) := by
    intro z
    rw [Bool.or_eq_false_iff, decide_eq_false_iff_not, decide_eq_false_iff_not] at hb
    exact z.elim hb.1 hb.2
  refine q_when (b := decide (x = .bl false) && decide (y = .bl false)) (by walk_at "et") (fun hc H2 e2 => s_ret (v := or3 x y) ?_ fun H3 e3 => q _ ((e1.trans e2).trans e3)) fun hc H2 e2 => s_ret (v := or3 x y) ?_ fun H3 e3 => q _ ((e1.trans e2).trans e3)
  · refine ev_is ev_c ?_
    unfold or3
    rw [if_neg nb, if_pos (by rw [Bool.and_eq_true, decide_eq_true_eq, decide_eq_true_eq] at hc; exact hc)]
  · refine ev_is ev_c ?_
    unfold or3
    rw [if_neg nb, if_neg (fun z => by rw [decide_eq_true z.1, decide_eq_true z.2] at hc; cases hc)]
section
variable {σ : L2.St} {H : Hp} {ta tb : TE} {E : XK} {x y : V}
theorem ec_both (ha : Ev ta σ H x) (hb : Ev tb σ H y) : Ev (tCall (sp_both K) [] E (tCons ta (tCons tb tNil))) σ H (and3 x y) := ev_call (ea_cons ha (ea_cons hb ea_nil)) fun H1 e Q q E => ⟨x, y, rfl, q⟩
theorem ec_either (ha : Ev ta σ H x) (hb : Ev tb σ H y) : Ev (tCall (sp_either K) [] E (tCons ta (tCons tb tNil))) σ H (or3 x y) := ev_call (ea_cons ha (ea_cons hb ea_nil)) fun H1 e Q q E => ⟨x, y, rfl, q⟩
end
end

section
variable {P : Program} {w : World} {K : PySem.W.Frag} {mg : Str → Option Value} {base : Heap}
theorem ok_negated (D : Dn K mg "negated" s_negated ["value"]) :
    C8.Cal P w K mg base 1 "negated" (sp_negated K) [] := by
  refine cal_of D sc_negated (fun vs H Q E h => ?_) (fun f cdv A outer s H vs Q E hr h => ?_)
  · obtain ⟨_, rfl, _⟩ := h
    rfl
  refine ⟨_, (pss_cons (ps_if (pt_cmpR op_isTF (pv 0) pe_bl (nomark _))
      (pss_one (ps_ret pe_bl))
      pss_nil)
    (pss_cons (ps_if (pt_cmpR op_isTF (pv 0) pe_bl (nomark _))
      (pss_one (ps_ret pe_bl))
      pss_nil)
    (pss_one (ps_ret pe_non)))), ?_⟩
  obtain ⟨x, rfl, q⟩ := h
  refine q_when (b := decide (x = .bl true)) (by walk_at "et") (fun hb H1 e1 => s_ret (v := neg3 x) ?_ fun H2 e2 => q _ (e1.trans e2)) fun hb H1 e1 => ?_
  · refine ev_is ev_c ?_
    unfold neg3
    rw [if_pos (of_decide_eq_true hb)]
  refine q_when (b := decide (x = .bl false)) (by walk_at "et") (fun hc H2 e2 => s_ret (v := neg3 x) ?_ fun H3 e3 => q _ ((e1.trans e2).trans e3)) fun hc H2 e2 => s_ret (v := neg3 x) ?_ fun H3 e3 => q _ ((e1.trans e2).trans e3)
  · refine ev_is ev_c ?_
    unfold neg3
    rw [if_neg (of_decide_eq_false hb), if_pos (of_decide_eq_true hc)]
  · refine ev_is ev_c ?_
    unfold neg3
    rw [if_neg (of_decide_eq_false hb), if_neg (of_decide_eq_false hc)]

end
--@SPLIT
/-! ### what a condition is worth in a row -/
def bothOk (x y : V) : Prop := Ok x ∧ Ok y
def anyV (_ _ : V) : Prop := True
def sameV (x y : V) : V := .bl (PyData.eqv (rkD x) (rkD y))
def lessV (x y : V) : V := .bl (ltD (rkD x) (rkD y))
def mostV (x y : V) : V := .bl (!ltD (rkD y) (rkD x))
def alike (x y : V) : Bool := (!decide (x = .non)) && decide (V.int (kr x) = V.int (kr y))
def binV (nm : Str) (x y : V) : V :=
  if nm = "and" then and3 x y else if nm = "or" then or3 x y else if nm = "same" then sameV x y
  else if alike x y = true then (if nm = "equal" then sameV x y else if nm = "less" then lessV x y else mostV x y) else .non
def absV : V → V
  | .int i => .int (if i < 0 then -i else i)
  | _ => .non
def unV (nm : Str) (x : V) : V := if nm = "not" then neg3 x else if nm = "is null" then .bl (decide (x = .non)) else absV x
def evE (xs : List V) : Cnd → V
  | .col n => xs.getD n .non
  | .cst v => v
  | .un nm a => unV nm (evE xs a)
  | .bin nm a b => binV nm (evE xs a) (evE xs b)
theorem dv_ok {x : V} (h : DV x) : Ok x := by
  cases h with
  | non => exact .non
  | bl b => exact .bl b
  | int i _ => exact .int i
  | str l hl hc => exact .str _ (strOk_S fun c h => signs_ok c (hc c h))
theorem neg_ok (x : V) : Ok (neg3 x) := by unfold neg3; split; exact .bl _; split; exact .bl _; exact .non
theorem and_ok (x y : V) : Ok (and3 x y) := by unfold and3; split; exact .bl _; split; exact .bl _; exact .non
theorem or_ok (x y : V) : Ok (or3 x y) := by unfold or3; split; exact .bl _; split; exact .bl _; exact .non
theorem abs_ok (x : V) : Ok (absV x) := by cases x <;> first | exact .int _ | exact .non
theorem un_ok (nm : Str) (x : V) : Ok (unV nm x) := by unfold unV; split; exact neg_ok x; split; exact .bl _; exact abs_ok x
theorem Ok.pl0 {x : V} (h : Ok x) : Pl x := by cases h <;> constructor
theorem bin_ok (nm : Str) (x y : V) : Ok (binV nm x y) := by
  unfold binV
  split
  · exact and_ok x y
  split
  · exact or_ok x y
  split
  · exact .bl _
  split
  · split
    · exact .bl _
    split
    · exact .bl _
    · exact .bl _
  · exact .non
theorem row_ok {xs : List V} (h : ∀ x ∈ xs, Ok x) (n : Nat) : Ok (xs.getD n .non) := by
  rw [List.getD_eq_getElem?_getD]
  cases e : xs[n]? with
  | none => exact .non
  | some x => exact h x (List.mem_of_getElem? e)
theorem ev_ok {w : Nat} {xs : List V} (h : ∀ x ∈ xs, Ok x) : ∀ {e : Cnd}, e.ok w → Ok (evE xs e)
  | .col n, _ => row_ok h n
  | .cst v, .cst _ hv => dv_ok hv
  | .un nm a, _ => un_ok nm _
  | .bin nm a b, _ => bin_ok nm _ _
inductive Opr2 (P : Program) (w : World) (K : PySem.W.Frag) (mg : Str → Option Value) (base : Heap) (dA dL : Addr) : Str → V → V → V → Prop
  | any {nm : Str} {x y : V} {f : Addr} {pre : V → V → Prop} {op : V → V → V} : PySem.W.nsIn K dA nm = some (some (.ref f)) → L2.Held P w K mg base 4 f (spBin pre op) → pre x y → Opr2 P w K mg base dA dL nm x y (op x y)
  | alike {nm : Str} {x y : V} {f : Addr} {op : V → V → V} : PySem.W.nsIn K dA nm = some none → PySem.W.nsIn K dL nm = some (some (.ref f)) → L2.Held P w K mg base 4 f (spBin bothOk op) → Opr2 P w K mg base dA dL nm x y (if alike x y = true then op x y else .non)
theorem rv_inKD {K : PySem.W.Frag} {d : Addr} {z : Str} {r : Option Value} {H : Hp} (e : PySem.W.nsIn K d z = some r) : RV (fun x y H Q => ∃ (z : Str) (r : Option Value), x = .str z ∧ y = .ref d ∧ PySem.W.nsIn K d z = some r ∧ Q (.bl r.isSome) H) (.str z) (.ref d) H (.bl r.isSome) :=
  fun H1 _ _ q => ⟨z, r, rfl, rfl, e, q H1 (Ex.refl H1)⟩
theorem rv_ixKD {K : PySem.W.Frag} {w : World} {d : Addr} {es : Array DictEntry} {n : Nat} {z : Str} {u : Value} {v : V} {H : Hp} (D : KDict K w d es n) (e : PySem.W.nsIn K d z = some (some u)) (r : RelV v u) : RV (rIxD K w) (.ref d) (.str z) H v :=
  fun H1 _ _ q => ⟨d, z, v, rfl, rfl, ⟨es, n, u, D.at_, D.lit, e, r⟩, q H1 (Ex.refl H1)⟩
theorem dp_tupD {K : PySem.W.Frag} {H : Hp} {v : V} {ds : List PyData} (h : Dp K H v (.tuple ds)) : ∃ b ys, v = .ref b ∧ SqT K H b ys ∧ DpAll K H ys ds := by
  cases h with
  | tup hS hd => exact ⟨_, _, rfl, hS, hd⟩
theorem dp_strD {K : PySem.W.Frag} {H : Hp} {v : V} {s : Str} (h : Dp K H v (.str s)) : v = .str s := by cases h; rfl
theorem dp_intD {K : PySem.W.Frag} {H : Hp} {v : V} {n : Int} (h : Dp K H v (.int n)) : v = .int n := by cases h; rfl
def sp__both (K : PySem.W.Frag) : Sp := spBin anyV and3
def sp__either (K : PySem.W.Frag) : Sp := spBin anyV or3
def sp__same (K : PySem.W.Frag) : Sp := spBin bothOk sameV
def sp__equal (K : PySem.W.Frag) : Sp := spBin bothOk sameV
def sp__less (K : PySem.W.Frag) : Sp := spBin bothOk lessV
def sp__at_most (K : PySem.W.Frag) : Sp := spBin bothOk mostV
def sp__are_alike (K : PySem.W.Frag) : Sp := fun vs H Q _ => ∃ x y : V, vs = [x, y] ∧ Ok x ∧ Ok y ∧ ∀ H', Ex H H' → Q (.bl (alike x y)) H'
def sp_value_of_two (K : PySem.W.Frag) : Sp := fun vs H Q _ => ∃ (nm : Str) (x y : V), vs = [.str nm, x, y] ∧ nm ∈ binNames ∧ Ok x ∧ Ok y ∧ ∀ H', Ex H H' → Q (binV nm x y) H'
abbrev sp_binary (K : PySem.W.Frag) : Sp := sp_value_of_two K
def sp__size (K : PySem.W.Frag) : Sp := fun vs H Q _ => ∃ i : Int, vs = [.int i] ∧ ∀ H', Ex H H' → Q (.int (if i < 0 then -i else i)) H'
def sp_value_of_one (K : PySem.W.Frag) : Sp := fun vs H Q _ => ∃ (nm : Str) (x : V), vs = [.str nm, x] ∧ nm ∈ unNames ∧ Ok x ∧ ∀ H', Ex H H' → Q (unV nm x) H'
abbrev sp_unary (K : PySem.W.Frag) : Sp := sp_value_of_one K
/-- a condition as data, of names that are known, n deep at most -/
def CxAt (K : PySem.W.Frag) (H : Hp) (v : V) (e : Cnd) (n : Nat) : Prop := Dp K H v e.d ∧ e.dep ≤ n ∧ ∃ w, e.ok w
theorem CxAt.ex {K : PySem.W.Frag} {H H' : Hp} {v : V} {e : Cnd} {n : Nat} (h : CxAt K H v e n) (x : Ex H H') : CxAt K H' v e n := ⟨ex_dp x h.1, h.2⟩
def spR_evaluate : Nat → PySem.W.Frag → Sp
  | 0, _ => fun _ _ _ _ => False
  | n + 1, K => fun vs H Q _ => ∃ (v : V) (e : Cnd) (a : Addr) (xs : List V), vs = [v, .ref a] ∧ CxAt K H v e (n + 1) ∧ SqL K H a xs ∧ (∀ x ∈ xs, Ok x) ∧ xs.length ≤ 1000 ∧ ∀ H', Ex H H' → Q (evE xs e) H'
def sp_evaluate (K : PySem.W.Frag) : Sp := spR_evaluate 8 K
def sp_holds (K : PySem.W.Frag) : Sp := fun vs H Q _ => ∃ (v : V) (e : Cnd) (a : Addr) (xs : List V), vs = [v, .ref a] ∧ CxAt K H v e 8 ∧ SqL K H a xs ∧ (∀ x ∈ xs, Ok x) ∧ xs.length ≤ 1000 ∧ ∀ H', Ex H H' → Q (.bl (decide (evE xs e = .bl true))) H'
section
variable {P : Program} {w : World} {K : PySem.W.Frag} {mg : Str → Option Value} {base : Heap}
section
variable {σ : L2.St} {H : Hp} {ta tb tc : TE} {E : XK} {x y v : V} {nm : Str} {e : Cnd} {n : Nat} {a : Addr} {xs : List V}
theorem ec_alike (ha : Ev ta σ H x) (hb : Ev tb σ H y) (h1 : Ok x) (h2 : Ok y) : Ev (tCall (sp__are_alike K) [] E (tCons ta (tCons tb tNil))) σ H (.bl (alike x y)) := ev_call (ea_cons ha (ea_cons hb ea_nil)) fun H1 e Q q E => ⟨x, y, rfl, h1, h2, q⟩
theorem ec_neg3 (ha : Ev ta σ H x) : Ev (tCall (sp_negated K) [] E (tCons ta tNil)) σ H (neg3 x) := ev_call (ea_cons ha ea_nil) fun H1 e Q q E => ⟨x, rfl, q⟩
theorem ec_two (h : nm ∈ binNames) (h1 : Ok x) (h2 : Ok y) (ha : Ev ta σ H (.str nm)) (hb : Ev tb σ H x) (hc : Ev tc σ H y) : Ev (tCall (sp_value_of_two K) [] E (tCons ta (tCons tb (tCons tc tNil)))) σ H (binV nm x y) := ev_call (ea_cons ha (ea_cons hb (ea_cons hc ea_nil))) fun H1 e Q q E => ⟨nm, x, y, rfl, h, h1, h2, q⟩
theorem ec_one (h : nm ∈ unNames) (h1 : Ok x) (ha : Ev ta σ H (.str nm)) (hb : Ev tb σ H x) : Ev (tCall (sp_value_of_one K) [] E (tCons ta (tCons tb tNil))) σ H (unV nm x) := ev_call (ea_cons ha (ea_cons hb ea_nil)) fun H1 e Q q E => ⟨nm, x, rfl, h, h1, q⟩
theorem ec_evalR (ha : Ev ta σ H v) (hb : Ev tb σ H (.ref a)) (he : CxAt K H v e (n + 1)) (hS : SqL K H a xs) (hx : ∀ x ∈ xs, Ok x) (hl : xs.length ≤ 1000) : Ev (tCall (spR_evaluate (n + 1) K) [] E (tCons ta (tCons tb tNil))) σ H (evE xs e) := ev_call (ea_cons ha (ea_cons hb ea_nil)) fun H1 e1 Q q E => ⟨v, e, a, xs, rfl, he.ex e1, ex_l e1 hS, hx, hl, q⟩
theorem ec_eval (ha : Ev ta σ H v) (hb : Ev tb σ H (.ref a)) (he : CxAt K H v e 8) (hS : SqL K H a xs) (hx : ∀ x ∈ xs, Ok x) (hl : xs.length ≤ 1000) : Ev (tCall (sp_evaluate K) [] E (tCons ta (tCons tb tNil))) σ H (evE xs e) := ec_evalR ha hb he hS hx hl
theorem ec_holds (ha : Ev ta σ H v) (hb : Ev tb σ H (.ref a)) (he : CxAt K H v e 8) (hS : SqL K H a xs) (hx : ∀ x ∈ xs, Ok x) (hl : xs.length ≤ 1000) : Ev (tCall (sp_holds K) [] E (tCons ta (tCons tb tNil))) σ H (.bl (decide (evE xs e = .bl true))) := ev_call (ea_cons ha (ea_cons hb ea_nil)) fun H1 e1 Q q E => ⟨v, e, a, xs, rfl, he.ex e1, ex_l e1 hS, hx, hl, q⟩
end
theorem ok__both (D : Dn K mg "_both" s__both ["first", "second"]) (c_both : C8.Cal P w K mg base 1 "both" (sp_both K) []) :
    C8.Cal P w K mg base 2 "_both" (sp__both K) [] := by
  refine cal_of D sc__both (fun vs H Q E h => ?_) (fun f cdv A outer s H vs Q E hr h => ?_)
  · obtain ⟨_, _, rfl, _⟩ := h
    rfl
  refine ⟨_, (pss_one (ps_ret (C8.pe_c c_both hr (by decide) (by rfl) (pa_cons (pv 0) (pa_cons (pv 1) pa_nil))))), ?_⟩
  obtain ⟨x, y, rfl, _, q⟩ := h
  exact s_ret (ec_both (ev_var rfl) (ev_var rfl)) fun H2 e2 => q _ e2
theorem ok__either (D : Dn K mg "_either" s__either ["first", "second"]) (c_either : C8.Cal P w K mg base 1 "either" (sp_either K) []) :
    C8.Cal P w K mg base 2 "_either" (sp__either K) [] := by
  refine cal_of D sc__either (fun vs H Q E h => ?_) (fun f cdv A outer s H vs Q E hr h => ?_)
  · obtain ⟨_, _, rfl, _⟩ := h
    rfl
  refine ⟨_, (pss_one (ps_ret (C8.pe_c c_either hr (by decide) (by rfl) (pa_cons (pv 0) (pa_cons (pv 1) pa_nil))))), ?_⟩
  obtain ⟨x, y, rfl, _, q⟩ := h
  exact s_ret (ec_either (ev_var rfl) (ev_var rfl)) fun H2 e2 => q _ e2
theorem ok__same (D : Dn K mg "_same" s__same ["first", "second"]) (c_same : C8.Cal P w K mg base 3 "same" (sp_same K) []) :
    C8.Cal P w K mg base 4 "_same" (sp__same K) [] := by
  refine cal_of D sc__same (fun vs H Q E h => ?_) (fun f cdv A outer s H vs Q E hr h => ?_)
  · obtain ⟨_, _, rfl, _⟩ := h
    rfl
  refine ⟨_, (pss_one (ps_ret (C8.pe_c c_same hr (by decide) (by rfl) (pa_cons (pv 0) (pa_cons (pv 1) pa_nil))))), ?_⟩
  obtain ⟨x, y, rfl, ⟨hx, hy⟩, q⟩ := h
  exact s_ret (ec_same (ev_var rfl) (ev_var rfl) hx hy) fun H2 e2 => q _ e2
theorem ok__equal (D : Dn K mg "_equal" s__equal ["first", "second"]) (c_same : C8.Cal P w K mg base 3 "same" (sp_same K) []) :
    C8.Cal P w K mg base 4 "_equal" (sp__equal K) [] := by
  refine cal_of D sc__equal (fun vs H Q E h => ?_) (fun f cdv A outer s H vs Q E hr h => ?_)
  · obtain ⟨_, _, rfl, _⟩ := h
    rfl
  refine ⟨_, (pss_one (ps_ret (C8.pe_c c_same hr (by decide) (by rfl) (pa_cons (pv 0) (pa_cons (pv 1) pa_nil))))), ?_⟩
  obtain ⟨x, y, rfl, ⟨hx, hy⟩, q⟩ := h
  exact s_ret (ec_same (ev_var rfl) (ev_var rfl) hx hy) fun H2 e2 => q _ e2
theorem ok__less (D : Dn K mg "_less" s__less ["first", "second"]) (c_before : C8.Cal P w K mg base 3 "before" (sp_before K) []) :
    C8.Cal P w K mg base 4 "_less" (sp__less K) [] := by
  refine cal_of D sc__less (fun vs H Q E h => ?_) (fun f cdv A outer s H vs Q E hr h => ?_)
  · obtain ⟨_, _, rfl, _⟩ := h
    rfl
  refine ⟨_, (pss_one (ps_ret (C8.pe_c c_before hr (by decide) (by rfl) (pa_cons (pv 0) (pa_cons (pv 1) pa_nil))))), ?_⟩
  obtain ⟨x, y, rfl, ⟨hx, hy⟩, q⟩ := h
  exact s_ret (ec_before (ev_var rfl) (ev_var rfl) hx hy) fun H2 e2 => q _ e2
theorem ok__at_most (D : Dn K mg "_at_most" s__at_most ["first", "second"]) (c_before : C8.Cal P w K mg base 3 "before" (sp_before K) []) :
    C8.Cal P w K mg base 4 "_at_most" (sp__at_most K) [] := by
  refine cal_of D sc__at_most (fun vs H Q E h => ?_) (fun f cdv A outer s H vs Q E hr h => ?_)
  · obtain ⟨_, _, rfl, _⟩ := h
    rfl
  refine ⟨_, (pss_one (ps_ret (pe_not (C8.pe_c c_before hr (by decide) (by rfl) (pa_cons (pv 1) (pa_cons (pv 0) pa_nil)))))), ?_⟩
  obtain ⟨x, y, rfl, ⟨hx, hy⟩, q⟩ := h
  exact s_ret (ev_notV (ec_before (ev_var rfl) (ev_var rfl) hy hx)) fun H2 e2 => q _ e2
theorem ok__are_alike (D : Dn K mg "_are_alike" s__are_alike ["first", "second"]) (c_kind_rank : C8.Cal P w K mg base 1 "kind_rank" (sp_kind_rank K) []) :
    C8.Cal P w K mg base 2 "_are_alike" (sp__are_alike K) [] := by
  refine cal_of D sc__are_alike (fun vs H Q E h => ?_) (fun f cdv A outer s H vs Q E hr h => ?_)
  · obtain ⟨_, _, rfl, _⟩ := h
    rfl
  refine ⟨_, (pss_one (ps_ret (pe_and (pe_cmpR op_notN (pv 0) pe_non (nomark _)) (pe_one (pe_cmpR op_eq (C8.pe_c c_kind_rank hr (by decide) (by rfl) (pa_cons (pv 0) pa_nil)) (C8.pe_c c_kind_rank hr (by decide) (by rfl) (pa_cons (pv 1) pa_nil)) (nomark _)))))), ?_⟩
  obtain ⟨x, y, rfl, hx, hy, q⟩ := h
  exact s_ret (ev_andV (ev_op (ev_var rfl) ev_c rv_notN) fun _ => ev_op (ec_kr (ev_var rfl) hx) (ec_kr (ev_var rfl) hy) (rv_eq rfl)) fun H2 e2 => q _ e2
theorem ok_value_of_two (D : Dn K mg "value_of_two" s_value_of_two ["name", "first", "second"]) (c__are_alike : C8.Cal P w K mg base 2 "_are_alike" (sp__are_alike K) []) {p__OF_ALIKE : Addr} {es__OF_ALIKE : Array DictEntry} {n__OF_ALIKE : Nat} (g__OF_ALIKE : ∃ u, mg "_OF_ALIKE" = some u ∧ RelV (.ref p__OF_ALIKE) u) (h__OF_ALIKE : KDict K w p__OF_ALIKE es__OF_ALIKE n__OF_ALIKE) {p__OF_ANY : Addr} {es__OF_ANY : Array DictEntry} {n__OF_ANY : Nat} (g__OF_ANY : ∃ u, mg "_OF_ANY" = some u ∧ RelV (.ref p__OF_ANY) u) (h__OF_ANY : KDict K w p__OF_ANY es__OF_ANY n__OF_ANY) (tab : ∀ nm x y, nm ∈ binNames → Ok x → Ok y → Opr2 P w K mg base p__OF_ANY p__OF_ALIKE nm x y (binV nm x y)) :
    C8.Cal P w K mg base 5 "value_of_two" (sp_value_of_two K) [] := by
  refine cal_of D sc_value_of_two (fun vs H Q E h => ?_) (fun f cdv A outer s H vs Q E hr h => ?_)
  · obtain ⟨_, _, _, rfl, _⟩ := h
    rfl
  refine ⟨_, (pss_cons (ps_if (pt_cmpR (op_in_kd h__OF_ANY) (pv 0) (C8.pe_gc rfl g__OF_ANY) (by with_unfolding_all rfl))
      (pss_cons (ps_set (i := 3) sc_value_of_two.nd rfl (.inl rfl) (pe_ix ix_kdict (C8.pe_gc rfl g__OF_ANY) (pv 0) (fun _ _ => rfl)))
    (pss_one (ps_ret (pe_callH (i := 3) hr rfl (Or.inl rfl) (pa_cons (pv 1) (pa_cons (pv 2) pa_nil))))))
      pss_nil)
    (pss_cons (ps_if (pt_cmpR (op_in_kd h__OF_ALIKE) (pv 0) (C8.pe_gc rfl g__OF_ALIKE) (by with_unfolding_all rfl))
      (pss_cons (ps_set (i := 3) sc_value_of_two.nd rfl (.inl rfl) (pe_ix ix_kdict (C8.pe_gc rfl g__OF_ALIKE) (pv 0) (fun _ _ => rfl)))
    (pss_one (ps_ret (pe_ifExp (pt_val (C8.pe_c c__are_alike hr (by decide) (by rfl) (pa_cons (pv 1) (pa_cons (pv 2) pa_nil)))) (pe_callH (i := 3) hr rfl (Or.inl rfl) (pa_cons (pv 1) (pa_cons (pv 2) pa_nil))) pe_non))))
      pss_nil)
    (pss_cons ps_never
    (pss_cons ps_never
    (pss_cons ps_never
    (pss_one ps_never)))))), ?_⟩
  obtain ⟨nm, x, y, rfl, hnm, hx, hy, q⟩ := h
  have T := tab nm x y hnm hx hy
  have no : ∀ {d : Addr} {H0 : Hp}, PySem.W.nsIn K d nm = some none → EvT (tTest (tOp (fun x y H Q => ∃ (z : Str) (r : Option Value), x = .str z ∧ y = .ref d ∧ PySem.W.nsIn K d z = some r ∧ Q (.bl r.isSome) H) (tVar 0) (tC (.ref d)))) (start n_value_of_two [.str nm, x, y]) H0 false := fun e => et_test (ev_op (ev_var rfl) ev_c (rv_inKD e))
  have yes : ∀ {d f : Addr} {H0 : Hp}, PySem.W.nsIn K d nm = some (some (.ref f)) → EvT (tTest (tOp (fun x y H Q => ∃ (z : Str) (r : Option Value), x = .str z ∧ y = .ref d ∧ PySem.W.nsIn K d z = some r ∧ Q (.bl r.isSome) H) (tVar 0) (tC (.ref d)))) (start n_value_of_two [.str nm, x, y]) H0 true := fun e => et_test (ev_op (ev_var rfl) ev_c (rv_inKD e))
  generalize binV nm x y = z at T q
  cases T with
  | any e1 hh hp =>
    refine q_when (yes e1) (fun _ H1 x1 => ?_) fun hb => nomatch hb
    refine q_asg (ev_op ev_c (ev_var rfl) (rv_ixKD (v := .ref _) h__OF_ANY e1 rfl)) fun H2 x2 => ?_
    exact s_ret (ec_held rfl hh hp (ev_var rfl) (ev_var rfl)) fun H3 x3 => q _ ((x1.trans x2).trans x3)
  | alike e1 e2 hh =>
    refine q_when (no e1) (fun hb => nomatch hb) fun _ H1 x1 => ?_
    refine q_when (yes e2) (fun _ H2 x2 => ?_) fun hb => nomatch hb
    refine q_asg (ev_op ev_c (ev_var rfl) (rv_ixKD (v := .ref _) h__OF_ALIKE e2 rfl)) fun H3 x3 => ?_
    refine s_ret (ev_if (et_B (ec_alike (ev_var rfl) (ev_var rfl) hx hy)) (fun hb => ?_) fun hb => ?_) fun H4 x4 => q _ (((x1.trans x2).trans x3).trans x4)
    · exact ev_is (ec_held rfl hh ⟨hx, hy⟩ (ev_var rfl) (ev_var rfl)) (by rw [if_pos hb])
    · exact ev_is ev_c (by rw [if_neg (by rw [hb]; decide)])
theorem ok_binary (D : Dn K mg "binary" s_binary ["name", "first", "second"]) (c_value_of_two : C8.Cal P w K mg base 5 "value_of_two" (sp_value_of_two K) []) :
    C8.Cal P w K mg base 6 "binary" (sp_binary K) [] := by
  refine cal_of D sc_binary (fun vs H Q E h => ?_) (fun f cdv A outer s H vs Q E hr h => ?_)
  · obtain ⟨_, _, _, rfl, _⟩ := h
    rfl
  refine ⟨_, (pss_one (ps_ret (C8.pe_c c_value_of_two hr (by decide) (by rfl) (pa_cons (pv 0) (pa_cons (pv 1) (pa_cons (pv 2) pa_nil)))))), ?_⟩
  obtain ⟨nm, x, y, rfl, hnm, hx, hy, q⟩ := h
  exact s_ret (ec_two hnm hx hy (ev_var rfl) (ev_var rfl) (ev_var rfl)) fun H2 e2 => q _ e2
theorem ok__size (D : Dn K mg "_size" s__size ["number"]) (z_abs : mg "abs" = none) :
    C8.Cal P w K mg base 1 "_size" (sp__size K) [] := by
  refine cal_of D sc__size (fun vs H Q E h => ?_) (fun f cdv A outer s H vs Q E hr h => ?_)
  · obtain ⟨_, rfl, _⟩ := h
    rfl
  refine ⟨_, (pss_one (ps_ret (pe_callB call_abs (by rfl) z_abs (by decide +kernel) (pa_cons (pv 0) pa_nil)))), ?_⟩
  obtain ⟨i, rfl, q⟩ := h
  exact s_ret (ev_abs (ev_var rfl)) fun H1 e1 => q H1 e1
theorem ok_value_of_one (D : Dn K mg "value_of_one" s_value_of_one ["name", "value"]) (c_is_integer : C8.Cal P w K mg base 1 "is_integer" (sp_is_integer K) []) (c_negated : C8.Cal P w K mg base 1 "negated" (sp_negated K) []) {p_OF_INTEGERS_of_one : Addr} {es_OF_INTEGERS_of_one : Array DictEntry} {n_OF_INTEGERS_of_one : Nat} (g_OF_INTEGERS_of_one : ∃ u, mg "OF_INTEGERS_of_one" = some u ∧ RelV (.ref p_OF_INTEGERS_of_one) u) (h_OF_INTEGERS_of_one : KDict K w p_OF_INTEGERS_of_one es_OF_INTEGERS_of_one n_OF_INTEGERS_of_one) {fS : Addr} (eS : PySem.W.nsIn K p_OF_INTEGERS_of_one "abs" = some (some (.ref fS))) (hS : L2.Held P w K mg base 4 fS (sp__size K)) :
    C8.Cal P w K mg base 5 "value_of_one" (sp_value_of_one K) [] := by
  refine cal_of D sc_value_of_one (fun vs H Q E h => ?_) (fun f cdv A outer s H vs Q E hr h => ?_)
  · obtain ⟨_, _, rfl, _⟩ := h
    rfl
  refine ⟨_, (pss_cons (ps_if (pt_cmpR op_eq (pv 0) pe_str (nomark _))
      (pss_one (ps_ret (C8.pe_c c_negated hr (by decide) (by rfl) (pa_cons (pv 1) pa_nil))))
      pss_nil)
    (pss_cons (ps_if (pt_cmpR op_eq (pv 0) pe_str (nomark _))
      (pss_one (ps_ret (pe_cmpR op_isN (pv 1) pe_non (nomark _))))
      pss_nil)
    (pss_cons (ps_if (pt_cmpR (op_in_kd h_OF_INTEGERS_of_one) (pv 0) (C8.pe_gc rfl g_OF_INTEGERS_of_one) (by with_unfolding_all rfl))
      (pss_cons (ps_set (i := 2) sc_value_of_one.nd rfl (.inl rfl) (pe_ix ix_kdict (C8.pe_gc rfl g_OF_INTEGERS_of_one) (pv 0) (fun _ _ => rfl)))
    (pss_one (ps_ret (pe_ifExp (pt_val (C8.pe_c c_is_integer hr (by decide) (by rfl) (pa_cons (pv 1) pa_nil))) (pe_callH (i := 2) hr rfl (Or.inl rfl) (pa_cons (pv 1) pa_nil)) pe_non))))
      pss_nil)
    (pss_cons ps_never
    (pss_cons ps_never
    (pss_one ps_never)))))), ?_⟩
  obtain ⟨nm, x, rfl, hnm, hx, q⟩ := h
  simp only [unNames, List.mem_cons, List.not_mem_nil, or_false] at hnm
  rcases hnm with rfl | rfl | rfl
  · exact q_when (b := true) (et_test (ev_is (ev_op (ev_var rfl) ev_c (rv_eq rfl)) (by decide +kernel))) (fun _ H1 e1 => s_ret (v := unV "not" x) (ec_neg3 (ev_var rfl)) fun H2 e2 => q H2 (e1.trans e2)) fun h => nomatch h
  · refine q_when (b := false) (et_test (ev_is (ev_op (ev_var rfl) ev_c (rv_eq rfl)) (by decide +kernel))) (fun h => nomatch h) fun _ H1 e1 => ?_
    exact q_when (b := true) (et_test (ev_is (ev_op (ev_var rfl) ev_c (rv_eq rfl)) (by decide +kernel))) (fun _ H2 e2 => s_ret (v := unV "is null" x) (ev_is (ev_op (ev_var rfl) ev_c rv_isN) rfl) fun H3 e3 => q H3 ((e1.trans e2).trans e3)) fun h => nomatch h
  · refine q_when (b := false) (et_test (ev_is (ev_op (ev_var rfl) ev_c (rv_eq rfl)) (by decide +kernel))) (fun h => nomatch h) fun _ H1 e1 => ?_
    refine q_when (b := false) (et_test (ev_is (ev_op (ev_var rfl) ev_c (rv_eq rfl)) (by decide +kernel))) (fun h => nomatch h) fun _ H2 e2 => ?_
    refine q_when (b := true) (et_test (ev_op (ev_var rfl) ev_c (rv_inKD eS))) (fun _ H3 e3 => ?_) fun h => nomatch h
    refine q_asg (ev_op ev_c (ev_var rfl) (rv_ixKD (v := .ref fS) h_OF_INTEGERS_of_one eS rfl)) fun H4 e4 => ?_
    have hv : unV "abs" x = absV x := by unfold unV; rw [if_neg (by decide +kernel), if_neg (by decide +kernel)]
    refine s_ret (v := unV "abs" x) (ev_if (et_B (ec_isint0 (ev_var rfl) hx.pl0)) (fun hb => ?_) fun hb => ?_) fun H5 e5 => q H5 ((e1.trans e2).trans ((e3.trans e4).trans e5))
    · rw [hv]
      cases hx with
      | int i => exact fun H6 e6 Q q => ⟨fS, _, rfl, hS, .int i, rfl, i, rfl, fun H7 e7 => q H7 e7⟩
      | _ => simp [isInt] at hb
    · rw [hv]
      cases hx with
      | int i => simp [isInt] at hb
      | _ => exact ev_c
theorem ok_unary (D : Dn K mg "unary" s_unary ["name", "value"]) (c_value_of_one : C8.Cal P w K mg base 5 "value_of_one" (sp_value_of_one K) []) :
    C8.Cal P w K mg base 6 "unary" (sp_unary K) [] := by
  refine cal_of D sc_unary (fun vs H Q E h => ?_) (fun f cdv A outer s H vs Q E hr h => ?_)
  · obtain ⟨_, _, rfl, _⟩ := h
    rfl
  refine ⟨_, (pss_one (ps_ret (C8.pe_c c_value_of_one hr (by decide) (by rfl) (pa_cons (pv 0) (pa_cons (pv 1) pa_nil))))), ?_⟩
  obtain ⟨nm, x, rfl, hnm, hx, q⟩ := h
  exact s_ret (ec_one hnm hx (ev_var rfl) (ev_var rfl)) fun H2 e2 => q _ e2
theorem ok_evaluate {rn : Nat} (D : Dn K mg "evaluate" s_evaluate ["expression", "row"]) (c_binary : C8.Cal P w K mg base 6 "binary" (sp_binary K) []) (c_unary : C8.Cal P w K mg base 6 "unary" (sp_unary K) []) (z_len : mg "len" = none) (c_evaluate : C8.Cal P w K mg base (7 + rn) "evaluate" (spR_evaluate rn K) []) :
    C8.Cal P w K mg base (7 + rn + 1) "evaluate" (spR_evaluate (rn + 1) K) [] := by
  refine cal_of D sc_evaluate (fun vs H Q E h => ?_) (fun f cdv A outer s H vs Q E hr h => ?_)
  · obtain ⟨_, _, _, _, rfl, _⟩ := h
    rfl
  refine ⟨_, (pss_cons (ps_set (i := 2) sc_evaluate.nd rfl (.inl rfl) (pe_ix ix_tup (pv 0) pe_int (fun _ _ => rfl)))
    (pss_cons (ps_if (pt_cmpR op_eq (pv 2) pe_str (nomark _))
      (pss_one (ps_ret (pe_ix ix_tup (pv 0) pe_int (fun _ _ => rfl))))
      pss_nil)
    (pss_cons (ps_if (pt_cmpR op_eq (pv 2) pe_str (nomark _))
      (pss_cons (ps_set (i := 3) sc_evaluate.nd rfl (.inl rfl) (pe_ix ix_tup (pv 0) pe_int (fun _ _ => rfl)))
    (pss_one (ps_ret (pe_ifExp (pt_cmpR op_lt (pv 3) (pe_callB call_len_seq (by rfl) z_len PySem.boot_len (pa_cons (pv 1) pa_nil)) (nomark _)) (pe_ix ix_list (pv 1) (pv 3) (fun _ _ => rfl)) pe_non))))
      pss_nil)
    (pss_cons (ps_if (pt_cmpR op_eq (pv 2) pe_str (nomark _))
      (pss_one (ps_ret (C8.pe_c c_unary hr (by omega) (by rfl) (pa_cons (pe_ix ix_tup (pv 0) pe_int (fun _ _ => rfl)) (pa_cons (C8.pe_c c_evaluate hr (Nat.le_refl _) (by rfl) (pa_cons (pe_ix ix_tup (pv 0) pe_int (fun _ _ => rfl)) (pa_cons (pv 1) pa_nil))) pa_nil)))))
      pss_nil)
    (pss_cons (ps_if (pt_cmpR op_eq (pv 2) pe_str (nomark _))
      (pss_one (ps_ret (C8.pe_c c_binary hr (by omega) (by rfl) (pa_cons (pe_ix ix_tup (pv 0) pe_int (fun _ _ => rfl)) (pa_cons (C8.pe_c c_evaluate hr (Nat.le_refl _) (by rfl) (pa_cons (pe_ix ix_tup (pv 0) pe_int (fun _ _ => rfl)) (pa_cons (pv 1) pa_nil))) (pa_cons (C8.pe_c c_evaluate hr (Nat.le_refl _) (by rfl) (pa_cons (pe_ix ix_tup (pv 0) pe_int (fun _ _ => rfl)) (pa_cons (pv 1) pa_nil))) pa_nil))))))
      pss_nil)
    (pss_cons ps_never
    (pss_cons ps_never
    (pss_one ps_never)))))))), ?_⟩
  obtain ⟨v, e, a, xs, rfl, ⟨hd, hdep, wd, hok⟩, hS, hx, hl, q⟩ := h
  have form : ∀ {σ : L2.St} {H0 : Hp} {s t : Str} {b : Bool}, σ[2]? = some (some (.str s)) → decide (V.str s = V.str t) = b → EvT (tTest (tOp rEq (tVar 2) (tC (.str t)))) σ H0 b := fun h0 hb => et_test (ev_is (ev_op (ev_var h0) ev_c (rv_eq rfl)) (by rw [hb]))
  cases hok with
  | col n hn =>
    obtain ⟨b, ys, rfl, hT, hds⟩ := dp_tupD hd
    cases hds with | cons h1 hds =>
    cases hds with | cons h2 hds =>
    cases hds
    cases h1
    cases h2
    have ix : ∀ {σ : L2.St} {H0 : Hp} {i : Nat} {x : V}, σ[0]? = some (some (.ref b)) → Ex H H0 → ([V.str "column", .int (n : Int)] : List V)[i]? = some x → Ev (tOp (rIxT K) (tVar 0) (tC (.int (i : Int)))) σ H0 x := fun h0 e0 hi => ev_op (ev_var h0) ev_c (rv_ixT (ex_t e0 hT) (atI_nat hi))
    refine q_asg (ix (i := 0) rfl (Ex.refl H) rfl) fun H1 e1 => ?_
    refine q_when (form rfl (show decide (V.str "column" = V.str "constant") = false by decide +kernel)) (fun h => nomatch h) fun _ H2 e2 => ?_
    refine q_when (form rfl (show decide (V.str "column" = V.str "column") = true by decide +kernel)) (fun _ H3 e3 => ?_) fun h => nomatch h
    refine q_asg (ix (i := 1) rfl ((e1.trans e2).trans e3) rfl) fun H4 e4 => ?_
    have x4 := ((e1.trans e2).trans e3).trans e4
    refine s_ret (v := evE xs (.col n)) (ev_if (b := decide ((n : Int) < (xs.length : Int))) (et_test (ev_op (ev_var rfl) (ev_len (ev_var rfl) (ex_l x4 hS)) rv_I0)) (fun hb => ?_) fun hb => ?_) fun H5 e5 => q H5 (x4.trans e5)
    · have hlt : n < xs.length := by have := of_decide_eq_true hb; omega
      exact ev_op (ev_var rfl) (ev_var rfl) (rv_ixL (ex_l x4 hS) (atI_nat (by rw [List.getElem?_eq_getElem hlt]; show some xs[n] = some (xs.getD n .non); rw [List.getD_eq_getElem?_getD, List.getElem?_eq_getElem hlt]; rfl)))
    · have hlt : ¬ n < xs.length := by have := of_decide_eq_false hb; omega
      refine ev_is ev_c ?_
      show V.non = xs.getD n .non
      rw [List.getD_eq_getElem?_getD, List.getElem?_eq_none (by omega)]
      rfl
  | cst c hc =>
    obtain ⟨b, ys, rfl, hT, hds⟩ := dp_tupD hd
    cases hds with | cons h1 hds =>
    cases hds with | cons h2 hds =>
    cases hds
    cases h1
    obtain rfl := vDc_is hc.pl h2
    refine q_asg (v := .str "constant") (ev_op (ev_var rfl) ev_c (rv_ixT hT (atI_nat (j := 0) rfl))) fun H1 e1 => ?_
    refine q_when (form rfl (show decide (V.str "constant" = V.str "constant") = true by decide +kernel)) (fun _ H2 e2 => ?_) fun h => nomatch h
    exact s_ret (ev_op (ev_var rfl) ev_c (rv_ixT (ex_t (e1.trans e2) hT) (atI_nat (j := 1) rfl))) fun H3 e3 => q H3 ((e1.trans e2).trans e3)
  | un nm x hnm hok1 =>
    obtain ⟨b, ys, rfl, hT, hds⟩ := dp_tupD hd
    cases hds with | cons h1 hds =>
    cases hds with | cons h2 hds =>
    cases hds with | cons h3 hds =>
    cases hds
    cases h1
    cases h2
    refine q_asg (v := .str "unary") (ev_op (ev_var rfl) ev_c (rv_ixT hT (atI_nat (j := 0) rfl))) fun H1 e1 => ?_
    refine q_when (form rfl (show decide (V.str "unary" = V.str "constant") = false by decide +kernel)) (fun h => nomatch h) fun _ H2 e2 => ?_
    refine q_when (form rfl (show decide (V.str "unary" = V.str "column") = false by decide +kernel)) (fun h => nomatch h) fun _ H3 e3 => ?_
    refine q_when (form rfl (show decide (V.str "unary" = V.str "unary") = true by decide +kernel)) (fun _ H4 e4 => ?_) fun h => nomatch h
    have x4 := ((e1.trans e2).trans e3).trans e4
    have hdx : x.dep + 1 ≤ rn + 1 := hdep
    cases rn with
    | zero => cases x <;> simp [Cnd.dep] at hdx
    | succ m =>
    exact s_ret (ec_one hnm (ev_ok hx hok1) (ev_op (ev_var rfl) ev_c (rv_ixT (ex_t x4 hT) (atI_nat (j := 1) rfl))) (ec_evalR (n := m) (e := x) (ev_op (ev_var rfl) ev_c (rv_ixT (ex_t x4 hT) (atI_nat (j := 2) rfl))) (ev_var rfl) ⟨ex_dp x4 h3, by omega, wd, hok1⟩ (ex_l x4 hS) hx hl)) fun H5 e5 => q H5 (x4.trans e5)
  | bin nm x y hnm hok1 hok2 =>
    obtain ⟨b, ys, rfl, hT, hds⟩ := dp_tupD hd
    cases hds with | cons h1 hds =>
    cases hds with | cons h2 hds =>
    cases hds with | cons h3 hds =>
    cases hds with | cons h4 hds =>
    cases hds
    cases h1
    cases h2
    refine q_asg (v := .str "binary") (ev_op (ev_var rfl) ev_c (rv_ixT hT (atI_nat (j := 0) rfl))) fun H1 e1 => ?_
    refine q_when (form rfl (show decide (V.str "binary" = V.str "constant") = false by decide +kernel)) (fun h => nomatch h) fun _ H2 e2 => ?_
    refine q_when (form rfl (show decide (V.str "binary" = V.str "column") = false by decide +kernel)) (fun h => nomatch h) fun _ H3 e3 => ?_
    refine q_when (form rfl (show decide (V.str "binary" = V.str "unary") = false by decide +kernel)) (fun h => nomatch h) fun _ H4 e4 => ?_
    refine q_when (form rfl (show decide (V.str "binary" = V.str "binary") = true by decide +kernel)) (fun _ H5 e5 => ?_) fun h => nomatch h
    have x5 := (((e1.trans e2).trans e3).trans e4).trans e5
    have hdx : max x.dep y.dep + 1 ≤ rn + 1 := hdep
    have hpos : 0 < max x.dep y.dep := by cases x <;> simp [Cnd.dep] <;> omega
    cases rn with
    | zero => omega
    | succ m =>
    exact s_ret (ec_two hnm (ev_ok hx hok1) (ev_ok hx hok2) (ev_op (ev_var rfl) ev_c (rv_ixT (ex_t x5 hT) (atI_nat (j := 1) rfl))) (ec_evalR (n := m) (e := x) (ev_op (ev_var rfl) ev_c (rv_ixT (ex_t x5 hT) (atI_nat (j := 2) rfl))) (ev_var rfl) ⟨ex_dp x5 h3, by omega, wd, hok1⟩ (ex_l x5 hS) hx hl) (ec_evalR (n := m) (e := y) (ev_op (ev_var rfl) ev_c (rv_ixT (ex_t x5 hT) (atI_nat (j := 3) rfl))) (ev_var rfl) ⟨ex_dp x5 h4, by omega, wd, hok2⟩ (ex_l x5 hS) hx hl)) fun H6 e6 => q H6 (x5.trans e6)
end

--@SPLIT
/-! ### rows: lists of lists -/
theorem call_list_ofK {X : L2.Cx} {K : PySem.W.Frag} (h : X.K = K) : CallR X (.type "list") (rListS K) := h ▸ call_list_of
theorem sl_listK {X : L2.Cx} {K : PySem.W.Frag} (h : X.K = K) : SlR X (rSlL K) := h ▸ sl_list
theorem pi_listK {X : L2.Cx} {K : PySem.W.Frag} {tg e : Expr} {te : TE} (h : X.K = K) (he : PE X e te) : PI X tg e (iList K te) := h ▸ pi_list he
theorem pi_tupK {X : L2.Cx} {K : PySem.W.Frag} {tg e : Expr} {te : TE} (h : X.K = K) (he : PE X e te) : PI X tg e (iTup K te) := h ▸ pi_tup he
def RowAt (H : Hp) (p : Addr) (xs : List V) : Prop := H p = some (.lst xs)
def Mn {α : Type} (R : Hp → Addr → α → Prop) : Prop := ∀ H H' q l, Ex H H' → R H q l → R H' q l
theorem RowAt.mn : Mn RowAt := fun H H' q l e h => e _ _ h
theorem Lst2.mn {α : Type} {R : Hp → Addr → α → Prop} (hm : Mn R) : Mn (Lst2 R) := fun H H' q l e h => h.mono e fun q l h => hm _ _ _ _ e h
/-- what is new since H0 -/
def nu (H0 H : Hp) : Hp := fun a => match H0 a with
  | none => H a
  | some _ => none
theorem nu_le {H0 H : Hp} : Ex (nu H0 H) H := fun a o h => by
  unfold nu at h
  split at h
  · exact h
  · cases h
theorem nu_mono {H0 H1 H2 : Hp} (e : Ex H1 H2) : Ex (nu H0 H1) (nu H0 H2) := fun a o h => by
  unfold nu at h ⊢
  cases z : H0 a with
  | none => rw [z] at h; exact e a o h
  | some u => rw [z] at h; cases h
theorem nu_back {H0 H1 H : Hp} (e : Ex H0 H1) : Ex (nu H1 H) (nu H0 H) := fun a o h => by
  unfold nu at h ⊢
  cases z : H1 a with
  | none => rw [z] at h; rw [fresh_back e z]; exact h
  | some u => rw [z] at h; cases h
theorem nu_at {H0 H : Hp} {p : Addr} {o : HO} (h0 : H0 p = none) (h : H p = some o) : nu H0 H p = some o := by
  unfold nu
  rw [h0]
  exact h
theorem nu_wo {H0 H : Hp} {D : Addr} {o : HO} (h : H0 D = some o) : Ex (nu H0 H) (wo D H) := fun a u ha => by
  have hn : a ≠ D := fun z => by
    unfold nu at ha
    rw [z, h] at ha
    cases ha
  rw [wo_ne hn]
  exact nu_le a u ha
theorem nu_wo2 {H0 H1 H : Hp} {D : Addr} {o : HO} (h : H1 D = some o) (e : Ex H0 H1) : Ex (nu H1 H) (wo D (nu H0 H)) := fun a u ha => by
  have hn : a ≠ D := fun z => by
    unfold nu at ha
    rw [z, h] at ha
    cases ha
  rw [wo_ne hn]
  exact nu_back e a u ha
theorem nu_upd {H0 H : Hp} {p : Addr} {o u : HO} (h : H0 p = some u) : nu H0 (upd H p o) = nu H0 H := by
  funext a
  unfold nu
  cases z : H0 a with
  | none => exact upd_ne (fun e => by rw [e, h] at z; cases z)
  | some v => rfl
theorem wo_nu_upd {H0 H : Hp} {D : Addr} {o : HO} : wo D (nu H0 (upd H D o)) = wo D (nu H0 H) := by
  funext a
  by_cases h : a = D
  · rw [h, wo_self, wo_self]
  · rw [wo_ne h, wo_ne h]
    unfold nu
    rw [upd_ne h]
def EvRn (R : Hp → Addr → Prop) (te : TE) (σ : L2.St) (H : Hp) : Prop := ∀ H1, Ex H H1 → ∀ Q : VK, (∀ p H2, H1 p = none → Ex H1 H2 → R (nu H1 H2) p → Q (.ref p) H2) → te σ H1 Q
def EvRo (R : Hp → Addr → Prop) (te : TE) (σ : L2.St) (H : Hp) : Prop := ∀ H1, Ex H H1 → ∀ Q : VK, (∀ p H2, H1 p = none → Ex H1 H2 → R H2 p → Q (.ref p) H2) → te σ H1 Q
/-- a new list, the items' words stand beside it -/
def Lst3 {α : Type} (R : Hp → Addr → α → Prop) (H : Hp) (p : Addr) (L : List α) : Prop := ∃ qs, H p = some (.lst (qs.map V.ref)) ∧ Al2 R (wo p H) qs L
theorem Lst3.two {α : Type} {R : Hp → Addr → α → Prop} (hm : Mn R) {H : Hp} {p : Addr} {L : List α} (h : Lst3 R H p L) : Lst2 R H p L := by
  obtain ⟨qs, h1, h2⟩ := h
  exact ⟨qs, h1, h2.mono fun q l _ => hm _ _ _ _ (wo_le _ _)⟩
section
variable {K : PySem.W.Frag} {σ : L2.St} {H : Hp} {ta tb te tl : TE} {α : Type} {R : Hp → Addr → α → Prop} {D : Ends} {tz : TS}
theorem EvRn.o {R : Hp → Addr → Prop} (hm : ∀ H H' q, Ex H H' → R H q → R H' q) (h : EvRn R te σ H) : EvRo R te σ H := fun H1 e Q q => h H1 e Q fun p H2 hp e2 hR => q p H2 hp e2 (hm _ _ _ nu_le hR)
theorem q_asgR {i : Nat} {R : Hp → Addr → Prop} (h : EvRn R te σ H) (k : ∀ p H1, H p = none → Ex H H1 → R (nu H H1) p → tz D (σ.set i (some (.ref p))) H1) : tSeq (tAsg te (gName i)) tz D σ H := h H (Ex.refl H) _ k
theorem q_asgO {i : Nat} {R : Hp → Addr → Prop} (h : EvRo R te σ H) (k : ∀ p H1, H p = none → Ex H H1 → R H1 p → tz D (σ.set i (some (.ref p))) H1) : tSeq (tAsg te (gName i)) tz D σ H := h H (Ex.refl H) _ k
theorem s_retR {R : Hp → Addr → Prop} (h : EvRn R te σ H) (k : ∀ p H1, H p = none → Ex H H1 → R (nu H H1) p → D.rt (.ref p) H1) : tRet te D σ H := h H (Ex.refl H) _ k
theorem s_retO {R : Hp → Addr → Prop} (h : EvRo R te σ H) (k : ∀ p H1, H p = none → Ex H H1 → R H1 p → D.rt (.ref p) H1) : tRet te D σ H := h H (Ex.refl H) _ k
theorem rn_list {p : Addr} {xs : List V} (ha : Ev ta σ H (.ref p)) (h : SqL K H p xs) : EvRn (fun H p => RowAt H p xs) (tCB (rListS K) (tCons ta tNil)) σ H := fun H1 e Q q => el_list ha h H1 e Q fun p H2 hp e2 h2 => q p H2 hp e2 (nu_at hp h2)
/-- [a new object for x in xs] -/
theorem er_lcD (hm : Mn R) {a : Addr} {xs : List V} {j : Nat} {vs : List Nat} (f : Nat → α) (h : Ev tl σ H (.ref a)) (hx : SqL K H a xs) (hz : xs.length ≤ 40000) (hw : ∀ x, wipe ((wipe σ vs).set j (some x)) vs = wipe σ vs)
    (he : ∀ (i : Nat) (x : V) (H1 : Hp) (D : Addr), Ex H H1 → H D = none → (∃ ys, H1 D = some (.lst ys)) → xs[i]? = some x → ∀ Q : VK, (∀ p H2, H1 p = none → Ex H1 H2 → R (wo D H2) p (f i) → Q (.ref p) H2) → te ((wipe σ vs).set j (some x)) H1 Q) :
    EvRo (fun H p => Lst3 R H p ((List.range xs.length).map f)) (tLc (iList K tl) (gName j) tYes te vs) σ H := fun H0 e0 Q q => h H0 e0 _ fun H1 e1 => ⟨a, rfl, ⟨xs, ex_l (e0.trans e1) hx⟩, fun D hD =>
  lc_list (xs := xs) (fun i H' => H1 D = none ∧ Ex H1 H' ∧ ∃ qs, H' D = some (.lst (qs.map V.ref)) ∧ Al2 R (wo D H') qs ((List.range i).map f)) ⟨hD, Ex.new hD, [], upd_same, Al2.nil⟩ (fun i H' _ p => ex_l ((e0.trans e1).trans p.2.1) hx)
    (fun i x H' hi p => by
      obtain ⟨p1, p2, qs, p3, p4⟩ := p
      refine ⟨hw x, ?_⟩
      show te ((wipe σ vs).set j (some x)) H' fun y H4 => ∃ acc, H4 D = some (.lst acc) ∧ acc.length < sizeLine ∧ _
      refine he i x H' D ((e0.trans e1).trans p2) (fresh_back (e0.trans e1) hD) ⟨_, p3⟩ hi _ fun r H4 hr e4 hR => ⟨_, e4 _ _ p3, sz_lt ?_, p1, Ex.mut (p2.trans e4) p1, qs ++ [r], by rw [upd_same, List.map_append]; rfl, ?_⟩
      · have := p4.1
        rw [List.length_map, List.length_range] at this
        have := (List.getElem?_eq_some_iff.mp hi).1
        rw [List.length_map]
        omega
      · rw [wo_upd, List.range_succ, List.map_append]
        exact (p4.mono fun q l _ => hm _ _ _ _ (wo_mono e4)).snoc hR)
    (fun H' p => by
      obtain ⟨p1, p2, qs, p3, p4⟩ := p
      exact q D H' (fresh_back e1 p1) (e1.trans p2) ⟨qs, p3, p4⟩)⟩
/-- .. objects that are wholly new -/
theorem er_lcN (hm : Mn R) {a : Addr} {xs : List V} {j : Nat} {vs : List Nat} (f : Nat → α) (h : Ev tl σ H (.ref a)) (hx : SqL K H a xs) (hz : xs.length ≤ 40000) (hw : ∀ x, wipe ((wipe σ vs).set j (some x)) vs = wipe σ vs)
    (he : ∀ (i : Nat) (x : V) (H1 : Hp), Ex H H1 → xs[i]? = some x → EvRn (fun H q => R H q (f i)) te ((wipe σ vs).set j (some x)) H1) :
    EvRn (fun H p => Lst2 R H p ((List.range xs.length).map f)) (tLc (iList K tl) (gName j) tYes te vs) σ H := fun H0 e0 Q q => h H0 e0 _ fun H1 e1 => ⟨a, rfl, ⟨xs, ex_l (e0.trans e1) hx⟩, fun D hD =>
  lc_list (xs := xs) (fun i H' => H1 D = none ∧ Ex H1 H' ∧ ∃ qs, H' D = some (.lst (qs.map V.ref)) ∧ Al2 R (wo D (nu H0 H')) qs ((List.range i).map f)) ⟨hD, Ex.new hD, [], upd_same, Al2.nil⟩ (fun i H' _ p => ex_l ((e0.trans e1).trans p.2.1) hx)
    (fun i x H' hi p => by
      obtain ⟨p1, p2, qs, p3, p4⟩ := p
      refine ⟨hw x, ?_⟩
      show te ((wipe σ vs).set j (some x)) H' fun y H4 => ∃ acc, H4 D = some (.lst acc) ∧ acc.length < sizeLine ∧ _
      refine he i x H' ((e0.trans e1).trans p2) hi H' (Ex.refl H') _ fun r H4 hr e4 hR => ⟨_, e4 _ _ p3, sz_lt ?_, p1, Ex.mut (p2.trans e4) p1, qs ++ [r], by rw [upd_same, List.map_append]; rfl, ?_⟩
      · have := p4.1
        rw [List.length_map, List.length_range] at this
        have := (List.getElem?_eq_some_iff.mp hi).1
        rw [List.length_map]
        omega
      · rw [wo_nu_upd, List.range_succ, List.map_append]
        exact (p4.mono fun q l _ => hm _ _ _ _ (wo_mono (nu_mono e4))).snoc (hm _ _ _ _ (nu_wo2 p3 (e1.trans p2)) hR))
    (fun H' p => by
      obtain ⟨p1, p2, qs, p3, p4⟩ := p
      have hD0 := fresh_back e1 p1
      exact q D H' hD0 (e1.trans p2) ⟨qs, nu_at hD0 p3, p4.mono fun q l _ => hm _ _ _ _ (wo_le _ _)⟩)⟩
/-- [f(x) for x in a tuple] -/
theorem el_lcT {a : Addr} {xs : List V} {j : Nat} {vs : List Nat} (f : Nat → V) (h : Ev tl σ H (.ref a)) (hx : SqT K H a xs) (hz : xs.length ≤ 40000) (hw : ∀ x, wipe ((wipe σ vs).set j (some x)) vs = wipe σ vs)
    (he : ∀ (i : Nat) (x : V) (H1 : Hp), Ex H H1 → xs[i]? = some x → Ev te ((wipe σ vs).set j (some x)) H1 (f i)) :
    EvL (tLc (iTup K tl) (gName j) tYes te vs) σ H ((List.range xs.length).map f) := fun H0 e0 Q q => h H0 e0 _ fun H1 e1 => ⟨a, rfl, ⟨xs, ex_t (e0.trans e1) hx⟩, fun D hD =>
  lc_tup (xs := xs) (fun i H' => H1 D = none ∧ Ex H1 H' ∧ H' D = some (.lst ((List.range i).map f))) ⟨hD, Ex.new hD, upd_same⟩ (fun i H' _ p => ex_t ((e0.trans e1).trans p.2.1) hx)
    (fun i x H' hi p => by
      obtain ⟨p1, p2, p3⟩ := p
      refine ⟨hw x, ?_⟩
      show te ((wipe σ vs).set j (some x)) H' fun y H4 => ∃ acc, H4 D = some (.lst acc) ∧ acc.length < sizeLine ∧ _
      refine he i x H' ((e0.trans e1).trans p2) hi H' (Ex.refl H') _ fun H4 e4 => ⟨_, e4 _ _ p3, sz_lt ?_, p1, Ex.mut (p2.trans e4) p1, by rw [upd_same, List.range_succ, List.map_append]; rfl⟩
      have := (List.getElem?_eq_some_iff.mp hi).1
      rw [List.length_map, List.length_range]
      omega)
    (fun H' p => q D H' (fresh_back e1 p.1) (e1.trans p.2.1) p.2.2)⟩
theorem lc_rangeC {lo c : Int} {n : Nat} {g : TG} {tt : TT} {te : TE} {vs : List Nat} {σ : L2.St} {H1 : Hp} {D : Addr} {Qd : Hp → Prop} (Pv : Nat → Hp → Prop) (h0 : Pv 0 (upd H1 D (.lst [])))
    (hs : ∀ i H, i < n → Pv i H → g (.int (lo + (i : Nat) * c)) (wipe σ vs) H fun σ2 H2 => wipe σ2 vs = wipe σ vs ∧ tt σ2 H2 fun b H3 =>
      if b = true then te σ2 H3 fun y H4 => ∃ acc, H4 D = some (.lst acc) ∧ acc.length < sizeLine ∧ Pv (i + 1) (upd H4 D (.lst (acc ++ [y]))) else Pv (i + 1) H3) (hd : ∀ H, Pv n H → Qd H) :
    ∃ W : Nat → Nat → Hp → Prop, (∃ m, W 0 m (upd H1 D (.lst []))) ∧ ∀ i m H, W i m H →
      ((Itc lo c n).stop i H ∧ Qd H) ∨ ((Itc lo c n).go i H ∧ ∃ Nx : Hp → Prop, (∀ H', Nx H' → ∃ m', m' < m ∧ W (i + 1) m' H') ∧ ∀ x H', (Itc lo c n).yld i H x H' → g x (wipe σ vs) H' fun σ2 H2 => wipe σ2 vs = wipe σ vs ∧ tt σ2 H2 fun b H3 =>
        if b = true then te σ2 H3 fun y H4 => ∃ acc, H4 D = some (.lst acc) ∧ acc.length < sizeLine ∧ Nx (upd H4 D (.lst (acc ++ [y]))) else Nx H3) := by
  refine ⟨fun i m H => m = n - i ∧ i ≤ n ∧ Pv i H, ⟨n, by simp, Nat.zero_le _, h0⟩, ?_⟩
  rintro i m H ⟨rfl, hi, p⟩
  by_cases hlt : i < n
  · refine .inr ⟨hlt, Pv (i + 1), fun H' p' => ⟨n - (i + 1), by omega, rfl, hlt, p'⟩, fun x H' y => ?_⟩
    obtain ⟨e, y⟩ := y
    subst e y
    exact hs i _ hlt p
  · have e : i = n := by omega
    subst e
    exact .inl ⟨Nat.le_refl _, hd H p⟩
def stepsN (n c : Nat) : Nat := if 0 < n then (n - 1) / c + 1 else 0
theorem stepsN_le {n c : Nat} (hc : 0 < c) : stepsN n c ≤ n := by
  unfold stepsN
  split
  · have := Nat.div_le_self (n - 1) c
    omega
  · omega
theorem stepsN_mul {n c : Nat} (hc : 0 < c) : stepsN n c * c ≤ n + c := by
  unfold stepsN
  split
  · have h1 := Nat.div_mul_le_self (n - 1) c
    rw [Nat.add_mul, Nat.one_mul]
    omega
  · omega
theorem RgC.up {n c : Nat} (hn : n ≤ 100000) (hc : 0 < c) (hc2 : c ≤ 100000) : RgC 0 (n : Int) (c : Int) (stepsN n c) := by
  have hr : Builtin.Range.rangeSize 0 (n : Int) (c : Int) = ((stepsN n c : Nat) : Int) := by
    unfold Builtin.Range.rangeSize stepsN
    rw [if_pos (by omega)]
    by_cases h : 0 < n
    · rw [if_pos (by omega), if_pos h]
      have : (n : Int) - 0 - 1 = ((n - 1 : Nat) : Int) := by omega
      rw [this]
      rfl
    · rw [if_neg (by omega), if_neg h]
      rfl
  refine ⟨by omega, by omega, ?_, hr⟩
  have hm := stepsN_mul (n := n) hc
  have hm2 := stepsN_le (n := n) hc
  have e : ((stepsN n c : Nat) : Int) * (c : Int) = ((stepsN n c * c : Nat) : Int) := by rw [Int.natCast_mul]
  unfold Builtin.Range.small
  rw [hr]
  simp only [Builtin.Range.rangeFitsLong, Bool.and_eq_true, Bool.or_eq_true, decide_eq_true_eq, beq_iff_eq, show (c : Int) > 0 by omega, if_true, e, Int.zero_add]
  omega
theorem stepsN_at {n c i : Nat} (hc : 0 < c) (h : i < stepsN n c) : i * c < n := by
  unfold stepsN at h
  split at h
  · have h2 : i ≤ (n - 1) / c := by omega
    have := (Nat.le_div_iff_mul_le hc).mp h2
    omega
  · omega
theorem stepsN_all {n c : Nat} (hc : 0 < c) : n ≤ stepsN n c * c := by
  unfold stepsN
  split
  · have h1 := Nat.div_add_mod (n - 1) c
    have h2 := Nat.mod_lt (n - 1) hc
    rw [Nat.add_mul, Nat.one_mul, Nat.mul_comm]
    omega
  · omega
/-- .. over range(0, n, c) -/
theorem er_lcC (hm : Mn R) {n c : Nat} {tr : TA} {j : Nat} {vs : List Nat} (f : Nat → α) (h : EvA tr σ H [.int 0, .int (n : Int), .int (c : Int)]) (hn : n ≤ 40000) (hc : 0 < c) (hc2 : c ≤ 100000) (hw : ∀ x, wipe ((wipe σ vs).set j (some x)) vs = wipe σ vs)
    (he : ∀ (i : Nat) (H1 : Hp) (D : Addr), Ex H H1 → H D = none → (∃ ys, H1 D = some (.lst ys)) → i < stepsN n c → ∀ Q : VK, (∀ p H2, H1 p = none → Ex H1 H2 → R (wo D H2) p (f i) → Q (.ref p) H2) → te ((wipe σ vs).set j (some (.int ((i * c : Nat) : Int)))) H1 Q) :
    EvRo (fun H p => Lst3 R H p ((List.range (stepsN n c)).map f)) (tLc (iRng3 tr) (gName j) tYes te vs) σ H := fun H0 e0 Q q => h H0 e0 _ fun H1 e1 => ⟨0, (n : Int), (c : Int), stepsN n c, rfl, RgC.up (by omega) hc hc2, fun D hD =>
  lc_rangeC (lo := 0) (c := (c : Int)) (n := stepsN n c) (fun i H' => H1 D = none ∧ Ex H1 H' ∧ ∃ qs, H' D = some (.lst (qs.map V.ref)) ∧ Al2 R (wo D H') qs ((List.range i).map f)) ⟨hD, Ex.new hD, [], upd_same, Al2.nil⟩
    (fun i H' hi p => by
      obtain ⟨p1, p2, qs, p3, p4⟩ := p
      have e9 : (0 : Int) + ((i : Nat) : Int) * (c : Int) = ((i * c : Nat) : Int) := by rw [Int.natCast_mul, Int.zero_add]
      refine ⟨hw _, ?_⟩
      show te ((wipe σ vs).set j (some (.int ((0 : Int) + ((i : Nat) : Int) * (c : Int))))) H' fun y H4 => ∃ acc, H4 D = some (.lst acc) ∧ acc.length < sizeLine ∧ _
      rw [e9]
      refine he i H' D ((e0.trans e1).trans p2) (fresh_back (e0.trans e1) hD) ⟨_, p3⟩ hi _ fun r H4 hr e4 hR => ⟨_, e4 _ _ p3, sz_lt ?_, p1, Ex.mut (p2.trans e4) p1, qs ++ [r], by rw [upd_same, List.map_append]; rfl, ?_⟩
      · have := p4.1
        rw [List.length_map, List.length_range] at this
        have h9 := stepsN_le (n := n) hc
        rw [List.length_map]
        omega
      · rw [wo_upd, List.range_succ, List.map_append]
        exact (p4.mono fun q l _ => hm _ _ _ _ (wo_mono e4)).snoc hR)
    (fun H' p => by
      obtain ⟨p1, p2, qs, p3, p4⟩ := p
      exact q D H' (fresh_back e1 p1) (e1.trans p2) ⟨qs, p3, p4⟩)⟩
theorem cutV_nat {xs : List V} {i j : Nat} : cutV xs (some (i : Int)) (some (j : Int)) = (xs.take j).drop i := by
  unfold cutV
  rw [HT.sIx_nat, HT.sIx_nat, List.drop_take]
  by_cases hi : i ≤ xs.length
  · rw [Nat.min_eq_left hi]
    by_cases hj : j ≤ xs.length
    · rw [Nat.min_eq_left hj]
    · rw [Nat.min_eq_right (show xs.length ≤ j by omega), List.take_of_length_le (by rw [List.length_drop]; omega), List.take_of_length_le (by rw [List.length_drop]; omega)]
  · rw [Nat.min_eq_right (show xs.length ≤ i by omega), List.drop_eq_nil_of_le (Nat.le_refl _), List.drop_eq_nil_of_le (show xs.length ≤ i by omega)]
    simp
def chunk {α : Type} (xs : List α) (c i : Nat) : List α := (xs.take (i * c + c)).drop (i * c)
theorem chunk_flat {α : Type} (xs : List α) (c : Nat) : ∀ n, ((List.range n).map (chunk xs c)).flatten = xs.take (n * c)
  | 0 => by simp
  | n + 1 => by
    rw [List.range_succ, List.map_append, List.flatten_append, chunk_flat xs c n]
    show xs.take (n * c) ++ (chunk xs c n ++ []) = xs.take ((n + 1) * c)
    rw [List.append_nil, Nat.add_mul, Nat.one_mul]
    unfold chunk
    have := List.take_append_drop (n * c) (xs.take (n * c + c))
    rw [List.take_take, Nat.min_eq_left (by omega)] at this
    exact this
theorem chunk_map {α β : Type} (f : α → β) (xs : List α) (c i : Nat) : chunk (xs.map f) c i = (chunk xs c i).map f := by
  unfold chunk
  rw [List.map_drop, List.map_take]
/-- a list of rows, cut -/
theorem Al2.cut {qs : List Addr} {L : List α} (h : Al2 R H qs L) (c i : Nat) : Al2 R H (chunk qs c i) (chunk L c i) := by
  refine ⟨by unfold chunk; rw [List.length_drop, List.length_drop, List.length_take, List.length_take, h.1], fun k q l a b => ?_⟩
  unfold chunk at a b
  rw [List.getElem?_drop, List.getElem?_take] at a b
  split at a
  · rename_i hlt
    rw [if_pos hlt] at b
    exact h.2 _ q l a b
  · cases a
theorem ev_rgl {te : TE} {n : Nat} (h : Ev te σ H (.int (n : Int))) (hn : n ≤ 100000) : EvL (tLstRg (tRg1 te)) σ H ((List.range n).map fun i => V.int ((i : Nat) : Int)) := fun H1 e Q q => h H1 e _ fun H2 e2 => ⟨(n : Int), rfl, RgOk.of_le (by omega) (by omega) (by omega) (by omega), fun p hp => q p _ (fresh_back e2 hp) (e2.trans (Ex.new hp)) (by
  rw [upd_same]
  have : rgV 0 (n : Int) = (List.range n).map fun i => V.int ((i : Nat) : Int) := by
    unfold rgV
    rw [show ((n : Int) - 0).toNat = n by omega]
    exact List.map_congr_left fun i _ => by rw [Int.zero_add]
  rw [this])⟩
end
section
variable {K : PySem.W.Frag} {σ : L2.St} {H : Hp} {p : Addr} {te tn : TE} {R : V → Prop}
/-- [what is drawn for k in range(n)] -/
theorem e1_lcE {j : Nat} {vs : List Nat} {n : Nat} (hn : Ev tn σ (wo p H) (.int (n : Int))) (hm : n ≤ 10000) (hw : ∀ x, wipe ((wipe σ vs).set j (some x)) vs = wipe σ vs)
    (he : ∀ i : Nat, EvD1 te ((wipe σ vs).set j (some (.int (i : Int)))) p H R) : EvLD1 (tLc (iRng1 (tCons tn tNil)) (gName j) tYes te vs) σ p H (fun xs => xs.length = n ∧ ∀ x ∈ xs, R x) := fun H0 e d Q q =>
  hn H0 e _ fun H1 e1 => by
    have d1 := d.ex e1
    refine ⟨(n : Int), rfl, by omega, by omega, fun Dl hD => ?_⟩
    have hpd : p ≠ Dl := dr_ne d1 hD
    refine lc_range (lo := 0) (n := ((n : Int)).toNat) (fun i H' => Ex (wo p H1) H' ∧ Dr p H' ∧ ∃ acc, H' Dl = some (.lst acc) ∧ acc.length = i ∧ ∀ x ∈ acc, R x) ⟨Ex.mut (wo_le p H1) (by rw [wo_ne (Ne.symm hpd)]; exact hD), d1.upd hpd, [], upd_same, rfl, fun x hx => by cases hx⟩ (fun i H' hi pv => ?_) (fun H' pv => ?_)
    · obtain ⟨p1, p2, acc, p3, p4, p5⟩ := pv
      have e0 : (0 : Int) + (i : Int) = (i : Int) := Int.zero_add _
      show wipe ((wipe σ vs).set j (some (.int ((0 : Int) + (i : Int))))) vs = wipe σ vs ∧ te ((wipe σ vs).set j (some (.int ((0 : Int) + (i : Int))))) H' fun y H4 => ∃ acc, H4 Dl = some (.lst acc) ∧ acc.length < sizeLine ∧ _
      rw [e0]
      refine ⟨hw _, he i H' (wx_trans e (wx_trans (wx_of e1) p1)) p2 _ fun y H4 hy e4 d4 => ?_⟩
      refine ⟨acc, e4 Dl _ (by rw [wo_ne (Ne.symm hpd)]; exact p3), sz_lt (by omega), Ex.mut (wx_trans p1 e4) (by rw [wo_ne (Ne.symm hpd)]; exact hD), d4.upd hpd, acc ++ [y], upd_same, by rw [List.length_append, p4]; rfl, fun x hx => ?_⟩
      rcases List.mem_append.mp hx with h | h
      · exact p5 x h
      · rw [List.mem_singleton.mp h]
        exact hy
    · obtain ⟨p1, p2, acc, p3, p4, p5⟩ := pv
      exact q Dl H' acc ⟨by rw [p4]; exact Int.toNat_natCast n, p5⟩ (fresh_back e1 hD) (wx_trans (wx_of e1) p1) p2 p3
theorem q1_asgL {i : Nat} {P : List V → Prop} {D : Ends} {tz : TS} (h : EvLD1 te σ p H P) (d : Dr p H) (k : ∀ l H1 xs, P xs → H l = none → Ex (wo p H) H1 → Dr p H1 → H1 l = some (.lst xs) → tz D (σ.set i (some (.ref l))) H1) : tSeq (tAsg te (gName i)) tz D σ H := h H (wo_le p H) d _ fun l H1 xs hP hl e d1 h1 => k l H1 xs hP hl e d1 h1
end

--@SPLIT
/-! ### the law's rows -/
def OkRow (r : List V) : Prop := (∀ x ∈ r, Ok x) ∧ r.length ≤ 1000
def OkRows (L : List (List V)) : Prop := L.length ≤ 2000 ∧ ∀ r ∈ L, OkRow r
theorem range_map {α : Type} {xs : List V} (f : V → α) : (List.range xs.length).map (fun i => f (xs.getD i .non)) = xs.map f := by
  apply List.ext_getElem?
  intro i
  rw [List.getElem?_map, List.getElem?_map]
  by_cases h : i < xs.length
  · rw [List.getElem?_range h, List.getElem?_eq_getElem h]
    show some (f (xs.getD i .non)) = some (f xs[i])
    rw [List.getD_eq_getElem?_getD, List.getElem?_eq_getElem h]
    rfl
  · rw [List.getElem?_eq_none (by rw [List.length_range]; omega), List.getElem?_eq_none (by omega)]
    rfl
theorem getD_is {α : Type} {xs : List α} {i : Nat} {x d : α} (h : xs[i]? = some x) : xs.getD i d = x := by rw [List.getD_eq_getElem?_getD, h]; rfl
theorem sh_ranks {xs : List V} (h : ∀ x ∈ xs, Ok x) : SeqAt.shaped (.list (xs.map rkD)) = true := by
  have hd := deps_rk h
  show (PyData.canLayAll0 (xs.map rkD) && decide (PyData.depthAll (xs.map rkD) + 1 ≤ 64)) = true
  rw [lays_rk h, decide_eq_true (by omega)]
  rfl
def sp__law_ranks (K : PySem.W.Frag) : Sp := fun vs H Q _ => ∃ (a : Addr) (xs : List V), vs = [.ref a] ∧ SqL K H a xs ∧ OkRow xs ∧ ∀ p H' ys, H p = none → Ex H H' → H' p = some (.lst ys) → DpAll K H' ys (xs.map rkD) → Q (.ref p) H'
def sp__law_same_rows (K : PySem.W.Frag) : Sp := fun vs H Q _ => ∃ (p q : Addr) (L : List (List V)), vs = [.ref p, .ref q] ∧ Lst2 RowAt H p L ∧ Lst2 RowAt H q L ∧ OkRows L ∧ ∀ H', Ex H H' → Q (.bl true) H'
section
variable {P : Program} {w : World} {K : PySem.W.Frag} {mg : Str → Option Value} {base : Heap}
theorem ld_ranks {σ : L2.St} {H : Hp} {ta : TE} {E : XK} {a : Addr} {xs : List V} (ha : Ev ta σ H (.ref a)) (hS : SqL K H a xs) (hx : OkRow xs) : EvLD K (tCall (sp__law_ranks K) [] E (tCons ta tNil)) σ H (xs.map rkD) := fun H1 e Q q =>
  ha H1 e _ fun H2 e2 => ⟨a, xs, rfl, ex_l (e.trans e2) hS, hx, fun p H3 ys hp e3 h3 hd => q p H3 ys (fresh_back e2 hp) (e2.trans e3) h3 hd⟩
theorem ec_srows {σ : L2.St} {H : Hp} {ta tb : TE} {E : XK} {p q : Addr} {L : List (List V)} (ha : Ev ta σ H (.ref p)) (hb : Ev tb σ H (.ref q)) (h1 : Lst2 RowAt H p L) (h2 : Lst2 RowAt H q L) (hL : OkRows L) : Ev (tCall (sp__law_same_rows K) [] E (tCons ta (tCons tb tNil))) σ H (.bl true) := ev_call (ea_cons ha (ea_cons hb ea_nil)) fun H1 e Q k E => ⟨p, q, L, rfl, Lst2.mn RowAt.mn _ _ _ _ e h1, Lst2.mn RowAt.mn _ _ _ _ e h2, hL, k⟩
end
def sp__law_rows (K : PySem.W.Frag) : Sp := fun vs H Q _ => ∃ (a : Addr) (ns : List Int) (first most wd : Nat), vs = [.ref a, .int (first : Int), .int (most : Int), .int (wd : Int)] ∧ SqL K H a (ns.map V.int) ∧ ns.length ≤ 63 ∧ most ≤ 1000 ∧ 1 ≤ wd ∧ wd ≤ 10 ∧
  ∀ p H' L, H p = none → Ex H H' → Lst2 RowAt H' p L → (∀ r ∈ L, r.length = wd ∧ ∀ x ∈ r, DV x) → L.length ≤ 63 → Q (.ref p) H'
section
variable {P : Program} {w : World} {K : PySem.W.Frag} {mg : Str → Option Value} {base : Heap}
theorem ok__law_rows (D : Dn K mg "_law_rows" s__law_rows ["script", "first", "most", "width"]) (c__law_digit : C8.Cal P w K mg base 1 "_law_digit" (sp__law_digit K) []) (c__law_state : C8.Cal P w K mg base 1 "_law_state" (sp__law_state K) []) (c__law_value : C8.Cal P w K mg base 3 "_law_value" (sp__law_value K) []) (z_len : mg "len" = none) (z_max : mg "max" = none) (z_min : mg "min" = none) (z_range : mg "range" = none) :
    C8.Cal P w K mg base 4 "_law_rows" (sp__law_rows K) [] := by
  refine cal_of D sc__law_rows (fun vs H Q E h => ?_) (fun f cdv A outer s H vs Q E hr h => ?_)
  · obtain ⟨_, _, _, _, _, rfl, _⟩ := h
    rfl
  refine ⟨_, (pss_cons (ps_set (i := 4) sc__law_rows.nd rfl (.inl rfl) (pe_lst pa_nil))
    (pss_cons (ps_for PassesOwn.never rfl (pi_range1 rfl z_range (pa_cons (pe_callB (call_min2 rfl) (by rfl) z_min (by decide +kernel) (pa_cons (pv 2) (pa_cons (pe_callB (call_max2 rfl) (by rfl) z_max (by decide +kernel) (pa_cons pe_int (pa_cons (pe_op op_sub (pe_callB call_len_seq (by rfl) z_len PySem.boot_len (pa_cons (pv 0) pa_nil)) (pv 1)) pa_nil))) pa_nil))) pa_nil)) (pg_name (i := 5) sc__law_rows.nd rfl (.inl rfl))
      (pss_cons (ps_set (i := 6) sc__law_rows.nd rfl (.inr rfl) (C8.pe_c c__law_state hr (by decide) (by rfl) (pa_cons (pe_ix ix_list (pv 0) (pe_op op_add (pv 1) (pv 5)) (fun _ _ => rfl)) (pa_cons (pv 5) pa_nil))))
    (pss_cons (ps_setLc (i := 7) (own := [("j", 8)]) (g := gName 8) (tt := tYes) rfl sc__law_rows.nd rfl rfl (sw_true rfl rfl rfl (by decide +kernel)) (pi_range1 rfl z_range (pa_cons (pv 3) pa_nil)) (blkOk_by (N := n__law_rows) (sc := C8.fnScope s__law_rows) (by decide +kernel)) (fun _ _ _ _ _ => pg_name (i := 8) sc__law_rows.nd rfl (Or.inl rfl)) (fun _ _ _ _ _ => pts_nil) (fun _ _ _ _ _ => (C8.pe_c c__law_value hr (by decide) (by rfl) (pa_cons (pv 6) pa_nil))))
    (Evl.pss_cut (ps_if (pt_cmpR op_gt (C8.pe_c c__law_digit hr (by decide) (by rfl) (pa_cons (pv 6) (pa_cons pe_int pa_nil))) pe_int (nomark _))
      (pss_one (ps_asg (C8.pe_c c__law_digit hr (by decide) (by rfl) (pa_cons (pv 6) (pa_cons pe_int pa_nil))) (pg_sub (pv 7) pe_int set_list)))
      pss_nil)
    (pss_one (ps_expr (pe_bm PySem.F.plainAttrs_list PySem.F.slot_list_append PySem.F.type_list_append mt_append (pv 4) (pa_cons (pv 7) pa_nil))))))))
    (pss_one (ps_ret (pv 4))))), ?_⟩
  obtain ⟨a, ns, first, most, wd, rfl, hS, h63, hmo, w1, w10, q⟩ := h
  have lenS : (ns.map V.int).length = ns.length := List.length_map ..
  refine q_asgL (el_lst ea_nil (by decide)) fun pR H1 hpR e1 h1 => ?_
  obtain ⟨m0, hm0, hm1, hm2, hm3⟩ : ∃ m0 : Int, (if (((ns.map V.int).length : Nat) : Int) - (first : Int) > 0 then (((ns.map V.int).length : Nat) : Int) - (first : Int) else 0) = m0 ∧ 0 ≤ m0 ∧ (m0 > 0 → m0 = (ns.length : Int) - (first : Int)) ∧ m0 ≤ 63 := by
    rw [lenS]
    refine ⟨_, rfl, ?_, ?_, ?_⟩ <;> split <;> omega
  refine q_forR1 (n := if m0 < (most : Int) then m0 else (most : Int)) (ea_cons (ev_min2 (ev_var rfl) (ev_is (Evl.ev_max2 ev_c (ev_op (ev_len (ev_var rfl) (ex_l e1 hS)) (ev_var rfl) rv_I0)) (by rw [hm0]))) ea_nil) ⟨by split <;> omega, by split <;> omega⟩
    (fun i σ' H' => ∃ (kv sv rv jv : Option V) (L : List (List V)), σ' = [some (.ref a), some (.int (first : Int)), some (.int (most : Int)), some (.int (wd : Int)), some (.ref pR), kv, sv, rv, jv] ∧ Ex H H' ∧ Lst3 RowAt H' pR L ∧ L.length = i ∧ ∀ r ∈ L, r.length = wd ∧ ∀ x ∈ r, DV x) (fun H2 e2 => ⟨none, none, none, none, [], rfl, e1.trans e2, ⟨[], e2 _ _ h1, Al2.nil⟩, rfl, fun r h => nomatch h⟩) (fun i σ' Ho hi pv => ?_) fun σ' H' pv => ?_
  · obtain ⟨kv, sv, rv, jv, L, rfl, xo, ⟨qs, hqs, hA⟩, hl, hL⟩ := pv
    have hik : first + i < ns.length ∧ i < most := by
      split at hi <;> omega
    refine q_asgC (ec_state (c := ns[first + i]'hik.1) (k := (i : Int)) (ev_op (ev_var rfl) (ev_op (ev_var rfl) (ev_var rfl) rv_I0) (rv_ixL (i := ((first + i : Nat) : Int)) (ex_l xo hS) (atI_nat (by rw [List.getElem?_map, List.getElem?_eq_getElem hik.1]; rfl)))) (ev_var rfl)) fun ps Ha hps ea da => ?_
    refine q1_asgL (e1_lcE (n := wd) (ev_var rfl) (by omega) (fun _ => rfl) fun k => e1_value (ev_var rfl)) da fun pr Hb xs hP hpr eb db hb => ?_
    obtain ⟨hxl, hxd⟩ := hP
    have hprps : pr ≠ ps := fun z => by
      obtain ⟨ys, hy⟩ := da.at
      rw [← z, hpr] at hy
      cases hy
    have xb : Ex Ho Hb := wx_back hps ea eb
    have hpro : Ho pr = none := fresh_back ea hpr
    have hqb : Hb pR = some (.lst (qs.map V.ref)) := xb _ _ hqs
    have hpRpr : pr ≠ pR := fun z => by rw [← z, hpro] at hqs; cases hqs
    have hpRps : pR ≠ ps := fun z => by rw [z, hps] at hqs; cases hqs
    refine q_cut (M := fun σ' H' => ∃ ys, σ' = [some (.ref a), some (.int (first : Int)), some (.int (most : Int)), some (.int (wd : Int)), some (.ref pR), some (.int (i : Int)), some (.ref ps), some (.ref pr), jv] ∧ Ex Ho H' ∧ H' pr = some (.lst ys) ∧ ys.length = wd ∧ ∀ x ∈ ys, DV x) ?_ fun σ' Hc pw => ?_
    · refine (edt_test (ez_cmp (g := fun i j => decide (i > j)) (ez_digit (m := 3) (ev_var rfl) ev_c (by decide) (by decide)) (e1_int (PI := fun j => j = 0) ev_c rfl))) Hb (wo_le _ _) db _ fun b Hc _ ec dc => ?_
      have xc : Ex Ho Hc := wx_back hps xb ec
      have hc : Hc pr = some (.lst xs) := ec _ _ (by rw [wo_ne hprps]; exact hb)
      cases b with
      | false => exact ⟨xs, rfl, xc, hc, hxl, hxd⟩
      | true =>
        rw [if_pos rfl]
        refine (ez_digit (m := 4) (ev_var rfl) ev_c (by decide) (by decide)) Hc (wo_le _ _) dc _ fun v Hd ⟨n, ev, hn⟩ ed dd => ?_
        subst ev
        have hd : Hd pr = some (.lst xs) := ed _ _ (by rw [wo_ne hprps]; exact hc)
        refine ⟨.ref pr, rfl, pr, xs, 0, 0, rfl, rfl, hd, ixN_nat (j := 0) (by omega), xs.set 0 (.int n), rfl, Ex.mut (wx_back hps xc ed) hpro, upd_same, by rw [List.length_set]; exact hxl, fun x hx => ?_⟩
        rcases List.mem_or_eq_of_mem_set hx with h | h
        · exact hxd x h
        · rw [h]; exact .int n (by omega)
    · obtain ⟨ys, rfl, xc, hc, hyl, hyd⟩ := pw
      refine s_app (v := .ref pr) (xc _ _ hqs) (ev_var rfl) (ev_var rfl) (by rw [List.length_map, hA.1]; omega) fun Hd ed => ⟨_, _, _, _, L ++ [ys], rfl, Ex.mut ((xo.trans xc).trans ed) (by exact hpR), ⟨qs ++ [pr], by rw [upd_same, List.map_append]; rfl, ?_⟩, by rw [List.length_append, hl]; rfl, fun r hr => ?_⟩
      · rw [wo_upd]
        refine (hA.mono fun q l _ => RowAt.mn _ _ _ _ (wo_mono (xc.trans ed))).snoc ?_
        show wo pR Hd pr = _
        rw [wo_ne hpRpr]
        exact ed _ _ hc
      · rcases List.mem_append.mp hr with h | h
        · exact hL r h
        · rw [List.mem_singleton.mp h]; exact ⟨hyl, hyd⟩
  · obtain ⟨kv, sv, rv, jv, L, rfl, xo, hA, hl, hL⟩ := pv
    have hl63 : L.length ≤ 63 := by
      rw [hl]
      split <;> omega
    exact s_ret (ev_var rfl) fun H5 e5 => q pR H5 L hpR (xo.trans e5) (Lst2.mn RowAt.mn _ _ _ _ e5 (hA.two RowAt.mn)) hL hl63
end

--@SPLIT
/-! ### values that are hashed -/
inductive WV : V → Prop where
  | non : WV .non
  | bl (b : Bool) : WV (.bl b)
  | int (i : Int) (h : -1000000000000000 ≤ i ∧ i ≤ 1000000000000000) : WV (.int i)
  | str (l : List Nat) (h : l.length ≤ 20) (hc : ∀ c ∈ l, c ∈ signsL) : WV (.str (SX.S l))
theorem DV.wv {x : V} (h : DV x) : WV x := by
  cases h with
  | non => exact .non
  | bl b => exact .bl b
  | int i hi => exact .int i hi
  | str l hl hc => exact .str l (by omega) hc
theorem WV.pl {x : V} (h : WV x) : Pl x := by cases h <;> constructor
section
variable {K : PySem.W.Frag} {σ : L2.St} {H : Hp} {p : Addr} {ta tb te tn : TE} {P : V → Prop} {D : Ends} {tz tu : TS}
theorem ev_ixU {xs : List V} {i : Int} {v : V} (ha : EvU ta σ H xs) (hb : Ev tb σ H (.int i)) (hi : atI xs i = some v) : Ev (tOp (rIxT K) ta tb) σ H v := fun H1 e Q q =>
  ha H1 e _ fun p H2 hp e2 h2 => hb H2 (e.trans e2) _ fun H3 e3 => rv_ixT (st_of (e3 _ _ h2)) hi H3 (Ex.refl H3) Q fun H4 e4 => q H4 ((e2.trans e3).trans e4)
theorem ev_ord {i c : Nat} (h : σ[i]? = some (some (.str ⟨#[c]⟩))) : Ev (tCB (fun xs H Q => ∃ z : Str, xs = [.str z] ∧ z.length = 1 ∧ Q (.int ((z.cps.getD 0 0 : Nat) : Int)) H) (tCons (tVar i) tNil)) σ H (.int (c : Int)) := fun H1 _ _ q => ⟨_, h, ⟨#[c]⟩, rfl, rfl, q H1 (Ex.refl H1)⟩
end

/-! ### hashes: the program's -/
def tHash (l : List Nat) : Nat := l.foldl (fun n c => (n * 31 + c) % 1000003) 7
def vHash : V → Nat
  | .bl b => if b = true then 2 else 1
  | .int i => 3 + (i % 1000003).toNat
  | .str s => 1000006 + tHash (TL.tl s)
  | _ => 0
def lHash (vs : List V) : Nat := vs.foldl (fun n v => (n * 131 + vHash v) % 1000003) 17
theorem tHash_lt (l : List Nat) : tHash l < 1000003 := by
  have : ∀ (l : List Nat) (n : Nat), n < 1000003 → l.foldl (fun n c => (n * 31 + c) % 1000003) n < 1000003 := by
    intro l
    induction l with
    | nil => intro n h; exact h
    | cons c r ih => intro n _; exact ih _ (Nat.mod_lt _ (by decide))
  exact this l 7 (by decide)
theorem lHash_lt (vs : List V) : lHash vs < 1000003 := by
  have : ∀ (l : List V) (n : Nat), n < 1000003 → l.foldl (fun n v => (n * 131 + vHash v) % 1000003) n < 1000003 := by
    intro l
    induction l with
    | nil => intro n h; exact h
    | cons c r ih => intro n _; exact ih _ (Nat.mod_lt _ (by decide))
  exact this vs 17 (by decide)
theorem tHash_step {l : List Nat} {i c : Nat} (h : l[i]? = some c) : (((tHash (l.take i) : Nat) : Int) * 31 + (c : Int)) % 1000003 = ((tHash (l.take (i + 1)) : Nat) : Int) := by
  unfold tHash
  rw [foldl_take h, Int.natCast_emod, Int.natCast_add, Int.natCast_mul]
  rfl
theorem lHash_step {l : List V} {i : Nat} {v : V} (h : l[i]? = some v) : (((lHash (l.take i) : Nat) : Int) * 131 + (vHash v : Int)) % 1000003 = ((lHash (l.take (i + 1)) : Nat) : Int) := by
  unfold lHash
  rw [foldl_take h, Int.natCast_emod, Int.natCast_add, Int.natCast_mul]
  rfl
theorem vHash_int (i : Int) : 3 + i % 1000003 = ((vHash (.int i) : Nat) : Int) := by
  show _ = ((3 + (i % 1000003).toNat : Nat) : Int)
  rw [Int.natCast_add, Int.toNat_of_nonneg (Int.emod_nonneg _ (by decide))]
  rfl
def sp__text_hash (K : PySem.W.Frag) : Sp := fun vs H Q _ => ∃ l : List Nat, vs = [.str (SX.S l)] ∧ l.length ≤ 1000 ∧ ∀ H', Ex H H' → Q (.int ((1000006 + tHash l : Nat) : Int)) H'
def sp__value_hash (K : PySem.W.Frag) : Sp := fun vs H Q _ => ∃ v : V, vs = [v] ∧ WV v ∧ ∀ H', Ex H H' → Q (.int (vHash v : Int)) H'
def sp_hash_of (K : PySem.W.Frag) : Sp := fun vs H Q _ => ∃ (p : Addr) (xs : List V), vs = [.ref p] ∧ SqL K H p xs ∧ (∀ x ∈ xs, WV x) ∧ xs.length ≤ 1000 ∧ ∀ H', Ex H H' → Q (.int (lHash xs : Int)) H'
def divL : List Int := [64, 8, 1]
def sp_part_of (K : PySem.W.Frag) : Sp := fun vs H Q _ => ∃ (n d : Int) (t : Nat), vs = [.int n, .int (t : Int)] ∧ divL[t]? = some d ∧ ∀ H', Ex H H' → Q (.int (n / d % 8)) H'
section
variable {P : Program} {w : World} {K : PySem.W.Frag} {mg : Str → Option Value} {base : Heap}
section
variable {σ : L2.St} {H : Hp} {ta tb : TE} {E : XK}
theorem ec_pisx {x : V} (hx : Pl x) (ha : Ev ta σ H x) : Ev (tCall (sp_is_integer K) [] E (tCons ta tNil)) σ H (.bl (isInt x)) := ev_call (ea_cons ha ea_nil) fun H1 e Q q E => ⟨x, rfl, hx, q⟩
theorem ec_thash {l : List Nat} (hl : l.length ≤ 1000) (ha : Ev ta σ H (.str (SX.S l))) : Ev (tCall (sp__text_hash K) [] E (tCons ta tNil)) σ H (.int ((1000006 + tHash l : Nat) : Int)) := ev_call (ea_cons ha ea_nil) fun H1 e Q q E => ⟨l, rfl, hl, q⟩
theorem ec_vhash {v : V} (hv : WV v) (ha : Ev ta σ H v) : Ev (tCall (sp__value_hash K) [] E (tCons ta tNil)) σ H (.int (vHash v : Int)) := ev_call (ea_cons ha ea_nil) fun H1 e Q q E => ⟨v, rfl, hv, q⟩
theorem ec_hash {p : Addr} {xs : List V} (ha : Ev ta σ H (.ref p)) (hp : H p = some (.lst xs)) (hx : ∀ x ∈ xs, WV x) (hl : xs.length ≤ 1000) : Ev (tCall (sp_hash_of K) [] E (tCons ta tNil)) σ H (.int (lHash xs : Int)) := ev_call (ea_cons ha ea_nil) fun H1 e Q q E => ⟨p, xs, rfl, sq_of (e _ _ hp), hx, hl, q⟩
theorem ec_hashN {xs : List V} (ha : EvL ta σ H xs) (hx : ∀ x ∈ xs, WV x) (hl : xs.length ≤ 1000) : Ev (tCall (sp_hash_of K) [] E (tCons ta tNil)) σ H (.int (lHash xs : Int)) := fun H1 e Q q =>
  ha H1 e _ fun p H2 hp e2 h2 => ⟨p, xs, rfl, sq_of h2, hx, hl, fun H3 e3 => q H3 (e2.trans e3)⟩
theorem ec_part {n d : Int} {t : Nat} (hd : divL[t]? = some d) (ha : Ev ta σ H (.int n)) (hb : Ev tb σ H (.int (t : Int))) : Ev (tCall (sp_part_of K) [] E (tCons ta (tCons tb tNil))) σ H (.int (n / d % 8)) := ev_call (ea_cons ha (ea_cons hb ea_nil)) fun H1 e Q q E => ⟨n, d, t, rfl, hd, q⟩
end
theorem ok__text_hash (D : Dn K mg "_text_hash" s__text_hash ["text"]) (z_ord : mg "ord" = none) (g__ABOVE_INTEGERS : ∃ u, mg "_ABOVE_INTEGERS" = some u ∧ RelV (.int (1000006)) u) (g__FACTOR_OF_TEXTS : ∃ u, mg "_FACTOR_OF_TEXTS" = some u ∧ RelV (.int (31)) u) (g__FIRST_OF_TEXTS : ∃ u, mg "_FIRST_OF_TEXTS" = some u ∧ RelV (.int (7)) u) (g__PRIME : ∃ u, mg "_PRIME" = some u ∧ RelV (.int (1000003)) u) :
    C8.Cal P w K mg base 1 "_text_hash" (sp__text_hash K) [] := by
  refine cal_of D sc__text_hash (fun vs H Q E h => ?_) (fun f cdv A outer s H vs Q E hr h => ?_)
  · obtain ⟨_, rfl, _⟩ := h
    rfl
  refine ⟨_, (pss_cons (ps_set (i := 1) sc__text_hash.nd rfl (.inl rfl) (C8.pe_gc rfl g__FIRST_OF_TEXTS))
    (pss_cons (ps_for PassesOwn.never rfl (pi_str (pv 0)) (pg_name (i := 2) sc__text_hash.nd rfl (.inl rfl))
      (pss_one (ps_set (i := 1) sc__text_hash.nd rfl (.inl rfl) (pe_op op_mod (pe_op op_add (pe_op op_mul (pv 1) (C8.pe_gc rfl g__FACTOR_OF_TEXTS)) (pe_callB call_ord (by rfl) z_ord (by decide +kernel) (pa_cons (pv 2) pa_nil))) (C8.pe_gc rfl g__PRIME)))))
    (pss_one (ps_ret (pe_op op_add (C8.pe_gc rfl g__ABOVE_INTEGERS) (pv 1)))))), ?_⟩
  obtain ⟨l, rfl, hl, q⟩ := h
  refine q_asg (v := .int ((7 : Nat) : Int)) ev_c fun H1 e1 => ?_
  refine q_forX (w := l) (ev_var rfl) (fun i σ H' => ∃ y2, σ = [some (.str (SX.S l)), some (.int ((tHash (l.take i) : Nat) : Int)), y2] ∧ Ex H H') (fun H2 e2 => ⟨none, rfl, e1.trans e2⟩) (fun i c σ' H' hc pv => ?_) fun σ' H' pv => ?_
  · obtain ⟨y2, rfl, e⟩ := pv
    exact s_asg (ev_is (ev_op (ev_op (ev_op (ev_var rfl) ev_c (rv_I (.inr ⟨by decide, by decide⟩))) (ev_ord rfl) rv_I0) ev_c (rv_I (by decide))) (congrArg V.int (tHash_step hc))) fun H3 e3 => ⟨_, rfl, e.trans e3⟩
  · obtain ⟨y2, rfl, e⟩ := pv
    rw [List.take_length]
    exact s_ret (ev_is (ev_op ev_c (ev_var rfl) rv_I0) (by rw [Int.natCast_add]; rfl)) fun H3 e3 => q _ (e.trans e3)
theorem ok__value_hash (D : Dn K mg "_value_hash" s__value_hash ["value"]) (c__text_hash : C8.Cal P w K mg base 1 "_text_hash" (sp__text_hash K) []) (c_is_integer : C8.Cal P w K mg base 1 "is_integer" (sp_is_integer K) []) (z_isinstance : mg "isinstance" = none) (z_str : mg "str" = none) (g__ABOVE_BOOLEANS : ∃ u, mg "_ABOVE_BOOLEANS" = some u ∧ RelV (.int (3)) u) (g__PRIME : ∃ u, mg "_PRIME" = some u ∧ RelV (.int (1000003)) u) :
    C8.Cal P w K mg base 2 "_value_hash" (sp__value_hash K) [] := by
  refine cal_of D sc__value_hash (fun vs H Q E h => ?_) (fun f cdv A outer s H vs Q E hr h => ?_)
  · obtain ⟨_, rfl, _⟩ := h
    rfl
  refine ⟨_, (pss_cons (ps_if (pt_cmpR op_isN (pv 0) pe_non (nomark _))
      (pss_one (ps_ret pe_int))
      pss_nil)
    (pss_cons (ps_if (pt_val (C8.pe_c c_is_integer hr (by decide) (by rfl) (pa_cons (pv 0) pa_nil)))
      (pss_one (ps_ret (pe_op op_add (C8.pe_gc rfl g__ABOVE_BOOLEANS) (pe_op op_mod (pv 0) (C8.pe_gc rfl g__PRIME)))))
      pss_nil)
    (pss_cons (ps_if (pt_val (pe_callB call_isi (by rfl) z_isinstance (by decide +kernel) (pa_cons (pv 0) (pa_cons (pe_bltn (v := .ty "str") (u := .type "str") rfl z_str (by decide +kernel) rfl) pa_nil))))
      (pss_one (ps_ret (C8.pe_c c__text_hash hr (by decide) (by rfl) (pa_cons (pv 0) pa_nil))))
      pss_nil)
    (pss_one (ps_ret (pe_ifExp (pt_val (pv 0)) pe_int pe_int)))))), ?_⟩
  obtain ⟨v, rfl, hv, q⟩ := h
  cases hv with
  | non => exact q_when (b := true) (et_test (ev_op (ev_var rfl) ev_c rv_isN)) (fun _ H1 e1 => s_ret ev_c fun H2 e2 => q H2 (e1.trans e2)) fun hb => nomatch hb
  | bl b =>
    refine q_when (b := false) (et_test (ev_op (ev_var rfl) ev_c rv_isN)) (fun hb => nomatch hb) fun _ H1 e1 => ?_
    refine q_when (b := false) (et_B (ec_pisx (.bl b) (ev_var rfl))) (fun hb => nomatch hb) fun _ H2 e2 => ?_
    refine q_when (b := false) (et_B (ev_isiP (ev_var rfl) (.bl b) (by show kitB "bool" "str" = some false; decide +kernel))) (fun hb => nomatch hb) fun _ H3 e3 => ?_
    refine s_ret (ev_if (v := .int (vHash (.bl b) : Int)) (et_B (ev_var rfl)) (fun hb => ev_is ev_c ?_) fun hb => ev_is ev_c ?_) fun H4 e4 => q H4 (((e1.trans e2).trans e3).trans e4)
    · rw [hb]; rfl
    · rw [hb]; rfl
  | int i hi =>
    refine q_when (b := false) (et_test (ev_op (ev_var rfl) ev_c rv_isN)) (fun hb => nomatch hb) fun _ H1 e1 => ?_
    refine q_when (b := true) (et_B (ec_pisx (.int i) (ev_var rfl))) (fun _ H2 e2 => ?_) fun hb => nomatch hb
    exact s_ret (ev_is (ev_op ev_c (ev_op (ev_var rfl) ev_c (rv_I (by decide))) rv_I0) (congrArg V.int (vHash_int i))) fun H3 e3 => q H3 ((e1.trans e2).trans e3)
  | str l hl hc =>
    refine q_when (b := false) (et_test (ev_op (ev_var rfl) ev_c rv_isN)) (fun hb => nomatch hb) fun _ H1 e1 => ?_
    refine q_when (b := false) (et_B (ec_pisx (.str _) (ev_var rfl))) (fun hb => nomatch hb) fun _ H2 e2 => ?_
    refine q_when (b := true) (et_B (ev_isiP (ev_var rfl) (.str _) (by show kitB "str" "str" = some true; decide +kernel))) (fun _ H3 e3 => ?_) fun hb => nomatch hb
    exact s_ret (ec_thash (by omega) (ev_var rfl)) fun H4 e4 => q H4 (((e1.trans e2).trans e3).trans e4)
theorem ok_hash_of (D : Dn K mg "hash_of" s_hash_of ["values"]) (c__value_hash : C8.Cal P w K mg base 2 "_value_hash" (sp__value_hash K) []) (g__FACTOR : ∃ u, mg "_FACTOR" = some u ∧ RelV (.int (131)) u) (g__FIRST : ∃ u, mg "_FIRST" = some u ∧ RelV (.int (17)) u) (g__PRIME : ∃ u, mg "_PRIME" = some u ∧ RelV (.int (1000003)) u) :
    C8.Cal P w K mg base 3 "hash_of" (sp_hash_of K) [] := by
  refine cal_of D sc_hash_of (fun vs H Q E h => ?_) (fun f cdv A outer s H vs Q E hr h => ?_)
  · obtain ⟨_, _, rfl, _⟩ := h
    rfl
  refine ⟨_, (pss_cons (ps_set (i := 1) sc_hash_of.nd rfl (.inl rfl) (C8.pe_gc rfl g__FIRST))
    (pss_cons (ps_for PassesOwn.never rfl (pi_list (pv 0)) (pg_name (i := 2) sc_hash_of.nd rfl (.inl rfl))
      (pss_one (ps_set (i := 1) sc_hash_of.nd rfl (.inl rfl) (pe_op op_mod (pe_op op_add (pe_op op_mul (pv 1) (C8.pe_gc rfl g__FACTOR)) (C8.pe_c c__value_hash hr (by decide) (by rfl) (pa_cons (pv 2) pa_nil))) (C8.pe_gc rfl g__PRIME)))))
    (pss_one (ps_ret (pv 1))))), ?_⟩
  obtain ⟨p, xs, rfl, hp, hx, hl, q⟩ := h
  refine q_asg (v := .int ((17 : Nat) : Int)) ev_c fun H1 e1 => ?_
  refine q_forLn (ev_var rfl) (ex_l e1 hp) (fun i σ H' => ∃ y2, σ = [some (.ref p), some (.int ((lHash (xs.take i) : Nat) : Int)), y2] ∧ Ex H H') (fun H2 e2 => ⟨none, rfl, e1.trans e2⟩) (fun i σ' H' _ pv => ?_) (fun i x σ' H' hi pv => ?_) fun σ' H' pv => ?_
  · obtain ⟨y2, rfl, e⟩ := pv
    exact ex_l e hp
  · obtain ⟨y2, rfl, e⟩ := pv
    exact s_asg (ev_is (ev_op (ev_op (ev_op (ev_var rfl) ev_c (rv_I (.inr ⟨by decide, by decide⟩))) (ec_vhash (hx x (List.mem_of_getElem? hi)) (ev_var rfl)) rv_I0) ev_c (rv_I (by decide))) (congrArg V.int (lHash_step hi))) fun H3 e3 => ⟨_, rfl, e.trans e3⟩
  · obtain ⟨y2, rfl, e⟩ := pv
    rw [List.take_length]
    exact s_ret (ev_var rfl) fun H3 e3 => q _ (e.trans e3)
theorem ok_part_of (D : Dn K mg "part_of" s_part_of ["number", "time"]) (g_PARTS : ∃ u, mg "PARTS" = some u ∧ RelV (.int (8)) u) {p__DIVISORS : Addr} (g__DIVISORS : ∃ u, mg "_DIVISORS" = some u ∧ RelV (.ref p__DIVISORS) u) (h__DIVISORS : ∀ H : Hp, SqT K H p__DIVISORS ([.int 64, .int 8, .int 1])) :
    C8.Cal P w K mg base 1 "part_of" (sp_part_of K) [] := by
  refine cal_of D sc_part_of (fun vs H Q E h => ?_) (fun f cdv A outer s H vs Q E hr h => ?_)
  · obtain ⟨_, _, _, rfl, _⟩ := h
    rfl
  refine ⟨_, (pss_one (ps_ret (pe_op op_mod (pe_op op_fdiv (pv 0) (pe_ix ix_tup (C8.pe_gc rfl g__DIVISORS) (pv 1) (fun _ _ => rfl))) (C8.pe_gc rfl g_PARTS)))), ?_⟩
  obtain ⟨n, d, t, rfl, hd, q⟩ := h
  have ht : t = 0 ∨ t = 1 ∨ t = 2 := by
    have := (List.getElem?_eq_some_iff.mp hd).1
    have : divL.length = 3 := rfl
    omega
  rcases ht with h | h | h <;> subst h <;> cases hd <;> exact s_ret (ev_op (ev_op (ev_var rfl) (ev_op ev_c (ev_var rfl) (rv_ixT (h__DIVISORS _) (atI_nat rfl))) (rv_I ⟨by decide, by decide⟩)) ev_c (rv_I (by decide))) fun H1 e1 => q H1 e1
end

--@SPLIT
/-! ### rows and their keys -/
theorem map_getD {α β : Type} {s : List α} {d : α} {F : α → β} : (List.range s.length).map (fun i => F (s.getD i d)) = s.map F := by
  apply List.ext_getElem?
  intro i
  rw [List.getElem?_map, List.getElem?_map]
  by_cases h : i < s.length
  · rw [List.getElem?_range h, List.getElem?_eq_getElem h]
    show some (F (s.getD i d)) = some (F s[i])
    rw [List.getD_eq_getElem?_getD, List.getElem?_eq_getElem h]
    rfl
  · rw [List.getElem?_eq_none (by rw [List.length_range]; omega), List.getElem?_eq_none (by omega)]
    rfl
theorem al2_at {α : Type} {R : Hp → Addr → α → Prop} {H : Hp} {qs : List Addr} {L : List α} (h : Al2 R H qs L) {i : Nat} {x : V} (hi : (qs.map V.ref)[i]? = some x) : ∃ q l, x = .ref q ∧ qs[i]? = some q ∧ L[i]? = some l ∧ R H q l := by
  rw [List.getElem?_map] at hi
  obtain ⟨q, hq, rfl⟩ := Option.map_eq_some_iff.mp hi
  have hlt : i < L.length := by rw [← h.1]; exact (List.getElem?_eq_some_iff.mp hq).1
  exact ⟨q, L[i], rfl, hq, List.getElem?_eq_getElem hlt, h.2 i q _ hq (List.getElem?_eq_getElem hlt)⟩
def ExprsAt (K : PySem.W.Frag) (H : Hp) (t : Addr) (es : List Cnd) : Prop := ∃ vs : List V, SqT K H t vs ∧ vs.length = es.length ∧ ∀ (i : Nat) v e, vs[i]? = some v → es[i]? = some e → CxAt K H v e 8
theorem ExprsAt.mn {K : PySem.W.Frag} : Mn (ExprsAt K) := fun H H' q l e h => by
  obtain ⟨vs, h1, h2, h3⟩ := h
  exact ⟨vs, ex_t e h1, h2, fun i v x a b => (h3 i v x a b).ex e⟩
def OkXs (es : List Cnd) : Prop := es.length ≤ 1000 ∧ ∀ e ∈ es, ∃ w, e.ok w
def sp_evaluate_all (K : PySem.W.Frag) : Sp := fun vs H Q _ => ∃ (t a : Addr) (es : List Cnd) (xs : List V), vs = [.ref t, .ref a] ∧ ExprsAt K H t es ∧ OkXs es ∧ SqL K H a xs ∧ OkRow xs ∧ ∀ p H', H p = none → Ex H H' → H' p = some (.lst (es.map (evE xs))) → Q (.ref p) H'
section
variable {P : Program} {w : World} {K : PySem.W.Frag} {mg : Str → Option Value} {base : Heap}
theorem ok_evaluate_all (D : Dn K mg "evaluate_all" s_evaluate_all ["expressions", "row"]) (c_evaluate : C8.Cal P w K mg base 15 "evaluate" (sp_evaluate K) []) :
    C8.Cal P w K mg base 16 "evaluate_all" (sp_evaluate_all K) [] := by
  refine cal_of D sc_evaluate_all (fun vs H Q E h => ?_) (fun f cdv A outer s H vs Q E hr h => ?_)
  · obtain ⟨_, _, _, _, rfl, _⟩ := h
    rfl
  refine ⟨_, (pss_one (ps_ret (pe_lc (own := [("expression", 2)]) (g := gName 2) (tt := tYes) rfl sc_evaluate_all.nd (pi_tup (pv 0)) (blkOk_by (N := n_evaluate_all) (sc := C8.fnScope s_evaluate_all) (by decide +kernel)) (fun _ _ _ _ _ => pg_name (i := 2) sc_evaluate_all.nd rfl (Or.inl rfl)) (fun _ _ _ _ _ => pts_nil) (fun _ _ _ _ _ => (C8.pe_c c_evaluate hr (by decide) (by rfl) (pa_cons (pv 2) (pa_cons (pv 1) pa_nil))))))), ?_⟩
  obtain ⟨t, a, es, xs, rfl, ⟨vs, hT, hlen, hvs⟩, hes, hS, hx, q⟩ := h
  have hz := hes.1
  refine s_retL (el_lcT (fun i => evE xs (es.getD i (.col 0))) (ev_var rfl) hT (by omega) (fun _ => rfl) fun i x H1 e1 hi => ?_) fun p H1 hp e1 h1 => q p H1 hp e1 (by
    rw [hlen] at h1
    have := map_getD (s := es) (d := .col 0) (F := evE xs)
    rw [this] at h1
    exact h1)
  have hie : i < es.length := by rw [← hlen]; exact (List.getElem?_eq_some_iff.mp hi).1
  have hg := List.getElem?_eq_getElem hie
  rw [getD_is hg]
  exact ec_eval (ev_var rfl) (ev_var rfl) ((hvs i x _ hi hg).ex e1) (ex_l e1 hS) hx.1 hx.2
def sp_sort_written (K : PySem.W.Frag) : Sp := fun vs H Q _ => ∃ (a : Addr) (xs : List V) (m : Int), vs = [.ref a, .int m] ∧ SqL K H a xs ∧ ∀ H', Ex H H' → Q (.int (if (xs.length : Int) > m then (xs.length : Int) else 0)) H'
theorem ok_sort_written (D : Dn K mg "sort_written" s_sort_written ["rows", "memory"]) (z_len : mg "len" = none) :
    C8.Cal P w K mg base 1 "sort_written" (sp_sort_written K) [] := by
  refine cal_of D sc_sort_written (fun vs H Q E h => ?_) (fun f cdv A outer s H vs Q E hr h => ?_)
  · obtain ⟨_, _, _, rfl, _⟩ := h
    rfl
  refine ⟨_, (pss_one (ps_ret (pe_ifExp (pt_cmpR op_gt (pe_callB call_len_seq (by rfl) z_len PySem.boot_len (pa_cons (pv 0) pa_nil)) (pv 1) (nomark _)) (pe_callB call_len_seq (by rfl) z_len PySem.boot_len (pa_cons (pv 0) pa_nil)) pe_int))), ?_⟩
  obtain ⟨a, xs, m, rfl, hS, q⟩ := h
  refine s_ret (ev_if (b := decide ((xs.length : Int) > m)) (et_test (ev_op (ev_len (ev_var rfl) hS) (ev_var rfl) rv_I0)) (fun hb => ev_is (ev_len (ev_var rfl) hS) (by rw [if_pos (of_decide_eq_true hb)])) fun hb => ev_is ev_c (by rw [if_neg (of_decide_eq_false hb)])) fun H1 e1 => q H1 e1
def PairAt (H : Hp) (t : Addr) (x : List V) : Prop := ∃ a b, H t = some (.tup [.ref a, .ref b]) ∧ RowAt H a x
theorem PairAt.mn : Mn PairAt := fun H H' q l e h => by
  obtain ⟨a, b, h1, h2⟩ := h
  exact ⟨a, b, e _ _ h1, e _ _ h2⟩
def sp__with_keys (K : PySem.W.Frag) : Sp := fun vs H Q _ => ∃ (t a : Addr) (es : List Cnd) (L : List (List V)), vs = [.ref t, .ref a] ∧ ExprsAt K H t es ∧ OkXs es ∧ Lst2 RowAt H a L ∧ OkRows L ∧ ∀ p H', H p = none → Ex H H' → Lst2 PairAt H' p (L.map fun r => es.map (evE r)) → Q (.ref p) H'
def sp__with_themselves (K : PySem.W.Frag) : Sp := fun vs H Q _ => ∃ (a : Addr) (L : List (List V)), vs = [.ref a] ∧ Lst2 RowAt H a L ∧ OkRows L ∧ ∀ p H', H p = none → Ex H H' → Lst2 PairAt H' p L → Q (.ref p) H'
end

--@SPLIT
/-! ### parts: what k61 and k59 share -/
def divL2 : List Nat := [64, 8, 1]
def partI (h : List V → Nat) (t : Nat) (x : List V) : Nat := h x / divL2.getD t 1 % 8
def spH (h : List V → Nat) : Sp := fun vs H Q _ => ∃ (p : Addr) (xs : List V), vs = [.ref p] ∧ H p = some (.lst xs) ∧ (∀ x ∈ xs, WV x) ∧ xs.length ≤ 1000 ∧ ∀ H', Ex H H' → Q (.int (h xs : Nat)) H'
section
variable {K : PySem.W.Frag} {σ : L2.St} {H : Hp} {tn : TE} {D : Ends} {tz : TS}
/-- [[] for _ in range(n)] -/
theorem q_empties {te : TE} (hte : ∀ σ H, EvL te σ H []) {i j : Nat} {vs : List Nat} {n : Nat} (hn : Ev tn σ H (.int (n : Int))) (hm : n ≤ 10000) (hw : ∀ x, wipe ((wipe σ vs).set j (some x)) vs = wipe σ vs)
    (k : ∀ l H1 (qs : List Addr), H l = none → Ex H H1 → H1 l = some (.lst (qs.map V.ref)) → qs.length = n → qs.Nodup → (∀ q ∈ qs, H1 q = some (.lst []) ∧ q ≠ l ∧ H q = none) → tz D (σ.set i (some (.ref l))) H1) :
    tSeq (tAsg (tLc (iRng1 (tCons tn tNil)) (gName j) tYes te vs) (gName i)) tz D σ H := hn H (Ex.refl H) _ fun H1 e1 => by
  refine ⟨(n : Int), rfl, by omega, by omega, fun Dl hD => ?_⟩
  refine lc_range (lo := 0) (n := ((n : Int)).toNat) (fun i H' => Ex H1 H' ∧ ∃ qs : List Addr, H' Dl = some (.lst (qs.map V.ref)) ∧ qs.length = i ∧ qs.Nodup ∧ ∀ q ∈ qs, H' q = some (.lst []) ∧ q ≠ Dl ∧ H1 q = none) ⟨Ex.new hD, [], upd_same, rfl, List.nodup_nil, fun q h => nomatch h⟩ (fun i H' hi pv => ?_) (fun H' pv => ?_)
  · obtain ⟨p1, qs, p2, p3, p4, p5⟩ := pv
    refine ⟨hw _, ?_⟩
    show te ((wipe σ vs).set j (some (.int ((0 : Int) + (i : Int))))) H' fun y H4 => ∃ acc, H4 Dl = some (.lst acc) ∧ acc.length < sizeLine ∧ _
    refine hte _ H' H' (Ex.refl H') _ fun r H4 hr e4 h4 => ⟨_, e4 _ _ p2, sz_lt (by rw [List.length_map]; omega), Ex.mut (p1.trans e4) hD, qs ++ [r], by rw [upd_same, List.map_append]; rfl, by rw [List.length_append, p3]; rfl, ?_, fun q hq => ?_⟩
    · refine List.nodup_append.mpr ⟨p4, List.nodup_cons.mpr ⟨(fun h => nomatch h), List.nodup_nil⟩, fun x hx y hy z => ?_⟩
      rw [List.mem_singleton.mp hy] at z
      subst z
      rw [(p5 x hx).1] at hr
      cases hr
    · have hrD : r ≠ Dl := fun z => by rw [z, p2] at hr; cases hr
      rcases List.mem_append.mp hq with h | h
      · obtain ⟨a, b, c⟩ := p5 q h
        exact ⟨by rw [upd_ne b]; exact e4 _ _ a, b, c⟩
      · rw [List.mem_singleton.mp h]
        exact ⟨by rw [upd_ne hrD]; exact h4, hrD, fresh_back p1 hr⟩
  · obtain ⟨p1, qs, p2, p3, p4, p5⟩ := pv
    exact k Dl H' qs (fresh_back e1 hD) (e1.trans p1) p2 (by rw [p3]; exact Int.toNat_natCast n) p4 fun q hq => ⟨(p5 q hq).1, (p5 q hq).2.1, fresh_back e1 (p5 q hq).2.2⟩
end
section
variable {K : PySem.W.Frag}
theorem q_forLG {σ : L2.St} {H : Hp} {D : Ends} {tz tu : TS} {tl : TE} {g : TG} {a : Addr} {xs : List V} (h : Ev tl σ H (.ref a)) (hx : SqL K H a xs) (Pv : Nat → L2.St → Hp → Prop) (h0 : ∀ H1, Ex H H1 → Pv 0 σ H1) (hl : ∀ i σ' H', i ≤ xs.length → Pv i σ' H' → SqL K H' a xs)
    (hs : ∀ i x σ' H', xs[i]? = some x → Pv i σ' H' → g x σ' H' fun σ2 H2 => tu { D with nx := Pv (i + 1), ct := Pv (i + 1), bk := tz D } σ2 H2) (hd : ∀ σ' H', Pv xs.length σ' H' → tz D σ' H') : tSeq (tFor (iList K tl) g tu) tz D σ H :=
  h H (Ex.refl H) _ fun H1 e => ⟨a, rfl, ⟨xs, ex_l e hx⟩, for_list (D := { D with nx := tz D }) Pv (h0 H1 e) hl hs hd⟩
theorem s_atU {σ : L2.St} {H : Hp} {D : Ends} {ta te : TE} {l : Addr} {xs ys : List V} (ha : Ev ta σ H (.ref l)) (hl : H l = some (.lst xs)) (h : EvU te σ H ys) (hz : xs.length < 100000) (k : ∀ p H1, H p = none → Ex H H1 → H1 p = some (.tup ys) → D.nx σ (upd H1 l (.lst (xs ++ [.ref p])))) : tDrop (tBM K "list" rAppend ta (tCons te tNil)) D σ H := s_appU hl ha h hz k
end
theorem pt_truthK {X : L2.Cx} {K : PySem.W.Frag} {a : Expr} {ta : TE} (h : X.K = K) (ha : PE X a ta) (he : ∀ whole, isTrue a X.env whole = (do let v ← whole; standAt a.pos; holding [v] (truthy v))) : PT X a (fun σ H Q => ta σ H fun x H' => ∃ k, TruV K x H' k ∧ Q k H') := h ▸ pt_truth ha he
section
variable {K : PySem.W.Frag} {σ : L2.St} {H : Hp} {D : Ends} {tz : TS} {ta te : TE} {g : TG}
theorem et_list {a : Addr} {xs : List V} (ha : Ev ta σ H (.ref a)) (hS : SqL K H a xs) : EvT (fun σ H Q => ta σ H fun x H' => ∃ k, TruV K x H' k ∧ Q k H') σ H (!xs.isEmpty) := fun H1 e Q q =>
  ha H1 e _ fun H2 e2 => ⟨_, .inl ⟨xs, ex_l (e.trans e2) hS, rfl⟩, q H2 e2⟩
theorem q_callS {sp : Sp} {dvs vs : List V} {tr : TA} {E : XK} (h : EvA tr σ H vs) (k : ∀ H1, Ex H H1 → sp (vs ++ dvs) H1 (fun x H2 => g x σ H2 (tz D)) E) : tSeq (tAsg (tCall sp dvs E tr) g) tz D σ H := h H (Ex.refl H) _ k
theorem q_seed {i j : Nat} {a c : V} (h : σ[j]? = some (some a)) (k : ∀ p q, H p = none → (upd H p (.tup [a, c])) q = none → tz D (σ.set i (some (.ref q))) (upd (upd H p (.tup [a, c])) q (.lst [.ref p]))) : tSeq (tAsg (tLst (tCons (tTup (tCons (tVar j) (tCons (tC c) tNil))) tNil)) (gName i)) tz D σ H :=
  ⟨a, h, by simp [sizeLine], fun p hp => ⟨by simp [sizeLine], fun q hq => k p q hp hq⟩⟩
theorem q_popG {l : Addr} {xs : List V} {y : V} (hl : H l = some (.lst (xs ++ [y]))) (ha : Ev ta σ H (.ref l)) (k : ∀ H1, Ex H H1 → g y σ (upd H1 l (.lst xs)) (tz D)) : tSeq (tAsg (tBM0 K "list" rPop ta) g) tz D σ H := ha H (Ex.refl H) _ fun H1 e1 =>
  ⟨Or.inl ⟨rfl, _, sq_of (e1 l _ hl)⟩, l, xs ++ [y], y, rfl, rfl, e1 l _ hl, by rw [List.length_append, List.length_singleton, Nat.add_sub_cancel, List.getElem?_append_right (Nat.le_refl _), Nat.sub_self]; rfl, by
    rw [List.dropLast_concat]
    exact k H1 e1⟩
theorem Al2.init {α : Type} {R : Hp → Addr → α → Prop} {qs : List Addr} {L : List α} {x : α} (h : Al2 R H qs (L ++ [x])) : ∃ ps p, qs = ps ++ [p] ∧ Al2 R H ps L ∧ R H p x := by
  rcases List.eq_nil_or_concat qs with z | ⟨ps, p, z⟩
  · subst z
    have := h.1
    simp at this
  · rw [List.concat_eq_append] at z
    subst z
    have hl : ps.length = L.length := by have := h.1; simpa using this
    refine ⟨ps, p, rfl, ⟨hl, fun i q l h1 h2 => h.2 i q l ?_ ?_⟩, h.2 ps.length p x ?_ ?_⟩
    · rw [List.getElem?_append_left (List.getElem?_eq_some_iff.mp h1).1]; exact h1
    · rw [List.getElem?_append_left (List.getElem?_eq_some_iff.mp h2).1]; exact h2
    · rw [List.getElem?_append_right (Nat.le_refl _), Nat.sub_self]; rfl
    · rw [hl, List.getElem?_append_right (Nat.le_refl _), Nat.sub_self]; rfl
theorem Al2.app {α : Type} {R : Hp → Addr → α → Prop} {H : Hp} {qs rs : List Addr} {L M : List α} (h : Al2 R H qs L) (h2 : Al2 R H rs M) : Al2 R H (qs ++ rs) (L ++ M) := by
  refine ⟨by rw [List.length_append, List.length_append, h.1, h2.1], fun i q l a b => ?_⟩
  by_cases hi : i < qs.length
  · rw [List.getElem?_append_left hi] at a
    rw [List.getElem?_append_left (by rw [← h.1]; exact hi)] at b
    exact h.2 i q l a b
  · rw [List.getElem?_append_right (by omega)] at a
    rw [List.getElem?_append_right (by rw [← h.1]; omega)] at b
    rw [← h.1] at b
    exact h2.2 _ q l a b
end
section
variable {K : PySem.W.Frag} {σ : L2.St} {H : Hp} {te : TE} {ds : List PyData} {D : Ends} {tz : TS}
theorem q_asgLD {i : Nat} (h : EvLD K te σ H ds) (k : ∀ p H1 ys, H p = none → Ex H H1 → H1 p = some (.lst ys) → DpAll K H1 ys ds → tz D (σ.set i (some (.ref p))) H1) : tSeq (tAsg te (gName i)) tz D σ H := h H (Ex.refl H) _ k
theorem s_asgL {i : Nat} {xs : List V} (h : EvL te σ H xs) (k : ∀ p H1, H p = none → Ex H H1 → H1 p = some (.lst xs) → D.nx (σ.set i (some (.ref p))) H1) : tAsg te (gName i) D σ H := h H (Ex.refl H) _ k
end
theorem take_snoc {α : Type} {L : List α} {i : Nat} {l : α} (h : L[i]? = some l) : L.take (i + 1) = L.take i ++ [l] := by rw [List.take_add_one, h]; rfl
theorem heldM {P : Program} {w : World} {K : PySem.W.Frag} {mg : Str → Option Value} {base : Heap} {j k : Nat} {f : Addr} {sp : Sp} (h : L2.Held P w K mg base j f sp) (l : j ≤ k) : L2.Held P w K mg base k f sp := by
  obtain ⟨fd, ps, F, hk, hb⟩ := h.ex
  exact ⟨fd, ps, F.mono l, hk, hb⟩
theorem q_asgE {σ : L2.St} {H : Hp} {te : TE} {D : Ends} {tz : TS} {i : Nat} (h : te σ H fun v H1 => tz D (σ.set i (some v)) H1) : tSeq (tAsg te (gName i)) tz D σ H := h

--@SPLIT
/-! ### joins: parts -/
/-- a list of rows that stood in G -/
def RG (G : Hp) (_ : Hp) (a : Addr) (x : List V) : Prop := RowAt G a x
theorem RG.mn {G : Hp} : Mn (RG G) := fun _ _ _ _ _ h => h
def jpart (h : List V → Nat) (t : Nat) (F : List V → List V) (L : List (List V)) (i : Nat) : List (List V) := L.filter fun r => decide (partI h t (F r) = i)
theorem jpart_len {h : List V → Nat} {t : Nat} {F : List V → List V} {L : List (List V)} {i : Nat} : (jpart h t F L i).length ≤ L.length := List.length_filter_le _ _
theorem jpart_mem {h : List V → Nat} {t : Nat} {F : List V → List V} {L : List (List V)} {i : Nat} {r : List V} (hr : r ∈ jpart h t F L i) : r ∈ L := (List.mem_filter.mp hr).1
def keyF (es : List Cnd) (r : List V) : List V := es.map (evE r)
/-- rows that can be hashed by their keys -/
def OkJ (es : List Cnd) (L : List (List V)) : Prop := L.length ≤ 100 ∧ ∀ r ∈ L, OkRow r ∧ ∀ v ∈ keyF es r, WV v
theorem OkJ.part {es : List Cnd} {L : List (List V)} (o : OkJ es L) {h : List V → Nat} {t : Nat} {F : List V → List V} {i : Nat} : OkJ es (jpart h t F L i) := ⟨Nat.le_trans jpart_len o.1, fun r hr => o.2 r (jpart_mem hr)⟩
def sp_paired_keys (K : PySem.W.Frag) : Sp := fun vs H Q _ => ∃ (l r : Addr) (es fs : List Cnd), vs = [.ref l, .ref r] ∧ ExprsAt K H l es ∧ ExprsAt K H r fs ∧ es.length ≤ 1000 ∧ fs.length ≤ 1000 ∧ ∀ p t u H', H p = none → Ex H H' → H' p = some (.tup [.ref t, .ref u]) → ExprsAt K H' t (es.take (min es.length fs.length)) → ExprsAt K H' u (fs.take (min es.length fs.length)) → Q (.ref p) H'
def sp_way_of_join (K : PySem.W.Frag) : Sp := fun vs H Q _ => ∃ w k : Str, vs = [.str w, .str k] ∧ ∀ H', Ex H H' → Q (.str (if decide (V.str k = V.str ("never" : Str)) = true then "loop" else w)) H'
def sp__in_parts (P : Program) (w : World) (K : PySem.W.Frag) (mg : Str → Option Value) (base : Heap) : Sp := fun vs H Q _ => ∃ (t a f : Addr) (n : Nat) (es : List Cnd) (L : List (List V)) (h : List V → Nat) (G : Hp), vs = [.ref t, .ref a, .int (n : Int), .ref f] ∧ n ≤ 2 ∧ Ex G H ∧ ExprsAt K H t es ∧ OkXs es ∧ Lst2 (RG G) H a L ∧ OkJ es L ∧ L2.Held P w K mg base 3 f (spH h) ∧
  ∀ p qs H', H p = none → Ex H H' → H' p = some (.lst (qs.map V.ref)) → (∀ q ∈ qs, H q = none) → Al2 (Lst2 (RG G)) H' qs ((List.range 8).map (jpart h n (keyF es) L)) → Q (.ref p) H'
theorem dp_takeT {K : PySem.W.Frag} {H : Hp} {es : List Cnd} {t : Addr} {vs : List V} {m : Nat} (h : ∀ (i : Nat) v e, vs[i]? = some v → es[i]? = some e → CxAt K H v e 8) : ∀ (i : Nat) v e, (vs.take m)[i]? = some v → (es.take m)[i]? = some e → CxAt K H v e 8 := fun i v e h1 h2 => by
  rw [List.getElem?_take] at h1 h2
  split at h1
  · rename_i hlt
    rw [if_pos hlt] at h2
    exact h i v e h1 h2
  · cases h1
section
variable {K : PySem.W.Frag} {σ : L2.St} {H : Hp} {te tb : TE}
/-- t[:m] of keys -/
theorem sl_keys {t : Addr} {es : List Cnd} {m : Nat} (ht : Ev te σ H (.ref t)) (hb : Ev tb σ H (.int (m : Int))) (hE : ExprsAt K H t es) (hz : es.length ≤ 1000) : ∀ H1, Ex H H1 → ∀ Q : VK, (∀ p H2, Ex H1 H2 → ExprsAt K H2 p (es.take m) → Q (.ref p) H2) → tSl (rSlA K) te tNoPart (tPart tb) σ H1 Q := fun H1 e Q q =>
  ht H1 e _ fun H2 e2 => hb H2 (e.trans e2) _ fun H3 e3 => by
    obtain ⟨vs, h1, h2, h3⟩ := hE
    have x3 := e.trans (e2.trans e3)
    have hS := ex_t x3 h1
    have hx : HT.sIx vs.length vs.length (some (m : Int)) = min m vs.length := HT.sIx_nat ..
    have hc : cutV vs none (some (m : Int)) = vs.take m := by
      have := cutV_nat (xs := vs) (i := 0) (j := m)
      rw [List.drop_zero] at this
      rw [← this]
      rfl
    refine ⟨(m : Int), rfl, t, vs, rfl, hS, fun hw => ?_, fun hw pn hpn => ?_⟩
    · have hl : vs.length ≤ m := by
        have := hw.2
        rw [hx] at this
        omega
      rw [List.take_of_length_le (by omega)] at q
      exact q t H3 (e2.trans e3) ⟨vs, hS, h2, fun i v x a b => (h3 i v x a b).ex x3⟩
    · rw [hc]
      refine q pn _ ((e2.trans e3).trans (Ex.new hpn)) ⟨vs.take m, st_of upd_same, by rw [List.length_take, List.length_take, h2], ?_⟩
      exact dp_takeT (t := t) fun i v x a b => (h3 i v x a b).ex (x3.trans (Ex.new hpn))
end
section
variable {P : Program} {w : World} {K : PySem.W.Frag} {mg : Str → Option Value} {base : Heap}
theorem ok_paired_keys (D : Dn K mg "paired_keys" s_paired_keys ["left", "right"]) (z_len : mg "len" = none) (z_min : mg "min" = none) :
    C8.Cal P w K mg base 1 "paired_keys" (sp_paired_keys K) [] := by
  refine cal_of D sc_paired_keys (fun vs H Q E h => ?_) (fun f cdv A outer s H vs Q E hr h => ?_)
  · obtain ⟨_, _, _, _, rfl, _⟩ := h
    rfl
  refine ⟨_, (pss_cons (ps_set (i := 2) sc_paired_keys.nd rfl (.inl rfl) (pe_callB (call_min2 rfl) (by rfl) z_min (by decide +kernel) (pa_cons (pe_callB call_len_seq (by rfl) z_len PySem.boot_len (pa_cons (pv 0) pa_nil)) (pa_cons (pe_callB call_len_seq (by rfl) z_len PySem.boot_len (pa_cons (pv 1) pa_nil)) pa_nil))))
    (pss_one (ps_ret (pe_tup (pa_cons (pe_slice sl_tupA (pv 0) po_none (po_some (pv 2))) (pa_cons (pe_slice sl_tupA (pv 1) po_none (po_some (pv 2))) pa_nil)))))), ?_⟩
  obtain ⟨l, r, es, fs, rfl, hE, hF, hz1, hz2, q⟩ := h
  obtain ⟨vs, hv, hvl, _⟩ := id hE
  obtain ⟨us, hu, hul, _⟩ := id hF
  refine q_asg (v := .int ((min es.length fs.length : Nat) : Int)) (ev_is (ev_min2 (ev_lenT (ev_var rfl) hv) (ev_lenT (ev_var rfl) hu)) (by rw [hvl, hul]; congr 1; split <;> omega)) fun H1 e1 => ?_
  refine (sl_keys (K := K) (σ := [some (.ref l), some (.ref r), some (.int ((min es.length fs.length : Nat) : Int))]) (ev_var rfl) (ev_var rfl) (ExprsAt.mn _ _ _ _ e1 hE) hz1) H1 (Ex.refl H1) _ fun p H2 e2 h2 => ?_
  refine (sl_keys (K := K) (σ := [some (.ref l), some (.ref r), some (.int ((min es.length fs.length : Nat) : Int))]) (ev_var rfl) (ev_var rfl) (ExprsAt.mn _ _ _ _ (e1.trans e2) hF) hz2) H2 (Ex.refl H2) _ fun u H3 e3 h3 => ?_
  have x3 := e1.trans (e2.trans e3)
  exact ⟨sz_of (by show 2 ≤ 100000; decide), fun d hd => q d p u _ (fresh_back x3 hd) (x3.trans (Ex.new hd)) upd_same (ExprsAt.mn _ _ _ _ (e3.trans (Ex.new hd)) h2) (ExprsAt.mn _ _ _ _ (Ex.new hd) h3)⟩
theorem ok_way_of_join (D : Dn K mg "way_of_join" s_way_of_join ["way", "kind"]) :
    C8.Cal P w K mg base 1 "way_of_join" (sp_way_of_join K) [] := by
  refine cal_of D sc_way_of_join (fun vs H Q E h => ?_) (fun f cdv A outer s H vs Q E hr h => ?_)
  · obtain ⟨_, _, rfl, _⟩ := h
    rfl
  refine ⟨_, (pss_one (ps_ret (pe_ifExp (pt_cmpR op_eq (pv 1) pe_str (nomark _)) pe_str (pv 0)))), ?_⟩
  obtain ⟨w', k, rfl, q⟩ := h
  exact s_ret (ev_if (b := decide (V.str k = V.str ("never" : Str))) (et_test (ev_op (ev_var rfl) ev_c (rv_eq rfl))) (fun hb => ev_is ev_c (by rw [if_pos hb])) fun hb => ev_is (ev_var rfl) (by rw [if_neg (by rw [hb]; decide)])) fun H1 e1 => q H1 e1
theorem ok__in_parts (D : Dn K mg "_in_parts" s__in_parts ["keys", "rows", "time", "hashed"]) (c_evaluate_all : C8.Cal P w K mg base 16 "evaluate_all" (sp_evaluate_all K) []) (c_part_of : C8.Cal P w K mg base 1 "part_of" (sp_part_of K) []) (z_range : mg "range" = none) (g_PARTS : ∃ u, mg "PARTS" = some u ∧ RelV (.int (8)) u) :
    C8.Cal P w K mg base 17 "_in_parts" (sp__in_parts P w K mg base) [] := by
  refine cal_of D sc__in_parts (fun vs H Q E h => ?_) (fun f cdv A outer s H vs Q E hr h => ?_)
  · obtain ⟨_, _, _, _, _, _, _, _, rfl, _⟩ := h
    rfl
  refine ⟨_, (pss_cons (ps_setLc (i := 4) (own := [("_", 6)]) (g := gName 6) (tt := tYes) rfl sc__in_parts.nd rfl rfl (sw_true rfl rfl rfl (by decide +kernel)) (pi_range1 rfl z_range (pa_cons (C8.pe_gc rfl g_PARTS) pa_nil)) (blkOk_by (N := n__in_parts) (sc := C8.fnScope s__in_parts) (by decide +kernel)) (fun _ _ _ _ _ => pg_name (i := 6) sc__in_parts.nd rfl (Or.inl rfl)) (fun _ _ _ _ _ => pts_nil) (fun _ _ _ _ _ => (pe_lst pa_nil)))
    (pss_cons (ps_for PassesOwn.never rfl (pi_list (pv 1)) (pg_name (i := 5) sc__in_parts.nd rfl (.inl rfl))
      (pss_one (ps_expr (pe_bm PySem.F.plainAttrs_list PySem.F.slot_list_append PySem.F.type_list_append mt_append (pe_ix ix_list (pv 4) (C8.pe_c c_part_of hr (by decide) (by rfl) (pa_cons (pe_callH (i := 3) hr rfl (Or.inl rfl) (pa_cons (C8.pe_c c_evaluate_all hr (by decide) (by rfl) (pa_cons (pv 0) (pa_cons (pv 5) pa_nil))) pa_nil)) (pa_cons (pv 2) pa_nil))) (fun _ _ => rfl)) (pa_cons (pv 5) pa_nil)))))
    (pss_one (ps_ret (pv 4))))), ?_⟩
  obtain ⟨t, a, f', n, es, L, h', G, rfl, hn, eG, hE, hes, ⟨ts0, hts0, hA⟩, hok, hH, q⟩ := h
  refine q_empties (fun σ H => el_lst ea_nil (by decide)) (n := 8) ev_c (by decide) (fun _ => rfl) fun pp H3 qs hpp e3 h3 hq8 hnd hqs => ?_
  have hlen : (ts0.map V.ref).length = L.length := by rw [List.length_map, hA.1]
  have hqH : ∀ q ∈ qs, H q = none := fun q hq => (hqs q hq).2.2
  have hppq : ∀ q ∈ qs, q ≠ pp := fun q hq => (hqs q hq).2.1
  refine q_forLn (xs := ts0.map V.ref) (ev_var rfl) (sq_of (e3 _ _ hts0)) (fun i σ' H' => ∃ (v5 : Option V), σ' = [some (.ref t), some (.ref a), some (.int (n : Int)), some (.ref f'), some (.ref pp), v5, none] ∧ Ex H H' ∧ H' pp = some (.lst (qs.map V.ref)) ∧ ∀ (j : Nat) q, qs[j]? = some q → Lst2 (RG G) H' q (jpart h' n (keyF es) (L.take i) j)) (fun H4 e4 => ⟨none, rfl, e3.trans e4, e4 _ _ h3, fun j q hj => ⟨[], e4 _ _ (hqs q (List.mem_of_getElem? hj)).1, Al2.nil⟩⟩) (fun i σ' H' _ pv => ?_) (fun i x σ' H' hi pv => ?_) fun σ' H' pv => ?_
  · obtain ⟨_, rfl, x, _⟩ := pv
    exact sq_of (x _ _ hts0)
  · obtain ⟨v5, rfl, x9, hp, hqv⟩ := pv
    obtain ⟨rp, r, rfl, hrp, hr, hrow⟩ := al2_at hA hi
    have hrL := List.mem_of_getElem? hr
    obtain ⟨hok1, hw⟩ := hok.2 r hrL
    have hp8 : partI h' n (keyF es r) < 8 := Nat.mod_lt _ (by decide)
    obtain ⟨qi, hqi⟩ : ∃ qi, qs[partI h' n (keyF es r)]? = some qi := ⟨_, List.getElem?_eq_getElem (by omega)⟩
    have hqm := List.mem_of_getElem? hqi
    obtain ⟨ti, hti, htA⟩ := hqv _ qi hqi
    have hdv : divL[n]? = some ((divL2.getD n 1 : Nat) : Int) := by
      rcases (show n = 0 ∨ n = 1 ∨ n = 2 by omega) with z | z | z <;> subst z <;> rfl
    have hL100 := hok.1
    have htl : ti.length ≤ 100 := by
      rw [htA.1]
      refine Nat.le_trans jpart_len ?_
      rw [List.length_take]
      omega
    have hz := hes.1
    refine s_app (l := qi) (v := .ref rp) hti (ev_op (y := .int ((partI h' n (keyF es r) : Nat) : Int)) (ev_var rfl) (ev_is (ec_part hdv (n := ((h' (keyF es r) : Nat) : Int)) (fun H6 e6 Q k => ⟨f', spH h', rfl, heldM (P := P) (w := w) (K := K) (mg := mg) (base := base) hH (by omega), .ref t, rfl, .ref rp, rfl, t, rp, es, r, rfl, ExprsAt.mn _ _ _ _ (x9.trans e6) hE, hes, sq_of ((eG.trans (x9.trans e6)) _ _ hrow), hok1, fun p H7 hp7 e7 h7 => ⟨p, keyF es r, rfl, h7, hw, by unfold keyF; rw [List.length_map]; exact hz, fun H8 e8 => k H8 (e7.trans e8)⟩⟩) (ev_var rfl)) (by unfold partI; rw [Int.natCast_emod, Int.natCast_ediv]; rfl)) (rv_ixL (sq_of hp) (atI_nat (by rw [List.getElem?_map, hqi]; rfl)))) (ev_var rfl) (by rw [List.length_map]; omega) fun H6 e6 => ?_
    refine ⟨_, rfl, Ex.mut (x9.trans e6) (hqH qi hqm), by rw [upd_ne (Ne.symm (hppq qi hqm))]; exact e6 _ _ hp, fun j q hj => ?_⟩
    rw [take_snoc hr]
    unfold jpart
    rw [List.filter_append]
    by_cases hji : j = partI h' n (keyF es r)
    · subst hji
      rw [hqi] at hj
      cases hj
      have h1 : [r].filter (fun x => decide (partI h' n (keyF es x) = partI h' n (keyF es r))) = [r] := by simp
      rw [h1]
      exact ⟨ti ++ [rp], by rw [upd_same, List.map_append]; rfl, (htA.mono fun q x _ g => g).snoc hrow⟩
    · obtain ⟨ts, hts, hTA⟩ := hqv j q hj
      have h1 : [r].filter (fun x => decide (partI h' n (keyF es x) = j)) = [] := by simp [Ne.symm hji]
      rw [h1, List.append_nil]
      have hqq : q ≠ qi := fun z => by
        subst z
        have := (List.getElem?_inj (List.getElem?_eq_some_iff.mp hj).1 hnd).mp (hj.trans hqi.symm)
        exact hji this
      exact ⟨ts, by rw [upd_ne hqq]; exact e6 _ _ hts, hTA.mono fun q x _ g => g⟩
  · obtain ⟨v5, rfl, x9, hp, hqv⟩ := pv
    rw [hlen, List.take_length] at hqv
    refine s_ret (ev_var rfl) fun H4 e4 => q pp qs H4 hpp (x9.trans e4) (e4 _ _ hp) hqH ⟨by rw [hq8, List.length_map, List.length_range], fun j q' l hj hl => ?_⟩
    have hj8 : j < 8 := by rw [← hq8]; exact (List.getElem?_eq_some_iff.mp hj).1
    rw [List.getElem?_map, List.getElem?_range hj8] at hl
    cases hl
    exact Lst2.mn RG.mn _ _ _ _ e4 (hqv j q' hj)
end

--@SPLIT
/-! ### joins: divided -/
def szJ (hl : Bool) (A B : List (List V)) : Nat := if hl = true then A.length else B.length
def wj (hl : Bool) (h : List V → Nat) (F Gf : List V → List V) (mem : Nat) : Nat → List (List V) → List (List V) → Nat
  | 0, _, _ => 0
  | r + 1, A, B => if szJ hl A B ≤ mem then 0 else A.length + B.length + ((List.range 8).map fun i => wj hl h F Gf mem r (jpart h (2 - r) F A i) (jpart h (2 - r) Gf B i)).sum
abbrev JM := Nat × List (List V) × List (List V)
def jrest (h : List V → Nat) (t : Nat) (F Gf : List V → List V) (A B : List (List V)) : List JM := (List.range 8).map fun i => (t + 1, jpart h t F A i, jpart h t Gf B i)
def jsum (hl : Bool) (h : List V → Nat) (F Gf : List V → List V) (mem : Nat) (M : List JM) : Nat := (M.map fun m => wj hl h F Gf mem (3 - m.1) m.2.1 m.2.2).sum
def jms (M : List JM) : Nat := (M.map fun m => 10 ^ (4 - m.1)).sum
theorem jsum_app (hl : Bool) (h : List V → Nat) (F Gf : List V → List V) (mem : Nat) (M N : List JM) : jsum hl h F Gf mem (M ++ N) = jsum hl h F Gf mem M + jsum hl h F Gf mem N := by
  unfold jsum
  rw [List.map_append, List.sum_append]
theorem jms_app (M N : List JM) : jms (M ++ N) = jms M + jms N := by
  unfold jms
  rw [List.map_append, List.sum_append]
theorem jms_len (M : List JM) : M.length ≤ jms M := by
  unfold jms
  induction M with
  | nil => exact Nat.zero_le _
  | cons m r ih =>
    rw [List.length_cons, List.map_cons, List.sum_cons]
    have : 0 < 10 ^ (4 - m.1) := Nat.pow_pos (by decide)
    omega
theorem wj_stop {hl : Bool} {h : List V → Nat} {F Gf : List V → List V} {mem t : Nat} {A B : List (List V)} (hs : szJ hl A B ≤ mem ∨ t = 3) (ht : t ≤ 3) : wj hl h F Gf mem (3 - t) A B = 0 := by
  cases hr : 3 - t with
  | zero => rfl
  | succ r =>
    rcases hs with hs | hs
    · exact if_pos hs
    · omega
theorem wj_go {hl : Bool} {h : List V → Nat} {F Gf : List V → List V} {mem t : Nat} {A B : List (List V)} (hs : ¬ szJ hl A B ≤ mem) (ht : t ≤ 2) : wj hl h F Gf mem (3 - t) A B = A.length + B.length + jsum hl h F Gf mem (jrest h t F Gf A B) := by
  rw [show 3 - t = (2 - t) + 1 by omega]
  show (if szJ hl A B ≤ mem then 0 else _) = _
  rw [if_neg hs]
  unfold jsum jrest
  rw [List.map_map]
  congr 2
  refine List.map_congr_left fun i _ => ?_
  show wj hl h F Gf mem (2 - t) (jpart h (2 - (2 - t)) F A i) (jpart h (2 - (2 - t)) Gf B i) = wj hl h F Gf mem (3 - (t + 1)) (jpart h t F A i) (jpart h t Gf B i)
  rw [show 2 - (2 - t) = t by omega, show 3 - (t + 1) = 2 - t by omega]
theorem jms_rest {h : List V → Nat} {F Gf : List V → List V} {t : Nat} {A B : List (List V)} (ht : t ≤ 2) : jms (jrest h t F Gf A B) < 10 ^ (4 - t) := by
  unfold jms jrest
  rw [List.map_map]
  rcases (show t = 0 ∨ t = 1 ∨ t = 2 by omega) with z | z | z <;> subst z
  · show ((List.range 8).map fun _ => 10 ^ 3).sum < 10 ^ 4
    decide
  · show ((List.range 8).map fun _ => 10 ^ 2).sum < 10 ^ 3
    decide
  · show ((List.range 8).map fun _ => 10 ^ 1).sum < 10 ^ 2
    decide
theorem jsum_rev (hl : Bool) (h : List V → Nat) (F Gf : List V → List V) (mem : Nat) (M : List JM) : jsum hl h F Gf mem M.reverse = jsum hl h F Gf mem M := by
  unfold jsum
  rw [List.map_reverse, List.sum_reverse]
theorem jms_rev (M : List JM) : jms M.reverse = jms M := by
  unfold jms
  rw [List.map_reverse, List.sum_reverse]
def StkJ (G : Hp) (l u : Addr) (H : Hp) (q : Addr) (m : JM) : Prop := ∃ sd a b, H q = some (.tup [.ref sd, .int (m.1 : Int)]) ∧ H sd = some (.tup [.ref a, .ref b]) ∧ (a ≠ l ∧ a ≠ u) ∧ (b ≠ l ∧ b ≠ u) ∧ Lst2 (RG G) H a m.2.1 ∧ Lst2 (RG G) H b m.2.2
theorem StkJ.mn {G : Hp} {l u : Addr} : Mn (StkJ G l u) := fun H H' q m e h => by
  obtain ⟨sd, a, b, h1, h2, h3, h4, h5, h6⟩ := h
  exact ⟨sd, a, b, e _ _ h1, e _ _ h2, h3, h4, Lst2.mn RG.mn _ _ _ _ e h5, Lst2.mn RG.mn _ _ _ _ e h6⟩
theorem StkJ.upd {G H : Hp} {l u d : Addr} {o v : HO} (hl : H d = some o) (ho : ∀ xs, o ≠ .tup xs) (hd : d = l ∨ d = u) {q : Addr} {m : JM} (h : StkJ G l u H q m) : StkJ G l u (upd H d v) q m := by
  obtain ⟨sd, a, b, h1, h2, ⟨h3, h3'⟩, ⟨h4, h4'⟩, ⟨ts, h5, h5'⟩, ⟨us, h6, h6'⟩⟩ := h
  have ha : a ≠ d := by rcases hd with z | z <;> rw [z] <;> assumption
  have hb : b ≠ d := by rcases hd with z | z <;> rw [z] <;> assumption
  have tn : ∀ {p : Addr} {xs : List V}, H p = some (.tup xs) → p ≠ d := fun hp z => by rw [z, hl] at hp; cases hp; exact ho _ rfl
  exact ⟨sd, a, b, by rw [upd_ne (tn h1)]; exact h1, by rw [upd_ne (tn h2)]; exact h2, ⟨h3, h3'⟩, ⟨h4, h4'⟩, ⟨ts, by rw [upd_ne ha]; exact h5, h5'.mono fun q x _ g => g⟩, ⟨us, by rw [upd_ne hb]; exact h6, h6'.mono fun q x _ g => g⟩⟩
section
variable {K : PySem.W.Frag} {σ : L2.St} {H : Hp} {tl tr te : TE} {x y : V}
theorem gt21 {p s : Addr} {z : V} {i j l : Nat} (h : SqT K H p [.ref s, z]) (h2 : SqT K H s [x, y]) {Q : L2.St → Hp → Prop} (k : Q (((σ.set i (some x)).set j (some y)).set l (some z)) H) : gTup K 2 (gCons (gTup K 2 (gCons (gName i) (gCons (gName j) gNil))) (gCons (gName l) gNil)) (.ref p) σ H Q :=
  ⟨p, [.ref s, z], rfl, h, rfl, .ref s, [z], rfl, s, [x, y], rfl, h2, rfl, x, [y], rfl, y, [], rfl, rfl, z, [], rfl, rfl, k⟩
/-- [(part, n + 1) for part in zip(xs, ys)] -/
theorem el_zipJ {pl pr : Addr} {ls rs : List Addr} {j tm t : Nat} {vs : List Nat} (hl : Ev tl σ H (.ref pl)) (hr : Ev tr σ H (.ref pr)) (h1 : H pl = some (.lst (ls.map V.ref))) (h2 : H pr = some (.lst (rs.map V.ref))) (hlen : rs.length = ls.length) (hz : ls.length ≤ 1000) (hw : ∀ x, wipe ((wipe σ vs).set j (some x)) vs = wipe σ vs) (hj : ∀ x, ((wipe σ vs).set j (some x))[j]? = some (some x)) (ht : ∀ x, ((wipe σ vs).set j (some x))[tm]? = some (some (.int (t : Int)))) :
    ∀ H0, Ex H H0 → ∀ Q : VK, (∀ (p : Addr) (qs : List Addr) (H2 : Hp), H0 p = none → Ex H0 H2 → H2 p = some (.lst (qs.map V.ref)) → qs.length = ls.length → (∀ (i : Nat) q a b, qs[i]? = some q → ls[i]? = some a → rs[i]? = some b → ∃ s, H2 q = some (.tup [.ref s, .int ((t : Int) + 1)]) ∧ H2 s = some (.tup [.ref a, .ref b])) → Q (.ref p) H2) →
      tLc (iZip K (tCons tl (tCons tr tNil))) (gName j) tYes (tTup (tCons (tVar j) (tCons (tOp (rI0 fun i j => .int (i + j)) (tVar tm) (tC (.int 1))) tNil))) vs σ H0 Q := fun H0 e0 Q q => hl H0 e0 _ fun H1 e1 => hr H1 (e0.trans e1) _ fun H2 e2 => by
  have x2 := (e0.trans e1).trans e2
  have hL : ∀ {Hx : Hp}, Ex H2 Hx → SqL K Hx pl (ls.map V.ref) := fun ex => sq_of ((x2.trans ex) _ _ h1)
  have hR : ∀ {Hx : Hp}, Ex H2 Hx → SqL K Hx pr (rs.map V.ref) := fun ex => sq_of ((x2.trans ex) _ _ h2)
  refine ⟨pl, pr, ls.map V.ref, rs.map V.ref, rfl, hL (Ex.refl _), hR (Ex.refl _), fun Dl hD => ?_⟩
  refine lc_it (walk_zip (K := K) (a := pl) (b := pr) (xs := ls.map V.ref) (ys := rs.map V.ref) (n := ls.length) (by simp [hlen])) (g := gName j) (tt := tYes) (te := tTup (tCons (tVar j) (tCons (tOp (rI0 fun i j => .int (i + j)) (tVar tm) (tC (.int 1))) tNil))) (vs := vs) (σ := σ) (Qd := fun H' => Q (.ref Dl) H') (fun k H' => Ex H2 H' ∧ ∃ qs : List Addr, H' Dl = some (.lst (qs.map V.ref)) ∧ qs.length = k ∧ ∀ (i : Nat) q a b, qs[i]? = some q → ls[i]? = some a → rs[i]? = some b → ∃ s, H' q = some (.tup [.ref s, .int ((t : Int) + 1)]) ∧ H' s = some (.tup [.ref a, .ref b])) ⟨Ex.new hD, [], upd_same, rfl, fun i q a b h => by simp at h⟩ (fun i H' _ p => ⟨hL p.1, hR p.1⟩) (fun k x H' H3 hk p hy => ?_) fun H' p => ?_
  · obtain ⟨p1, qs, p2, p3, p4⟩ := p
    obtain ⟨T, x', y', rfl, hT, rfl, hx', hy'⟩ := hy
    replace hx' : (ls.map V.ref)[k]? = some x' := hx'
    replace hy' : (rs.map V.ref)[k]? = some y' := hy'
    rw [List.getElem?_map] at hx' hy'
    obtain ⟨a, ha, rfl⟩ := Option.map_eq_some_iff.mp hx'
    obtain ⟨b, hb, rfl⟩ := Option.map_eq_some_iff.mp hy'
    have e3 : Ex H' (upd H' T (.tup [.ref a, .ref b])) := Ex.new hT
    have hTD : T ≠ Dl := fun z => by rw [z, p2] at hT; cases hT
    refine ⟨hw _, ?_⟩
    refine ⟨_, hj _, _, ht _, _, _, rfl, rfl, by simp [sizeLine], fun p hp => ⟨_, Ex.new hp _ _ (e3 _ _ p2), sz_lt (by rw [List.length_map]; omega), Ex.mut ((p1.trans e3).trans (Ex.new hp)) hD, qs ++ [p], by rw [upd_same, List.map_append]; rfl, by rw [List.length_append, p3]; rfl, fun i q a' b' hq ha' hb' => ?_⟩⟩
    have hpD : p ≠ Dl := fun z => by rw [z, e3 _ _ p2] at hp; cases hp
    by_cases hi : i < qs.length
    · rw [List.getElem?_append_left hi] at hq
      obtain ⟨s, g1, g2⟩ := p4 i q a' b' hq ha' hb'
      have up : ∀ {c : Addr} {xs : List V}, H' c = some (.tup xs) → upd (upd (upd H' T (.tup [.ref a, .ref b])) p (.tup [.ref T, .int ((t : Int) + 1)])) Dl (.lst (qs.map V.ref ++ [.ref p])) c = some (.tup xs) := fun {c xs} hc => by
        rw [upd_ne (fun z => by rw [z, p2] at hc; cases hc)]
        exact Ex.new hp _ _ (e3 _ _ hc)
      exact ⟨s, up g1, up g2⟩
    · have hik : i = k := by
        have h5 := (List.getElem?_eq_some_iff.mp hq).1
        rw [List.length_append, List.length_singleton] at h5
        omega
      subst hik
      rw [List.getElem?_append_right (by omega), p3, Nat.sub_self] at hq
      cases hq
      rw [ha] at ha'
      cases ha'
      rw [hb] at hb'
      cases hb'
      refine ⟨T, by rw [upd_ne hpD]; exact upd_same, ?_⟩
      rw [upd_ne hTD]
      exact Ex.new hp _ _ upd_same
  · obtain ⟨p1, qs, p2, p3, p4⟩ := p
    exact q Dl qs H' (fresh_back (e1.trans e2) hD) ((e1.trans e2).trans p1) p2 p3 p4
end

--@SPLIT
def sp__divided (P : Program) (w : World) (K : PySem.W.Frag) (mg : Str → Option Value) (base : Heap) : Sp := fun vs H Q _ => ∃ (way : Str) (ks sd f t u a b : Addr) (mem : Nat) (es fs : List Cnd) (A B : List (List V)) (h : List V → Nat), vs = [.str way, .ref ks, .ref sd, .int (mem : Int), .ref f] ∧ H ks = some (.tup [.ref t, .ref u]) ∧ ExprsAt K H t es ∧ OkXs es ∧ ExprsAt K H u fs ∧ OkXs fs ∧ H sd = some (.tup [.ref a, .ref b]) ∧ Lst2 RowAt H a A ∧ Lst2 RowAt H b B ∧ OkJ es A ∧ OkJ fs B ∧ L2.Held P w K mg base 3 f (spH h) ∧
  ∀ p v H', H p = none → Ex H H' → H' p = some (.tup [v, .int ((wj (decide (V.str way = V.str ("hash left" : Str))) h (keyF es) (keyF fs) mem 3 A B : Nat) : Int)]) → Q (.ref p) H'
def DjW (H : Hp) (way : Str) (ks sd f : Addr) (mem : Nat) (es fs : List Cnd) (A B : List (List V)) (h : List V → Nat) (wl wt : Addr) (m : Nat) (σ' : L2.St) (H' : Hp) : Prop := ∃ (v8 v9 v10 v11 v12 v13 v14 : Option V) (M : List JM) (qs : List Addr) (acc : List V) (c : Nat), σ' = [some (.str way), some (.ref ks), some (.ref sd), some (.int (mem : Int)), some (.ref f), some (.ref wl), some (.int (c : Int)), some (.ref wt), v8, v9, v10, v11, v12, v13, v14, none] ∧ Ex H H' ∧ H' wl = some (.lst acc) ∧ acc.length + m ≤ 20000 ∧ m ≤ 10000 ∧ H' wt = some (.lst (qs.map V.ref)) ∧ Al2 (StkJ H wl wt) H' qs M ∧ (∀ m ∈ M, m.1 ≤ 3 ∧ OkJ es m.2.1 ∧ OkJ fs m.2.2) ∧ c + jsum (decide (V.str way = V.str ("hash left" : Str))) h (keyF es) (keyF fs) mem M = wj (decide (V.str way = V.str ("hash left" : Str))) h (keyF es) (keyF fs) mem 3 A B ∧ jms M = m
section
variable {P : Program} {w : World} {K : PySem.W.Frag} {mg : Str → Option Value} {base : Heap}
theorem ok__divided (D : Dn K mg "_divided" s__divided ["way", "keys", "sides", "memory", "hashed"]) (c__in_parts : C8.Cal P w K mg base 17 "_in_parts" (sp__in_parts P w K mg base) []) (z_len : mg "len" = none) (z_zip : mg "zip" = none) (g_TIMES : ∃ u, mg "TIMES" = some u ∧ RelV (.int (3)) u) :
    C8.Cal P w K mg base 18 "_divided" (sp__divided P w K mg base) [] := by
  refine cal_of D sc__divided (fun vs H Q E h => ?_) (fun f cdv A outer s H vs Q E hr h => ?_)
  · obtain ⟨_, _, _, _, _, _, _, _, _, _, _, _, _, _, rfl, _⟩ := h
    rfl
  refine ⟨_, (pss_cons (ps_set (i := 5) sc__divided.nd rfl (.inl rfl) (pe_lst pa_nil))
    (pss_cons (ps_set (i := 6) sc__divided.nd rfl (.inl rfl) pe_int)
    (pss_cons (ps_set (i := 7) sc__divided.nd rfl (.inl rfl) (pe_lst (pa_cons (pe_tup (pa_cons (pv 2) (pa_cons pe_int pa_nil))) pa_nil)))
    (pss_cons (ps_while PassesOwn.never (pt_truth (pv 7) (by intro _; rfl))
      (pss_cons (ps_asg (pe_bm0 PySem.F.plainAttrs_list PySem.F.slot_list_pop PySem.F.type_list_pop mt_pop (pv 7)) (pg_tup rfl (pgs_cons (pg_tup rfl (pgs_cons (pg_name (i := 8) sc__divided.nd rfl (.inl rfl)) (pgs_cons (pg_name (i := 9) sc__divided.nd rfl (.inl rfl)) pgs_nil))) (pgs_cons (pg_name (i := 10) sc__divided.nd rfl (.inr rfl)) pgs_nil))))
    (pss_cons (ps_set (i := 11) sc__divided.nd rfl (.inl rfl) (pe_ifExp (pt_cmpR op_eq (pv 0) pe_str (nomark _)) (pv 8) (pv 9)))
    (pss_one (ps_if (PW.pt (pw_or (pt_cmpR op_le (pe_callB call_len_seq (by rfl) z_len PySem.boot_len (pa_cons (pv 11) pa_nil)) (pv 3) (nomark _)) (pw_or1 (pt_cmpR op_eq (pv 10) (C8.pe_gc rfl g_TIMES) (nomark _)))))
      (pss_one (ps_expr (pe_bm PySem.F.plainAttrs_list PySem.F.slot_list_append PySem.F.type_list_append mt_append (pv 5) (pa_cons (pe_tup (pa_cons (pv 8) (pa_cons (pv 9) pa_nil))) pa_nil))))
      (pss_cons (ps_aug (i := 6) sc__divided.nd rfl (.inl rfl) (pe_op op_add (pe_callB call_len_seq (by rfl) z_len PySem.boot_len (pa_cons (pv 8) pa_nil)) (pe_callB call_len_seq (by rfl) z_len PySem.boot_len (pa_cons (pv 9) pa_nil))) ip_add)
    (pss_cons (ps_set (i := 12) sc__divided.nd rfl (.inl rfl) (C8.pe_c c__in_parts hr (by decide) (by rfl) (pa_cons (pe_ix ix_tup (pv 1) pe_int (fun _ _ => rfl)) (pa_cons (pv 8) (pa_cons (pv 10) (pa_cons (pv 4) pa_nil))))))
    (pss_cons (ps_set (i := 13) sc__divided.nd rfl (.inl rfl) (C8.pe_c c__in_parts hr (by decide) (by rfl) (pa_cons (pe_ix ix_tup (pv 1) pe_int (fun _ _ => rfl)) (pa_cons (pv 9) (pa_cons (pv 10) (pa_cons (pv 4) pa_nil))))))
    (pss_cons (ps_setLc (i := 14) (own := [("part", 15)]) (g := gName 15) (tt := tYes) rfl sc__divided.nd rfl rfl (sw_true rfl rfl rfl (by decide +kernel)) (pi_zipN (by rfl) z_zip (pa_cons (pv 12) (pa_cons (pv 13) pa_nil))) (blkOk_by (N := n__divided) (sc := C8.fnScope s__divided) (by decide +kernel)) (fun _ _ _ _ _ => pg_name (i := 15) sc__divided.nd rfl (Or.inl rfl)) (fun _ _ _ _ _ => pts_nil) (fun _ _ _ _ _ => (pe_tup (pa_cons (pv 15) (pa_cons (pe_op op_add (pv 10) pe_int) pa_nil)))))
    (pss_one (ps_expr (pe_bm PySem.F.plainAttrs_list PySem.F.slot_list_extend PySem.F.type_list_extend mt_extend (pv 7) (pa_cons (pe_revL (pv 14)) pa_nil)))))))))))))
    (pss_one (ps_ret (pe_tup (pa_cons (pv 5) (pa_cons (pv 6) pa_nil))))))))), ?_⟩
  obtain ⟨way, ks, sd, f', t0, u0, a0, b0, mem, es, fs, A, B, h', rfl, hks, hE, hes, hF, hfs, hsd, hA, hB, hokA, hokB, hH, q⟩ := h
  refine q_asgL (el_lst ea_nil (by decide)) fun wl H1 hwl e1 h1 => ?_
  refine q_asg ev_c fun H2 e2 => ?_
  refine q_seed (a := .ref sd) (c := .int 0) rfl fun tp wt htp hwt => ?_
  have h2 := e2 _ _ h1
  have x2 := e1.trans e2
  have e3 : Ex H2 (upd H2 tp (.tup [.ref sd, .int 0])) := Ex.new htp
  have e4 := Ex.new (o := .lst [.ref tp]) hwt
  have hne : wl ≠ wt := fun z => by rw [← z, e3 _ _ h2] at hwt; cases hwt
  have hwtH : H wt = none := fresh_back (x2.trans e3) hwt
  have x4 := x2.trans (e3.trans e4)
  have nol : ∀ {p : Addr} {L : List (List V)}, Lst2 RowAt H p L → p ≠ wl ∧ p ≠ wt := fun ⟨ts, hts, _⟩ => ⟨fun z => (by rw [z, hwl] at hts; cases hts), fun z => (by rw [z, hwtH] at hts; cases hts)⟩
  have rg : ∀ {p : Addr} {L : List (List V)} {Hx : Hp}, Lst2 RowAt H p L → Ex H Hx → Lst2 (RG H) Hx p L := fun ⟨ts, hts, hT⟩ ex => ⟨ts, ex _ _ hts, hT.mono fun q x _ g => g⟩
  generalize hhl : decide (V.str way = V.str ("hash left" : Str)) = hl at q
  refine q_while (DjW H way ks sd f' mem es fs A B h' wl wt) 10000 ⟨none, none, none, none, none, none, none, [(0, A, B)], [tp], [], 0, rfl, x4, (e3.trans e4) _ _ h2, by decide, by decide, upd_same, Al2.snoc Al2.nil ⟨sd, a0, b0, e4 _ _ upd_same, x4 _ _ hsd, nol hA, nol hB, rg hA x4, rg hB x4⟩, fun m hm => ?_, ?_, rfl⟩ fun m σ' H' hw => ?_
  · rw [List.mem_singleton.mp hm]
    exact ⟨Nat.zero_le _, hokA, hokB⟩
  · rw [hhl]
    show 0 + (wj hl h' (keyF es) (keyF fs) mem 3 A B + 0) = _
    omega
  · obtain ⟨v8, v9, v10, v11, v12, v13, v14, M, qs, acc, c, rfl, x, hlw, hacc, hm, ht, hS, hM, hc, rfl⟩ := hw
    rw [hhl] at hc
    refine ⟨_, et_list (ev_var rfl) (sq_of ht), fun hb H5 e5 => ?_, fun hb H5 e5 => ?_⟩
    · rcases List.eq_nil_or_concat M with z | ⟨M0, mt, z⟩
      · subst z
        have := hS.1
        rw [List.eq_nil_of_length_eq_zero this] at hb
        cases hb
      rw [List.concat_eq_append] at z
      subst z
      obtain ⟨qs0, qt, rfl, hS0, hSt⟩ := Al2.init hS
      obtain ⟨ht3, hoA, hoB⟩ := hM mt (List.mem_append_right _ (List.mem_singleton.mpr rfl))
      obtain ⟨t, At, Bt⟩ := mt
      replace ht3 : t ≤ 3 := ht3
      replace hoA : OkJ es At := hoA
      replace hoB : OkJ fs Bt := hoB
      refine ⟨fun σ' H' => ∃ m', m' < jms (M0 ++ [(t, At, Bt)]) ∧ DjW H way ks sd f' mem es fs A B h' wl wt m' σ' H', fun _ _ z => z, ?_⟩
      rw [List.map_append] at ht
      refine q_popG (e5 _ _ ht) (ev_var rfl) fun H6 e6 => ?_
      have ht6 := e6 _ _ (e5 _ _ ht)
      have e56 := e5.trans e6
      obtain ⟨s, a, b, g1, g2, g3, g4, g5, g6⟩ := StkJ.upd (v := .lst (qs0.map V.ref)) ht6 (fun _ z => nomatch z) (.inr rfl) (StkJ.mn _ _ _ _ e56 hSt)
      replace g1 : upd H6 wt (.lst (qs0.map V.ref)) qt = some (.tup [.ref s, .int (t : Int)]) := g1
      have x7 : Ex H (upd H6 wt (.lst (qs0.map V.ref))) := Ex.mut (x.trans e56) hwtH
      have hl7 : upd H6 wt (.lst (qs0.map V.ref)) wl = some (.lst acc) := by rw [upd_ne hne]; exact e56 _ _ hlw
      have ht7 : upd H6 wt (.lst (qs0.map V.ref)) wt = some (.lst (qs0.map V.ref)) := upd_same
      have hS7 := hS0.mono (H' := upd H6 wt (.lst (qs0.map V.ref))) fun q m _ g => StkJ.upd (v := .lst (qs0.map V.ref)) ht6 (fun _ z => nomatch z) (.inr rfl) (StkJ.mn _ _ _ _ e56 g)
      generalize upd H6 wt (.lst (qs0.map V.ref)) = H7 at g1 g2 g5 g6 x7 hl7 ht7 hS7 ⊢
      refine gt21 (st_of g1) (st_of g2) ?_
      obtain ⟨ta, hta, hTA⟩ := id g5
      obtain ⟨tb, htb, hTB⟩ := id g6
      obtain ⟨tab, Tt, htab, hTt, hTl⟩ : ∃ (tab : Addr) (Tt : List Addr), (if hl = true then a else b) = tab ∧ H7 tab = some (.lst (Tt.map V.ref)) ∧ Tt.length = szJ hl At Bt := by
        unfold szJ
        cases hl with
        | true => exact ⟨a, ta, rfl, hta, hTA.1⟩
        | false => exact ⟨b, tb, rfl, htb, hTB.1⟩
      refine q_asg (v := .ref tab) (ev_if (b := hl) (et_test (ev_is (ev_op (ev_var rfl) ev_c (rv_eq rfl)) (congrArg V.bl hhl))) (fun hb => ev_is (ev_var rfl) (by rw [← htab, if_pos hb])) fun hb => ev_is (ev_var rfl) (by rw [← htab, if_neg (by rw [hb]; decide)])) fun H8 e8 => ?_
      have hq0l : qs0.length = M0.length := hS0.1
      have hml := jms_len M0
      have hms1 : jms (M0 ++ [(t, At, Bt)]) = jms M0 + 10 ^ (4 - t) := by rw [jms_app]; rfl
      have hpos : 0 < 10 ^ (4 - t) := Nat.pow_pos (by decide)
      have hcs : jsum hl h' (keyF es) (keyF fs) mem (M0 ++ [(t, At, Bt)]) = jsum hl h' (keyF es) (keyF fs) mem M0 + wj hl h' (keyF es) (keyF fs) mem (3 - t) At Bt := by rw [jsum_app]; rfl
      refine s_if (b := decide (szJ hl At Bt ≤ mem) || decide (t = 3)) (et_or (et_test (ev_is (ev_op (ev_len (ev_var rfl) (sq_of (e8 _ _ hTt))) (ev_var rfl) rv_I0) (by rw [List.length_map, hTl]; exact congrArg V.bl (decide_eq_decide.mpr (by omega))))) fun _ => et_test (ev_is (ev_op (ev_var rfl) ev_c (rv_eq rfl)) (congrArg V.bl (decide_eq_decide.mpr ⟨fun z => by have := V.int.inj z; omega, fun z => by rw [z]; rfl⟩)))) (fun hb H9 e9 => ?_) fun hb H9 e9 => ?_
      · have hst : szJ hl At Bt ≤ mem ∨ t = 3 := by
          rcases Bool.or_eq_true _ _ |>.mp hb with z | z
          · exact .inl (of_decide_eq_true z)
          · exact .inr (of_decide_eq_true z)
        rw [hcs, wj_stop hst ht3, Nat.add_zero] at hc
        have e89 := e8.trans e9
        have hl9 := e89 _ _ hl7
        refine s_atU (l := wl) (ev_var rfl) hl9 (eu_tup (ea_cons (ev_var rfl) (ea_cons (ev_var rfl) ea_nil)) (by show 2 ≤ 100000; decide)) (by omega) fun p Ha hp ea ha => ?_
        have e8a := e89.trans ea
        have hla := ea _ _ hl9
        refine ⟨jms M0, by omega, _, _, _, _, v12, v13, v14, M0, qs0, acc ++ [.ref p], c, rfl, Ex.mut (x7.trans e8a) hwl, upd_same, by rw [List.length_append, List.length_singleton]; omega, by omega, by rw [upd_ne (Ne.symm hne)]; exact e8a _ _ ht7, hS7.mono fun q m _ g => StkJ.upd hla (fun _ z => nomatch z) (.inl rfl) (StkJ.mn _ _ _ _ e8a g), fun m hm => hM m (List.mem_append_left _ hm), by rw [hhl]; exact hc, rfl⟩
      · have hgo : ¬ szJ hl At Bt ≤ mem ∧ t ≠ 3 := by
          have h1 : decide (szJ hl At Bt ≤ mem) = false ∧ decide (t = 3) = false := by simpa using hb
          exact ⟨of_decide_eq_false h1.1, of_decide_eq_false h1.2⟩
        have ht2 : t ≤ 2 := by omega
        rw [hcs, wj_go hgo.1 ht2] at hc
        have e89 := e8.trans e9
        have x9 := x7.trans e89
        refine q_aug (a := (c : Int)) (b := ((At.length : Nat) : Int) + ((Bt.length : Nat) : Int)) rfl (ev_is (ev_op (ev_len (ev_var rfl) (sq_of (e89 _ _ hta))) (ev_len (ev_var rfl) (sq_of (e89 _ _ htb))) rv_I0) (by rw [List.length_map, List.length_map, hTA.1, hTB.1])) fun Ha ea => ?_
        have xa := x9.trans ea
        have e8a := e89.trans ea
        refine q_callS (ea_cons (ev_op (ev_var rfl) ev_c (rv_ixT (st_of (xa _ _ hks)) (atI_nat (j := 0) rfl))) (ea_cons (ev_var rfl) (ea_cons (ev_var rfl) (ea_cons (ev_var rfl) ea_nil)))) fun Hb eb => ?_
        refine ⟨t0, a, f', t, es, At, h', H, rfl, ht2, xa.trans eb, ExprsAt.mn _ _ _ _ (xa.trans eb) hE, hes, Lst2.mn RG.mn _ _ _ _ (e8a.trans eb) g5, hoA, hH, fun pl ls Hc hpl ec hcl hls hcA => ?_⟩
        have xc := xa.trans (eb.trans ec)
        have e8c := e8a.trans (eb.trans ec)
        refine q_callS (ea_cons (ev_op (ev_var rfl) ev_c (rv_ixT (st_of (xc _ _ hks)) (atI_nat (j := 1) rfl))) (ea_cons (ev_var rfl) (ea_cons (ev_var rfl) (ea_cons (ev_var rfl) ea_nil)))) fun Hd ed => ?_
        refine ⟨u0, b, f', t, fs, Bt, h', H, rfl, ht2, xc.trans ed, ExprsAt.mn _ _ _ _ (xc.trans ed) hF, hfs, Lst2.mn RG.mn _ _ _ _ (e8c.trans ed) g6, hoB, hH, fun pr rs He hpr ee her hrs heA => ?_⟩
        have ece := ed.trans ee
        have xe := xc.trans ece
        have e8e := e8c.trans ece
        have l8 : ls.length = 8 := by rw [hcA.1, List.length_map, List.length_range]
        have r8 : rs.length = 8 := by rw [heA.1, List.length_map, List.length_range]
        refine q_asgE (el_zipJ (K := K) (t := t) (ls := ls) (rs := rs) (ev_var rfl) (ev_var rfl) (ece _ _ hcl) her (by omega) (by omega) (fun _ => rfl) (fun _ => rfl) (fun _ => rfl) He (Ex.refl He) _ fun pz zs Hf hpz ef hfz hzl hzi => ?_)
        have e8f := e8e.trans ef
        have htf := e8f _ _ ht7
        refine ⟨_, rfl, Or.inl ⟨rfl, _, sq_of htf⟩, _, rfl, pz, _, rfl, sq_of hfz, fun py hpy => ?_⟩
        have eg : Ex Hf (upd Hf py (.lst (zs.map V.ref).reverse)) := Ex.new hpy
        have htg := eg _ _ htf
        have hrl : jms (jrest h' t (keyF es) (keyF fs) At Bt) < 10 ^ (4 - t) := jms_rest ht2
        have hll : (jrest h' t (keyF es) (keyF fs) At Bt).length = 8 := by unfold jrest; rw [List.length_map, List.length_range]
        have notwl : ∀ {p : Addr} {Hx : Hp}, Ex H7 Hx → Hx p = none → p ≠ wl ∧ p ≠ wt := fun ex hp => ⟨fun z => (by rw [z, ex _ _ hl7] at hp; cases hp), fun z => (by rw [z, ex _ _ ht7] at hp; cases hp)⟩
        have hZ : Al2 (StkJ H wl wt) Hf zs (jrest h' t (keyF es) (keyF fs) At Bt) := ⟨by rw [hzl, l8, hll], fun i q m hq hm => by
          have hi8 : i < 8 := by rw [← hll]; exact (List.getElem?_eq_some_iff.mp hm).1
          obtain ⟨ai, hai⟩ : ∃ ai, ls[i]? = some ai := ⟨_, List.getElem?_eq_getElem (by omega)⟩
          obtain ⟨bi, hbi⟩ : ∃ bi, rs[i]? = some bi := ⟨_, List.getElem?_eq_getElem (by omega)⟩
          obtain ⟨s', k1, k2⟩ := hzi i q ai bi hq hai hbi
          unfold jrest at hm
          rw [List.getElem?_map, List.getElem?_range hi8] at hm
          cases hm
          have hAi := hcA.2 i ai _ hai (by rw [List.getElem?_map, List.getElem?_range hi8]; rfl)
          have hBi := heA.2 i bi _ hbi (by rw [List.getElem?_map, List.getElem?_range hi8]; rfl)
          exact ⟨s', ai, bi, k1, k2, notwl (e8a.trans eb) (hls ai (List.mem_of_getElem? hai)), notwl (e8c.trans ed) (hrs bi (List.mem_of_getElem? hbi)), Lst2.mn RG.mn _ _ _ _ (ece.trans ef) hAi, Lst2.mn RG.mn _ _ _ _ ef hBi⟩⟩
        have hZr : Al2 (StkJ H wl wt) Hf zs.reverse (jrest h' t (keyF es) (keyF fs) At Bt).reverse := ⟨by rw [List.length_reverse, List.length_reverse, hZ.1], fun i q m hq hm => by
          have hi : i < zs.length := by rw [← List.length_reverse]; exact (List.getElem?_eq_some_iff.mp hq).1
          rw [List.getElem?_reverse hi] at hq
          rw [List.getElem?_reverse (by rw [← hZ.1]; exact hi), ← hZ.1] at hm
          exact hZ.2 _ q m hq hm⟩
        have upS : ∀ (Hx : Hp), Ex Hx (upd Hf py (.lst (zs.map V.ref).reverse)) → ∀ q m, StkJ H wl wt Hx q m → StkJ H wl wt (upd (upd Hf py (.lst (zs.map V.ref).reverse)) wt (.lst (qs0.map V.ref ++ (zs.map V.ref).reverse))) q m := fun Hx ex q m g => StkJ.upd htg (fun _ z => nomatch z) (.inr rfl) (StkJ.mn _ _ _ _ ex g)
        refine ⟨wt, py, qs0.map V.ref, (zs.map V.ref).reverse, rfl, rfl, htg, upd_same, sz_of (by rw [List.length_map, List.length_reverse, List.length_map]; omega), jms (M0 ++ (jrest h' t (keyF es) (keyF fs) At Bt).reverse), by rw [jms_app, jms_rev]; omega, some (.ref a), some (.ref b), some (.int (t : Int)), some (.ref tab), some (.ref pl), some (.ref pr), some (.ref pz), M0 ++ (jrest h' t (keyF es) (keyF fs) At Bt).reverse, qs0 ++ zs.reverse, acc, c + (At.length + Bt.length), ?_, Ex.mut (x7.trans (e8f.trans eg)) hwtH, ?_, by rw [jms_app, jms_rev]; omega, by rw [jms_app, jms_rev]; omega, by rw [upd_same, List.map_append, List.map_reverse], ?_, fun m hm => ?_, ?_, rfl⟩
        · rw [show ((c + (At.length + Bt.length) : Nat) : Int) = (c : Int) + (((At.length : Nat) : Int) + ((Bt.length : Nat) : Int)) by omega]
          rfl
        · rw [upd_ne hne]
          exact (e8f.trans eg) _ _ hl7
        · exact (hS7.mono fun q m _ g => upS _ (e8f.trans eg) q m g).app (hZr.mono fun q m _ g => upS _ eg q m g)
        · rcases List.mem_append.mp hm with z | z
          · exact hM m (List.mem_append_left _ z)
          · obtain ⟨i, _, rfl⟩ := List.mem_map.mp (List.mem_reverse.mp z)
            exact ⟨by show t + 1 ≤ 3; omega, hoA.part, hoB.part⟩
        · rw [hhl, jsum_app, jsum_rev]
          omega
    · have hM0 : M = [] := by
        cases M with
        | nil => rfl
        | cons y ys =>
          have := hS.1
          cases qs with
          | nil => cases this
          | cons _ _ => cases hb
      subst hM0
      have hc' : wj hl h' (keyF es) (keyF fs) mem 3 A B = c := by rw [← hc]; rfl
      refine (eu_tup (ea_cons (ev_var rfl) (ea_cons (ev_var rfl) ea_nil)) (by show 2 ≤ 100000; decide)) H5 (Ex.refl H5) _ fun p H6 hp6 e6 h6 => q p (.ref wl) H6 (fresh_back (x.trans e5) hp6) ((x.trans e5).trans e6) (by rw [h6, hc'])
end

--@SPLIT
/-! ### defs as values -/
section
variable {P : Program} {w : World} {K : PySem.W.Frag} {mg : Str → Option Value} {base : Heap}
noncomputable def calA {k : Nat} {x : Str} {sp : Sp} (c : C8.Cal P w K mg base k x sp []) : Addr := Classical.choose c.ex
theorem calA_mg {k : Nat} {x : Str} {sp : Sp} (c : C8.Cal P w K mg base k x sp []) : mg x = some (.ref (calA c)) := by
  obtain ⟨fd, ps, ds, F, hm, kp, b, v⟩ := Classical.choose_spec c.ex
  exact hm
theorem gdef {k : Nat} {x : Str} {sp : Sp} (c : C8.Cal P w K mg base k x sp []) : ∃ u, mg x = some u ∧ RelV (.ref (calA c)) u := ⟨_, calA_mg c, rfl⟩
theorem heldI {k : Nat} {f : Addr} {sp sp' : Sp} (h : L2.Held P w K mg base k f sp) (i : ∀ vs H Q E, sp' vs H Q E → sp vs H Q E) : L2.Held P w K mg base k f sp' := by
  obtain ⟨fd, ps, F, hk, hb⟩ := h.ex
  exact ⟨fd, ps, F.imp i, hk, hb⟩
end
/-! ### hashes: the law's -/
def bySize (xs : List V) : Nat := xs.length * 13 + (xs.filter fun x => decide (x = .non)).length
def spr1 (n : Nat) (v : V) : Nat := match v with
  | .bl b => (((n : Int) * 7 + (if b = true then (1 : Int) else 0) * 73) % 4096).toNat
  | .int i => (((n : Int) * 7 + i * 73) % 4096).toNat
  | _ => n
def spread (xs : List V) : Nat := xs.foldl spr1 5
def sp__law_zero (K : PySem.W.Frag) : Sp := spH fun _ => 0
def sp__law_by_size (K : PySem.W.Frag) : Sp := spH bySize
def sp__law_spread (K : PySem.W.Frag) : Sp := spH spread
def sp__law_hash (P : Program) (w : World) (K : PySem.W.Frag) (mg : Str → Option Value) (base : Heap) : Sp := fun vs H Q _ => ∃ k : Int, vs = [.int k] ∧ 0 ≤ k ∧ k < 4 ∧ ∀ f h H', L2.Held P w K mg base 3 f (spH h) → Ex H H' → Q (.ref f) H'
section
variable {X : Cx}
def rMulB : R2 := fun x y H Q => ∃ (b : Bool) (j : Int), x = .bl b ∧ y = .int j ∧ Q (.int ((if b = true then (1 : Int) else 0) * j)) H
def rMulBI : R2 := fun x y H Q => rMulB x y H Q ∨ rI CMul (fun i j => .int (i * j)) x y H Q
theorem op_mulBI : OpR X (binaryOp .Mult) rMulBI := by
  intro pins s σ H x y v u Q I rx ry h
  rcases h with h | h
  · obtain ⟨b, j, rfl, rfl, q⟩ := h
    cases (show v = Value.bool b from rx)
    obtain ⟨t', rfl⟩ := (show ∃ t, u = Value.int j t from ry)
    exact PySem.IntBool.mul_bool_int ⟨.int _, H, I.tok _, ⟨_, rfl⟩, q⟩
  · exact op_mul pins s σ H x y v u Q I rx ry h
end
section
variable {K : PySem.W.Frag} {σ : L2.St} {H : Hp} {ta tb te : TE}
theorem ev_lenL {xs : List V} (h : EvL te σ H xs) : Ev (tCB (fun xs H Q => ∃ p ys, xs = [.ref p] ∧ (SqL K H p ys ∨ SqT K H p ys) ∧ Q (.int ys.length) H) (tCons te tNil)) σ H (.int xs.length) := fun H1 e Q q => h H1 e _ fun p H2 hp e2 h2 => ⟨p, xs, rfl, .inl (sq_of h2), q H2 e2⟩
end
theorem given_filter (xs : List V) (f : V → Bool) : (given xs.length (fun i => f (xs.getD i .non)) fun i => xs.getD i .non) = xs.filter f := by
  unfold given
  have h : ∀ (n : Nat), n ≤ xs.length → (((List.range n).filter fun i => f (xs.getD i .non)).map fun i => xs.getD i .non) = (xs.take n).filter f := by
    intro n
    induction n with
    | zero => intro _; rfl
    | succ n ih =>
      intro hn
      have hx : xs[n]? = some xs[n] := List.getElem?_eq_getElem (by omega)
      rw [List.range_succ, List.filter_append, List.map_append, ih (by omega), List.take_add_one, hx, List.filter_append]
      show _ ++ (([n].filter fun i => f (xs.getD i .non)).map _) = _ ++ [xs[n]].filter f
      have hg : xs.getD n .non = xs[n] := by rw [List.getD_eq_getElem?_getD, hx]; rfl
      rw [List.filter_cons, List.filter_cons, hg]
      cases f xs[n]
      · rfl
      · show _ ++ [xs.getD n .non] = _ ++ [xs[n]]
        rw [hg]
  have := h xs.length (Nat.le_refl _)
  rw [List.take_length] at this
  exact this
theorem spr1_lt {n : Nat} {v : V} (h : n < 4096) : spr1 n v < 4096 := by
  cases v with
  | bl b => show (_ : Int).toNat < 4096; omega
  | int i => show (_ : Int).toNat < 4096; omega
  | _ => exact h
theorem spread_lt (xs : List V) : spread xs < 4096 := by
  have : ∀ (xs : List V) (n : Nat), n < 4096 → xs.foldl spr1 n < 4096 := by
    intro xs
    induction xs with
    | nil => intro n h; exact h
    | cons x r ih => intro n h; exact ih _ (spr1_lt h)
  exact this xs 5 (by decide)
theorem spread_step {xs : List V} {i : Nat} {x : V} (h : xs[i]? = some x) : spread (xs.take (i + 1)) = spr1 (spread (xs.take i)) x := foldl_take h
section
variable {P : Program} {w : World} {K : PySem.W.Frag} {mg : Str → Option Value} {base : Heap}
theorem ok__law_zero (D : Dn K mg "_law_zero" s__law_zero ["values"]) :
    C8.Cal P w K mg base 1 "_law_zero" (sp__law_zero K) [] := by
  refine cal_of D sc__law_zero (fun vs H Q E h => ?_) (fun f cdv A outer s H vs Q E hr h => ?_)
  · obtain ⟨_, _, rfl, _⟩ := h
    rfl
  refine ⟨_, (pss_one (ps_ret pe_int)), ?_⟩
  obtain ⟨p, xs, rfl, hp, hx, hl, q⟩ := h
  exact s_ret ev_c fun H1 e1 => q H1 e1
theorem ok__law_by_size (D : Dn K mg "_law_by_size" s__law_by_size ["values"]) (z_len : mg "len" = none) :
    C8.Cal P w K mg base 1 "_law_by_size" (sp__law_by_size K) [] := by
  refine cal_of D sc__law_by_size (fun vs H Q E h => ?_) (fun f cdv A outer s H vs Q E hr h => ?_)
  · obtain ⟨_, _, rfl, _⟩ := h
    rfl
  refine ⟨_, (pss_one (ps_ret (pe_op op_add (pe_op op_mul (pe_callB call_len_seq (by rfl) z_len PySem.boot_len (pa_cons (pv 0) pa_nil)) pe_int) (pe_callB call_len_seq (by rfl) z_len PySem.boot_len (pa_cons (pe_lc (own := [("value", 1)]) (g := gName 1) rfl sc__law_by_size.nd (pi_list (pv 0)) (blkOk_by (N := n__law_by_size) (sc := C8.fnScope s__law_by_size) (by decide +kernel)) (fun _ _ _ _ _ => pg_name (i := 1) sc__law_by_size.nd rfl (Or.inl rfl)) (fun _ _ _ _ _ => (pts_one (pt_cmpR op_isN (pv 1) pe_non (nomark _)))) (fun _ _ _ _ _ => (pv 1))) pa_nil))))), ?_⟩
  obtain ⟨p, xs, rfl, hp, hx, hl, q⟩ := h
  refine s_ret (ev_is (v := .int ((xs.length : Int) * 13 + ((xs.filter fun x => decide (x = .non)).length : Int))) (ev_op (ev_op (ev_len (ev_var rfl) (sq_of hp)) ev_c (rv_I (.inr ⟨by decide, by decide⟩))) (ev_lenL (xs := xs.filter fun x => decide (x = .non)) ?_) rv_I0) ?_) fun H1 e1 => q H1 e1
  · rw [← given_filter]
    refine el_lcL _ _ (ev_var rfl) (sq_of hp) (by omega) (fun _ => rfl) (fun i x H1 e1 hi => ?_) fun i x H1 e1 hi hf => ?_
    · rw [getD_is hi]
      exact et_test (ev_op (ev_var rfl) ev_c rv_isN)
    · rw [getD_is hi]
      exact ev_var rfl
  · unfold bySize
    rw [Int.natCast_add, Int.natCast_mul]
    rfl
theorem ok__law_spread (D : Dn K mg "_law_spread" s__law_spread ["values"]) (z_int : mg "int" = none) (z_isinstance : mg "isinstance" = none) :
    C8.Cal P w K mg base 1 "_law_spread" (sp__law_spread K) [] := by
  refine cal_of D sc__law_spread (fun vs H Q E h => ?_) (fun f cdv A outer s H vs Q E hr h => ?_)
  · obtain ⟨_, _, rfl, _⟩ := h
    rfl
  refine ⟨_, (pss_cons (ps_set (i := 1) sc__law_spread.nd rfl (.inl rfl) pe_int)
    (pss_cons (ps_for PassesOwn.never rfl (pi_list (pv 0)) (pg_name (i := 2) sc__law_spread.nd rfl (.inl rfl))
      (pss_one (ps_if (pt_val (pe_callB call_isi (by rfl) z_isinstance (by decide +kernel) (pa_cons (pv 2) (pa_cons (pe_bltn (v := .ty "int") (u := .type "int") rfl z_int (by decide +kernel) rfl) pa_nil))))
      (pss_one (ps_set (i := 1) sc__law_spread.nd rfl (.inl rfl) (pe_op op_mod (pe_callTy call_int1 (by rfl) z_int (by decide +kernel) (pa_cons (pe_op op_add (pe_op op_mul (pv 1) pe_int) (pe_op op_mulBI (pv 2) pe_int)) pa_nil)) pe_int)))
      pss_nil)))
    (pss_one (ps_ret (pv 1))))), ?_⟩
  obtain ⟨p, xs, rfl, hp, hx, hl, q⟩ := h
  refine q_asg (v := .int ((5 : Nat) : Int)) ev_c fun H1 e1 => ?_
  refine q_forLn (ev_var rfl) (sq_of (e1 _ _ hp)) (fun i σ H' => ∃ (y2 : Option V) (c : Nat), σ = [some (.ref p), some (.int (c : Int)), y2] ∧ c = spread (xs.take i) ∧ Ex H H') (fun H2 e2 => ⟨none, 5, rfl, rfl, e1.trans e2⟩) (fun i σ' H' _ pv => ?_) (fun i x σ' H' hi pv => ?_) fun σ' H' pv => ?_
  · obtain ⟨y2, c, rfl, _, e⟩ := pv
    exact sq_of (e _ _ hp)
  · obtain ⟨y2, n, rfl, hn, e⟩ := pv
    have hst := spread_step hi
    rw [← hn] at hst
    have nn : ∀ z : Int, V.int (z % 4096) = V.int (((z % 4096).toNat : Nat) : Int) := fun z => by
      rw [Int.toNat_of_nonneg (Int.emod_nonneg _ (by decide))]
    cases hx x (List.mem_of_getElem? hi) with
    | non => exact s_when (b := false) (et_B (ev_isiP (ev_var rfl) .non (by show kitB "NoneType" "int" = some false; decide +kernel))) (fun hb => nomatch hb) fun _ H2 e2 => ⟨_, n, rfl, hst.symm, e.trans e2⟩
    | str l _ _ => exact s_when (b := false) (et_B (ev_isiP (ev_var rfl) (.str _) (by show kitB "str" "int" = some false; decide +kernel))) (fun hb => nomatch hb) fun _ H2 e2 => ⟨_, n, rfl, hst.symm, e.trans e2⟩
    | bl b =>
      refine s_when (b := true) (et_B (ev_isiP (ev_var rfl) (.bl b) (by show kitB "bool" "int" = some true; decide +kernel))) (fun _ H2 e2 => ?_) fun hb => nomatch hb
      exact s_asg (v := .int (((spr1 n (.bl b) : Nat)) : Int)) (ev_is (ev_op (ev_int (ev_op (ev_op (ev_var rfl) ev_c (rv_I (.inr ⟨by decide, by decide⟩))) (ev_op (z := .int ((if b = true then (1 : Int) else 0) * 73)) (ev_var rfl) ev_c (fun H3 e3 Q k => .inl ⟨b, 73, rfl, rfl, k H3 (Ex.refl H3)⟩)) rv_I0)) ev_c (rv_I (by decide))) (nn _)) fun H3 e3 => ⟨_, spr1 n (.bl b), rfl, hst.symm, e.trans (e2.trans e3)⟩
    | int j _ =>
      refine s_when (b := true) (et_B (ev_isiP (ev_var rfl) (.int j) (by show kitB "int" "int" = some true; decide +kernel))) (fun _ H2 e2 => ?_) fun hb => nomatch hb
      exact s_asg (v := .int (((spr1 n (.int j) : Nat)) : Int)) (ev_is (ev_op (ev_int (ev_op (ev_op (ev_var rfl) ev_c (rv_I (.inr ⟨by decide, by decide⟩))) (ev_op (z := .int (j * 73)) (ev_var rfl) ev_c (fun H3 e3 Q k => .inr ⟨j, 73, rfl, rfl, .inr ⟨by decide, by decide⟩, k H3 (Ex.refl H3)⟩)) rv_I0)) ev_c (rv_I (by decide))) (nn _)) fun H3 e3 => ⟨_, spr1 n (.int j), rfl, hst.symm, e.trans (e2.trans e3)⟩
  · obtain ⟨y2, c, rfl, rfl, e⟩ := pv
    rw [List.take_length]
    exact s_ret (ev_var rfl) fun H3 e3 => q _ (e.trans e3)
theorem ok__law_hash (D : Dn K mg "_law_hash" s__law_hash ["kind"]) (c__law_by_size : C8.Cal P w K mg base 1 "_law_by_size" (sp__law_by_size K) []) (c__law_spread : C8.Cal P w K mg base 1 "_law_spread" (sp__law_spread K) []) (c__law_zero : C8.Cal P w K mg base 1 "_law_zero" (sp__law_zero K) []) (c_hash_of : C8.Cal P w K mg base 3 "hash_of" (sp_hash_of K) []) :
    C8.Cal P w K mg base 4 "_law_hash" (sp__law_hash P w K mg base) [] := by
  refine cal_of D sc__law_hash (fun vs H Q E h => ?_) (fun f cdv A outer s H vs Q E hr h => ?_)
  · obtain ⟨_, rfl, _⟩ := h
    rfl
  refine ⟨_, (pss_one (ps_ret (pe_ix ix_tup (pe_tup (pa_cons (C8.pe_gc rfl (gdef c__law_zero)) (pa_cons (C8.pe_gc rfl (gdef c__law_by_size)) (pa_cons (C8.pe_gc rfl (gdef c__law_spread)) (pa_cons (C8.pe_gc rfl (gdef c_hash_of)) pa_nil))))) (pv 0) (fun _ _ => rfl)))), ?_⟩
  obtain ⟨k, rfl, k0, k4, q⟩ := h
  have hz : L2.Held P w K mg base 3 (calA c__law_zero) (spH fun _ => 0) := held_of c__law_zero (calA_mg _) (by decide)
  have hs : L2.Held P w K mg base 3 (calA c__law_by_size) (spH bySize) := held_of c__law_by_size (calA_mg _) (by decide)
  have hd : L2.Held P w K mg base 3 (calA c__law_spread) (spH spread) := held_of c__law_spread (calA_mg _) (by decide)
  have hh : L2.Held P w K mg base 3 (calA c_hash_of) (spH lHash) := heldI (held_of c_hash_of (calA_mg _) (by decide)) fun vs H Q E h => by
    obtain ⟨p, xs, a, b, c⟩ := h
    exact ⟨p, xs, a, sq_of b, c⟩
  have hv : ∃ f h, atI [V.ref (calA c__law_zero), .ref (calA c__law_by_size), .ref (calA c__law_spread), .ref (calA c_hash_of)] k = some (.ref f) ∧ L2.Held P w K mg base 3 f (spH h) := by
    rcases (show k = 0 ∨ k = 1 ∨ k = 2 ∨ k = 3 by omega) with z | z | z | z <;> subst z
    · exact ⟨_, _, rfl, hz⟩
    · exact ⟨_, _, rfl, hs⟩
    · exact ⟨_, _, rfl, hd⟩
    · exact ⟨_, _, rfl, hh⟩
  obtain ⟨f', h', hat, hH⟩ := hv
  exact s_ret (ev_ixU (eu_tup (ea_cons ev_c (ea_cons ev_c (ea_cons ev_c (ea_cons ev_c ea_nil)))) (by show 4 ≤ 100000; decide)) (ev_var rfl) hat) fun H1 e1 => q f' h' H1 hH e1
end

--@SPLIT
/-! ### the law's keys -/
section
variable {K : PySem.W.Frag} {σ : L2.St} {H : Hp} {p : Addr} {ta tb te tn : TE} {P : V → Prop} {D : Ends} {tz tu : TS}
/-- for j in range(a number that is drawn) -/
theorem s1_forR1 {j : Nat} {m : Int} (hn : EvD1 tn σ p H (ZP fun n => 0 ≤ n ∧ n ≤ m)) (hm : m ≤ 100000) (d : Dr p H) (Pv : Nat → L2.St → Hp → Prop) (h0 : ∀ H1, Ex (wo p H) H1 → Dr p H1 → Pv 0 σ H1)
    (hs : ∀ (i : Nat) σ' H', (i : Int) < m → Pv i σ' H' → tu { D with nx := Pv (i + 1), ct := Pv (i + 1), bk := D.nx } (σ'.set j (some (.int (i : Int)))) H') (hd : ∀ (n : Nat) σ' H', (n : Int) ≤ m → Pv n σ' H' → D.nx σ' H') : tFor (iRng1 (tCons tn tNil)) (gName j) tu D σ H :=
  hn H (wo_le p H) d _ fun v H1 ⟨n, ev, hn0, hn1⟩ e1 d1 => by
    subst ev
    refine ⟨n, rfl, by omega, by omega, for_range (lo := 0) (n := n.toNat) Pv (h0 H1 e1 d1) (fun i σ' H' hi pv => ?_) (fun σ' H' pv => hd n.toNat σ' H' (by omega) pv)⟩
    have e0 : (0 : Int) + (i : Int) = (i : Int) := Int.zero_add _
    show tu { D with nx := Pv (i + 1), ct := Pv (i + 1), bk := D.nx } (σ'.set j (some (.int ((0 : Int) + (i : Int))))) H'
    rw [e0]
    exact hs i σ' H' (by omega) pv
theorem q1_forR1 {j : Nat} {m : Int} (hn : EvD1 tn σ p H (ZP fun n => 0 ≤ n ∧ n ≤ m)) (hm : m ≤ 100000) (d : Dr p H) (Pv : Nat → L2.St → Hp → Prop) (h0 : ∀ H1, Ex (wo p H) H1 → Dr p H1 → Pv 0 σ H1)
    (hs : ∀ (i : Nat) σ' H', (i : Int) < m → Pv i σ' H' → tu { D with nx := Pv (i + 1), ct := Pv (i + 1), bk := tz D } (σ'.set j (some (.int (i : Int)))) H') (hd : ∀ (n : Nat) σ' H', (n : Int) ≤ m → Pv n σ' H' → tz D σ' H') : tSeq (tFor (iRng1 (tCons tn tNil)) (gName j) tu) tz D σ H :=
  s1_forR1 (D := { D with nx := tz D }) hn hm d Pv h0 hs hd
end
section
variable {K : PySem.W.Frag}
theorem dps_atI : ∀ {ys : List V} {ds : List PyData} {H : Hp} {i : Nat} {d : PyData}, DpAll K H ys ds → ds[i]? = some d → ∃ x, ys[i]? = some x ∧ Dp K H x d
  | _, _, _, _, _, .nil, h => by simp at h
  | _, _, _, 0, _, .cons h _, e => by
    cases e
    exact ⟨_, rfl, h⟩
  | _, _, _, i + 1, _, .cons _ t, e => by
    obtain ⟨d, h1, h2⟩ := dps_atI (i := i) t (by simpa using e)
    exact ⟨d, by simpa using h1, h2⟩
end
theorem noLs_cx : ∀ es : List Cnd, noLs (es.map Cnd.d) = true
  | [] => rfl
  | e :: es => by
    show (noL e.d && noLs (es.map Cnd.d)) = true
    rw [noL_cx, noLs_cx es]
    rfl
theorem noL_of : ∀ {ds : List PyData} {d : PyData}, noLs ds = true → d ∈ ds → noL d = true
  | x :: xs, d, n, h => by
    have n' : (noL x && noLs xs) = true := n
    rw [Bool.and_eq_true] at n'
    rcases List.mem_cons.mp h with z | z
    · rw [z]; exact n'.1
    · exact noL_of n'.2 z
theorem eu_tuple {K : PySem.W.Frag} {σ : L2.St} {H : Hp} {tl : TE} {a : Addr} {xs : List V} (ha : Ev tl σ H (.ref a)) (hS : SqL K H a xs) : EvU (tCB (fun xs H Q => ∃ p ys, xs = [.ref p] ∧ ((SqL K H p ys ∧ ∀ l, H l = none → Q (.ref l) (upd H l (.tup ys))) ∨ (SqT K H p ys ∧ Q (.ref p) H))) (tCons tl tNil)) σ H xs := fun H1 e Q q =>
  ha H1 e _ fun H2 e2 => ⟨a, xs, rfl, .inl ⟨ex_l (e.trans e2) hS, fun l hl => q l _ (fresh_back e2 hl) (e2.trans (Ex.new hl)) upd_same⟩⟩
def KeyC (e : Cnd) : Prop := (∃ n, n < 2 ∧ e = .col n) ∨ e = .un "is null" (.col 1)
def sp__law_key_list (K : PySem.W.Frag) : Sp := fun vs H Q _ => ∃ p : Addr, vs = [.ref p] ∧ Dr p H ∧ ∀ v H' (es : List Cnd), (∀ e ∈ es, KeyC e) → es.length ≤ 2 → Dp K H' v (.tuple (es.map Cnd.d)) → Ex (wo p H) H' → Dr p H' → Q v H'
section
variable {K : PySem.W.Frag} {σ : L2.St} {H : Hp} {p : Addr} {ta tb te tl : TE} {PL : List PyData → Prop} {R : PyData → Prop} {D : Ends} {tz : TS}
/-- (a, b, c)[i]: data -/
theorem x_ix {m : Int} (h : EvX K te σ p H (fun d => ∃ ds, d = .tuple ds ∧ PL ds)) (hi : EvD1 tb σ p H (ZP fun j => 0 ≤ j ∧ j < m)) (k : ∀ ds (j : Nat), PL ds → (j : Int) < m → ∃ d, ds[j]? = some d ∧ R d) : EvX K (tOp (rIxT K) te tb) σ p H R := fun H1 e dr Q q =>
  h H1 e dr _ fun v H2 d ⟨ds, ed, hP⟩ n hv e2 d2 => hi H2 (wx_trans e e2) d2 _ fun y H3 ⟨j, ey, hj⟩ e3 d3 => by
    subst ed ey
    obtain ⟨jn, rfl⟩ := Int.eq_ofNat_of_zero_le hj.1
    obtain ⟨b, ys, rfl, hS, hds⟩ := dp_tupD (dp_wx hv n d2 e3)
    obtain ⟨d, hi2, hR⟩ := k ds jn hP hj.2
    obtain ⟨x, hx, hd⟩ := dps_atI hds hi2
    have hn : noL d = true := noL_of n (List.mem_of_getElem? hi2)
    exact rv_ixT hS (atI_nat hx) H3 (Ex.refl H3) Q fun H4 e4 => q x H4 d hR hn (ex_dp e4 hd) (wx_trans e2 (wx_trans e3 (wx_of e4))) (d3.ex e4)
/-- xs.append(what is drawn) -/
theorem s_appX {l : Addr} {xs : List V} (hl : H l = some (.lst xs)) (hne : l ≠ p) (ha : ∀ H1, Ev tl σ H1 (.ref l)) (h : EvX K te σ p H R) (d : Dr p H) (hz : xs.length < 100000) (k : ∀ v H1 d, R d → noL d = true → Dp K H1 v d → Ex (wo p H) H1 → Dr p H1 → D.nx σ (upd H1 l (.lst (xs ++ [v])))) :
    tDrop (tBM K "list" rAppend tl (tCons te tNil)) D σ H := ha H H (Ex.refl H) _ fun H1 e1 =>
  ⟨Or.inl ⟨rfl, xs, sq_of (e1 l _ hl)⟩, h H1 (wx_of e1) (d.ex e1) _ fun v H2 d' hd hn hv e2 d2 => ⟨l, xs, v, rfl, rfl, e2 l _ (by rw [wo_ne hne]; exact e1 l _ hl), sz_lt hz, k v H2 d' hd hn hv (wx_trans (wx_of e1) e2) d2⟩⟩
end
section
variable {P : Program} {w : World} {K : PySem.W.Frag} {mg : Str → Option Value} {base : Heap}
end

--@SPLIT
section
variable {K : PySem.W.Frag} {σ : L2.St} {H : Hp} {ta tb te : TE} {D : Ends} {tz : TS} {z : V}
theorem ev_callN {sp : Sp} {n m : Nat} {gV : List V → List V → List V} {E : XK} {t tk : TA} {vs zs : List V} (h : EvA t σ H vs) (hk : ∀ H1, Ex H H1 → EvA tk σ H1 zs) (l1 : vs.length = n) (l2 : zs.length = m) (hs : ∀ H1, Ex H H1 → ∀ Q : VK, (∀ H2, Ex H1 H2 → Q z H2) → ∀ E : XK, sp (gV vs zs) H1 Q E) : Ev (tCallN n m sp gV E t tk) σ H z := fun H1 e Q q =>
  h H1 e _ fun H2 e2 => hk H2 (e.trans e2) H2 (Ex.refl H2) _ fun H3 e3 => ⟨l1, l2, hs H3 (e.trans (e2.trans e3)) Q (fun H4 e4 => q H4 (e2.trans (e3.trans e4))) E⟩
end
def srt (mem : Nat) (A : List (List V)) : Nat := if A.length > mem then A.length else 0
def isS (a b : Str) : Bool := decide (V.str a = V.str b)
def w2J (way kind : Str) : Str := if isS kind "never" = true then "loop" else way
def jw (way kind : Str) (es fs : List Cnd) (mem : Nat) (h : List V → Nat) (A B : List (List V)) : Nat :=
  if isS (w2J way kind) "loop" = true then 0 else if isS (w2J way kind) "merge" = true then srt mem A + srt mem B else wj (isS (w2J way kind) "hash left") h (keyF (es.take (min es.length fs.length))) (keyF (fs.take (min es.length fs.length))) mem 3 A B
def jd (way kind : Str) (es fs : List Cnd) (mem : Nat) (h : List V → Nat) (A B : List (List V)) : Nat :=
  if (isS way "loop" || isS kind "never") = true then 0 else if isS way "merge" = true then srt mem A + srt mem B else wj (!isS way "hash right") h (keyF (es.take (min es.length fs.length))) (keyF (fs.take (min es.length fs.length))) mem 3 A B
theorem OkXs.take {es : List Cnd} (h : OkXs es) (n : Nat) : OkXs (es.take n) := ⟨by rw [List.length_take]; have := h.1; omega, fun e he => h.2 e (List.mem_of_mem_take he)⟩
/-- all that a join is given -/
def JGiven (P : Program) (w : World) (K : PySem.W.Frag) (mg : Str → Option Value) (base : Heap) (H : Hp) (l r a b f : Addr) (es fs : List Cnd) (A B : List (List V)) (h : List V → Nat) : Prop :=
  ExprsAt K H l es ∧ OkXs es ∧ ExprsAt K H r fs ∧ OkXs fs ∧ Lst2 RowAt H a A ∧ Lst2 RowAt H b B ∧ OkJ (es.take (min es.length fs.length)) A ∧ OkJ (fs.take (min es.length fs.length)) B ∧ L2.Held P w K mg base 3 f (spH h)
def sp_join_written (P : Program) (w : World) (K : PySem.W.Frag) (mg : Str → Option Value) (base : Heap) : Sp := fun vs H Q _ => ∃ (way kind : Str) (l r a b f : Addr) (mem : Nat) (es fs : List Cnd) (A B : List (List V)) (h : List V → Nat), vs = [.str way, .str kind, .ref l, .ref r, .ref a, .ref b, .int (mem : Int), .ref f] ∧ JGiven P w K mg base H l r a b f es fs A B h ∧
  ∀ H', Ex H H' → Q (.int ((jw way kind es fs mem h A B : Nat) : Int)) H'
section
variable {P : Program} {w : World} {K : PySem.W.Frag} {mg : Str → Option Value} {base : Heap}
section
variable {σ : L2.St} {H : Hp} {ta tb tc : TE} {E : XK}
theorem ec_way {a b : Str} (ha : Ev ta σ H (.str a)) (hb : Ev tb σ H (.str b)) : Ev (tCall (sp_way_of_join K) [] E (tCons ta (tCons tb tNil))) σ H (.str (w2J a b)) := ev_call (ea_cons ha (ea_cons hb ea_nil)) fun H1 e Q q E => ⟨a, b, rfl, q⟩
theorem ec_sortw {a : Addr} {A : List (List V)} {mem : Nat} (ha : Ev ta σ H (.ref a)) (hb : Ev tb σ H (.int (mem : Int))) (hA : Lst2 RowAt H a A) : Ev (tCall (sp_sort_written K) [] E (tCons ta (tCons tb tNil))) σ H (.int ((srt mem A : Nat) : Int)) := ev_call (ea_cons ha (ea_cons hb ea_nil)) fun H1 e Q q E => by
  obtain ⟨qs, h1, h2⟩ := hA
  refine ⟨a, qs.map V.ref, (mem : Int), rfl, sq_of (e _ _ h1), fun H2 e2 => ?_⟩
  have := q H2 e2
  rw [List.length_map, h2.1]
  unfold srt at this
  by_cases hm : A.length > mem
  · rw [if_pos hm] at this
    rw [if_pos (by omega)]
    exact this
  · rw [if_neg hm] at this
    rw [if_neg (by omega)]
    exact this
end
theorem ok_join_written (D : DnK K mg "join_written" s_join_written ["way", "kind", "left", "right", "a", "b", "memory", "hashed"] 6 ["memory", "hashed"]) (c__divided : C8.Cal P w K mg base 18 "_divided" (sp__divided P w K mg base) []) (c_paired_keys : C8.Cal P w K mg base 1 "paired_keys" (sp_paired_keys K) []) (c_sort_written : C8.Cal P w K mg base 1 "sort_written" (sp_sort_written K) []) (c_way_of_join : C8.Cal P w K mg base 1 "way_of_join" (sp_way_of_join K) []) :
    CalK P w K mg base 19 "join_written" 6 ["memory", "hashed"] (sp_join_written P w K mg base) := by
  refine calK_of D sc_join_written (fun vs H Q E h => ?_) (fun f cdv A outer s H vs Q E hr h => ?_)
  · obtain ⟨_, _, _, _, _, _, _, _, _, _, _, _, _, rfl, _⟩ := h
    rfl
  refine ⟨_, (pss_cons (ps_set (i := 0) sc_join_written.nd rfl (.inl rfl) (C8.pe_c c_way_of_join hr (by decide) (by rfl) (pa_cons (pv 0) (pa_cons (pv 1) pa_nil))))
    (pss_cons (ps_if (pt_cmpR op_eq (pv 0) pe_str (nomark _))
      (pss_one (ps_ret pe_int))
      pss_nil)
    (pss_cons (ps_if (pt_cmpR op_eq (pv 0) pe_str (nomark _))
      (pss_one (ps_ret (pe_op op_add (C8.pe_c c_sort_written hr (by decide) (by rfl) (pa_cons (pv 4) (pa_cons (pv 6) pa_nil))) (C8.pe_c c_sort_written hr (by decide) (by rfl) (pa_cons (pv 5) (pa_cons (pv 6) pa_nil))))))
      pss_nil)
    (pss_cons (ps_asg (C8.pe_c c__divided hr (by decide) (by rfl) (pa_cons (pv 0) (pa_cons (C8.pe_c c_paired_keys hr (by decide) (by rfl) (pa_cons (pv 2) (pa_cons (pv 3) pa_nil))) (pa_cons (pe_tup (pa_cons (pv 4) (pa_cons (pv 5) pa_nil))) (pa_cons (pv 6) (pa_cons (pv 7) pa_nil)))))) (pg_tup rfl (pgs_cons (pg_name (i := 8) sc_join_written.nd rfl (.inl rfl)) (pgs_cons (pg_name (i := 9) sc_join_written.nd rfl (.inl rfl)) pgs_nil))))
    (pss_one (ps_ret (pv 9))))))), ?_⟩
  obtain ⟨way, kind, l, r, a, b, f', mem, es, fs, A, B, h', rfl, ⟨hE, hes, hF, hfs, hA, hB, hoA, hoB, hH⟩, q⟩ := h
  refine q_asg (ec_way (ev_var rfl) (ev_var rfl)) fun H1 e1 => ?_
  generalize hw2 : w2J way kind = w2
  have q' : ∀ H', Ex H H' → Q (.int (((if isS w2 "loop" = true then 0 else if isS w2 "merge" = true then srt mem A + srt mem B else wj (isS w2 "hash left") h' (keyF (es.take (min es.length fs.length))) (keyF (fs.take (min es.length fs.length))) mem 3 A B : Nat)) : Int)) H' := by
    rw [← hw2]
    exact q
  clear q
  refine q_when (b := isS w2 "loop") (et_test (ev_op (ev_var rfl) ev_c (rv_eq rfl))) (fun hb H2 e2 => s_ret ev_c fun H3 e3 => ?_) fun hb H2 e2 => ?_
  · rw [if_pos hb] at q'
    exact q' H3 (e1.trans (e2.trans e3))
  rw [if_neg (by rw [hb]; decide)] at q'
  refine q_when (b := isS w2 "merge") (et_test (ev_op (ev_var rfl) ev_c (rv_eq rfl))) (fun hb H3 e3 => s_ret (v := .int (((srt mem A + srt mem B : Nat)) : Int)) (ev_is (ev_op (ec_sortw (ev_var rfl) (ev_var rfl) (Lst2.mn RowAt.mn _ _ _ _ (e1.trans (e2.trans e3)) hA)) (ec_sortw (ev_var rfl) (ev_var rfl) (Lst2.mn RowAt.mn _ _ _ _ (e1.trans (e2.trans e3)) hB)) rv_I0) (by rw [Int.natCast_add])) fun H4 e4 => ?_) fun hb H3 e3 => ?_
  · rw [if_pos hb] at q'
    exact q' H4 (e1.trans (e2.trans (e3.trans e4)))
  rw [if_neg (by rw [hb]; decide)] at q'
  have x3 := e1.trans (e2.trans e3)
  have hz1 := hes.1
  have hz2 := hfs.1
  refine ⟨_, rfl, .ref l, rfl, .ref r, rfl, l, r, es, fs, rfl, ExprsAt.mn _ _ _ _ x3 hE, ExprsAt.mn _ _ _ _ x3 hF, hz1, hz2, fun p t u H4 hp e4 h4 hE4 hF4 => ⟨.ref a, rfl, .ref b, rfl, by show 2 ≤ sizeLine; decide, fun sd hsd => ⟨_, rfl, _, rfl, w2, p, sd, f', t, u, a, b, mem, es.take (min es.length fs.length), fs.take (min es.length fs.length), A, B, h', rfl, Ex.new hsd _ _ h4, ExprsAt.mn _ _ _ _ (Ex.new hsd) hE4, hes.take _, ExprsAt.mn _ _ _ _ (Ex.new hsd) hF4, hfs.take _, upd_same, Lst2.mn RowAt.mn _ _ _ _ (x3.trans (e4.trans (Ex.new hsd))) hA, Lst2.mn RowAt.mn _ _ _ _ (x3.trans (e4.trans (Ex.new hsd))) hB, hoA, hoB, hH, fun r2 v2 H5 hr2 e5 h5 => ?_⟩⟩⟩
  exact gt2 (st_of h5) (s_ret (ev_var rfl) fun H6 e6 => q' H6 (x3.trans (e4.trans ((Ex.new hsd).trans (e5.trans e6)))))
end
def sp__law_parts (P : Program) (w : World) (K : PySem.W.Frag) (mg : Str → Option Value) (base : Heap) : Sp := fun vs H Q _ => ∃ (t a f : Addr) (n : Nat) (es : List Cnd) (L : List (List V)) (h : List V → Nat), vs = [.ref a, .ref t, .int (n : Int), .ref f] ∧ n ≤ 2 ∧ ExprsAt K H t es ∧ OkXs es ∧ Lst2 RowAt H a L ∧ OkJ es L ∧ L2.Held P w K mg base 3 f (spH h) ∧
  ∀ p qs H', H p = none → Ex H H' → H' p = some (.lst (qs.map V.ref)) → Al2 (Lst2 (RG H)) H' qs ((List.range 8).map (jpart h n (keyF es) L)) → Q (.ref p) H'
def spR__law_written (P : Program) (w : World) (K : PySem.W.Frag) (mg : Str → Option Value) (base : Heap) : Nat → Sp
  | 0 => fun _ _ _ _ => False
  | n + 1 => fun vs H Q _ => ∃ (way : Str) (l r a b f : Addr) (t mem : Nat) (es fs : List Cnd) (A B : List (List V)) (h : List V → Nat), vs = [.str way, .ref l, .ref r, .ref a, .ref b, .int (t : Int), .int (mem : Int), .ref f] ∧ ExprsAt K H l es ∧ OkXs es ∧ ExprsAt K H r fs ∧ OkXs fs ∧ Lst2 RowAt H a A ∧ Lst2 RowAt H b B ∧ OkJ es A ∧ OkJ fs B ∧ t ≤ 3 ∧ 3 ≤ t + n ∧ L2.Held P w K mg base 3 f (spH h) ∧
    ∀ H', Ex H H' → Q (.int ((wj (!isS way "hash right") h (keyF es) (keyF fs) mem (3 - t) A B : Nat) : Int)) H'
def sp__law_written (P : Program) (w : World) (K : PySem.W.Frag) (mg : Str → Option Value) (base : Heap) : Sp := spR__law_written P w K mg base 4
def sp__law_due (P : Program) (w : World) (K : PySem.W.Frag) (mg : Str → Option Value) (base : Heap) : Sp := fun vs H Q _ => ∃ (way kind : Str) (l r a b f : Addr) (mem : Nat) (es fs : List Cnd) (A B : List (List V)) (h : List V → Nat), vs = [.str way, .str kind, .ref l, .ref r, .ref a, .ref b, .int (mem : Int), .ref f] ∧ JGiven P w K mg base H l r a b f es fs A B h ∧
  ∀ H', Ex H H' → Q (.int ((jd way kind es fs mem h A B : Nat) : Int)) H'
section
variable {P : Program} {w : World} {K : PySem.W.Frag} {mg : Str → Option Value} {base : Heap}
theorem ok__law_parts (D : Dn K mg "_law_parts" s__law_parts ["rows", "keys", "time", "hashed"]) (c_evaluate : C8.Cal P w K mg base 15 "evaluate" (sp_evaluate K) []) (z_int : mg "int" = none) (z_range : mg "range" = none) :
    C8.Cal P w K mg base 16 "_law_parts" (sp__law_parts P w K mg base) [] := by
  refine cal_of D sc__law_parts (fun vs H Q E h => ?_) (fun f cdv A outer s H vs Q E hr h => ?_)
  · obtain ⟨_, _, _, _, _, _, _, rfl, _⟩ := h
    rfl
  refine ⟨_, (pss_cons (ps_setLc (i := 4) (own := [("k", 7)]) (g := gName 7) (tt := tYes) rfl sc__law_parts.nd rfl rfl (sw_true rfl rfl rfl (by decide +kernel)) (pi_range1 rfl z_range (pa_cons pe_int pa_nil)) (blkOk_by (N := n__law_parts) (sc := C8.fnScope s__law_parts) (by decide +kernel)) (fun _ _ _ _ _ => pg_name (i := 7) sc__law_parts.nd rfl (Or.inl rfl)) (fun _ _ _ _ _ => pts_nil) (fun _ _ _ _ _ => (pe_lst pa_nil)))
    (pss_cons (ps_for PassesOwn.never rfl (pi_list (pv 0)) (pg_name (i := 5) sc__law_parts.nd rfl (.inr rfl))
      (pss_cons (ps_set (i := 6) sc__law_parts.nd rfl (.inl rfl) (pe_callH (i := 3) hr rfl (Or.inl rfl) (pa_cons (pe_lc (own := [("key", 8)]) (g := gName 8) (tt := tYes) rfl sc__law_parts.nd (pi_tup (pv 1)) (blkOk_by (N := n__law_parts) (sc := C8.fnScope s__law_parts) (by decide +kernel)) (fun _ _ _ _ _ => pg_name (i := 8) sc__law_parts.nd rfl (Or.inl rfl)) (fun _ _ _ _ _ => pts_nil) (fun _ _ _ _ _ => (C8.pe_c c_evaluate hr (by decide) (by rfl) (pa_cons (pv 8) (pa_cons (pv 5) pa_nil))))) pa_nil)))
    (pss_one (ps_expr (pe_bm PySem.F.plainAttrs_list PySem.F.slot_list_append PySem.F.type_list_append mt_append (pe_ix ix_list (pv 4) (pe_op op_mod (pe_callTy call_int1 (by rfl) z_int (by decide +kernel) (pa_cons (pe_op op_fdiv (pv 6) (pe_ix ix_tup (pe_tup (pa_cons pe_int (pa_cons pe_int (pa_cons pe_int pa_nil)))) (pv 2) (fun _ _ => rfl))) pa_nil)) pe_int) (fun _ _ => rfl)) (pa_cons (pv 5) pa_nil))))))
    (pss_one (ps_ret (pv 4))))), ?_⟩
  obtain ⟨t, a, f', n, es, L, h', rfl, hn, hE, hes, ⟨ts0, hts0, hA⟩, hok, hH, q⟩ := h
  refine q_empties (fun σ H => el_lst ea_nil (by decide)) (n := 8) ev_c (by decide) (fun _ => rfl) fun pp H3 qs hpp e3 h3 hq8 hnd hqs => ?_
  have hlen : (ts0.map V.ref).length = L.length := by rw [List.length_map, hA.1]
  have hqH : ∀ q ∈ qs, H q = none := fun q hq => (hqs q hq).2.2
  have hppq : ∀ q ∈ qs, q ≠ pp := fun q hq => (hqs q hq).2.1
  refine q_forLn (xs := ts0.map V.ref) (ev_var rfl) (sq_of (e3 _ _ hts0)) (fun i σ' H' => ∃ (v5 v6 : Option V), σ' = [some (.ref a), some (.ref t), some (.int (n : Int)), some (.ref f'), some (.ref pp), v5, v6, none, none] ∧ Ex H H' ∧ H' pp = some (.lst (qs.map V.ref)) ∧ ∀ (j : Nat) q, qs[j]? = some q → Lst2 (RG H) H' q (jpart h' n (keyF es) (L.take i) j)) (fun H4 e4 => ⟨none, none, rfl, e3.trans e4, e4 _ _ h3, fun j q hj => ⟨[], e4 _ _ (hqs q (List.mem_of_getElem? hj)).1, Al2.nil⟩⟩) (fun i σ' H' _ pv => ?_) (fun i x σ' H' hi pv => ?_) fun σ' H' pv => ?_
  · obtain ⟨_, _, rfl, x, _⟩ := pv
    exact sq_of (x _ _ hts0)
  · obtain ⟨v5, v6, rfl, x9, hp, hqv⟩ := pv
    obtain ⟨rp, r, rfl, hrp, hr, hrow⟩ := al2_at hA hi
    have hrL := List.mem_of_getElem? hr
    obtain ⟨hok1, hw⟩ := hok.2 r hrL
    have hz := hes.1
    obtain ⟨ks, hks, hkl, hkE⟩ := id hE
    refine q_asg (v := .int ((h' (keyF es r) : Nat) : Int)) (fun H6 e6 Q k => ⟨f', spH h', rfl, heldM (P := P) (w := w) (K := K) (mg := mg) (base := base) hH (by omega), (el_lcT (K := K) (fun m => evE r (es.getD m (.col 0))) (ev_var rfl) (ex_t (x9.trans e6) hks) (by omega) (fun _ => rfl) fun m z H7 e7 hm => ?_) H6 (Ex.refl H6) _ fun p H7 hp7 e7 h7 => ⟨p, keyF es r, rfl, ?_, hw, by unfold keyF; rw [List.length_map]; exact hz, fun H8 e8 => k H8 (e7.trans e8)⟩⟩) fun H6 e6 => ?_
    · have hml : m < es.length := by rw [← hkl]; exact (List.getElem?_eq_some_iff.mp hm).1
      rw [getD_is (List.getElem?_eq_getElem hml)]
      exact ec_eval (ev_var rfl) (ev_var rfl) ((hkE m z _ hm (List.getElem?_eq_getElem hml)).ex (x9.trans (e6.trans e7))) (sq_of ((x9.trans (e6.trans e7)) _ _ hrow)) hok1.1 hok1.2
    · have := map_getD (s := es) (d := .col 0) (F := evE r)
      rw [hkl, this] at h7
      exact h7
    have hp8 : partI h' n (keyF es r) < 8 := Nat.mod_lt _ (by decide)
    obtain ⟨qi, hqi⟩ : ∃ qi, qs[partI h' n (keyF es r)]? = some qi := ⟨_, List.getElem?_eq_getElem (by omega)⟩
    have hqm := List.mem_of_getElem? hqi
    obtain ⟨ti, hti, htA⟩ := hqv _ qi hqi
    obtain ⟨dv, dvn, hdv, hdvn, hd0, hd1⟩ : ∃ (d : Int) (dn : Nat), ([V.int 64, .int 8, .int 1] : List V)[n]? = some (.int d) ∧ (divL2.getD n 1 = dn ∧ d = (dn : Int)) ∧ 0 < d ∧ d < 1073741824 := by
      rcases (show n = 0 ∨ n = 1 ∨ n = 2 by omega) with z | z | z <;> subst z
      · exact ⟨64, 64, rfl, ⟨rfl, rfl⟩, by decide, by decide⟩
      · exact ⟨8, 8, rfl, ⟨rfl, rfl⟩, by decide, by decide⟩
      · exact ⟨1, 1, rfl, ⟨rfl, rfl⟩, by decide, by decide⟩
    have hL100 := hok.1
    have htl : ti.length ≤ 100 := by
      rw [htA.1]
      refine Nat.le_trans jpart_len ?_
      rw [List.length_take]
      omega
    have x6 := x9.trans e6
    refine s_app (l := qi) (v := .ref rp) (e6 _ _ hti) (ev_op (y := .int ((partI h' n (keyF es r) : Nat) : Int)) (ev_var rfl) (ev_is (ev_op (ev_int (ev_op (ev_var rfl) (ev_ixU (eu_tup (ea_cons ev_c (ea_cons ev_c (ea_cons ev_c ea_nil))) (by show 3 ≤ 100000; decide)) (ev_var rfl) (atI_nat hdv)) (rv_I ⟨hd0, hd1⟩))) ev_c (rv_I (by decide))) (by unfold partI; rw [hdvn.1, hdvn.2, Int.natCast_emod, Int.natCast_ediv]; rfl)) (rv_ixL (sq_of (e6 _ _ hp)) (atI_nat (by rw [List.getElem?_map, hqi]; rfl)))) (ev_var rfl) (by rw [List.length_map]; omega) fun H7 e7 => ?_
    refine ⟨_, _, rfl, Ex.mut (x6.trans e7) (hqH qi hqm), by rw [upd_ne (Ne.symm (hppq qi hqm))]; exact (e6.trans e7) _ _ hp, fun j q hj => ?_⟩
    rw [take_snoc hr]
    unfold jpart
    rw [List.filter_append]
    by_cases hji : j = partI h' n (keyF es r)
    · subst hji
      rw [hqi] at hj
      cases hj
      have h1 : [r].filter (fun x => decide (partI h' n (keyF es x) = partI h' n (keyF es r))) = [r] := by simp
      rw [h1]
      exact ⟨ti ++ [rp], by rw [upd_same, List.map_append]; rfl, (htA.mono fun q x _ g => g).snoc hrow⟩
    · obtain ⟨ts, hts, hTA⟩ := hqv j q hj
      have h1 : [r].filter (fun x => decide (partI h' n (keyF es x) = j)) = [] := by simp [Ne.symm hji]
      rw [h1, List.append_nil]
      have hqq : q ≠ qi := fun z => by
        subst z
        have := (List.getElem?_inj (List.getElem?_eq_some_iff.mp hj).1 hnd).mp (hj.trans hqi.symm)
        exact hji this
      exact ⟨ts, by rw [upd_ne hqq]; exact (e6.trans e7) _ _ hts, hTA.mono fun q x _ g => g⟩
  · obtain ⟨v5, v6, rfl, x9, hp, hqv⟩ := pv
    rw [hlen, List.take_length] at hqv
    refine s_ret (ev_var rfl) fun H4 e4 => q pp qs H4 hpp (x9.trans e4) (e4 _ _ hp) ⟨by rw [hq8, List.length_map, List.length_range], fun j q' l hj hl => ?_⟩
    have hj8 : j < 8 := by rw [← hq8]; exact (List.getElem?_eq_some_iff.mp hj).1
    rw [List.getElem?_map, List.getElem?_range hj8] at hl
    cases hl
    exact Lst2.mn RG.mn _ _ _ _ e4 (hqv j q' hj)
end

--@SPLIT
/-- data of keys: what is drawn -/
def KeyL (e : Cnd) : Prop := (∃ n, n < 2 ∧ e = .col n) ∨ e = .un "abs" (.col 0)
def sp__law_join_shape (K : PySem.W.Frag) : Sp := fun vs H Q _ => ∃ p : Addr, vs = [.ref p] ∧ Dr p H ∧ ∀ q vl vr v3 H' (es fs : List Cnd), (∀ e ∈ es, KeyL e) → (∀ e ∈ fs, KeyL e) → es.length ≤ 2 → fs.length ≤ 3 → H' q = some (.tup [vl, vr, v3]) → Dp K H' vl (.tuple (es.map Cnd.d)) → Dp K H' vr (.tuple (fs.map Cnd.d)) → Ex (wo p H) H' → Dr p H' → Q (.ref q) H'
theorem wj_none {hl : Bool} {h : List V → Nat} {F Gf : List V → List V} {mem t : Nat} {A B : List (List V)} (hb : decide (t = 3) = true ∨ decide (szJ hl A B ≤ mem) = true) (ht : t ≤ 3) : wj hl h F Gf mem (3 - t) A B = 0 := by
  rcases hb with z | z
  · exact wj_stop (.inr (of_decide_eq_true z)) ht
  · exact wj_stop (.inl (of_decide_eq_true z)) ht
section
variable {P : Program} {w : World} {K : PySem.W.Frag} {mg : Str → Option Value} {base : Heap}
theorem unRG {G H : Hp} {p : Addr} {L : List (List V)} (h : Lst2 (RG G) H p L) (e : Ex G H) : Lst2 RowAt H p L := by
  obtain ⟨ts, h1, h2⟩ := h
  exact ⟨ts, h1, h2.mono fun q x _ g => e _ _ g⟩
theorem ok__law_written {rn : Nat} (D : Dn K mg "_law_written" s__law_written ["way", "left", "right", "a", "b", "time", "memory", "hashed"]) (c__law_parts : C8.Cal P w K mg base 16 "_law_parts" (sp__law_parts P w K mg base) []) (z_len : mg "len" = none) (z_range : mg "range" = none) (c__law_written : C8.Cal P w K mg base (17 + rn) "_law_written" (spR__law_written P w K mg base rn) []) :
    C8.Cal P w K mg base (17 + rn + 1) "_law_written" (spR__law_written P w K mg base (rn + 1)) [] := by
  refine cal_of D sc__law_written (fun vs H Q E h => ?_) (fun f cdv A outer s H vs Q E hr h => ?_)
  · obtain ⟨_, _, _, _, _, _, _, _, _, _, _, _, _, rfl, _⟩ := h
    rfl
  refine ⟨_, (pss_cons (ps_set (i := 8) sc__law_written.nd rfl (.inl rfl) (pe_callB call_len_seq (by rfl) z_len PySem.boot_len (pa_cons (pv 3) pa_nil)))
    (pss_cons (ps_if (pt_cmpR op_eq (pv 0) pe_str (nomark _))
      (pss_one (ps_set (i := 8) sc__law_written.nd rfl (.inl rfl) (pe_callB call_len_seq (by rfl) z_len PySem.boot_len (pa_cons (pv 4) pa_nil))))
      pss_nil)
    (pss_cons (ps_if (PW.pt (pw_or (pt_cmpR op_eq (pv 5) pe_int (nomark _)) (pw_or1 (pt_cmpR op_le (pv 8) (pv 6) (nomark _)))))
      (pss_one (ps_ret pe_int))
      pss_nil)
    (pss_cons (ps_set (i := 9) sc__law_written.nd rfl (.inl rfl) (pe_op op_add (pe_callB call_len_seq (by rfl) z_len PySem.boot_len (pa_cons (pv 3) pa_nil)) (pe_callB call_len_seq (by rfl) z_len PySem.boot_len (pa_cons (pv 4) pa_nil))))
    (pss_cons (ps_set (i := 10) sc__law_written.nd rfl (.inl rfl) (C8.pe_c c__law_parts hr (by omega) (by rfl) (pa_cons (pv 3) (pa_cons (pv 1) (pa_cons (pv 5) (pa_cons (pv 7) pa_nil))))))
    (pss_cons (ps_set (i := 11) sc__law_written.nd rfl (.inl rfl) (C8.pe_c c__law_parts hr (by omega) (by rfl) (pa_cons (pv 4) (pa_cons (pv 2) (pa_cons (pv 5) (pa_cons (pv 7) pa_nil))))))
    (pss_cons (ps_for PassesOwn.never rfl (pi_range1 rfl z_range (pa_cons pe_int pa_nil)) (pg_name (i := 12) sc__law_written.nd rfl (.inl rfl))
      (pss_one (ps_aug (i := 9) sc__law_written.nd rfl (.inl rfl) (C8.pe_c c__law_written hr (Nat.le_refl _) (by rfl) (pa_cons (pv 0) (pa_cons (pv 1) (pa_cons (pv 2) (pa_cons (pe_ix ix_list (pv 10) (pv 12) (fun _ _ => rfl)) (pa_cons (pe_ix ix_list (pv 11) (pv 12) (fun _ _ => rfl)) (pa_cons (pe_op op_add (pv 5) pe_int) (pa_cons (pv 6) (pa_cons (pv 7) pa_nil))))))))) ip_add)))
    (pss_one (ps_ret (pv 9)))))))))), ?_⟩
  obtain ⟨way, l, r, a, b, f', t, mem, es, fs, A, B, h', rfl, hE, hes, hF, hfs, hA, hB, hoA, hoB, ht3, htn, hH, q⟩ := h
  obtain ⟨ta, hta, hTA⟩ := id hA
  obtain ⟨tb, htb, hTB⟩ := id hB
  have lA : ∀ {Hx : Hp} {te : TE} {σ : L2.St}, Ex H Hx → Ev te σ Hx (.ref a) → Ev (tCB (fun xs H Q => ∃ p ys, xs = [.ref p] ∧ (SqL K H p ys ∨ SqT K H p ys) ∧ Q (.int ys.length) H) (tCons te tNil)) σ Hx (.int ((A.length : Nat) : Int)) := fun ex h => ev_is (ev_len h (sq_of (ex _ _ hta))) (by rw [List.length_map, hTA.1])
  have lB : ∀ {Hx : Hp} {te : TE} {σ : L2.St}, Ex H Hx → Ev te σ Hx (.ref b) → Ev (tCB (fun xs H Q => ∃ p ys, xs = [.ref p] ∧ (SqL K H p ys ∨ SqT K H p ys) ∧ Q (.int ys.length) H) (tCons te tNil)) σ Hx (.int ((B.length : Nat) : Int)) := fun ex h => ev_is (ev_len h (sq_of (ex _ _ htb))) (by rw [List.length_map, hTB.1])
  generalize hhl : (!isS way "hash right") = hl at q
  refine q_asg (lA (Ex.refl H) (ev_var rfl)) fun H1 e1 => ?_
  refine q_ifI (b := isS way "hash right") (p := ((B.length : Nat) : Int)) (q := ((A.length : Nat) : Int)) (et_test (ev_op (ev_var rfl) ev_c (rv_eq rfl))) (fun _ => lB e1 (ev_var rfl)) rfl fun H2 e2 => ?_
  have hsz : (if isS way "hash right" = true then ((B.length : Nat) : Int) else ((A.length : Nat) : Int)) = ((szJ hl A B : Nat) : Int) := by
    rw [← hhl]
    unfold szJ
    cases isS way "hash right" <;> rfl
  rw [hsz]
  have x2 := e1.trans e2
  refine q_when (b := decide (t = 3) || decide (szJ hl A B ≤ mem)) (et_or (et_test (ev_is (ev_op (ev_var rfl) ev_c (rv_eq rfl)) (congrArg V.bl (decide_eq_decide.mpr ⟨fun z => by have := V.int.inj z; omega, fun z => by rw [z]; rfl⟩)))) fun _ => et_test (ev_is (ev_op (ev_var rfl) (ev_var rfl) rv_I0) (congrArg V.bl (decide_eq_decide.mpr (by omega))))) (fun hb H3 e3 => s_ret ev_c fun H4 e4 => ?_) fun hb H3 e3 => ?_
  · have := q H4 (x2.trans (e3.trans e4))
    rw [wj_none ((Bool.or_eq_true _ _).mp hb) ht3] at this
    exact this
  have hgo : t ≠ 3 ∧ ¬ szJ hl A B ≤ mem := by
    have h1 : decide (t = 3) = false ∧ decide (szJ hl A B ≤ mem) = false := by simpa using hb
    exact ⟨of_decide_eq_false h1.1, of_decide_eq_false h1.2⟩
  have ht2 : t ≤ 2 := by omega
  rw [wj_go hgo.2 ht2] at q
  have x3 := x2.trans e3
  refine q_asg (v := .int ((A.length + B.length : Nat) : Int)) (ev_is (ev_op (lA x3 (ev_var rfl)) (lB x3 (ev_var rfl)) rv_I0) (by rw [Int.natCast_add])) fun H4 e4 => ?_
  have x4 := x3.trans e4
  refine q_callS (ea_cons (ev_var rfl) (ea_cons (ev_var rfl) (ea_cons (ev_var rfl) (ea_cons (ev_var rfl) ea_nil)))) fun H5 e5 => ?_
  have x5 := x4.trans e5
  refine ⟨l, a, f', t, es, A, h', rfl, ht2, ExprsAt.mn _ _ _ _ x5 hE, hes, Lst2.mn RowAt.mn _ _ _ _ x5 hA, hoA, hH, fun pl ls H6 hpl e6 h6 hL6 => ?_⟩
  have x6 := x5.trans e6
  refine q_callS (ea_cons (ev_var rfl) (ea_cons (ev_var rfl) (ea_cons (ev_var rfl) (ea_cons (ev_var rfl) ea_nil)))) fun H7 e7 => ?_
  have x7 := x6.trans e7
  refine ⟨r, b, f', t, fs, B, h', rfl, ht2, ExprsAt.mn _ _ _ _ x7 hF, hfs, Lst2.mn RowAt.mn _ _ _ _ x7 hB, hoB, hH, fun pr rs H8 hpr e8 h8 hR8 => ?_⟩
  have x8 := x7.trans e8
  have l8 : ls.length = 8 := by rw [hL6.1, List.length_map, List.length_range]
  have r8 : rs.length = 8 := by rw [hR8.1, List.length_map, List.length_range]
  refine q_forR1 (n := 8) (ea_cons ev_c ea_nil) ⟨by decide, by decide⟩ (fun i σ' H' => ∃ v12, σ' = [some (.str way), some (.ref l), some (.ref r), some (.ref a), some (.ref b), some (.int (t : Int)), some (.int (mem : Int)), some (.ref f'), some (.int ((szJ hl A B : Nat) : Int)), some (.int ((A.length + B.length + jsum hl h' (keyF es) (keyF fs) mem ((jrest h' t (keyF es) (keyF fs) A B).take i) : Nat) : Int)), some (.ref pl), some (.ref pr), v12] ∧ Ex H8 H') (fun H9 e9 => ⟨none, rfl, e9⟩) (fun i σ' H9 hi pv => ?_) fun σ' H9 pv => ?_
  · obtain ⟨v12, rfl, x9⟩ := pv
    have hi8 : i < 8 := by omega
    obtain ⟨ai, hai⟩ : ∃ ai, ls[i]? = some ai := ⟨_, List.getElem?_eq_getElem (by omega)⟩
    obtain ⟨bi, hbi⟩ : ∃ bi, rs[i]? = some bi := ⟨_, List.getElem?_eq_getElem (by omega)⟩
    have hAi := hL6.2 i ai _ hai (by rw [List.getElem?_map, List.getElem?_range hi8]; rfl)
    have hBi := hR8.2 i bi _ hbi (by rw [List.getElem?_map, List.getElem?_range hi8]; rfl)
    have xx := x8.trans x9
    have hm : (jrest h' t (keyF es) (keyF fs) A B)[i]? = some (t + 1, jpart h' t (keyF es) A i, jpart h' t (keyF fs) B i) := by
      unfold jrest
      rw [List.getElem?_map, List.getElem?_range hi8]
      rfl
    obtain ⟨n', rfl⟩ : ∃ n', rn = n' + 1 := ⟨rn - 1, by omega⟩
    refine s_aug rfl (ev_call (ea_cons (ev_var rfl) (ea_cons (ev_var rfl) (ea_cons (ev_var rfl) (ea_cons (ev_op (ev_var rfl) (ev_var rfl) (rv_ixL (sq_of ((e7.trans (e8.trans x9)) _ _ h6)) (atI_nat (by rw [List.getElem?_map, hai]; rfl)))) (ea_cons (ev_op (ev_var rfl) (ev_var rfl) (rv_ixL (sq_of (x9 _ _ h8)) (atI_nat (by rw [List.getElem?_map, hbi]; rfl)))) (ea_cons (ev_op (ev_var rfl) ev_c rv_I0) (ea_cons (ev_var rfl) (ea_cons (ev_var rfl) ea_nil)))))))) fun Ha ea Q k E => ⟨way, l, r, ai, bi, f', t + 1, mem, es, fs, jpart h' t (keyF es) A i, jpart h' t (keyF fs) B i, h', rfl, ExprsAt.mn _ _ _ _ (xx.trans ea) hE, hes, ExprsAt.mn _ _ _ _ (xx.trans ea) hF, hfs, unRG (Lst2.mn RG.mn _ _ _ _ (e7.trans (e8.trans (x9.trans ea))) hAi) (e6.trans (e7.trans (e8.trans (x9.trans ea)))), unRG (Lst2.mn RG.mn _ _ _ _ (x9.trans ea) hBi) (e8.trans (x9.trans ea)), hoA.part, hoB.part, by omega, by omega, hH, fun Hb eb => k Hb eb⟩) fun Ha ea => ⟨some (.int (i : Int)), ?_, x9.trans ea⟩
    rw [take_snoc hm, jsum_app, ← Nat.add_assoc, Int.natCast_add, hhl]
    rfl
  · obtain ⟨v12, rfl, x9⟩ := pv
    have hl8 : (jrest h' t (keyF es) (keyF fs) A B).take 8 = jrest h' t (keyF es) (keyF fs) A B := List.take_of_length_le (by unfold jrest; rw [List.length_map, List.length_range]; exact Nat.le_refl _)
    have hl9 : (jrest h' t (keyF es) (keyF fs) A B).take ((8 : Int)).toNat = jrest h' t (keyF es) (keyF fs) A B := hl8
    rw [hl9]
    exact s_ret (ev_var rfl) fun Ha ea => q Ha (x8.trans (x9.trans ea))
theorem ok__law_due (D : Dn K mg "_law_due" s__law_due ["way", "kind", "left", "right", "a", "b", "memory", "hashed"]) (c__law_written : C8.Cal P w K mg base 21 "_law_written" (sp__law_written P w K mg base) []) (z_int : mg "int" = none) (z_len : mg "len" = none) (z_min : mg "min" = none) :
    C8.Cal P w K mg base 22 "_law_due" (sp__law_due P w K mg base) [] := by
  refine cal_of D sc__law_due (fun vs H Q E h => ?_) (fun f cdv A outer s H vs Q E hr h => ?_)
  · obtain ⟨_, _, _, _, _, _, _, _, _, _, _, _, _, rfl, _⟩ := h
    rfl
  refine ⟨_, (pss_cons (ps_if (PW.pt (pw_or (pt_cmpR op_eq (pv 0) pe_str (nomark _)) (pw_or1 (pt_cmpR op_eq (pv 1) pe_str (nomark _)))))
      (pss_one (ps_ret pe_int))
      pss_nil)
    (pss_cons (ps_if (pt_cmpR op_eq (pv 0) pe_str (nomark _))
      (pss_one (ps_ret (pe_op op_add (pe_op op_mul (pe_callB call_len_seq (by rfl) z_len PySem.boot_len (pa_cons (pv 4) pa_nil)) (pe_callTy call_int1 (by rfl) z_int (by decide +kernel) (pa_cons (pe_cmpR op_gt (pe_callB call_len_seq (by rfl) z_len PySem.boot_len (pa_cons (pv 4) pa_nil)) (pv 6) (nomark _)) pa_nil))) (pe_op op_mul (pe_callB call_len_seq (by rfl) z_len PySem.boot_len (pa_cons (pv 5) pa_nil)) (pe_callTy call_int1 (by rfl) z_int (by decide +kernel) (pa_cons (pe_cmpR op_gt (pe_callB call_len_seq (by rfl) z_len PySem.boot_len (pa_cons (pv 5) pa_nil)) (pv 6) (nomark _)) pa_nil))))))
      pss_nil)
    (pss_cons (ps_set (i := 8) sc__law_due.nd rfl (.inl rfl) (pe_callB (call_min2 rfl) (by rfl) z_min (by decide +kernel) (pa_cons (pe_callB call_len_seq (by rfl) z_len PySem.boot_len (pa_cons (pv 2) pa_nil)) (pa_cons (pe_callB call_len_seq (by rfl) z_len PySem.boot_len (pa_cons (pv 3) pa_nil)) pa_nil))))
    (pss_one (ps_ret (C8.pe_c c__law_written hr (by decide) (by rfl) (pa_cons (pv 0) (pa_cons (pe_slice sl_tupA (pv 2) po_none (po_some (pv 8))) (pa_cons (pe_slice sl_tupA (pv 3) po_none (po_some (pv 8))) (pa_cons (pv 4) (pa_cons (pv 5) (pa_cons pe_int (pa_cons (pv 6) (pa_cons (pv 7) pa_nil)))))))))))))), ?_⟩
  obtain ⟨way, kind, l, r, a, b, f', mem, es, fs, A, B, h', rfl, ⟨hE, hes, hF, hfs, hA, hB, hoA, hoB, hH⟩, q⟩ := h
  obtain ⟨ta, hta, hTA⟩ := id hA
  obtain ⟨tb, htb, hTB⟩ := id hB
  unfold jd at q
  refine q_when (b := isS way "loop" || isS kind "never") (et_or (et_test (ev_op (ev_var rfl) ev_c (rv_eq rfl))) fun _ => et_test (ev_op (ev_var rfl) ev_c (rv_eq rfl))) (fun hb H1 e1 => s_ret ev_c fun H2 e2 => ?_) fun hb H1 e1 => ?_
  · rw [if_pos hb] at q
    exact q H2 (e1.trans e2)
  rw [if_neg (by rw [hb]; decide)] at q
  have one : ∀ {p : Addr} {T : List Addr} {L : List (List V)} {Hx : Hp} {σ : L2.St} {te tm : TE}, Hx p = some (.lst (T.map V.ref)) → T.length = L.length → Ev te σ Hx (.ref p) → Ev tm σ Hx (.int (mem : Int)) → Ev (tOp (rI CMul fun i j => .int (i * j)) (tCB (fun xs H Q => ∃ p ys, xs = [.ref p] ∧ (SqL K H p ys ∨ SqT K H p ys) ∧ Q (.int ys.length) H) (tCons te tNil)) (tCB (fun xs H Q => (∃ i, xs = [.int i] ∧ Q (.int i) H) ∨ ∃ k, xs = [.bl k] ∧ Q (.int (if k then 1 else 0)) H) (tCons (tOp (rI0 fun i j => .bl (decide (i > j))) (tCB (fun xs H Q => ∃ p ys, xs = [.ref p] ∧ (SqL K H p ys ∨ SqT K H p ys) ∧ Q (.int ys.length) H) (tCons te tNil)) tm) tNil))) σ Hx (.int ((srt mem L : Nat) : Int)) := fun {p T L Hx σ te tm} hp hl ht hm => by
    refine ev_is (ev_op (ev_len ht (sq_of hp)) (ev_intB (b := decide (L.length > mem)) (ev_is (ev_op (ev_len ht (sq_of hp)) hm rv_I0) (by rw [List.length_map, hl]; exact congrArg V.bl (decide_eq_decide.mpr (by omega))))) (rv_I (.inr (by split <;> exact ⟨by decide, by decide⟩)))) ?_
    rw [List.length_map, hl]
    unfold srt
    by_cases hmm : L.length > mem
    · rw [decide_eq_true hmm, if_pos rfl, if_pos hmm, Int.mul_one]
    · rw [decide_eq_false hmm, if_neg hmm]
      rfl
  refine q_when (b := isS way "merge") (et_test (ev_op (ev_var rfl) ev_c (rv_eq rfl))) (fun hb H2 e2 => s_ret (v := .int (((srt mem A + srt mem B : Nat)) : Int)) (ev_is (ev_op (one ((e1.trans e2) _ _ hta) hTA.1 (ev_var rfl) (ev_var rfl)) (one ((e1.trans e2) _ _ htb) hTB.1 (ev_var rfl) (ev_var rfl)) rv_I0) (by rw [Int.natCast_add])) fun H3 e3 => ?_) fun hb H2 e2 => ?_
  · rw [if_pos hb] at q
    exact q H3 (e1.trans (e2.trans e3))
  rw [if_neg (by rw [hb]; decide)] at q
  have x2 := e1.trans e2
  obtain ⟨vs, hv, hvl, _⟩ := id hE
  obtain ⟨us, hu, hul, _⟩ := id hF
  refine q_asg (v := .int ((min es.length fs.length : Nat) : Int)) (ev_is (ev_min2 (ev_lenT (ev_var rfl) (ex_t x2 hv)) (ev_lenT (ev_var rfl) (ex_t x2 hu))) (by rw [hvl, hul]; congr 1; split <;> omega)) fun H3 e3 => ?_
  have x3 := x2.trans e3
  have hz1 := hes.1
  have hz2 := hfs.1
  refine ⟨.str way, rfl, sl_keys (K := K) (ev_var rfl) (ev_var rfl) (ExprsAt.mn _ _ _ _ x3 hE) hz1 H3 (Ex.refl H3) _ fun p H4 e4 h4 => sl_keys (K := K) (ev_var rfl) (ev_var rfl) (ExprsAt.mn _ _ _ _ (x3.trans e4) hF) hz2 H4 (Ex.refl H4) _ fun u H5 e5 h5 => ⟨.ref a, rfl, .ref b, rfl, _, rfl, _, rfl, way, p, u, a, b, f', 0, mem, es.take (min es.length fs.length), fs.take (min es.length fs.length), A, B, h', rfl, ExprsAt.mn _ _ _ _ e5 h4, hes.take _, h5, hfs.take _, Lst2.mn RowAt.mn _ _ _ _ (x3.trans (e4.trans e5)) hA, Lst2.mn RowAt.mn _ _ _ _ (x3.trans (e4.trans e5)) hB, hoA, hoB, by decide, by decide, hH, fun H6 e6 => q H6 (x3.trans (e4.trans (e5.trans e6)))⟩⟩
end

--@SPLIT
section
variable {K : PySem.W.Frag} {σ : L2.St} {H : Hp} {p : Addr} {ta tb te tl : TE} {R : PyData → Prop} {D : Ends} {tz : TS}
theorem q_appX {l : Addr} {xs : List V} (hl : H l = some (.lst xs)) (hne : l ≠ p) (ha : ∀ H1, Ev tl σ H1 (.ref l)) (h : EvX K te σ p H R) (d : Dr p H) (hz : xs.length < 100000) (k : ∀ v H1 d, R d → noL d = true → Dp K H1 v d → Ex (wo p H) H1 → Dr p H1 → tz D σ (upd H1 l (.lst (xs ++ [v])))) :
    tSeq (tDrop (tBM K "list" rAppend tl (tCons te tNil))) tz D σ H := s_appX (D := { D with nx := tz D }) hl hne ha h d hz k
theorem s_ret3 {t1 t2 : TE} {tr : TA} {xs ys rs : List V} (h1 : EvU t1 σ H xs) (h2 : ∀ H1, Ex H H1 → EvU t2 σ H1 ys) (h3 : ∀ H1, Ex H H1 → EvA tr σ H1 rs) (hl : rs.length ≤ 1000) (k : ∀ q a b H1, H q = none → Ex H H1 → H1 a = some (.tup xs) → H1 b = some (.tup ys) → H1 q = some (.tup (.ref a :: .ref b :: rs)) → D.rt (.ref q) H1) : tRet (tTup (tCons t1 (tCons t2 tr))) D σ H :=
  h1 H (Ex.refl H) _ fun a H1 ha e1 g1 => h2 H1 e1 H1 (Ex.refl H1) _ fun b H2 hb e2 g2 => h3 H2 (e1.trans e2) H2 (Ex.refl H2) _ fun H3 e3 => ⟨sz_of (by rw [List.length_cons, List.length_cons]; omega), fun q hq =>
    k q a b _ (fresh_back (e1.trans (e2.trans e3)) hq) ((e1.trans (e2.trans e3)).trans (Ex.new hq)) (Ex.new hq _ _ ((e2.trans e3) _ _ g1)) (Ex.new hq _ _ (e3 _ _ g2)) upd_same⟩
/-- (texts)[i] -/
theorem x_ixT {xs : List Str} (ha : EvU ta σ (wo p H) (xs.map V.str)) (hb : EvD1 tb σ p H (ZP fun j => 0 ≤ j ∧ j < (xs.length : Int))) : EvX K (tOp (rIxT K) ta tb) σ p H (fun d => ∃ s ∈ xs, d = .str s) := fun H1 e dr Q q =>
  ha H1 e _ fun t H2 ht e2 h2 => hb H2 (e.trans e2) (dr.ex e2) _ fun y H3 ⟨j, ey, hj⟩ e3 d3 => by
    subst ey
    obtain ⟨jn, rfl⟩ := Int.eq_ofNat_of_zero_le hj.1
    have hjn : jn < xs.length := by omega
    have htp : t ≠ p := fun z => by
      obtain ⟨s, hs⟩ := dr.at
      rw [z, hs] at ht
      cases ht
    have h3 : H3 t = some (.tup (xs.map V.str)) := e3 _ _ (by rw [wo_ne htp]; exact h2)
    refine rv_ixT (st_of h3) (atI_nat (j := jn) (v := .str xs[jn]) (by rw [List.getElem?_map, List.getElem?_eq_getElem hjn]; rfl)) H3 (Ex.refl H3) Q fun H4 e4 => ?_
    exact q _ H4 _ ⟨_, List.getElem_mem hjn, rfl⟩ rfl (.str _) (wx_trans (wx_of e2) (wx_trans e3 (wx_of e4))) (d3.ex e4)
end
section
variable {P : Program} {w : World} {K : PySem.W.Frag} {mg : Str → Option Value} {base : Heap}
section
variable {σ : L2.St} {H : Hp} {p : Addr} {ta : TE} {E : XK}
/-- ("column", what is drawn) -/
theorem x_col2 (ha : Ev ta σ (wo p H) (.ref p)) : EvX K (tTup (tCons (tC (.str "column")) (tCons (tCall (sp__law_digit K) [] E (tCons ta (tCons (tC (.int 2)) tNil))) tNil))) σ p H (fun d => ∃ n : Nat, n < 2 ∧ d = Cnd.d (.col n)) := by
  refine x_mono (x_tup (xa_cons (x_pure ev_c (fun _ => .str _) rfl) (xa_cons (x_int (PI := fun j => 0 ≤ j ∧ j < 2) (ez_digit ha ev_c (by decide) (by decide))) xa_nil)) ?_) ?_
  · rintro ds ⟨_, _, rfl, _, _, _, rfl, _, rfl⟩
    show 2 ≤ 100000
    decide
  · rintro d ⟨ds, rfl, _, _, rfl, rfl, _, _, rfl, ⟨j, hj, rfl⟩, rfl⟩
    obtain ⟨jn, rfl⟩ := Int.eq_ofNat_of_zero_le hj.1
    exact ⟨jn, by omega, rfl⟩
end
theorem ok__law_join_shape (D : Dn K mg "_law_join_shape" s__law_join_shape ["state"]) (c__law_digit : C8.Cal P w K mg base 1 "_law_digit" (sp__law_digit K) []) (z_range : mg "range" = none) (z_tuple : mg "tuple" = none) :
    C8.Cal P w K mg base 2 "_law_join_shape" (sp__law_join_shape K) [] := by
  refine cal_of D sc__law_join_shape (fun vs H Q E h => ?_) (fun f cdv A outer s H vs Q E hr h => ?_)
  · obtain ⟨_, rfl, _⟩ := h
    rfl
  refine ⟨_, (pss_cons (ps_set (i := 1) sc__law_join_shape.nd rfl (.inl rfl) (C8.pe_c c__law_digit hr (by decide) (by rfl) (pa_cons (pv 0) (pa_cons pe_int pa_nil))))
    (pss_cons (ps_set (i := 2) sc__law_join_shape.nd rfl (.inl rfl) (pe_lst pa_nil))
    (pss_cons (ps_set (i := 3) sc__law_join_shape.nd rfl (.inl rfl) (pe_lst pa_nil))
    (pss_cons (ps_for PassesOwn.never rfl (pi_range1 rfl z_range (pa_cons (pv 1) pa_nil)) (pg_name (i := 4) sc__law_join_shape.nd rfl (.inl rfl))
      (pss_cons (ps_expr (pe_bm PySem.F.plainAttrs_list PySem.F.slot_list_append PySem.F.type_list_append mt_append (pv 2) (pa_cons (pe_ix ix_tup (pe_tup (pa_cons (pe_tup (pa_cons pe_str (pa_cons (C8.pe_c c__law_digit hr (by decide) (by rfl) (pa_cons (pv 0) (pa_cons pe_int pa_nil))) pa_nil))) (pa_cons (pe_tup (pa_cons pe_str (pa_cons pe_str (pa_cons (pe_tup (pa_cons pe_str (pa_cons pe_int pa_nil))) pa_nil)))) pa_nil))) (pe_op op_fdiv (C8.pe_c c__law_digit hr (by decide) (by rfl) (pa_cons (pv 0) (pa_cons pe_int pa_nil))) pe_int) (fun _ _ => rfl)) pa_nil)))
    (pss_one (ps_expr (pe_bm PySem.F.plainAttrs_list PySem.F.slot_list_append PySem.F.type_list_append mt_append (pv 3) (pa_cons (pe_tup (pa_cons pe_str (pa_cons (C8.pe_c c__law_digit hr (by decide) (by rfl) (pa_cons (pv 0) (pa_cons pe_int pa_nil))) pa_nil))) pa_nil))))))
    (Evl.pss_cut (ps_if (pt_cmpR op_eq (C8.pe_c c__law_digit hr (by decide) (by rfl) (pa_cons (pv 0) (pa_cons pe_int pa_nil))) pe_int (nomark _))
      (pss_one (ps_expr (pe_bm PySem.F.plainAttrs_list PySem.F.slot_list_append PySem.F.type_list_append mt_append (pv 3) (pa_cons (pe_tup (pa_cons pe_str (pa_cons pe_int pa_nil))) pa_nil))))
      pss_nil)
    (pss_cons (ps_set (i := 5) sc__law_join_shape.nd rfl (.inl rfl) (pe_tup (pa_cons pe_str (pa_cons (pe_ix ix_tup (pe_tup (pa_cons pe_bl (pa_cons pe_bl (pa_cons pe_non (pa_cons pe_bl pa_nil))))) (C8.pe_c c__law_digit hr (by decide) (by rfl) (pa_cons (pv 0) (pa_cons pe_int pa_nil))) (fun _ _ => rfl)) pa_nil))))
    (Evl.pss_cut (ps_if (pt_cmpR op_eq (C8.pe_c c__law_digit hr (by decide) (by rfl) (pa_cons (pv 0) (pa_cons pe_int pa_nil))) pe_int (nomark _))
      (pss_one (ps_set (i := 5) sc__law_join_shape.nd rfl (.inl rfl) (pe_tup (pa_cons pe_str (pa_cons (pe_ix ix_tup (pe_tup (pa_cons pe_str (pa_cons pe_str (pa_cons pe_str pa_nil)))) (C8.pe_c c__law_digit hr (by decide) (by rfl) (pa_cons (pv 0) (pa_cons pe_int pa_nil))) (fun _ _ => rfl)) (pa_cons (pe_tup (pa_cons pe_str (pa_cons pe_int pa_nil))) (pa_cons (pe_tup (pa_cons pe_str (pa_cons pe_int pa_nil))) pa_nil)))))))
      pss_nil)
    (pss_one (ps_ret (pe_tup (pa_cons (pe_callTy call_tuple_of (by rfl) z_tuple (by decide +kernel) (pa_cons (pv 2) pa_nil)) (pa_cons (pe_callTy call_tuple_of (by rfl) z_tuple (by decide +kernel) (pa_cons (pv 3) pa_nil)) (pa_cons (pv 5) pa_nil))))))))))))), ?_⟩
  obtain ⟨p, rfl, d, q⟩ := h
  refine qz_asg (ez_digit (ev_var rfl) ev_c (by decide) (by decide)) d fun n H0 hn e0 d0 => ?_
  refine q_asgL (el_lst ea_nil (by decide)) fun l H1 hl e1 h1 => ?_
  refine q_asgL (el_lst ea_nil (by decide)) fun r H2 hr e2 h2 => ?_
  have np : ∀ {c : Addr} {Hx : Hp}, Dr p Hx → Hx c = none → c ≠ p := fun dx hc z => by
    obtain ⟨s, hs⟩ := dx.at
    rw [← z, hc] at hs
    cases hs
  have hlp := np d0 hl
  have hrp := np (d0.ex e1) hr
  have hlr : l ≠ r := fun z => by rw [← z, h1] at hr; cases hr
  have d2 := (d0.ex e1).ex e2
  have rl0 : wo p H0 r = none := by rw [wo_ne hrp]; exact fresh_back e1 hr
  have ll0 : wo p H0 l = none := by rw [wo_ne hlp]; exact hl
  refine q_forR1 (n := n) (ea_cons (ev_var rfl) ea_nil) ⟨by omega, by omega⟩ (fun j σ' H' => ∃ (v4 : Option V) (xs ys : List V) (es fs : List Cnd), σ' = [some (.ref p), some (.int n), some (.ref l), some (.ref r), v4, none] ∧ Ex (wo p H0) H' ∧ Dr p H' ∧ H' l = some (.lst xs) ∧ H' r = some (.lst ys) ∧ DpAll K H' xs (es.map Cnd.d) ∧ DpAll K H' ys (fs.map Cnd.d) ∧ es.length = j ∧ fs.length = j ∧ (∀ e ∈ es, KeyL e) ∧ ∀ e ∈ fs, KeyL e)
    (fun H3 e3 => ⟨none, [], [], [], [], rfl, wx_of (e1.trans (e2.trans e3)), d2.ex e3, e3 _ _ (e2 _ _ h1), e3 _ _ h2, .nil, .nil, rfl, rfl, (fun x hx => nomatch hx), fun x hx => nomatch hx⟩) (fun j σ' H3 hj pv => ?_) fun σ' H3 pv => ?_
  · obtain ⟨v4, xs, ys, es, fs, rfl, x3, d3, hl3, hr3, hD, hG, hel, hfl, hke, hkf⟩ := pv
    have hxl := dps_len hD
    have hyl := dps_len hG
    rw [List.length_map] at hxl hyl
    refine q_appX (R := fun d => ∃ e, KeyL e ∧ d = e.d) hl3 hlp (fun _ => ev_var rfl) (x_ix (m := 2) (PL := fun ds => ∃ n : Nat, n < 2 ∧ ds = [Cnd.d (.col n), Cnd.d (.un "abs" (.col 0))]) (x_mono (x_tup (xa_cons (x_col2 (ev_var rfl)) (xa_cons (x_tup (xa_cons (x_pure ev_c (fun _ => .str _) rfl) (xa_cons (x_pure ev_c (fun _ => .str _) rfl) (xa_cons (x_tup (xa_cons (x_pure ev_c (fun _ => .str _) rfl) (xa_cons (x_pure ev_c (fun _ => .int _) rfl) xa_nil)) ?_) xa_nil))) ?_) xa_nil)) ?_) ?_) (ez_op (ez_digit (m := 5) (ev_var rfl) ev_c (by decide) (by decide)) (e1_int (PI := fun j => j = 4) ev_c rfl) fun i j hi hj => ⟨by subst hj; exact ⟨by decide, by decide⟩, by subst hj; omega⟩) ?_) d3 (by omega) fun v H4 d' ⟨e, he, hd'⟩ hn' hv e4 d4 => ?_
    · rintro ds ⟨_, _, rfl, _, _, _, rfl, _, rfl⟩
      show 2 ≤ 100000
      decide
    · rintro ds ⟨_, _, rfl, _, _, _, rfl, _, _, _, rfl, _, rfl⟩
      show 3 ≤ 100000
      decide
    · rintro ds ⟨_, _, rfl, _, _, _, rfl, _, rfl⟩
      show 2 ≤ 100000
      decide
    · rintro d ⟨ds, rfl, _, _, rfl, ⟨n, hn, rfl⟩, _, _, rfl, ⟨_, rfl, _, _, rfl, rfl, _, _, rfl, rfl, _, _, rfl, ⟨_, rfl, _, _, rfl, rfl, _, _, rfl, rfl, rfl⟩, rfl⟩, rfl⟩
      exact ⟨_, rfl, n, hn, rfl⟩
    · rintro ds j ⟨n, hn, rfl⟩ hj
      rcases (show j = 0 ∨ j = 1 by omega) with z | z <;> subst z
      · exact ⟨_, rfl, _, .inl ⟨n, hn, rfl⟩, rfl⟩
      · exact ⟨_, rfl, _, .inr rfl, rfl⟩
    subst hd'
    have keep4 : ∀ {c : Addr} {o : HO}, c ≠ p → H3 c = some o → H4 c = some o := fun hc h => e4 _ _ (by rw [wo_ne hc]; exact h)
    have hl4 := keep4 hlp hl3
    have hr4 : upd H4 l (.lst (xs ++ [v])) r = some (.lst ys) := by rw [upd_ne (Ne.symm hlr)]; exact keep4 hrp hr3
    have hD4 : DpAll K (upd H4 l (.lst (xs ++ [v]))) (xs ++ [v]) ((es ++ [e]).map Cnd.d) := by
      rw [List.map_append]
      exact dps_snoc (dps_upd hl4 (noLs_cx es) (dps_wx hD (noLs_cx es) d3 e4)) (dp_upd hl4 hn' hv)
    have hG4 := dps_upd (zs := xs ++ [v]) hl4 (noLs_cx fs) (dps_wx hG (noLs_cx fs) d3 e4)
    have d5 := d4.upd (o := .lst (xs ++ [v])) (Ne.symm hlp)
    have x4 : Ex (wo p H0) (upd H4 l (.lst (xs ++ [v]))) := Ex.mut (wx_trans x3 e4) ll0
    have hl5 : upd H4 l (.lst (xs ++ [v])) l = some (.lst (xs ++ [v])) := upd_same
    generalize upd H4 l (.lst (xs ++ [v])) = H5 at hr4 hD4 hG4 d5 x4 hl5 ⊢
    refine s_appX (R := fun d => ∃ n : Nat, n < 2 ∧ d = Cnd.d (.col n)) hr4 hrp (fun _ => ev_var rfl) (x_col2 (ev_var rfl)) d5 (by omega) fun v2 H6 d2' ⟨n2, hn2, hd2⟩ hn6 hv6 e6 d6 => ?_
    subst hd2
    have keep6 : ∀ {c : Addr} {o : HO}, c ≠ p → H5 c = some o → H6 c = some o := fun hc h => e6 _ _ (by rw [wo_ne hc]; exact h)
    have hr6 := keep6 hrp hr4
    refine ⟨_, xs ++ [v], ys ++ [v2], es ++ [e], fs ++ [.col n2], rfl, Ex.mut (wx_trans x4 e6) rl0, d6.upd (Ne.symm hrp), by rw [upd_ne hlr]; exact keep6 hlp hl5, upd_same, dps_upd hr6 (noLs_cx _) (dps_wx hD4 (noLs_cx _) d5 e6), ?_, by rw [List.length_append, hel]; rfl, by rw [List.length_append, hfl]; rfl, fun x hx => ?_, fun x hx => ?_⟩
    · rw [List.map_append]
      exact dps_snoc (dps_upd hr6 (noLs_cx fs) (dps_wx hG4 (noLs_cx fs) d5 e6)) (dp_upd hr6 hn6 hv6)
    · rcases List.mem_append.mp hx with h | h
      · exact hke x h
      · rw [List.mem_singleton.mp h]; exact he
    · rcases List.mem_append.mp hx with h | h
      · exact hkf x h
      · rw [List.mem_singleton.mp h]; exact .inl ⟨n2, hn2, rfl⟩
  obtain ⟨v4, xs, ys, es, fs, rfl, x3, d3, hl3, hr3, hD, hG, hel, hfl, hke, hkf⟩ := pv
  have hxl := dps_len hD
  have hyl := dps_len hG
  rw [List.length_map] at hxl hyl
  have hn2 : n.toNat ≤ 2 := by omega
  refine q_cut (M := fun σ' H' => ∃ (ys : List V) (fs : List Cnd), σ' = [some (.ref p), some (.int n), some (.ref l), some (.ref r), v4, none] ∧ Ex (wo p H0) H' ∧ Dr p H' ∧ H' l = some (.lst xs) ∧ H' r = some (.lst ys) ∧ DpAll K H' xs (es.map Cnd.d) ∧ DpAll K H' ys (fs.map Cnd.d) ∧ fs.length ≤ 3 ∧ ∀ e ∈ fs, KeyL e) ?_ fun σ' H4 pw => ?_
  · refine (edt_test (ez_eq (ez_digit (m := 5) (ev_var rfl) ev_c (by decide) (by decide)) (e1_int (PI := fun j => j = 0) ev_c rfl))) H3 (wo_le _ _) d3 _ fun b H4 _ e4 d4 => ?_
    have keep4 : ∀ {c : Addr} {o : HO}, c ≠ p → H3 c = some o → H4 c = some o := fun hc h => e4 _ _ (by rw [wo_ne hc]; exact h)
    cases b with
    | false => exact ⟨ys, fs, rfl, wx_trans x3 e4, d4, keep4 hlp hl3, keep4 hrp hr3, dps_wx hD (noLs_cx _) d3 e4, dps_wx hG (noLs_cx _) d3 e4, by omega, hkf⟩
    | true =>
      rw [if_pos rfl]
      refine s_appX (p := p) (R := fun d => d = Cnd.d (.col 0)) (keep4 hrp hr3) hrp (fun _ => ev_var rfl) (x_mono (x_tup (xa_cons (x_pure ev_c (fun _ => .str _) rfl) (xa_cons (x_pure ev_c (fun _ => .int _) rfl) xa_nil)) ?_) ?_) d4 (by omega) fun v2 H6 d2' hd2 hn6 hv6 e6 d6 => ?_
      · rintro ds ⟨_, _, rfl, _, _, _, rfl, _, rfl⟩
        show 2 ≤ 100000
        decide
      · rintro d ⟨ds, rfl, _, _, rfl, rfl, _, _, rfl, rfl, rfl⟩
        rfl
      subst hd2
      have keep6 : ∀ {c : Addr} {o : HO}, c ≠ p → H3 c = some o → H6 c = some o := fun hc h => e6 _ _ (by rw [wo_ne hc]; exact keep4 hc h)
      have hr6 := keep6 hrp hr3
      have e36 := wx_trans e4 e6
      refine ⟨ys ++ [v2], fs ++ [.col 0], rfl, Ex.mut (wx_trans x3 e36) rl0, d6.upd (Ne.symm hrp), by rw [upd_ne hlr]; exact keep6 hlp hl3, upd_same, dps_upd hr6 (noLs_cx _) (dps_wx hD (noLs_cx _) d3 e36), ?_, by rw [List.length_append, List.length_singleton]; omega, fun x hx => ?_⟩
      · rw [List.map_append]
        exact dps_snoc (dps_upd hr6 (noLs_cx fs) (dps_wx hG (noLs_cx fs) d3 e36)) (dp_upd hr6 hn6 hv6)
      · rcases List.mem_append.mp hx with h | h
        · exact hkf x h
        · rw [List.mem_singleton.mp h]; exact .inl ⟨0, by decide, rfl⟩
  clear hr3 hG hyl hkf hfl
  clear ys fs
  obtain ⟨ys, fs, rfl, x4, d4, hl4, hr4, hD4, hG4, hfl, hkf⟩ := pw
  have any4 : ∀ ds (j : Nat), ds = [PyData.bool true, .bool true, .none, .bool false] → (j : Int) < 4 → ∃ d, ds[j]? = some d ∧ True := fun ds j e hj => by
    subst e
    rcases (show j = 0 ∨ j = 1 ∨ j = 2 ∨ j = 3 by omega) with z | z | z | z <;> subst z <;> exact ⟨_, rfl, trivial⟩
  refine qx_asg (P := fun _ => True) (x_mono (x_tup (xa_cons (x_pure ev_c (fun _ => .str _) rfl) (xa_cons (x_ix (m := 4) (PL := fun ds => ds = [PyData.bool true, .bool true, .none, .bool false]) (x_mono (x_tup (xa_cons (x_pure ev_c (fun _ => .bl _) rfl) (xa_cons (x_pure ev_c (fun _ => .bl _) rfl) (xa_cons (x_pure ev_c (fun _ => .non) rfl) (xa_cons (x_pure ev_c (fun _ => .bl _) rfl) xa_nil)))) ?_) ?_) (ez_digit (m := 4) (ev_var rfl) ev_c (by decide) (by decide)) any4) xa_nil)) ?_) fun _ _ => trivial) d4 fun v5 H5 d5' _ _ _ e5 d5 => ?_
  · rintro ds ⟨_, _, rfl, _, _, _, rfl, _, _, _, rfl, _, _, _, rfl, _, rfl⟩
    show 4 ≤ 100000
    decide
  · rintro d ⟨ds, rfl, _, _, rfl, rfl, _, _, rfl, rfl, _, _, rfl, rfl, _, _, rfl, rfl, rfl⟩
    exact ⟨_, rfl, rfl⟩
  · rintro ds ⟨_, _, rfl, _, _, _, rfl, _, rfl⟩
    show 2 ≤ 100000
    decide
  refine q_cut (M := fun σ' H' => ∃ v5, σ' = [some (.ref p), some (.int n), some (.ref l), some (.ref r), v4, some v5] ∧ Ex (wo p H4) H' ∧ Dr p H') ?_ fun σ' H6 pw => ?_
  · refine (edt_test (ez_eq (ez_digit (m := 2) (ev_var rfl) ev_c (by decide) (by decide)) (e1_int (PI := fun j => j = 0) ev_c rfl))) H5 (wo_le _ _) d5 _ fun b H6 _ e6 d6 => ?_
    cases b with
    | false => exact ⟨v5, rfl, wx_trans e5 e6, d6⟩
    | true =>
      rw [if_pos rfl]
      refine (x_tup (xa_cons (x_pure ev_c (fun _ => .str _) rfl) (xa_cons (x_ixT (K := K) (xs := ["less", "at most", "equal"]) (eu_tup (ea_cons ev_c (ea_cons ev_c (ea_cons ev_c ea_nil))) (by show 3 ≤ 100000; decide)) (ez_digit (m := 3) (ev_var rfl) ev_c (by decide) (by decide))) (xa_cons (x_tup (xa_cons (x_pure ev_c (fun _ => .str _) rfl) (xa_cons (x_pure ev_c (fun _ => .int _) rfl) xa_nil)) ?_) (xa_cons (x_tup (xa_cons (x_pure ev_c (fun _ => .str _) rfl) (xa_cons (x_pure ev_c (fun _ => .int _) rfl) xa_nil)) ?_) xa_nil)))) ?_) H6 (wo_le _ _) d6 _ fun v6 H7 _ _ _ _ e7 d7 => ⟨v6, rfl, wx_trans (wx_trans e5 e6) e7, d7⟩
      · rintro ds ⟨_, _, rfl, _, _, _, rfl, _, rfl⟩
        show 2 ≤ 100000
        decide
      · rintro ds ⟨_, _, rfl, _, _, _, rfl, _, rfl⟩
        show 2 ≤ 100000
        decide
      · rintro ds ⟨_, _, rfl, _, _, _, rfl, _, _, _, rfl, _, _, _, rfl, _, rfl⟩
        show 4 ≤ 100000
        decide
  obtain ⟨v6, rfl, e6, d6⟩ := pw
  have keep6 : ∀ {c : Addr} {o : HO}, c ≠ p → H4 c = some o → H6 c = some o := fun hc h => e6 _ _ (by rw [wo_ne hc]; exact h)
  have hD6 := dps_wx hD4 (noLs_cx _) d4 e6
  have hG6 := dps_wx hG4 (noLs_cx _) d4 e6
  refine s_ret3 (eu_tuple (K := K) (ev_var rfl) (sq_of (keep6 hlp hl4))) (fun H7 e7 => eu_tuple (K := K) (ev_var rfl) (sq_of (e7 _ _ (keep6 hrp hr4)))) (fun H7 e7 => ea_cons (ev_var rfl) ea_nil) (by show 1 ≤ 1000; decide) fun q' t1 t2 H9 hq' e9 h7 h8 h9 => ?_
  exact q q' _ _ _ _ es fs hke hkf (by omega) hfl h9 (.tup (st_of h7) (ex_dps e9 hD6)) (.tup (st_of h8) (ex_dps e9 hG6)) (wx_trans (wx_trans e0 (wx_trans x4 e6)) (wx_of e9)) (d6.ex e9)
end

--@SPLIT
theorem keyl_ok {e : Cnd} (h : KeyL e) : e.dep ≤ 8 ∧ e.ok 2 := by
  rcases h with ⟨n, hn, rfl⟩ | rfl
  · exact ⟨by show 1 ≤ 8; decide, .col n hn⟩
  · exact ⟨by show 2 ≤ 8; decide, .un _ _ (by decide +kernel) (.col 0 (by decide))⟩
theorem abs_wv {x : V} (h : DV x) : WV (absV x) := by
  cases h with
  | int i hi => exact .int _ (by split <;> omega)
  | _ => exact .non
theorem keyl_wv {e : Cnd} (h : KeyL e) {r : List V} (hr : r.length = 2) (hd : ∀ x ∈ r, DV x) : WV (evE r e) := by
  have at_ : ∀ n, n < 2 → DV (r.getD n .non) := fun n hn => by
    have hg : r[n]? = some r[n] := List.getElem?_eq_getElem (by omega)
    rw [getD_is hg]
    exact hd _ (List.getElem_mem (by omega : n < r.length))
  rcases h with ⟨n, hn, rfl⟩ | rfl
  · exact (at_ n hn).wv
  · have hv : evE r (.un "abs" (.col 0)) = absV (r.getD 0 .non) := by
      show unV "abs" (r.getD 0 .non) = _
      unfold unV
      rw [if_neg (by decide +kernel), if_neg (by decide +kernel)]
    rw [hv]
    exact abs_wv (at_ 0 (by decide))
def waysJ : List Str := ["hash left", "hash right", "merge", "hash right", "loop"]
def kindsJ : List Str := ["inner", "left", "some", "none", "never"]
theorem jw_jd {way kind : Str} (hw : way ∈ waysJ) (es fs : List Cnd) (mem : Nat) (h : List V → Nat) (A B : List (List V)) : jw way kind es fs mem h A B = jd way kind es fs mem h A B := by
  unfold jw jd w2J
  have c1 : isS "loop" "loop" = true := by decide +kernel
  cases hk : isS kind "never" with
  | true => rw [if_pos rfl, if_pos c1, Bool.or_true, if_pos rfl]
  | false =>
    rw [if_neg Bool.false_ne_true, Bool.or_false]
    cases hl : isS way "loop" with
    | true => rw [if_pos rfl, if_pos rfl]
    | false =>
      rw [if_neg Bool.false_ne_true, if_neg Bool.false_ne_true]
      cases hm : isS way "merge" with
      | true => rw [if_pos rfl, if_pos rfl]
      | false =>
        rw [if_neg Bool.false_ne_true, if_neg Bool.false_ne_true]
        have he : isS way "hash left" = !isS way "hash right" := by
          simp only [waysJ, List.mem_cons, List.not_mem_nil, or_false] at hw
          rcases hw with rfl | rfl | rfl | rfl | rfl
          · decide +kernel
          · decide +kernel
          · rw [show isS "merge" "merge" = true by decide +kernel] at hm; cases hm
          · decide +kernel
          · rw [c1] at hl; cases hl
        rw [he]
def sp_law (K : PySem.W.Frag) : Sp := fun vs H Q _ => ∃ (a : Addr) (ns : List Int), vs = [.ref a] ∧ SqL K H a (ns.map V.int) ∧ ns.length ≤ 63 ∧ ∀ H', Q (.bl true) H'
theorem sp_law_of {K : PySem.W.Frag} {H : Hp} {a : Addr} {ns : List Int} (hl : ns.length ≤ 63) (hS : SqL K H a (ns.map V.int)) : sp_law K [.ref a] H (fun v _ => v = .bl true) fun _ _ _ => False :=
  ⟨a, ns, rfl, hS, hl, fun _ => rfl⟩
section
variable {P : Program} {w : World} {K : PySem.W.Frag} {mg : Str → Option Value} {base : Heap}
section
variable {σ : L2.St} {H : Hp} {t1 t2 t3 t4 t5 t6 t7 t8 : TE} {E : XK} {way kind : Str} {l r a b f : Addr} {mem : Nat} {es fs : List Cnd} {A B : List (List V)} {h : List V → Nat}
theorem JGiven.ex {H' : Hp} (g : JGiven P w K mg base H l r a b f es fs A B h) (e : Ex H H') : JGiven P w K mg base H' l r a b f es fs A B h := by
  obtain ⟨g1, g2, g3, g4, g5, g6, g7, g8, g9⟩ := g
  exact ⟨ExprsAt.mn _ _ _ _ e g1, g2, ExprsAt.mn _ _ _ _ e g3, g4, Lst2.mn RowAt.mn _ _ _ _ e g5, Lst2.mn RowAt.mn _ _ _ _ e g6, g7, g8, g9⟩
theorem ec_joinw (h1 : Ev t1 σ H (.str way)) (h2 : Ev t2 σ H (.str kind)) (h3 : Ev t3 σ H (.ref l)) (h4 : Ev t4 σ H (.ref r)) (h5 : Ev t5 σ H (.ref a)) (h6 : Ev t6 σ H (.ref b)) (h7 : Ev t7 σ H (.int (mem : Int))) (h8 : Ev t8 σ H (.ref f)) (g : JGiven P w K mg base H l r a b f es fs A B h) :
    Ev (tCallN 6 2 (sp_join_written P w K mg base) (fun vs zs => vs ++ zs) E (tCons t1 (tCons t2 (tCons t3 (tCons t4 (tCons t5 (tCons t6 tNil)))))) (tCons t7 (tCons t8 tNil))) σ H (.int ((jw way kind es fs mem h A B : Nat) : Int)) :=
  ev_callN (ea_cons h1 (ea_cons h2 (ea_cons h3 (ea_cons h4 (ea_cons h5 (ea_cons h6 ea_nil)))))) (fun H1 e1 => ea_cons (h7.mono e1) (ea_cons (h8.mono e1) ea_nil)) rfl rfl fun H1 e Q q E => ⟨way, kind, l, r, a, b, f, mem, es, fs, A, B, h, rfl, g.ex e, q⟩
theorem ec_ldue (h1 : Ev t1 σ H (.str way)) (h2 : Ev t2 σ H (.str kind)) (h3 : Ev t3 σ H (.ref l)) (h4 : Ev t4 σ H (.ref r)) (h5 : Ev t5 σ H (.ref a)) (h6 : Ev t6 σ H (.ref b)) (h7 : Ev t7 σ H (.int (mem : Int))) (h8 : Ev t8 σ H (.ref f)) (g : JGiven P w K mg base H l r a b f es fs A B h) :
    Ev (tCall (sp__law_due P w K mg base) [] E (tCons t1 (tCons t2 (tCons t3 (tCons t4 (tCons t5 (tCons t6 (tCons t7 (tCons t8 tNil))))))))) σ H (.int ((jd way kind es fs mem h A B : Nat) : Int)) :=
  ev_call (ea_cons h1 (ea_cons h2 (ea_cons h3 (ea_cons h4 (ea_cons h5 (ea_cons h6 (ea_cons h7 (ea_cons h8 ea_nil)))))))) fun H1 e Q q E => ⟨way, kind, l, r, a, b, f, mem, es, fs, A, B, h, rfl, g.ex e, q⟩
end
theorem ok_law {f : Addr} {fd : FuncData} (D : C8.Def K mg "law" s_law f fd) (c__law_cell : C8.Cal P w K mg base 1 "_law_cell" (sp__law_cell K) []) (c__law_digit : C8.Cal P w K mg base 1 "_law_digit" (sp__law_digit K) []) (c__law_due : C8.Cal P w K mg base 22 "_law_due" (sp__law_due P w K mg base) []) (c__law_hash : C8.Cal P w K mg base 4 "_law_hash" (sp__law_hash P w K mg base) []) (c__law_is_integer : C8.Cal P w K mg base 1 "_law_is_integer" (sp__law_is_integer K) []) (c__law_join_shape : C8.Cal P w K mg base 2 "_law_join_shape" (sp__law_join_shape K) []) (c__law_rows : C8.Cal P w K mg base 4 "_law_rows" (sp__law_rows K) []) (c__law_state : C8.Cal P w K mg base 1 "_law_state" (sp__law_state K) []) (c_join_written : CalK P w K mg base 19 "join_written" 6 ["memory", "hashed"] (sp_join_written P w K mg base)) (z_len : mg "len" = none) (z_max : mg "max" = none) (z_min : mg "min" = none) (z_range : mg "range" = none) :
    FnOk P w K mg base C8.CX0 23 f fd ["script"] (sp_law K) := by
  refine C8.fn0 D.fn sc_law (fun vs H Q E h => ?_) (fun cdv A outer s H vs Q E hr h => ?_)
  · obtain ⟨_, _, rfl, _⟩ := h
    rfl
  refine ⟨_, (pss_cons (ps_set (i := 1) sc_law.nd rfl (.inl rfl) (pe_op op_add pe_int (pe_callB (call_min2 rfl) (by rfl) z_min (by decide +kernel) (pa_cons pe_int (pa_cons (pe_op op_fdiv (pe_callB (call_max2 rfl) (by rfl) z_max (by decide +kernel) (pa_cons pe_int (pa_cons (pe_op op_sub (pe_callB call_len_seq (by rfl) z_len PySem.boot_len (pa_cons (pv 0) pa_nil)) pe_int) pa_nil))) pe_int) pa_nil)))))
    (pss_cons (ps_set (i := 2) sc_law.nd rfl (.inl rfl) (C8.pe_c c__law_rows hr (by decide) (by rfl) (pa_cons (pv 0) (pa_cons pe_int (pa_cons (pe_op op_sub (pv 1) pe_int) (pa_cons pe_int pa_nil))))))
    (pss_cons (ps_set (i := 3) sc_law.nd rfl (.inl rfl) (C8.pe_c c__law_rows hr (by decide) (by rfl) (pa_cons (pv 0) (pa_cons (pv 1) (pa_cons pe_int (pa_cons pe_int pa_nil))))))
    (pss_cons (ps_for PassesOwn.never rfl (pi_range1 rfl z_range (pa_cons pe_int pa_nil)) (pg_name (i := 4) sc_law.nd rfl (.inl rfl))
      (pss_cons (ps_set (i := 5) sc_law.nd rfl (.inl rfl) (C8.pe_c c__law_state hr (by decide) (by rfl) (pa_cons (C8.pe_c c__law_cell hr (by decide) (by rfl) (pa_cons (pv 0) (pa_cons pe_int pa_nil))) (pa_cons (pe_op op_add pe_int (pv 4)) pa_nil))))
    (pss_cons (ps_asg (C8.pe_c c__law_join_shape hr (by decide) (by rfl) (pa_cons (pv 5) pa_nil)) (pg_tup rfl (pgs_cons (pg_name (i := 6) sc_law.nd rfl (.inl rfl)) (pgs_cons (pg_name (i := 7) sc_law.nd rfl (.inl rfl)) (pgs_cons (pg_name (i := 8) sc_law.nd rfl (.inl rfl)) pgs_nil)))))
    (pss_cons (ps_set (i := 9) sc_law.nd rfl (.inl rfl) (pe_ix ix_tup (pe_tup (pa_cons pe_str (pa_cons pe_str (pa_cons pe_str (pa_cons pe_str (pa_cons pe_str pa_nil)))))) (C8.pe_c c__law_digit hr (by decide) (by rfl) (pa_cons (pv 5) (pa_cons pe_int pa_nil))) (fun _ _ => rfl)))
    (pss_cons (ps_set (i := 10) sc_law.nd rfl (.inl rfl) (pe_ix ix_tup (pe_tup (pa_cons pe_str (pa_cons pe_str (pa_cons pe_str (pa_cons pe_str (pa_cons pe_str pa_nil)))))) (C8.pe_c c__law_digit hr (by decide) (by rfl) (pa_cons (pv 5) (pa_cons pe_int pa_nil))) (fun _ _ => rfl)))
    (pss_cons (ps_set (i := 11) sc_law.nd rfl (.inl rfl) (pe_ix ix_tup (pe_tup (pa_cons (pe_op op_add pe_int (C8.pe_c c__law_digit hr (by decide) (by rfl) (pa_cons (pv 5) (pa_cons pe_int pa_nil)))) (pa_cons (pe_callB (call_max2 rfl) (by rfl) z_max (by decide +kernel) (pa_cons pe_int (pa_cons (pe_callB call_len_seq (by rfl) z_len PySem.boot_len (pa_cons (pv 2) pa_nil)) pa_nil))) (pa_cons (pe_callB (call_max2 rfl) (by rfl) z_max (by decide +kernel) (pa_cons pe_int (pa_cons (pe_callB call_len_seq (by rfl) z_len PySem.boot_len (pa_cons (pv 3) pa_nil)) pa_nil))) (pa_cons (pe_callB (call_max2 rfl) (by rfl) z_max (by decide +kernel) (pa_cons pe_int (pa_cons (pe_op op_sub (pe_callB call_len_seq (by rfl) z_len PySem.boot_len (pa_cons (pv 3) pa_nil)) pe_int) pa_nil))) pa_nil))))) (C8.pe_c c__law_digit hr (by decide) (by rfl) (pa_cons (pv 5) (pa_cons pe_int pa_nil))) (fun _ _ => rfl)))
    (pss_cons (ps_set (i := 12) sc_law.nd rfl (.inl rfl) (C8.pe_c c__law_hash hr (by decide) (by rfl) (pa_cons (C8.pe_c c__law_digit hr (by decide) (by rfl) (pa_cons (pv 5) (pa_cons pe_int pa_nil))) pa_nil)))
    (pss_cons (ps_set (i := 13) sc_law.nd rfl (.inl rfl) (pe_cK c_join_written hr (by decide) (by rfl) (pa_cons (pv 10) (pa_cons (pv 9) (pa_cons (pv 6) (pa_cons (pv 7) (pa_cons (pv 2) (pa_cons (pv 3) pa_nil)))))) (pk_cons (pv 11) (pk_cons (pv 12) pk_nil))))
    (pss_one (ps_if (PW.pt (pw_or (pt_not (pt_val (C8.pe_c c__law_is_integer hr (by decide) (by rfl) (pa_cons (pv 13) pa_nil)))) (pw_or1 (pt_cmpR op_ne (pv 13) (C8.pe_c c__law_due hr (by decide) (by rfl) (pa_cons (pv 10) (pa_cons (pv 9) (pa_cons (pv 6) (pa_cons (pv 7) (pa_cons (pv 2) (pa_cons (pv 3) (pa_cons (pv 11) (pa_cons (pv 12) pa_nil))))))))) (nomark _)))))
      (pss_one (ps_ret pe_bl))
      pss_nil))))))))))
    (pss_one (ps_ret pe_bl)))))), ?_⟩
  obtain ⟨a, ns, rfl, hS, h63, q⟩ := h
  have hlen0 : (ns.map V.int).length = ns.length := List.length_map ..
  obtain ⟨n0, hn0, hn1, hn31⟩ : ∃ n0 : Nat, (1 : Int) + (if (if ((ns.length : Nat) : Int) - 1 > 0 then ((ns.length : Nat) : Int) - 1 else 0) / 2 < 30 then (if ((ns.length : Nat) : Int) - 1 > 0 then ((ns.length : Nat) : Int) - 1 else 0) / 2 else 30) = (n0 : Int) ∧ 1 ≤ n0 ∧ n0 ≤ 31 := by
    refine ⟨((1 : Int) + (if (if ((ns.length : Nat) : Int) - 1 > 0 then ((ns.length : Nat) : Int) - 1 else 0) / 2 < 30 then (if ((ns.length : Nat) : Int) - 1 > 0 then ((ns.length : Nat) : Int) - 1 else 0) / 2 else 30)).toNat, ?_, ?_, ?_⟩ <;> split <;> split <;> omega
  refine q_asg (v := .int (n0 : Int)) (ev_is (ev_op ev_c (ev_min2 ev_c (ev_op (Evl.ev_max2 ev_c (ev_op (ev_is (ev_len (ev_var rfl) hS) (by rw [hlen0])) ev_c rv_I0)) ev_c (rv_I ⟨by decide, by decide⟩))) rv_I0) (by rw [hn0])) fun H1 e1 => ?_
  refine q_callS (ea_cons (ev_var rfl) (ea_cons ev_c (ea_cons (ev_is (v := .int ((n0 : Int) - 1)) (w := .int ((n0 - 1 : Nat) : Int)) (ev_op (ev_var rfl) ev_c rv_I0) (by congr 1; omega)) (ea_cons ev_c ea_nil)))) fun H2 e2 => ?_
  refine ⟨a, ns, 1, n0 - 1, 2, rfl, ex_l (e1.trans e2) hS, h63, by omega, by decide, by decide, fun pa H3 A hpa e3 hA hAd hA63 => ?_⟩
  have x3 := e1.trans (e2.trans e3)
  refine q_callS (ea_cons (ev_var rfl) (ea_cons (ev_var rfl) (ea_cons ev_c (ea_cons ev_c ea_nil)))) fun H4 e4 => ?_
  refine ⟨a, ns, n0, 30, 2, rfl, ex_l (x3.trans e4) hS, h63, by decide, by decide, by decide, fun pb H5 B hpb e5 hB hBd hB63 => ?_⟩
  have x5 := x3.trans (e4.trans e5)
  have hA5 := Lst2.mn RowAt.mn _ _ _ _ (e4.trans e5) hA
  have okJ : ∀ {es : List Cnd} {L : List (List V)}, (∀ e ∈ es, KeyL e) → L.length ≤ 63 → (∀ r ∈ L, r.length = 2 ∧ ∀ x ∈ r, DV x) → OkJ es L := fun he hl hd => ⟨by omega, fun r hr => ⟨⟨fun x hx => dv_ok ((hd r hr).2 x hx), by rw [(hd r hr).1]; decide⟩, fun v hv => by
    obtain ⟨e, hem, rfl⟩ := List.mem_map.mp hv
    exact keyl_wv (he e hem) (hd r hr).1 (hd r hr).2⟩⟩
  refine q_forR1 (n := 8) (ea_cons ev_c ea_nil) ⟨by decide, by decide⟩ (fun i σ' H' => ∃ v4 v5 v6 v7 v8 v9 va vb vc vd, σ' = [some (.ref a), some (.int (n0 : Int)), some (.ref pa), some (.ref pb), v4, v5, v6, v7, v8, v9, va, vb, vc, vd] ∧ Ex H5 H') (fun H6 e6 => ⟨none, none, none, none, none, none, none, none, none, none, rfl, e6⟩) (fun i σ' Ho hi pv => ?_) fun σ' H' pv => ?_
  · obtain ⟨v4, v5, v6, v7, v8, v9, va, vb, vc, vd, rfl, xo⟩ := pv
    refine q_asgC (ec_state (ec_cell (k := 0) (ev_var rfl) ev_c (ex_l (x5.trans xo) hS) (by decide)) (ev_op ev_c (ev_var rfl) rv_I0)) fun ps Ha hps ea da => ?_
    refine q_callS (ea_cons (ev_var rfl) ea_nil) fun Ha' ea' => ?_
    refine ⟨ps, rfl, da.ex ea', fun qs vl vr v3 Hb es fs hes hfs hel hfl hqs hDl hDr eb db => ?_⟩
    refine gt3 (st_of hqs) ?_
    have xab : Ex (wo ps Ha) Hb := wx_trans (wx_of ea') eb
    have xb : Ex Ho Hb := wx_back hps ea xab
    refine qx_asg (P := fun d => ∃ s ∈ kindsJ, d = .str s) (x_ixT (K := K) (xs := kindsJ) (eu_tup (ea_cons ev_c (ea_cons ev_c (ea_cons ev_c (ea_cons ev_c (ea_cons ev_c ea_nil))))) (by show 5 ≤ 100000; decide)) (ez_digit (m := 5) (ev_var rfl) ev_c (by decide) (by decide))) db fun vk Hc d1 ⟨kind, hkind, hd1⟩ _ hv1 ec dc => ?_
    subst hd1
    obtain rfl := dp_strD hv1
    refine qx_asg (P := fun d => ∃ s ∈ waysJ, d = .str s) (x_ixT (K := K) (xs := waysJ) (eu_tup (ea_cons ev_c (ea_cons ev_c (ea_cons ev_c (ea_cons ev_c (ea_cons ev_c ea_nil))))) (by show 5 ≤ 100000; decide)) (ez_digit (m := 5) (ev_var rfl) ev_c (by decide) (by decide))) dc fun vw Hd d2 ⟨way, hway, hd2⟩ _ hv2 ed dd => ?_
    subst hd2
    obtain rfl := dp_strD hv2
    have xbd : Ex (wo ps Hb) Hd := wx_trans ec ed
    have evl : ∀ {Hx : Hp} {σ : L2.St} {i : Nat} {p : Addr} {L : List (List V)}, Lst2 RowAt H5 p L → Ex H5 Hx → σ[i]? = some (some (V.ref p)) → Ev (tCB (fun xs H Q => ∃ p ys, xs = [.ref p] ∧ (SqL K H p ys ∨ SqT K H p ys) ∧ Q (.int ys.length) H) (tCons (tVar i) tNil)) σ Hx (.int (L.length : Int)) := fun hL ex h => by
      obtain ⟨qs, h1, h2⟩ := hL
      exact ev_is (ev_len (ev_var h) (sq_of (ex _ _ h1))) (by rw [List.length_map, h2.1])
    have xwd : Ex H5 (wo ps Hd) := wx_to (fresh_back xo hps) (xo.trans (wx_back hps xb xbd))
    refine qx_asg (x_ix (R := fun d => ∃ i : Int, d = .int i ∧ 0 ≤ i) (m := 4) (PL := fun ds => ∃ i j k l : Int, ds = [.int i, .int j, .int k, .int l] ∧ 0 ≤ i ∧ 0 ≤ j ∧ 0 ≤ k ∧ 0 ≤ l) (x_mono (x_tup (xa_cons (x_int (PI := fun i => 0 ≤ i) (ez_op0 (e1_int (PI := fun j => j = 1) ev_c rfl) (ez_digit (ev_var rfl) ev_c (by decide) (by decide)) fun i j hi hj => by omega)) (xa_cons (x_int (PI := fun i => 0 ≤ i) (e1_int (Evl.ev_max2 ev_c (evl hA5 xwd rfl)) (by split <;> omega))) (xa_cons (x_int (PI := fun i => 0 ≤ i) (e1_int (Evl.ev_max2 ev_c (evl hB xwd rfl)) (by split <;> omega))) (xa_cons (x_int (PI := fun i => 0 ≤ i) (e1_int (Evl.ev_max2 ev_c (ev_op (evl hB xwd rfl) ev_c rv_I0)) (by split <;> omega))) xa_nil)))) ?_) ?_) (ez_digit (ev_var rfl) ev_c (by decide) (by decide)) ?_) dd fun vm He d' ⟨mi, hd', hm0⟩ hn' hv' ee de => ?_
    · rintro ds ⟨_, _, rfl, _, _, _, rfl, _, _, _, rfl, _, _, _, rfl, _, rfl⟩
      show 4 ≤ 100000
      decide
    · rintro d ⟨ds, rfl, _, _, rfl, ⟨i, hi, rfl⟩, _, _, rfl, ⟨j, hj, rfl⟩, _, _, rfl, ⟨k, hk, rfl⟩, _, _, rfl, ⟨l, hl, rfl⟩, rfl⟩
      exact ⟨_, rfl, i, j, k, l, rfl, hi, hj, hk, hl⟩
    · rintro ds j ⟨i1, i2, i3, i4, rfl, h1, h2, h3, h4⟩ hj
      rcases (show j = 0 ∨ j = 1 ∨ j = 2 ∨ j = 3 by omega) with z | z | z | z <;> subst z
      · exact ⟨_, rfl, i1, rfl, h1⟩
      · exact ⟨_, rfl, i2, rfl, h2⟩
      · exact ⟨_, rfl, i3, rfl, h3⟩
      · exact ⟨_, rfl, i4, rfl, h4⟩
    subst hd'
    cases hv'
    obtain ⟨mem, rfl⟩ := Int.eq_ofNat_of_zero_le hm0
    refine q_asgE ((ez_digit (ev_var rfl) ev_c (by decide) (by decide)) He (wo_le _ _) de _ fun vk2 Hf ⟨n, hvn, hn⟩ ef df => ?_)
    subst hvn
    refine ⟨n, rfl, hn.1, hn.2, fun f' h' Hg hH eg => ?_⟩
    have xbf : Ex (wo ps Hb) Hf := wx_trans xbd (wx_trans ee ef)
    have xg : Ex H5 Hg := xo.trans ((wx_back hps xb xbf).trans eg)
    have hnl : ∀ es : List Cnd, noL (.tuple (es.map Cnd.d)) = true := noLs_cx
    have mk : ∀ {v : V} {es : List Cnd}, (∀ e ∈ es, KeyL e) → Dp K Hb v (.tuple (es.map Cnd.d)) → ∃ t, v = .ref t ∧ ExprsAt K Hg t es := fun {v es} hk hd => by
      obtain ⟨t, ys, rfl, hSt, hDs⟩ := dp_tupD (ex_dp eg (dp_wx hd (hnl es) db xbf))
      have hyl : ys.length = es.length := by have := dps_len hDs; rw [List.length_map] at this; exact this
      exact ⟨t, rfl, ys, hSt, hyl, fun i v x h1 h2 => by
        obtain ⟨y, hy, hd⟩ := dps_atI (i := i) (d := x.d) hDs (by rw [List.getElem?_map, h2]; rfl)
        rw [hy] at h1
        cases h1
        obtain ⟨g1, g2⟩ := keyl_ok (hk x (List.mem_of_getElem? h2))
        exact ⟨hd, g1, 2, g2⟩⟩
    have xs_ok : ∀ {es : List Cnd}, (∀ e ∈ es, KeyL e) → es.length ≤ 3 → OkXs es := fun hk hl => ⟨by omega, fun e he => ⟨2, (keyl_ok (hk e he)).2⟩⟩
    obtain ⟨tl, rfl, hEl⟩ := mk hes hDl
    obtain ⟨tr, rfl, hEr⟩ := mk hfs hDr
    have hJ : JGiven P w K mg base Hg tl tr pa pb f' es fs A B h' := ⟨hEl, xs_ok hes (by omega), hEr, xs_ok hfs hfl, Lst2.mn RowAt.mn _ _ _ _ xg hA5, Lst2.mn RowAt.mn _ _ _ _ xg hB, okJ (fun e he => hes e (List.mem_of_mem_take he)) hA63 hAd, okJ (fun e he => hfs e (List.mem_of_mem_take he)) hB63 hBd, hH⟩
    refine q_asg (v := .int ((jw way kind es fs mem h' A B : Nat) : Int)) (ec_joinw (ev_var rfl) (ev_var rfl) (ev_var rfl) (ev_var rfl) (ev_var rfl) (ev_var rfl) (ev_var rfl) (ev_var rfl) hJ) fun Hh eh => ?_
    exact s_when (b := !true || !decide (V.int ((jw way kind es fs mem h' A B : Nat) : Int) = V.int ((jw way kind es fs mem h' A B : Nat) : Int))) (et_or (et_not (et_B (ec_isint (x := .int _) (ev_var rfl) (.int _)))) fun _ => et_test (ev_op (ev_var rfl) (ev_is (ec_ldue (ev_var rfl) (ev_var rfl) (ev_var rfl) (ev_var rfl) (ev_var rfl) (ev_var rfl) (ev_var rfl) (ev_var rfl) (hJ.ex eh)) (by rw [jw_jd hway])) (rv_ne rfl))) (fun hb => by simp at hb) fun _ Hi ei => ⟨_, _, _, _, _, _, _, _, _, _, rfl, xg.trans (eh.trans ei)⟩
  · obtain ⟨v4, v5, v6, v7, v8, v9, va, vb, vc, vd, rfl, xo⟩ := pv
    exact s_ret ev_c fun H9 e9 => q H9
end

theorem all_mk {P : Program} {w : World} {K : PySem.W.Frag} {h : Heap} {mg : Str → Option Value} {fa : Addr} (X : K.In h) (G : h.Ns mainGlobals mg) (hfa : mg "law" = some (.ref fa))
    {f0 : Addr} {od0 an0 : Option Addr} {sl0 : Array (Option Value)} {oc0 kV0 dc0 pm0 cd0 ct0 : Value} (a0 : PySem.W.nsIn K mainGlobals "kind_rank" = some (some (.ref f0))) (l0 : K.lookup f0 = some ⟨oc0, od0, .func (PySem.W.fnOf "kind_rank" "kind_rank" (C8.fnArgs s_kind_rank) (C8.fnBody s_kind_rank) (C8.fnScope s_kind_rank) .none kV0 dc0 pm0 an0 cd0 ct0), sl0⟩) (b0 : PySem.W.codeIn K cd0 "kind_rank" = true) (k0 : PySem.W.keepIn K (.ref f0) = true)
    {f1 : Addr} {od1 an1 : Option Addr} {sl1 : Array (Option Value)} {oc1 kV1 dc1 pm1 cd1 ct1 : Value} (a1 : PySem.W.nsIn K mainGlobals "is_integer" = some (some (.ref f1))) (l1 : K.lookup f1 = some ⟨oc1, od1, .func (PySem.W.fnOf "is_integer" "is_integer" (C8.fnArgs s_is_integer) (C8.fnBody s_is_integer) (C8.fnScope s_is_integer) .none kV1 dc1 pm1 an1 cd1 ct1), sl1⟩) (b1 : PySem.W.codeIn K cd1 "is_integer" = true) (k1 : PySem.W.keepIn K (.ref f1) = true)
    {f2 : Addr} {od2 an2 : Option Addr} {sl2 : Array (Option Value)} {oc2 kV2 dc2 pm2 cd2 ct2 : Value} (a2 : PySem.W.nsIn K mainGlobals "rank" = some (some (.ref f2))) (l2 : K.lookup f2 = some ⟨oc2, od2, .func (PySem.W.fnOf "rank" "rank" (C8.fnArgs s_rank) (C8.fnBody s_rank) (C8.fnScope s_rank) .none kV2 dc2 pm2 an2 cd2 ct2), sl2⟩) (b2 : PySem.W.codeIn K cd2 "rank" = true) (k2 : PySem.W.keepIn K (.ref f2) = true)
    {f3 : Addr} {od3 an3 : Option Addr} {sl3 : Array (Option Value)} {oc3 kV3 dc3 pm3 cd3 ct3 : Value} (a3 : PySem.W.nsIn K mainGlobals "same" = some (some (.ref f3))) (l3 : K.lookup f3 = some ⟨oc3, od3, .func (PySem.W.fnOf "same" "same" (C8.fnArgs s_same) (C8.fnBody s_same) (C8.fnScope s_same) .none kV3 dc3 pm3 an3 cd3 ct3), sl3⟩) (b3 : PySem.W.codeIn K cd3 "same" = true) (k3 : PySem.W.keepIn K (.ref f3) = true)
    {f4 : Addr} {od4 an4 : Option Addr} {sl4 : Array (Option Value)} {oc4 kV4 dc4 pm4 cd4 ct4 : Value} (a4 : PySem.W.nsIn K mainGlobals "before" = some (some (.ref f4))) (l4 : K.lookup f4 = some ⟨oc4, od4, .func (PySem.W.fnOf "before" "before" (C8.fnArgs s_before) (C8.fnBody s_before) (C8.fnScope s_before) .none kV4 dc4 pm4 an4 cd4 ct4), sl4⟩) (b4 : PySem.W.codeIn K cd4 "before" = true) (k4 : PySem.W.keepIn K (.ref f4) = true)
    {f5 : Addr} {od5 an5 : Option Addr} {sl5 : Array (Option Value)} {oc5 kV5 dc5 pm5 cd5 ct5 : Value} (a5 : PySem.W.nsIn K mainGlobals "negated" = some (some (.ref f5))) (l5 : K.lookup f5 = some ⟨oc5, od5, .func (PySem.W.fnOf "negated" "negated" (C8.fnArgs s_negated) (C8.fnBody s_negated) (C8.fnScope s_negated) .none kV5 dc5 pm5 an5 cd5 ct5), sl5⟩) (b5 : PySem.W.codeIn K cd5 "negated" = true) (k5 : PySem.W.keepIn K (.ref f5) = true)
    {f6 : Addr} {od6 an6 : Option Addr} {sl6 : Array (Option Value)} {oc6 kV6 dc6 pm6 cd6 ct6 : Value} (a6 : PySem.W.nsIn K mainGlobals "both" = some (some (.ref f6))) (l6 : K.lookup f6 = some ⟨oc6, od6, .func (PySem.W.fnOf "both" "both" (C8.fnArgs s_both) (C8.fnBody s_both) (C8.fnScope s_both) .none kV6 dc6 pm6 an6 cd6 ct6), sl6⟩) (b6 : PySem.W.codeIn K cd6 "both" = true) (k6 : PySem.W.keepIn K (.ref f6) = true)
    {f7 : Addr} {od7 an7 : Option Addr} {sl7 : Array (Option Value)} {oc7 kV7 dc7 pm7 cd7 ct7 : Value} (a7 : PySem.W.nsIn K mainGlobals "either" = some (some (.ref f7))) (l7 : K.lookup f7 = some ⟨oc7, od7, .func (PySem.W.fnOf "either" "either" (C8.fnArgs s_either) (C8.fnBody s_either) (C8.fnScope s_either) .none kV7 dc7 pm7 an7 cd7 ct7), sl7⟩) (b7 : PySem.W.codeIn K cd7 "either" = true) (k7 : PySem.W.keepIn K (.ref f7) = true)
    {f8 : Addr} {od8 an8 : Option Addr} {sl8 : Array (Option Value)} {oc8 kV8 dc8 pm8 cd8 ct8 : Value} (a8 : PySem.W.nsIn K mainGlobals "_size" = some (some (.ref f8))) (l8 : K.lookup f8 = some ⟨oc8, od8, .func (PySem.W.fnOf "_size" "_size" (C8.fnArgs s__size) (C8.fnBody s__size) (C8.fnScope s__size) .none kV8 dc8 pm8 an8 cd8 ct8), sl8⟩) (b8 : PySem.W.codeIn K cd8 "_size" = true) (k8 : PySem.W.keepIn K (.ref f8) = true)
    {f9 : Addr} {od9 an9 : Option Addr} {sl9 : Array (Option Value)} {oc9 kV9 dc9 pm9 cd9 ct9 : Value} (a9 : PySem.W.nsIn K mainGlobals "value_of_one" = some (some (.ref f9))) (l9 : K.lookup f9 = some ⟨oc9, od9, .func (PySem.W.fnOf "value_of_one" "value_of_one" (C8.fnArgs s_value_of_one) (C8.fnBody s_value_of_one) (C8.fnScope s_value_of_one) .none kV9 dc9 pm9 an9 cd9 ct9), sl9⟩) (b9 : PySem.W.codeIn K cd9 "value_of_one" = true) (k9 : PySem.W.keepIn K (.ref f9) = true)
    {f10 : Addr} {od10 an10 : Option Addr} {sl10 : Array (Option Value)} {oc10 kV10 dc10 pm10 cd10 ct10 : Value} (a10 : PySem.W.nsIn K mainGlobals "_both" = some (some (.ref f10))) (l10 : K.lookup f10 = some ⟨oc10, od10, .func (PySem.W.fnOf "_both" "_both" (C8.fnArgs s__both) (C8.fnBody s__both) (C8.fnScope s__both) .none kV10 dc10 pm10 an10 cd10 ct10), sl10⟩) (b10 : PySem.W.codeIn K cd10 "_both" = true) (k10 : PySem.W.keepIn K (.ref f10) = true)
    {f11 : Addr} {od11 an11 : Option Addr} {sl11 : Array (Option Value)} {oc11 kV11 dc11 pm11 cd11 ct11 : Value} (a11 : PySem.W.nsIn K mainGlobals "_either" = some (some (.ref f11))) (l11 : K.lookup f11 = some ⟨oc11, od11, .func (PySem.W.fnOf "_either" "_either" (C8.fnArgs s__either) (C8.fnBody s__either) (C8.fnScope s__either) .none kV11 dc11 pm11 an11 cd11 ct11), sl11⟩) (b11 : PySem.W.codeIn K cd11 "_either" = true) (k11 : PySem.W.keepIn K (.ref f11) = true)
    {f12 : Addr} {od12 an12 : Option Addr} {sl12 : Array (Option Value)} {oc12 kV12 dc12 pm12 cd12 ct12 : Value} (a12 : PySem.W.nsIn K mainGlobals "_same" = some (some (.ref f12))) (l12 : K.lookup f12 = some ⟨oc12, od12, .func (PySem.W.fnOf "_same" "_same" (C8.fnArgs s__same) (C8.fnBody s__same) (C8.fnScope s__same) .none kV12 dc12 pm12 an12 cd12 ct12), sl12⟩) (b12 : PySem.W.codeIn K cd12 "_same" = true) (k12 : PySem.W.keepIn K (.ref f12) = true)
    {f13 : Addr} {od13 an13 : Option Addr} {sl13 : Array (Option Value)} {oc13 kV13 dc13 pm13 cd13 ct13 : Value} (a13 : PySem.W.nsIn K mainGlobals "_equal" = some (some (.ref f13))) (l13 : K.lookup f13 = some ⟨oc13, od13, .func (PySem.W.fnOf "_equal" "_equal" (C8.fnArgs s__equal) (C8.fnBody s__equal) (C8.fnScope s__equal) .none kV13 dc13 pm13 an13 cd13 ct13), sl13⟩) (b13 : PySem.W.codeIn K cd13 "_equal" = true) (k13 : PySem.W.keepIn K (.ref f13) = true)
    {f14 : Addr} {od14 an14 : Option Addr} {sl14 : Array (Option Value)} {oc14 kV14 dc14 pm14 cd14 ct14 : Value} (a14 : PySem.W.nsIn K mainGlobals "_less" = some (some (.ref f14))) (l14 : K.lookup f14 = some ⟨oc14, od14, .func (PySem.W.fnOf "_less" "_less" (C8.fnArgs s__less) (C8.fnBody s__less) (C8.fnScope s__less) .none kV14 dc14 pm14 an14 cd14 ct14), sl14⟩) (b14 : PySem.W.codeIn K cd14 "_less" = true) (k14 : PySem.W.keepIn K (.ref f14) = true)
    {f15 : Addr} {od15 an15 : Option Addr} {sl15 : Array (Option Value)} {oc15 kV15 dc15 pm15 cd15 ct15 : Value} (a15 : PySem.W.nsIn K mainGlobals "_at_most" = some (some (.ref f15))) (l15 : K.lookup f15 = some ⟨oc15, od15, .func (PySem.W.fnOf "_at_most" "_at_most" (C8.fnArgs s__at_most) (C8.fnBody s__at_most) (C8.fnScope s__at_most) .none kV15 dc15 pm15 an15 cd15 ct15), sl15⟩) (b15 : PySem.W.codeIn K cd15 "_at_most" = true) (k15 : PySem.W.keepIn K (.ref f15) = true)
    {f16 : Addr} {od16 an16 : Option Addr} {sl16 : Array (Option Value)} {oc16 kV16 dc16 pm16 cd16 ct16 : Value} (a16 : PySem.W.nsIn K mainGlobals "_are_alike" = some (some (.ref f16))) (l16 : K.lookup f16 = some ⟨oc16, od16, .func (PySem.W.fnOf "_are_alike" "_are_alike" (C8.fnArgs s__are_alike) (C8.fnBody s__are_alike) (C8.fnScope s__are_alike) .none kV16 dc16 pm16 an16 cd16 ct16), sl16⟩) (b16 : PySem.W.codeIn K cd16 "_are_alike" = true) (k16 : PySem.W.keepIn K (.ref f16) = true)
    {f17 : Addr} {od17 an17 : Option Addr} {sl17 : Array (Option Value)} {oc17 kV17 dc17 pm17 cd17 ct17 : Value} (a17 : PySem.W.nsIn K mainGlobals "value_of_two" = some (some (.ref f17))) (l17 : K.lookup f17 = some ⟨oc17, od17, .func (PySem.W.fnOf "value_of_two" "value_of_two" (C8.fnArgs s_value_of_two) (C8.fnBody s_value_of_two) (C8.fnScope s_value_of_two) .none kV17 dc17 pm17 an17 cd17 ct17), sl17⟩) (b17 : PySem.W.codeIn K cd17 "value_of_two" = true) (k17 : PySem.W.keepIn K (.ref f17) = true)
    {f18 : Addr} {od18 an18 : Option Addr} {sl18 : Array (Option Value)} {oc18 kV18 dc18 pm18 cd18 ct18 : Value} (a18 : PySem.W.nsIn K mainGlobals "unary" = some (some (.ref f18))) (l18 : K.lookup f18 = some ⟨oc18, od18, .func (PySem.W.fnOf "unary" "unary" (C8.fnArgs s_unary) (C8.fnBody s_unary) (C8.fnScope s_unary) .none kV18 dc18 pm18 an18 cd18 ct18), sl18⟩) (b18 : PySem.W.codeIn K cd18 "unary" = true) (k18 : PySem.W.keepIn K (.ref f18) = true)
    {f19 : Addr} {od19 an19 : Option Addr} {sl19 : Array (Option Value)} {oc19 kV19 dc19 pm19 cd19 ct19 : Value} (a19 : PySem.W.nsIn K mainGlobals "binary" = some (some (.ref f19))) (l19 : K.lookup f19 = some ⟨oc19, od19, .func (PySem.W.fnOf "binary" "binary" (C8.fnArgs s_binary) (C8.fnBody s_binary) (C8.fnScope s_binary) .none kV19 dc19 pm19 an19 cd19 ct19), sl19⟩) (b19 : PySem.W.codeIn K cd19 "binary" = true) (k19 : PySem.W.keepIn K (.ref f19) = true)
    {f20 : Addr} {od20 an20 : Option Addr} {sl20 : Array (Option Value)} {oc20 kV20 dc20 pm20 cd20 ct20 : Value} (a20 : PySem.W.nsIn K mainGlobals "evaluate" = some (some (.ref f20))) (l20 : K.lookup f20 = some ⟨oc20, od20, .func (PySem.W.fnOf "evaluate" "evaluate" (C8.fnArgs s_evaluate) (C8.fnBody s_evaluate) (C8.fnScope s_evaluate) .none kV20 dc20 pm20 an20 cd20 ct20), sl20⟩) (b20 : PySem.W.codeIn K cd20 "evaluate" = true) (k20 : PySem.W.keepIn K (.ref f20) = true)
    {f21 : Addr} {od21 an21 : Option Addr} {sl21 : Array (Option Value)} {oc21 kV21 dc21 pm21 cd21 ct21 : Value} (a21 : PySem.W.nsIn K mainGlobals "evaluate_all" = some (some (.ref f21))) (l21 : K.lookup f21 = some ⟨oc21, od21, .func (PySem.W.fnOf "evaluate_all" "evaluate_all" (C8.fnArgs s_evaluate_all) (C8.fnBody s_evaluate_all) (C8.fnScope s_evaluate_all) .none kV21 dc21 pm21 an21 cd21 ct21), sl21⟩) (b21 : PySem.W.codeIn K cd21 "evaluate_all" = true) (k21 : PySem.W.keepIn K (.ref f21) = true)
    {f22 : Addr} {od22 an22 : Option Addr} {sl22 : Array (Option Value)} {oc22 kV22 dc22 pm22 cd22 ct22 : Value} (a22 : PySem.W.nsIn K mainGlobals "_text_hash" = some (some (.ref f22))) (l22 : K.lookup f22 = some ⟨oc22, od22, .func (PySem.W.fnOf "_text_hash" "_text_hash" (C8.fnArgs s__text_hash) (C8.fnBody s__text_hash) (C8.fnScope s__text_hash) .none kV22 dc22 pm22 an22 cd22 ct22), sl22⟩) (b22 : PySem.W.codeIn K cd22 "_text_hash" = true) (k22 : PySem.W.keepIn K (.ref f22) = true)
    {f23 : Addr} {od23 an23 : Option Addr} {sl23 : Array (Option Value)} {oc23 kV23 dc23 pm23 cd23 ct23 : Value} (a23 : PySem.W.nsIn K mainGlobals "_value_hash" = some (some (.ref f23))) (l23 : K.lookup f23 = some ⟨oc23, od23, .func (PySem.W.fnOf "_value_hash" "_value_hash" (C8.fnArgs s__value_hash) (C8.fnBody s__value_hash) (C8.fnScope s__value_hash) .none kV23 dc23 pm23 an23 cd23 ct23), sl23⟩) (b23 : PySem.W.codeIn K cd23 "_value_hash" = true) (k23 : PySem.W.keepIn K (.ref f23) = true)
    {f24 : Addr} {od24 an24 : Option Addr} {sl24 : Array (Option Value)} {oc24 kV24 dc24 pm24 cd24 ct24 : Value} (a24 : PySem.W.nsIn K mainGlobals "hash_of" = some (some (.ref f24))) (l24 : K.lookup f24 = some ⟨oc24, od24, .func (PySem.W.fnOf "hash_of" "hash_of" (C8.fnArgs s_hash_of) (C8.fnBody s_hash_of) (C8.fnScope s_hash_of) .none kV24 dc24 pm24 an24 cd24 ct24), sl24⟩) (b24 : PySem.W.codeIn K cd24 "hash_of" = true) (k24 : PySem.W.keepIn K (.ref f24) = true)
    {f25 : Addr} {od25 an25 : Option Addr} {sl25 : Array (Option Value)} {oc25 kV25 dc25 pm25 cd25 ct25 : Value} (a25 : PySem.W.nsIn K mainGlobals "part_of" = some (some (.ref f25))) (l25 : K.lookup f25 = some ⟨oc25, od25, .func (PySem.W.fnOf "part_of" "part_of" (C8.fnArgs s_part_of) (C8.fnBody s_part_of) (C8.fnScope s_part_of) .none kV25 dc25 pm25 an25 cd25 ct25), sl25⟩) (b25 : PySem.W.codeIn K cd25 "part_of" = true) (k25 : PySem.W.keepIn K (.ref f25) = true)
    {f26 : Addr} {od26 an26 : Option Addr} {sl26 : Array (Option Value)} {oc26 kV26 dc26 pm26 cd26 ct26 : Value} (a26 : PySem.W.nsIn K mainGlobals "paired_keys" = some (some (.ref f26))) (l26 : K.lookup f26 = some ⟨oc26, od26, .func (PySem.W.fnOf "paired_keys" "paired_keys" (C8.fnArgs s_paired_keys) (C8.fnBody s_paired_keys) (C8.fnScope s_paired_keys) .none kV26 dc26 pm26 an26 cd26 ct26), sl26⟩) (b26 : PySem.W.codeIn K cd26 "paired_keys" = true) (k26 : PySem.W.keepIn K (.ref f26) = true)
    {f27 : Addr} {od27 an27 : Option Addr} {sl27 : Array (Option Value)} {oc27 kV27 dc27 pm27 cd27 ct27 : Value} (a27 : PySem.W.nsIn K mainGlobals "sort_written" = some (some (.ref f27))) (l27 : K.lookup f27 = some ⟨oc27, od27, .func (PySem.W.fnOf "sort_written" "sort_written" (C8.fnArgs s_sort_written) (C8.fnBody s_sort_written) (C8.fnScope s_sort_written) .none kV27 dc27 pm27 an27 cd27 ct27), sl27⟩) (b27 : PySem.W.codeIn K cd27 "sort_written" = true) (k27 : PySem.W.keepIn K (.ref f27) = true)
    {f28 : Addr} {od28 an28 : Option Addr} {sl28 : Array (Option Value)} {oc28 kV28 dc28 pm28 cd28 ct28 : Value} (a28 : PySem.W.nsIn K mainGlobals "way_of_join" = some (some (.ref f28))) (l28 : K.lookup f28 = some ⟨oc28, od28, .func (PySem.W.fnOf "way_of_join" "way_of_join" (C8.fnArgs s_way_of_join) (C8.fnBody s_way_of_join) (C8.fnScope s_way_of_join) .none kV28 dc28 pm28 an28 cd28 ct28), sl28⟩) (b28 : PySem.W.codeIn K cd28 "way_of_join" = true) (k28 : PySem.W.keepIn K (.ref f28) = true)
    {f29 : Addr} {od29 an29 : Option Addr} {sl29 : Array (Option Value)} {oc29 kV29 dc29 pm29 cd29 ct29 : Value} (a29 : PySem.W.nsIn K mainGlobals "_in_parts" = some (some (.ref f29))) (l29 : K.lookup f29 = some ⟨oc29, od29, .func (PySem.W.fnOf "_in_parts" "_in_parts" (C8.fnArgs s__in_parts) (C8.fnBody s__in_parts) (C8.fnScope s__in_parts) .none kV29 dc29 pm29 an29 cd29 ct29), sl29⟩) (b29 : PySem.W.codeIn K cd29 "_in_parts" = true) (k29 : PySem.W.keepIn K (.ref f29) = true)
    {f30 : Addr} {od30 an30 : Option Addr} {sl30 : Array (Option Value)} {oc30 kV30 dc30 pm30 cd30 ct30 : Value} (a30 : PySem.W.nsIn K mainGlobals "_divided" = some (some (.ref f30))) (l30 : K.lookup f30 = some ⟨oc30, od30, .func (PySem.W.fnOf "_divided" "_divided" (C8.fnArgs s__divided) (C8.fnBody s__divided) (C8.fnScope s__divided) .none kV30 dc30 pm30 an30 cd30 ct30), sl30⟩) (b30 : PySem.W.codeIn K cd30 "_divided" = true) (k30 : PySem.W.keepIn K (.ref f30) = true)
    {f31 : Addr} {od31 an31 : Option Addr} {sl31 : Array (Option Value)} {oc31 kV31 dc31 pm31 cd31 ct31 : Value} (a31 : PySem.W.nsIn K mainGlobals "join_written" = some (some (.ref f31))) (l31 : K.lookup f31 = some ⟨oc31, od31, .func (PySem.W.fnOf "join_written" "join_written" (C8.fnArgs s_join_written) (C8.fnBody s_join_written) (C8.fnScope s_join_written) .none kV31 dc31 pm31 an31 cd31 ct31), sl31⟩) (b31 : PySem.W.codeIn K cd31 "join_written" = true) (k31 : PySem.W.keepIn K (.ref f31) = true)
    {f32 : Addr} {od32 an32 : Option Addr} {sl32 : Array (Option Value)} {oc32 kV32 dc32 pm32 cd32 ct32 : Value} (a32 : PySem.W.nsIn K mainGlobals "_law_cell" = some (some (.ref f32))) (l32 : K.lookup f32 = some ⟨oc32, od32, .func (PySem.W.fnOf "_law_cell" "_law_cell" (C8.fnArgs s__law_cell) (C8.fnBody s__law_cell) (C8.fnScope s__law_cell) .none kV32 dc32 pm32 an32 cd32 ct32), sl32⟩) (b32 : PySem.W.codeIn K cd32 "_law_cell" = true) (k32 : PySem.W.keepIn K (.ref f32) = true)
    {f33 : Addr} {od33 an33 : Option Addr} {sl33 : Array (Option Value)} {oc33 kV33 dc33 pm33 cd33 ct33 : Value} (a33 : PySem.W.nsIn K mainGlobals "_law_state" = some (some (.ref f33))) (l33 : K.lookup f33 = some ⟨oc33, od33, .func (PySem.W.fnOf "_law_state" "_law_state" (C8.fnArgs s__law_state) (C8.fnBody s__law_state) (C8.fnScope s__law_state) .none kV33 dc33 pm33 an33 cd33 ct33), sl33⟩) (b33 : PySem.W.codeIn K cd33 "_law_state" = true) (k33 : PySem.W.keepIn K (.ref f33) = true)
    {f34 : Addr} {od34 an34 : Option Addr} {sl34 : Array (Option Value)} {oc34 kV34 dc34 pm34 cd34 ct34 : Value} (a34 : PySem.W.nsIn K mainGlobals "_law_digit" = some (some (.ref f34))) (l34 : K.lookup f34 = some ⟨oc34, od34, .func (PySem.W.fnOf "_law_digit" "_law_digit" (C8.fnArgs s__law_digit) (C8.fnBody s__law_digit) (C8.fnScope s__law_digit) .none kV34 dc34 pm34 an34 cd34 ct34), sl34⟩) (b34 : PySem.W.codeIn K cd34 "_law_digit" = true) (k34 : PySem.W.keepIn K (.ref f34) = true)
    {f35 : Addr} {od35 an35 : Option Addr} {sl35 : Array (Option Value)} {oc35 kV35 dc35 pm35 cd35 ct35 : Value} (a35 : PySem.W.nsIn K mainGlobals "_law_is_integer" = some (some (.ref f35))) (l35 : K.lookup f35 = some ⟨oc35, od35, .func (PySem.W.fnOf "_law_is_integer" "_law_is_integer" (C8.fnArgs s__law_is_integer) (C8.fnBody s__law_is_integer) (C8.fnScope s__law_is_integer) .none kV35 dc35 pm35 an35 cd35 ct35), sl35⟩) (b35 : PySem.W.codeIn K cd35 "_law_is_integer" = true) (k35 : PySem.W.keepIn K (.ref f35) = true)
    {f36 : Addr} {od36 an36 : Option Addr} {sl36 : Array (Option Value)} {oc36 kV36 dc36 pm36 cd36 ct36 : Value} (a36 : PySem.W.nsIn K mainGlobals "_law_text" = some (some (.ref f36))) (l36 : K.lookup f36 = some ⟨oc36, od36, .func (PySem.W.fnOf "_law_text" "_law_text" (C8.fnArgs s__law_text) (C8.fnBody s__law_text) (C8.fnScope s__law_text) .none kV36 dc36 pm36 an36 cd36 ct36), sl36⟩) (b36 : PySem.W.codeIn K cd36 "_law_text" = true) (k36 : PySem.W.keepIn K (.ref f36) = true)
    {f37 : Addr} {od37 an37 : Option Addr} {sl37 : Array (Option Value)} {oc37 kV37 dc37 pm37 cd37 ct37 : Value} (a37 : PySem.W.nsIn K mainGlobals "_law_value" = some (some (.ref f37))) (l37 : K.lookup f37 = some ⟨oc37, od37, .func (PySem.W.fnOf "_law_value" "_law_value" (C8.fnArgs s__law_value) (C8.fnBody s__law_value) (C8.fnScope s__law_value) .none kV37 dc37 pm37 an37 cd37 ct37), sl37⟩) (b37 : PySem.W.codeIn K cd37 "_law_value" = true) (k37 : PySem.W.keepIn K (.ref f37) = true)
    {f38 : Addr} {od38 an38 : Option Addr} {sl38 : Array (Option Value)} {oc38 kV38 dc38 pm38 cd38 ct38 : Value} (a38 : PySem.W.nsIn K mainGlobals "_law_rows" = some (some (.ref f38))) (l38 : K.lookup f38 = some ⟨oc38, od38, .func (PySem.W.fnOf "_law_rows" "_law_rows" (C8.fnArgs s__law_rows) (C8.fnBody s__law_rows) (C8.fnScope s__law_rows) .none kV38 dc38 pm38 an38 cd38 ct38), sl38⟩) (b38 : PySem.W.codeIn K cd38 "_law_rows" = true) (k38 : PySem.W.keepIn K (.ref f38) = true)
    {f39 : Addr} {od39 an39 : Option Addr} {sl39 : Array (Option Value)} {oc39 kV39 dc39 pm39 cd39 ct39 : Value} (a39 : PySem.W.nsIn K mainGlobals "_law_zero" = some (some (.ref f39))) (l39 : K.lookup f39 = some ⟨oc39, od39, .func (PySem.W.fnOf "_law_zero" "_law_zero" (C8.fnArgs s__law_zero) (C8.fnBody s__law_zero) (C8.fnScope s__law_zero) .none kV39 dc39 pm39 an39 cd39 ct39), sl39⟩) (b39 : PySem.W.codeIn K cd39 "_law_zero" = true) (k39 : PySem.W.keepIn K (.ref f39) = true)
    {f40 : Addr} {od40 an40 : Option Addr} {sl40 : Array (Option Value)} {oc40 kV40 dc40 pm40 cd40 ct40 : Value} (a40 : PySem.W.nsIn K mainGlobals "_law_by_size" = some (some (.ref f40))) (l40 : K.lookup f40 = some ⟨oc40, od40, .func (PySem.W.fnOf "_law_by_size" "_law_by_size" (C8.fnArgs s__law_by_size) (C8.fnBody s__law_by_size) (C8.fnScope s__law_by_size) .none kV40 dc40 pm40 an40 cd40 ct40), sl40⟩) (b40 : PySem.W.codeIn K cd40 "_law_by_size" = true) (k40 : PySem.W.keepIn K (.ref f40) = true)
    {f41 : Addr} {od41 an41 : Option Addr} {sl41 : Array (Option Value)} {oc41 kV41 dc41 pm41 cd41 ct41 : Value} (a41 : PySem.W.nsIn K mainGlobals "_law_spread" = some (some (.ref f41))) (l41 : K.lookup f41 = some ⟨oc41, od41, .func (PySem.W.fnOf "_law_spread" "_law_spread" (C8.fnArgs s__law_spread) (C8.fnBody s__law_spread) (C8.fnScope s__law_spread) .none kV41 dc41 pm41 an41 cd41 ct41), sl41⟩) (b41 : PySem.W.codeIn K cd41 "_law_spread" = true) (k41 : PySem.W.keepIn K (.ref f41) = true)
    {f42 : Addr} {od42 an42 : Option Addr} {sl42 : Array (Option Value)} {oc42 kV42 dc42 pm42 cd42 ct42 : Value} (a42 : PySem.W.nsIn K mainGlobals "_law_hash" = some (some (.ref f42))) (l42 : K.lookup f42 = some ⟨oc42, od42, .func (PySem.W.fnOf "_law_hash" "_law_hash" (C8.fnArgs s__law_hash) (C8.fnBody s__law_hash) (C8.fnScope s__law_hash) .none kV42 dc42 pm42 an42 cd42 ct42), sl42⟩) (b42 : PySem.W.codeIn K cd42 "_law_hash" = true) (k42 : PySem.W.keepIn K (.ref f42) = true)
    {f43 : Addr} {od43 an43 : Option Addr} {sl43 : Array (Option Value)} {oc43 kV43 dc43 pm43 cd43 ct43 : Value} (a43 : PySem.W.nsIn K mainGlobals "_law_join_shape" = some (some (.ref f43))) (l43 : K.lookup f43 = some ⟨oc43, od43, .func (PySem.W.fnOf "_law_join_shape" "_law_join_shape" (C8.fnArgs s__law_join_shape) (C8.fnBody s__law_join_shape) (C8.fnScope s__law_join_shape) .none kV43 dc43 pm43 an43 cd43 ct43), sl43⟩) (b43 : PySem.W.codeIn K cd43 "_law_join_shape" = true) (k43 : PySem.W.keepIn K (.ref f43) = true)
    {f44 : Addr} {od44 an44 : Option Addr} {sl44 : Array (Option Value)} {oc44 kV44 dc44 pm44 cd44 ct44 : Value} (a44 : PySem.W.nsIn K mainGlobals "_law_parts" = some (some (.ref f44))) (l44 : K.lookup f44 = some ⟨oc44, od44, .func (PySem.W.fnOf "_law_parts" "_law_parts" (C8.fnArgs s__law_parts) (C8.fnBody s__law_parts) (C8.fnScope s__law_parts) .none kV44 dc44 pm44 an44 cd44 ct44), sl44⟩) (b44 : PySem.W.codeIn K cd44 "_law_parts" = true) (k44 : PySem.W.keepIn K (.ref f44) = true)
    {f45 : Addr} {od45 an45 : Option Addr} {sl45 : Array (Option Value)} {oc45 kV45 dc45 pm45 cd45 ct45 : Value} (a45 : PySem.W.nsIn K mainGlobals "_law_written" = some (some (.ref f45))) (l45 : K.lookup f45 = some ⟨oc45, od45, .func (PySem.W.fnOf "_law_written" "_law_written" (C8.fnArgs s__law_written) (C8.fnBody s__law_written) (C8.fnScope s__law_written) .none kV45 dc45 pm45 an45 cd45 ct45), sl45⟩) (b45 : PySem.W.codeIn K cd45 "_law_written" = true) (k45 : PySem.W.keepIn K (.ref f45) = true)
    {f46 : Addr} {od46 an46 : Option Addr} {sl46 : Array (Option Value)} {oc46 kV46 dc46 pm46 cd46 ct46 : Value} (a46 : PySem.W.nsIn K mainGlobals "_law_due" = some (some (.ref f46))) (l46 : K.lookup f46 = some ⟨oc46, od46, .func (PySem.W.fnOf "_law_due" "_law_due" (C8.fnArgs s__law_due) (C8.fnBody s__law_due) (C8.fnScope s__law_due) .none kV46 dc46 pm46 an46 cd46 ct46), sl46⟩) (b46 : PySem.W.codeIn K cd46 "_law_due" = true) (k46 : PySem.W.keepIn K (.ref f46) = true)
    {f47 : Addr} {od47 an47 : Option Addr} {sl47 : Array (Option Value)} {oc47 kV47 dc47 pm47 cd47 ct47 : Value} (a47 : PySem.W.nsIn K mainGlobals "law" = some (some (.ref f47))) (l47 : K.lookup f47 = some ⟨oc47, od47, .func (PySem.W.fnOf "law" "law" (C8.fnArgs s_law) (C8.fnBody s_law) (C8.fnScope s_law) .none kV47 dc47 pm47 an47 cd47 ct47), sl47⟩) (b47 : PySem.W.codeIn K cd47 "law" = true) (k47 : PySem.W.keepIn K (.ref f47) = true)
    (z_abs : PySem.W.nsIn K mainGlobals "abs" = some none)
    (z_bool : PySem.W.nsIn K mainGlobals "bool" = some none)
    (z_int : PySem.W.nsIn K mainGlobals "int" = some none)
    (z_isinstance : PySem.W.nsIn K mainGlobals "isinstance" = some none)
    (z_len : PySem.W.nsIn K mainGlobals "len" = some none)
    (z_max : PySem.W.nsIn K mainGlobals "max" = some none)
    (z_min : PySem.W.nsIn K mainGlobals "min" = some none)
    (z_ord : PySem.W.nsIn K mainGlobals "ord" = some none)
    (z_range : PySem.W.nsIn K mainGlobals "range" = some none)
    (z_str : PySem.W.nsIn K mainGlobals "str" = some none)
    (z_tuple : PySem.W.nsIn K mainGlobals "tuple" = some none)
    (z_zip : PySem.W.nsIn K mainGlobals "zip" = some none)
    {p_OF_INTEGERS_of_one : Addr} {es_OF_INTEGERS_of_one : Array DictEntry} {n_OF_INTEGERS_of_one : Nat} (q_OF_INTEGERS_of_one : PySem.W.nsIn K mainGlobals "OF_INTEGERS_of_one" = some (some (.ref p_OF_INTEGERS_of_one))) (ka_OF_INTEGERS_of_one : K.lookup p_OF_INTEGERS_of_one = some ⟨.type "dict", none, .dict es_OF_INTEGERS_of_one n_OF_INTEGERS_of_one, #[]⟩) (kl_OF_INTEGERS_of_one : PySem.W.KeysLit w.params es_OF_INTEGERS_of_one.toList) (ko_OF_INTEGERS_of_one : (p_OF_INTEGERS_of_one == sysModules) = false)
    (e_OF_INTEGERS_of_one_0 : PySem.W.nsIn K p_OF_INTEGERS_of_one "abs" = some (some (.ref f8)))
    {t_PARTS : Tok} (q_PARTS : PySem.W.nsIn K mainGlobals "PARTS" = some (some (.int (8) t_PARTS)))
    {t_TIMES : Tok} (q_TIMES : PySem.W.nsIn K mainGlobals "TIMES" = some (some (.int (3) t_TIMES)))
    {t__ABOVE_BOOLEANS : Tok} (q__ABOVE_BOOLEANS : PySem.W.nsIn K mainGlobals "_ABOVE_BOOLEANS" = some (some (.int (3) t__ABOVE_BOOLEANS)))
    {t__ABOVE_INTEGERS : Tok} (q__ABOVE_INTEGERS : PySem.W.nsIn K mainGlobals "_ABOVE_INTEGERS" = some (some (.int (1000006) t__ABOVE_INTEGERS)))
    {p__DIVISORS : Addr} (q__DIVISORS : PySem.W.nsIn K mainGlobals "_DIVISORS" = some (some (.ref p__DIVISORS))) (r__DIVISORS : ∀ H : Hp, SqT K H p__DIVISORS ([.int 64, .int 8, .int 1]))
    {t__FACTOR : Tok} (q__FACTOR : PySem.W.nsIn K mainGlobals "_FACTOR" = some (some (.int (131) t__FACTOR)))
    {t__FACTOR_OF_TEXTS : Tok} (q__FACTOR_OF_TEXTS : PySem.W.nsIn K mainGlobals "_FACTOR_OF_TEXTS" = some (some (.int (31) t__FACTOR_OF_TEXTS)))
    {t__FIRST : Tok} (q__FIRST : PySem.W.nsIn K mainGlobals "_FIRST" = some (some (.int (17) t__FIRST)))
    {t__FIRST_OF_TEXTS : Tok} (q__FIRST_OF_TEXTS : PySem.W.nsIn K mainGlobals "_FIRST_OF_TEXTS" = some (some (.int (7) t__FIRST_OF_TEXTS)))
    {p__OF_ALIKE : Addr} {es__OF_ALIKE : Array DictEntry} {n__OF_ALIKE : Nat} (q__OF_ALIKE : PySem.W.nsIn K mainGlobals "_OF_ALIKE" = some (some (.ref p__OF_ALIKE))) (ka__OF_ALIKE : K.lookup p__OF_ALIKE = some ⟨.type "dict", none, .dict es__OF_ALIKE n__OF_ALIKE, #[]⟩) (kl__OF_ALIKE : PySem.W.KeysLit w.params es__OF_ALIKE.toList) (ko__OF_ALIKE : (p__OF_ALIKE == sysModules) = false)
    (e__OF_ALIKE_0 : PySem.W.nsIn K p__OF_ALIKE "equal" = some (some (.ref f13)))
    (e__OF_ALIKE_1 : PySem.W.nsIn K p__OF_ALIKE "less" = some (some (.ref f14)))
    (e__OF_ALIKE_2 : PySem.W.nsIn K p__OF_ALIKE "at most" = some (some (.ref f15)))
    {p__OF_ANY : Addr} {es__OF_ANY : Array DictEntry} {n__OF_ANY : Nat} (q__OF_ANY : PySem.W.nsIn K mainGlobals "_OF_ANY" = some (some (.ref p__OF_ANY))) (ka__OF_ANY : K.lookup p__OF_ANY = some ⟨.type "dict", none, .dict es__OF_ANY n__OF_ANY, #[]⟩) (kl__OF_ANY : PySem.W.KeysLit w.params es__OF_ANY.toList) (ko__OF_ANY : (p__OF_ANY == sysModules) = false)
    (e__OF_ANY_0 : PySem.W.nsIn K p__OF_ANY "and" = some (some (.ref f10)))
    (e__OF_ANY_1 : PySem.W.nsIn K p__OF_ANY "or" = some (some (.ref f11)))
    (e__OF_ANY_2 : PySem.W.nsIn K p__OF_ANY "same" = some (some (.ref f12)))
    (e__OF_ANY_3 : PySem.W.nsIn K p__OF_ANY "equal" = some none)
    (e__OF_ANY_4 : PySem.W.nsIn K p__OF_ANY "less" = some none)
    (e__OF_ANY_5 : PySem.W.nsIn K p__OF_ANY "at most" = some none)
    {t__PRIME : Tok} (q__PRIME : PySem.W.nsIn K mainGlobals "_PRIME" = some (some (.int (1000003) t__PRIME)))
    : ∃ fd : FuncData, (∀ (s : Shared) (v : Value), BindsTo s fd ⟨[v], []⟩ [("script", v)]) ∧ ∀ base : Heap, K.In base → base.Ns mainGlobals mg → FnOk P w K mg base C8.CX0 23 fa fd ["script"] (sp_law K) := by
  have D_kind_rank : Dn K mg "kind_rank" s_kind_rank ["value"] := dn_mk l0 b0 k0 (PySem.W.mg_of X G a0) (fun _ _ _ _ _ _ us hl => match us, hl with | [_], _ => rfl)
  have D_is_integer : Dn K mg "is_integer" s_is_integer ["value"] := dn_mk l1 b1 k1 (PySem.W.mg_of X G a1) (fun _ _ _ _ _ _ us hl => match us, hl with | [_], _ => rfl)
  have D_rank : Dn K mg "rank" s_rank ["value"] := dn_mk l2 b2 k2 (PySem.W.mg_of X G a2) (fun _ _ _ _ _ _ us hl => match us, hl with | [_], _ => rfl)
  have D_same : Dn K mg "same" s_same ["first", "second"] := dn_mk l3 b3 k3 (PySem.W.mg_of X G a3) (fun _ _ _ _ _ _ us hl => match us, hl with | [_, _], _ => rfl)
  have D_before : Dn K mg "before" s_before ["first", "second"] := dn_mk l4 b4 k4 (PySem.W.mg_of X G a4) (fun _ _ _ _ _ _ us hl => match us, hl with | [_, _], _ => rfl)
  have D_negated : Dn K mg "negated" s_negated ["value"] := dn_mk l5 b5 k5 (PySem.W.mg_of X G a5) (fun _ _ _ _ _ _ us hl => match us, hl with | [_], _ => rfl)
  have D_both : Dn K mg "both" s_both ["first", "second"] := dn_mk l6 b6 k6 (PySem.W.mg_of X G a6) (fun _ _ _ _ _ _ us hl => match us, hl with | [_, _], _ => rfl)
  have D_either : Dn K mg "either" s_either ["first", "second"] := dn_mk l7 b7 k7 (PySem.W.mg_of X G a7) (fun _ _ _ _ _ _ us hl => match us, hl with | [_, _], _ => rfl)
  have D__size : Dn K mg "_size" s__size ["number"] := dn_mk l8 b8 k8 (PySem.W.mg_of X G a8) (fun _ _ _ _ _ _ us hl => match us, hl with | [_], _ => rfl)
  have D_value_of_one : Dn K mg "value_of_one" s_value_of_one ["name", "value"] := dn_mk l9 b9 k9 (PySem.W.mg_of X G a9) (fun _ _ _ _ _ _ us hl => match us, hl with | [_, _], _ => rfl)
  have D__both : Dn K mg "_both" s__both ["first", "second"] := dn_mk l10 b10 k10 (PySem.W.mg_of X G a10) (fun _ _ _ _ _ _ us hl => match us, hl with | [_, _], _ => rfl)
  have D__either : Dn K mg "_either" s__either ["first", "second"] := dn_mk l11 b11 k11 (PySem.W.mg_of X G a11) (fun _ _ _ _ _ _ us hl => match us, hl with | [_, _], _ => rfl)
  have D__same : Dn K mg "_same" s__same ["first", "second"] := dn_mk l12 b12 k12 (PySem.W.mg_of X G a12) (fun _ _ _ _ _ _ us hl => match us, hl with | [_, _], _ => rfl)
  have D__equal : Dn K mg "_equal" s__equal ["first", "second"] := dn_mk l13 b13 k13 (PySem.W.mg_of X G a13) (fun _ _ _ _ _ _ us hl => match us, hl with | [_, _], _ => rfl)
  have D__less : Dn K mg "_less" s__less ["first", "second"] := dn_mk l14 b14 k14 (PySem.W.mg_of X G a14) (fun _ _ _ _ _ _ us hl => match us, hl with | [_, _], _ => rfl)
  have D__at_most : Dn K mg "_at_most" s__at_most ["first", "second"] := dn_mk l15 b15 k15 (PySem.W.mg_of X G a15) (fun _ _ _ _ _ _ us hl => match us, hl with | [_, _], _ => rfl)
  have D__are_alike : Dn K mg "_are_alike" s__are_alike ["first", "second"] := dn_mk l16 b16 k16 (PySem.W.mg_of X G a16) (fun _ _ _ _ _ _ us hl => match us, hl with | [_, _], _ => rfl)
  have D_value_of_two : Dn K mg "value_of_two" s_value_of_two ["name", "first", "second"] := dn_mk l17 b17 k17 (PySem.W.mg_of X G a17) (fun _ _ _ _ _ _ us hl => match us, hl with | [_, _, _], _ => rfl)
  have D_unary : Dn K mg "unary" s_unary ["name", "value"] := dn_mk l18 b18 k18 (PySem.W.mg_of X G a18) (fun _ _ _ _ _ _ us hl => match us, hl with | [_, _], _ => rfl)
  have D_binary : Dn K mg "binary" s_binary ["name", "first", "second"] := dn_mk l19 b19 k19 (PySem.W.mg_of X G a19) (fun _ _ _ _ _ _ us hl => match us, hl with | [_, _, _], _ => rfl)
  have D_evaluate : Dn K mg "evaluate" s_evaluate ["expression", "row"] := dn_mk l20 b20 k20 (PySem.W.mg_of X G a20) (fun _ _ _ _ _ _ us hl => match us, hl with | [_, _], _ => rfl)
  have D_evaluate_all : Dn K mg "evaluate_all" s_evaluate_all ["expressions", "row"] := dn_mk l21 b21 k21 (PySem.W.mg_of X G a21) (fun _ _ _ _ _ _ us hl => match us, hl with | [_, _], _ => rfl)
  have D__text_hash : Dn K mg "_text_hash" s__text_hash ["text"] := dn_mk l22 b22 k22 (PySem.W.mg_of X G a22) (fun _ _ _ _ _ _ us hl => match us, hl with | [_], _ => rfl)
  have D__value_hash : Dn K mg "_value_hash" s__value_hash ["value"] := dn_mk l23 b23 k23 (PySem.W.mg_of X G a23) (fun _ _ _ _ _ _ us hl => match us, hl with | [_], _ => rfl)
  have D_hash_of : Dn K mg "hash_of" s_hash_of ["values"] := dn_mk l24 b24 k24 (PySem.W.mg_of X G a24) (fun _ _ _ _ _ _ us hl => match us, hl with | [_], _ => rfl)
  have D_part_of : Dn K mg "part_of" s_part_of ["number", "time"] := dn_mk l25 b25 k25 (PySem.W.mg_of X G a25) (fun _ _ _ _ _ _ us hl => match us, hl with | [_, _], _ => rfl)
  have D_paired_keys : Dn K mg "paired_keys" s_paired_keys ["left", "right"] := dn_mk l26 b26 k26 (PySem.W.mg_of X G a26) (fun _ _ _ _ _ _ us hl => match us, hl with | [_, _], _ => rfl)
  have D_sort_written : Dn K mg "sort_written" s_sort_written ["rows", "memory"] := dn_mk l27 b27 k27 (PySem.W.mg_of X G a27) (fun _ _ _ _ _ _ us hl => match us, hl with | [_, _], _ => rfl)
  have D_way_of_join : Dn K mg "way_of_join" s_way_of_join ["way", "kind"] := dn_mk l28 b28 k28 (PySem.W.mg_of X G a28) (fun _ _ _ _ _ _ us hl => match us, hl with | [_, _], _ => rfl)
  have D__in_parts : Dn K mg "_in_parts" s__in_parts ["keys", "rows", "time", "hashed"] := dn_mk l29 b29 k29 (PySem.W.mg_of X G a29) (fun _ _ _ _ _ _ us hl => match us, hl with | [_, _, _, _], _ => rfl)
  have D__divided : Dn K mg "_divided" s__divided ["way", "keys", "sides", "memory", "hashed"] := dn_mk l30 b30 k30 (PySem.W.mg_of X G a30) (fun _ _ _ _ _ _ us hl => match us, hl with | [_, _, _, _, _], _ => rfl)
  have D_join_written : DnK K mg "join_written" s_join_written ["way", "kind", "left", "right", "a", "b", "memory", "hashed"] 6 ["memory", "hashed"] := dnK_mk l31 b31 k31 (PySem.W.mg_of X G a31) (fun us ws h1 h2 => match us, h1, ws, h2 with | [_, _, _, _, _, _], _, [_, _], _ => rfl)
  have D__law_cell : Dn K mg "_law_cell" s__law_cell ["script", "k"] := dn_mk l32 b32 k32 (PySem.W.mg_of X G a32) (fun _ _ _ _ _ _ us hl => match us, hl with | [_, _], _ => rfl)
  have D__law_state : Dn K mg "_law_state" s__law_state ["cell", "k"] := dn_mk l33 b33 k33 (PySem.W.mg_of X G a33) (fun _ _ _ _ _ _ us hl => match us, hl with | [_, _], _ => rfl)
  have D__law_digit : Dn K mg "_law_digit" s__law_digit ["state", "many"] := dn_mk l34 b34 k34 (PySem.W.mg_of X G a34) (fun _ _ _ _ _ _ us hl => match us, hl with | [_, _], _ => rfl)
  have D__law_is_integer : Dn K mg "_law_is_integer" s__law_is_integer ["told"] := dn_mk l35 b35 k35 (PySem.W.mg_of X G a35) (fun _ _ _ _ _ _ us hl => match us, hl with | [_], _ => rfl)
  have D__law_text : Dn K mg "_law_text" s__law_text ["state"] := dn_mk l36 b36 k36 (PySem.W.mg_of X G a36) (fun _ _ _ _ _ _ us hl => match us, hl with | [_], _ => rfl)
  have D__law_value : Dn K mg "_law_value" s__law_value ["state"] := dn_mk l37 b37 k37 (PySem.W.mg_of X G a37) (fun _ _ _ _ _ _ us hl => match us, hl with | [_], _ => rfl)
  have D__law_rows : Dn K mg "_law_rows" s__law_rows ["script", "first", "most", "width"] := dn_mk l38 b38 k38 (PySem.W.mg_of X G a38) (fun _ _ _ _ _ _ us hl => match us, hl with | [_, _, _, _], _ => rfl)
  have D__law_zero : Dn K mg "_law_zero" s__law_zero ["values"] := dn_mk l39 b39 k39 (PySem.W.mg_of X G a39) (fun _ _ _ _ _ _ us hl => match us, hl with | [_], _ => rfl)
  have D__law_by_size : Dn K mg "_law_by_size" s__law_by_size ["values"] := dn_mk l40 b40 k40 (PySem.W.mg_of X G a40) (fun _ _ _ _ _ _ us hl => match us, hl with | [_], _ => rfl)
  have D__law_spread : Dn K mg "_law_spread" s__law_spread ["values"] := dn_mk l41 b41 k41 (PySem.W.mg_of X G a41) (fun _ _ _ _ _ _ us hl => match us, hl with | [_], _ => rfl)
  have D__law_hash : Dn K mg "_law_hash" s__law_hash ["kind"] := dn_mk l42 b42 k42 (PySem.W.mg_of X G a42) (fun _ _ _ _ _ _ us hl => match us, hl with | [_], _ => rfl)
  have D__law_join_shape : Dn K mg "_law_join_shape" s__law_join_shape ["state"] := dn_mk l43 b43 k43 (PySem.W.mg_of X G a43) (fun _ _ _ _ _ _ us hl => match us, hl with | [_], _ => rfl)
  have D__law_parts : Dn K mg "_law_parts" s__law_parts ["rows", "keys", "time", "hashed"] := dn_mk l44 b44 k44 (PySem.W.mg_of X G a44) (fun _ _ _ _ _ _ us hl => match us, hl with | [_, _, _, _], _ => rfl)
  have D__law_written : Dn K mg "_law_written" s__law_written ["way", "left", "right", "a", "b", "time", "memory", "hashed"] := dn_mk l45 b45 k45 (PySem.W.mg_of X G a45) (fun _ _ _ _ _ _ us hl => match us, hl with | [_, _, _, _, _, _, _, _], _ => rfl)
  have D__law_due : Dn K mg "_law_due" s__law_due ["way", "kind", "left", "right", "a", "b", "memory", "hashed"] := dn_mk l46 b46 k46 (PySem.W.mg_of X G a46) (fun _ _ _ _ _ _ us hl => match us, hl with | [_, _, _, _, _, _, _, _], _ => rfl)
  have y_abs : mg "abs" = none := PySem.W.mg_none_of X G z_abs
  have y_bool : mg "bool" = none := PySem.W.mg_none_of X G z_bool
  have y_int : mg "int" = none := PySem.W.mg_none_of X G z_int
  have y_isinstance : mg "isinstance" = none := PySem.W.mg_none_of X G z_isinstance
  have y_len : mg "len" = none := PySem.W.mg_none_of X G z_len
  have y_max : mg "max" = none := PySem.W.mg_none_of X G z_max
  have y_min : mg "min" = none := PySem.W.mg_none_of X G z_min
  have y_ord : mg "ord" = none := PySem.W.mg_none_of X G z_ord
  have y_range : mg "range" = none := PySem.W.mg_none_of X G z_range
  have y_str : mg "str" = none := PySem.W.mg_none_of X G z_str
  have y_tuple : mg "tuple" = none := PySem.W.mg_none_of X G z_tuple
  have y_zip : mg "zip" = none := PySem.W.mg_none_of X G z_zip
  have v_OF_INTEGERS_of_one : ∃ u, mg "OF_INTEGERS_of_one" = some u ∧ RelV (.ref p_OF_INTEGERS_of_one) u := ⟨_, PySem.W.mg_of X G q_OF_INTEGERS_of_one, rfl⟩
  have w_OF_INTEGERS_of_one : KDict K w p_OF_INTEGERS_of_one es_OF_INTEGERS_of_one n_OF_INTEGERS_of_one := ⟨ka_OF_INTEGERS_of_one, kl_OF_INTEGERS_of_one, ko_OF_INTEGERS_of_one⟩
  have v_PARTS : ∃ u, mg "PARTS" = some u ∧ RelV (.int (8)) u := ⟨_, PySem.W.mg_of X G q_PARTS, ⟨_, rfl⟩⟩
  have v_TIMES : ∃ u, mg "TIMES" = some u ∧ RelV (.int (3)) u := ⟨_, PySem.W.mg_of X G q_TIMES, ⟨_, rfl⟩⟩
  have v__ABOVE_BOOLEANS : ∃ u, mg "_ABOVE_BOOLEANS" = some u ∧ RelV (.int (3)) u := ⟨_, PySem.W.mg_of X G q__ABOVE_BOOLEANS, ⟨_, rfl⟩⟩
  have v__ABOVE_INTEGERS : ∃ u, mg "_ABOVE_INTEGERS" = some u ∧ RelV (.int (1000006)) u := ⟨_, PySem.W.mg_of X G q__ABOVE_INTEGERS, ⟨_, rfl⟩⟩
  have v__DIVISORS : ∃ u, mg "_DIVISORS" = some u ∧ RelV (.ref p__DIVISORS) u := ⟨_, PySem.W.mg_of X G q__DIVISORS, rfl⟩
  have w__DIVISORS := r__DIVISORS
  have v__FACTOR : ∃ u, mg "_FACTOR" = some u ∧ RelV (.int (131)) u := ⟨_, PySem.W.mg_of X G q__FACTOR, ⟨_, rfl⟩⟩
  have v__FACTOR_OF_TEXTS : ∃ u, mg "_FACTOR_OF_TEXTS" = some u ∧ RelV (.int (31)) u := ⟨_, PySem.W.mg_of X G q__FACTOR_OF_TEXTS, ⟨_, rfl⟩⟩
  have v__FIRST : ∃ u, mg "_FIRST" = some u ∧ RelV (.int (17)) u := ⟨_, PySem.W.mg_of X G q__FIRST, ⟨_, rfl⟩⟩
  have v__FIRST_OF_TEXTS : ∃ u, mg "_FIRST_OF_TEXTS" = some u ∧ RelV (.int (7)) u := ⟨_, PySem.W.mg_of X G q__FIRST_OF_TEXTS, ⟨_, rfl⟩⟩
  have v__OF_ALIKE : ∃ u, mg "_OF_ALIKE" = some u ∧ RelV (.ref p__OF_ALIKE) u := ⟨_, PySem.W.mg_of X G q__OF_ALIKE, rfl⟩
  have w__OF_ALIKE : KDict K w p__OF_ALIKE es__OF_ALIKE n__OF_ALIKE := ⟨ka__OF_ALIKE, kl__OF_ALIKE, ko__OF_ALIKE⟩
  have v__OF_ANY : ∃ u, mg "_OF_ANY" = some u ∧ RelV (.ref p__OF_ANY) u := ⟨_, PySem.W.mg_of X G q__OF_ANY, rfl⟩
  have w__OF_ANY : KDict K w p__OF_ANY es__OF_ANY n__OF_ANY := ⟨ka__OF_ANY, kl__OF_ANY, ko__OF_ANY⟩
  have v__PRIME : ∃ u, mg "_PRIME" = some u ∧ RelV (.int (1000003)) u := ⟨_, PySem.W.mg_of X G q__PRIME, ⟨_, rfl⟩⟩
  have e := hfa.symm.trans (PySem.W.mg_of X G a47)
  cases e
  have D_law := def_mk (x := "law") (st := s_law) l47 b47 k47 hfa
  refine ⟨PySem.W.fnOf "law" "law" (C8.fnArgs s_law) (C8.fnBody s_law) (C8.fnScope s_law) .none kV47 dc47 pm47 an47 cd47 ct47, fun s v => .of_eq rfl, fun base _ _ => ?_⟩
  have c_kind_rank := ok_kind_rank (P := P) (w := w) (base := base) D_kind_rank y_bool y_int y_isinstance 
  have c_is_integer := ok_is_integer (P := P) (w := w) (base := base) D_is_integer y_bool y_int y_isinstance 
  have c_rank := ok_rank (P := P) (w := w) (base := base) D_rank c_kind_rank y_int 
  have c_same := ok_same (P := P) (w := w) (base := base) D_same c_rank 
  have c_before := ok_before (P := P) (w := w) (base := base) D_before c_rank 
  have c_negated := ok_negated (P := P) (w := w) (base := base) D_negated 
  have c_both := ok_both (P := P) (w := w) (base := base) D_both 
  have c_either := ok_either (P := P) (w := w) (base := base) D_either 
  have c__size := ok__size (P := P) (w := w) (base := base) D__size y_abs 
  have hSz := held_of (k := 4) c__size (PySem.W.mg_of X G a8) (by decide)
  have c_value_of_one := ok_value_of_one (P := P) (w := w) (base := base) D_value_of_one c_is_integer c_negated v_OF_INTEGERS_of_one w_OF_INTEGERS_of_one e_OF_INTEGERS_of_one_0 hSz
  have c__both := ok__both (P := P) (w := w) (base := base) D__both c_both 
  have c__either := ok__either (P := P) (w := w) (base := base) D__either c_either 
  have c__same := ok__same (P := P) (w := w) (base := base) D__same c_same 
  have c__equal := ok__equal (P := P) (w := w) (base := base) D__equal c_same 
  have c__less := ok__less (P := P) (w := w) (base := base) D__less c_before 
  have c__at_most := ok__at_most (P := P) (w := w) (base := base) D__at_most c_before 
  have c__are_alike := ok__are_alike (P := P) (w := w) (base := base) D__are_alike c_kind_rank 
  have tab : ∀ nm x y, nm ∈ binNames → Ok x → Ok y → Opr2 P w K mg base p__OF_ANY p__OF_ALIKE nm x y (binV nm x y) := by
    intro nm x y h hx hy
    simp only [binNames, List.mem_cons, List.not_mem_nil, or_false] at h
    rcases h with rfl | rfl | rfl | rfl | rfl | rfl
    · exact .any e__OF_ANY_0 (held_of c__both (PySem.W.mg_of X G a10) (by decide)) trivial
    · exact .any e__OF_ANY_1 (held_of c__either (PySem.W.mg_of X G a11) (by decide)) trivial
    · exact .alike e__OF_ANY_3 e__OF_ALIKE_0 (held_of c__equal (PySem.W.mg_of X G a13) (by decide))
    · exact .alike e__OF_ANY_4 e__OF_ALIKE_1 (held_of c__less (PySem.W.mg_of X G a14) (by decide))
    · exact .alike e__OF_ANY_5 e__OF_ALIKE_2 (held_of c__at_most (PySem.W.mg_of X G a15) (by decide))
    · exact .any e__OF_ANY_2 (held_of c__same (PySem.W.mg_of X G a12) (by decide)) ⟨hx, hy⟩
  have c_value_of_two := ok_value_of_two (P := P) (w := w) (base := base) D_value_of_two c__are_alike v__OF_ALIKE w__OF_ALIKE v__OF_ANY w__OF_ANY tab
  have c_unary := ok_unary (P := P) (w := w) (base := base) D_unary c_value_of_one 
  have c_binary := ok_binary (P := P) (w := w) (base := base) D_binary c_value_of_two 
  have c_evaluate_0 : C8.Cal P w K mg base 7 "evaluate" (spR_evaluate 0 K) [] := cal_no D_evaluate sc_evaluate (fun _ _ _ _ h => h.elim)
  have c_evaluate_1 := ok_evaluate (P := P) (w := w) (base := base) (rn := 0) D_evaluate c_binary c_unary y_len  c_evaluate_0
  have c_evaluate_2 := ok_evaluate (P := P) (w := w) (base := base) (rn := 1) D_evaluate c_binary c_unary y_len  c_evaluate_1
  have c_evaluate_3 := ok_evaluate (P := P) (w := w) (base := base) (rn := 2) D_evaluate c_binary c_unary y_len  c_evaluate_2
  have c_evaluate_4 := ok_evaluate (P := P) (w := w) (base := base) (rn := 3) D_evaluate c_binary c_unary y_len  c_evaluate_3
  have c_evaluate_5 := ok_evaluate (P := P) (w := w) (base := base) (rn := 4) D_evaluate c_binary c_unary y_len  c_evaluate_4
  have c_evaluate_6 := ok_evaluate (P := P) (w := w) (base := base) (rn := 5) D_evaluate c_binary c_unary y_len  c_evaluate_5
  have c_evaluate_7 := ok_evaluate (P := P) (w := w) (base := base) (rn := 6) D_evaluate c_binary c_unary y_len  c_evaluate_6
  have c_evaluate_8 := ok_evaluate (P := P) (w := w) (base := base) (rn := 7) D_evaluate c_binary c_unary y_len  c_evaluate_7
  have c_evaluate : C8.Cal P w K mg base 15 "evaluate" (sp_evaluate K) [] := c_evaluate_8
  have c_evaluate_all := ok_evaluate_all (P := P) (w := w) (base := base) D_evaluate_all c_evaluate 
  have c__text_hash := ok__text_hash (P := P) (w := w) (base := base) D__text_hash y_ord v__ABOVE_INTEGERS v__FACTOR_OF_TEXTS v__FIRST_OF_TEXTS v__PRIME 
  have c__value_hash := ok__value_hash (P := P) (w := w) (base := base) D__value_hash c__text_hash c_is_integer y_isinstance y_str v__ABOVE_BOOLEANS v__PRIME 
  have c_hash_of := ok_hash_of (P := P) (w := w) (base := base) D_hash_of c__value_hash v__FACTOR v__FIRST v__PRIME 
  have c_part_of := ok_part_of (P := P) (w := w) (base := base) D_part_of v_PARTS v__DIVISORS w__DIVISORS 
  have c_paired_keys := ok_paired_keys (P := P) (w := w) (base := base) D_paired_keys y_len y_min 
  have c_sort_written := ok_sort_written (P := P) (w := w) (base := base) D_sort_written y_len 
  have c_way_of_join := ok_way_of_join (P := P) (w := w) (base := base) D_way_of_join 
  have c__in_parts := ok__in_parts (P := P) (w := w) (base := base) D__in_parts c_evaluate_all c_part_of y_range v_PARTS 
  have c__divided := ok__divided (P := P) (w := w) (base := base) D__divided c__in_parts y_len y_zip v_TIMES 
  have c_join_written := ok_join_written (P := P) (w := w) (base := base) D_join_written c__divided c_paired_keys c_sort_written c_way_of_join 
  have c__law_cell := ok__law_cell (P := P) (w := w) (base := base) D__law_cell y_len 
  have c__law_state := ok__law_state (P := P) (w := w) (base := base) D__law_state y_int 
  have c__law_digit := ok__law_digit (P := P) (w := w) (base := base) D__law_digit y_int 
  have c__law_is_integer := ok__law_is_integer (P := P) (w := w) (base := base) D__law_is_integer y_bool y_int y_isinstance 
  have c__law_text := ok__law_text (P := P) (w := w) (base := base) D__law_text c__law_digit y_range 
  have c__law_value := ok__law_value (P := P) (w := w) (base := base) D__law_value c__law_digit c__law_text 
  have c__law_rows := ok__law_rows (P := P) (w := w) (base := base) D__law_rows c__law_digit c__law_state c__law_value y_len y_max y_min y_range 
  have c__law_zero := ok__law_zero (P := P) (w := w) (base := base) D__law_zero 
  have c__law_by_size := ok__law_by_size (P := P) (w := w) (base := base) D__law_by_size y_len 
  have c__law_spread := ok__law_spread (P := P) (w := w) (base := base) D__law_spread y_int y_isinstance 
  have c__law_hash := ok__law_hash (P := P) (w := w) (base := base) D__law_hash c__law_by_size c__law_spread c__law_zero c_hash_of 
  have c__law_join_shape := ok__law_join_shape (P := P) (w := w) (base := base) D__law_join_shape c__law_digit y_range y_tuple 
  have c__law_parts := ok__law_parts (P := P) (w := w) (base := base) D__law_parts c_evaluate y_int y_range 
  have c__law_written_0 : C8.Cal P w K mg base 17 "_law_written" (spR__law_written P w K mg base 0) [] := cal_no D__law_written sc__law_written (fun _ _ _ _ h => h.elim)
  have c__law_written_1 := ok__law_written (P := P) (w := w) (base := base) (rn := 0) D__law_written c__law_parts y_len y_range  c__law_written_0
  have c__law_written_2 := ok__law_written (P := P) (w := w) (base := base) (rn := 1) D__law_written c__law_parts y_len y_range  c__law_written_1
  have c__law_written_3 := ok__law_written (P := P) (w := w) (base := base) (rn := 2) D__law_written c__law_parts y_len y_range  c__law_written_2
  have c__law_written_4 := ok__law_written (P := P) (w := w) (base := base) (rn := 3) D__law_written c__law_parts y_len y_range  c__law_written_3
  have c__law_written : C8.Cal P w K mg base 21 "_law_written" (sp__law_written P w K mg base) [] := c__law_written_4
  have c__law_due := ok__law_due (P := P) (w := w) (base := base) D__law_due c__law_written y_int y_len y_min 
  exact ok_law (P := P) (w := w) (base := base) D_law c__law_cell c__law_digit c__law_due c__law_hash c__law_is_integer c__law_join_shape c__law_rows c__law_state c_join_written y_len y_max y_min y_range 
end My
open PySem PySem.W PyProof.Rows
set_option maxHeartbeats 0 in
theorem PySem.Challenge.cw_stylobate_k59_rows_written_by_joins_holds : PySem.Challenge.rw_stylobate_k59_rows_written_by_joins.Holds := by
  w_on; o_law; k_head; (case hw => w_witness2)
  k_fill
  refine L2.walk_of (l := PySem.Challenge.rw_stylobate_k59_rows_written_by_joins) (n := 63) (k := 23) (x := "script") (CX := fun _ => C8.CX0) (sp := fun w => My.sp_law _) rfl (by decide) rfl ⟨rfl, by decide, by decide⟩ (fun w h Y => PySem.W.kIn_of Y) ?F (fun _ _ a ns hl _ hS => My.sp_law_of hl hS) (fun _ _ _ _ _ h => h)
  case F =>
    intro w mg fa h KX G hmg
    refine' My.all_mk KX G hmg ?a0 ?l0 ?b0 ?k0 ?a1 ?l1 ?b1 ?k1 ?a2 ?l2 ?b2 ?k2 ?a3 ?l3 ?b3 ?k3 ?a4 ?l4 ?b4 ?k4 ?a5 ?l5 ?b5 ?k5 ?a6 ?l6 ?b6 ?k6 ?a7 ?l7 ?b7 ?k7 ?a8 ?l8 ?b8 ?k8 ?a9 ?l9 ?b9 ?k9 ?a10 ?l10 ?b10 ?k10 ?a11 ?l11 ?b11 ?k11 ?a12 ?l12 ?b12 ?k12 ?a13 ?l13 ?b13 ?k13 ?a14 ?l14 ?b14 ?k14 ?a15 ?l15 ?b15 ?k15 ?a16 ?l16 ?b16 ?k16 ?a17 ?l17 ?b17 ?k17 ?a18 ?l18 ?b18 ?k18 ?a19 ?l19 ?b19 ?k19 ?a20 ?l20 ?b20 ?k20 ?a21 ?l21 ?b21 ?k21 ?a22 ?l22 ?b22 ?k22 ?a23 ?l23 ?b23 ?k23 ?a24 ?l24 ?b24 ?k24 ?a25 ?l25 ?b25 ?k25 ?a26 ?l26 ?b26 ?k26 ?a27 ?l27 ?b27 ?k27 ?a28 ?l28 ?b28 ?k28 ?a29 ?l29 ?b29 ?k29 ?a30 ?l30 ?b30 ?k30 ?a31 ?l31 ?b31 ?k31 ?a32 ?l32 ?b32 ?k32 ?a33 ?l33 ?b33 ?k33 ?a34 ?l34 ?b34 ?k34 ?a35 ?l35 ?b35 ?k35 ?a36 ?l36 ?b36 ?k36 ?a37 ?l37 ?b37 ?k37 ?a38 ?l38 ?b38 ?k38 ?a39 ?l39 ?b39 ?k39 ?a40 ?l40 ?b40 ?k40 ?a41 ?l41 ?b41 ?k41 ?a42 ?l42 ?b42 ?k42 ?a43 ?l43 ?b43 ?k43 ?a44 ?l44 ?b44 ?k44 ?a45 ?l45 ?b45 ?k45 ?a46 ?l46 ?b46 ?k46 ?a47 ?l47 ?b47 ?k47 ?z_abs ?z_bool ?z_int ?z_isinstance ?z_len ?z_max ?z_min ?z_ord ?z_range ?z_str ?z_tuple ?z_zip ?q_OF_INTEGERS_of_one ?ka_OF_INTEGERS_of_one ?kl_OF_INTEGERS_of_one ?ko_OF_INTEGERS_of_one ?e_OF_INTEGERS_of_one_0 ?q_PARTS ?q_TIMES ?q__ABOVE_BOOLEANS ?q__ABOVE_INTEGERS ?q__DIVISORS ?r__DIVISORS ?q__FACTOR ?q__FACTOR_OF_TEXTS ?q__FIRST ?q__FIRST_OF_TEXTS ?q__OF_ALIKE ?ka__OF_ALIKE ?kl__OF_ALIKE ?ko__OF_ALIKE ?e__OF_ALIKE_0 ?e__OF_ALIKE_1 ?e__OF_ALIKE_2 ?q__OF_ANY ?ka__OF_ANY ?kl__OF_ANY ?ko__OF_ANY ?e__OF_ANY_0 ?e__OF_ANY_1 ?e__OF_ANY_2 ?e__OF_ANY_3 ?e__OF_ANY_4 ?e__OF_ANY_5 ?q__PRIME
    (case a0 => k_is); (case l0 => k_is); (case b0 => k_is); (case k0 => k_is); (case a1 => k_is); (case l1 => k_is); (case b1 => k_is); (case k1 => k_is); (case a2 => k_is); (case l2 => k_is); (case b2 => k_is); (case k2 => k_is); (case a3 => k_is); (case l3 => k_is); (case b3 => k_is); (case k3 => k_is); (case a4 => k_is); (case l4 => k_is); (case b4 => k_is); (case k4 => k_is); (case a5 => k_is); (case l5 => k_is); (case b5 => k_is); (case k5 => k_is); (case a6 => k_is); (case l6 => k_is); (case b6 => k_is); (case k6 => k_is); (case a7 => k_is); (case l7 => k_is); (case b7 => k_is); (case k7 => k_is); (case a8 => k_is); (case l8 => k_is); (case b8 => k_is); (case k8 => k_is); (case a9 => k_is); (case l9 => k_is); (case b9 => k_is); (case k9 => k_is); (case a10 => k_is); (case l10 => k_is); (case b10 => k_is); (case k10 => k_is); (case a11 => k_is); (case l11 => k_is); (case b11 => k_is); (case k11 => k_is); (case a12 => k_is); (case l12 => k_is); (case b12 => k_is); (case k12 => k_is); (case a13 => k_is); (case l13 => k_is); (case b13 => k_is); (case k13 => k_is); (case a14 => k_is); (case l14 => k_is); (case b14 => k_is); (case k14 => k_is); (case a15 => k_is); (case l15 => k_is); (case b15 => k_is); (case k15 => k_is); (case a16 => k_is); (case l16 => k_is); (case b16 => k_is); (case k16 => k_is); (case a17 => k_is); (case l17 => k_is); (case b17 => k_is); (case k17 => k_is); (case a18 => k_is); (case l18 => k_is); (case b18 => k_is); (case k18 => k_is); (case a19 => k_is); (case l19 => k_is); (case b19 => k_is); (case k19 => k_is); (case a20 => k_is); (case l20 => k_is); (case b20 => k_is); (case k20 => k_is); (case a21 => k_is); (case l21 => k_is); (case b21 => k_is); (case k21 => k_is); (case a22 => k_is); (case l22 => k_is); (case b22 => k_is); (case k22 => k_is); (case a23 => k_is); (case l23 => k_is); (case b23 => k_is); (case k23 => k_is); (case a24 => k_is); (case l24 => k_is); (case b24 => k_is); (case k24 => k_is); (case a25 => k_is); (case l25 => k_is); (case b25 => k_is); (case k25 => k_is); (case a26 => k_is); (case l26 => k_is); (case b26 => k_is); (case k26 => k_is); (case a27 => k_is); (case l27 => k_is); (case b27 => k_is); (case k27 => k_is); (case a28 => k_is); (case l28 => k_is); (case b28 => k_is); (case k28 => k_is); (case a29 => k_is); (case l29 => k_is); (case b29 => k_is); (case k29 => k_is); (case a30 => k_is); (case l30 => k_is); (case b30 => k_is); (case k30 => k_is); (case a31 => k_is); (case l31 => k_is); (case b31 => k_is); (case k31 => k_is); (case a32 => k_is); (case l32 => k_is); (case b32 => k_is); (case k32 => k_is); (case a33 => k_is); (case l33 => k_is); (case b33 => k_is); (case k33 => k_is); (case a34 => k_is); (case l34 => k_is); (case b34 => k_is); (case k34 => k_is); (case a35 => k_is); (case l35 => k_is); (case b35 => k_is); (case k35 => k_is); (case a36 => k_is); (case l36 => k_is); (case b36 => k_is); (case k36 => k_is); (case a37 => k_is); (case l37 => k_is); (case b37 => k_is); (case k37 => k_is); (case a38 => k_is); (case l38 => k_is); (case b38 => k_is); (case k38 => k_is); (case a39 => k_is); (case l39 => k_is); (case b39 => k_is); (case k39 => k_is); (case a40 => k_is); (case l40 => k_is); (case b40 => k_is); (case k40 => k_is); (case a41 => k_is); (case l41 => k_is); (case b41 => k_is); (case k41 => k_is); (case a42 => k_is); (case l42 => k_is); (case b42 => k_is); (case k42 => k_is); (case a43 => k_is); (case l43 => k_is); (case b43 => k_is); (case k43 => k_is); (case a44 => k_is); (case l44 => k_is); (case b44 => k_is); (case k44 => k_is); (case a45 => k_is); (case l45 => k_is); (case b45 => k_is); (case k45 => k_is); (case a46 => k_is); (case l46 => k_is); (case b46 => k_is); (case k46 => k_is); (case a47 => k_is); (case l47 => k_is); (case b47 => k_is); (case k47 => k_is); (case z_abs => k_is); (case z_bool => k_is); (case z_int => k_is); (case z_isinstance => k_is); (case z_len => k_is); (case z_max => k_is); (case z_min => k_is); (case z_ord => k_is); (case z_range => k_is); (case z_str => k_is); (case z_tuple => k_is); (case z_zip => k_is); (case q_OF_INTEGERS_of_one => k_is); (case ka_OF_INTEGERS_of_one => k_is); (case e_OF_INTEGERS_of_one_0 => k_is); (case q_PARTS => k_is); (case q_TIMES => k_is); (case q__ABOVE_BOOLEANS => k_is); (case q__ABOVE_INTEGERS => k_is); (case q__DIVISORS => k_is); (case q__FACTOR => k_is); (case q__FACTOR_OF_TEXTS => k_is); (case q__FIRST => k_is); (case q__FIRST_OF_TEXTS => k_is); (case q__OF_ALIKE => k_is); (case ka__OF_ALIKE => k_is); (case e__OF_ALIKE_0 => k_is); (case e__OF_ALIKE_1 => k_is); (case e__OF_ALIKE_2 => k_is); (case q__OF_ANY => k_is); (case ka__OF_ANY => k_is); (case e__OF_ANY_0 => k_is); (case e__OF_ANY_1 => k_is); (case e__OF_ANY_2 => k_is); (case e__OF_ANY_3 => k_is); (case e__OF_ANY_4 => k_is); (case e__OF_ANY_5 => k_is); (case q__PRIME => k_is)
    (case kl_OF_INTEGERS_of_one => k_keys)
    (case ko_OF_INTEGERS_of_one => decide)
    (case r__DIVISORS => exact fun _ => .inr ⟨_, _, _, (by k_is), rfl, rfl, by decide, by repeat (first | exact .nil | refine .cons ⟨_, rfl⟩ ?_ | refine .cons rfl ?_)⟩)
    (case kl__OF_ALIKE => k_keys)
    (case ko__OF_ALIKE => decide)
    (case kl__OF_ANY => k_keys)
    (case ko__OF_ANY => decide)

