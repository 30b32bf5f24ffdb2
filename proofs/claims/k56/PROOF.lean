import PyProof.Rows.All
import Wide.All
import OpenK.AllK
import Wide.FinOn
import HandS.ForMost
import HandS.Codes
import HandS.Evl
import HandS.IsInst
import HandS.Wide
import HandS.Defaults
import HandS.Walk
import HandS.Flow
import HandS.TupAny
import HandS.Zip
import HandS.Property
import HandS.OwnEq
import HandS.Deep
import HandS.WideBits
import HandS.Iter
import HandS.Rev
import HandS.SortKw
import HandS.Keys
import HandS.TupLe
import HandS.Dict
import HandS.DictComp
import HandS.Text
import HandS.StrMore
import HandS.FStr
import HandS.Style
import HandS.More
import HandS.CallLocal
import HandS.Conv
import HandS.Flt
import KE.KEqSeq
import KE.KeyNested
import KE.KDictKeyed
import KE.DataEq
import KE.DataMinMax
import KE.DataMinKey
import KE.DataCmp
import PyProof.StrOps2
import PyProof.StrLawsFrom
import KE.RegKIsAll
import KE.SortKeyHeap
import KE.DataFind
import KE.KDictCopyH
import KE.KLam
import HandS.Lambda
import HandS.EndTab
import KE.KNestM
import PySem.Challenge.RW_stylobate_k56_sorting_with_any_memory
set_option Elab.async false
set_option linter.all false
set_option maxRecDepth 100000
set_option maxHeartbeats 4000000
namespace My
open PySem PySem.Spec PyProof.Rows L2 Evl
def Dn (K : PySem.W.Frag) (mg : Str → Option Value) (x : Str) (st : Stmt) (ps : List Str) : Prop := ∃ f fd, C8.Def K mg x st f fd ∧ Binds K fd ps []
section
variable {P : Program} {w : World} {K : PySem.W.Frag} {mg : Str → Option Value} {base : Heap}
theorem cal_of {x : Str} {st : Stmt} {N ps : List Str} {k : Nat} {sp : Sp} (D : Dn K mg x st ps) (S : FnScope N ps (C8.fnScope st)) (len : ∀ vs H Q E, sp vs H Q E → vs.length = ps.length)
    (hbody : ∀ (f : Addr) (cdv : Value) (A : Around) (outer : List Env) (s : Shared) (H : Hp) (vs : List V) (Q : VK) (E : XK), Room k (A.deeper (envOfC x (C8.fnScope st) s.heap.objs.size f cdv)) → sp vs H Q E →
      ∃ t, PSs (cxOf C8.CX0 P w K mg base N x (C8.fnScope st) f cdv A outer s H E).nox (C8.fnBody st) t ∧ t { nx := fun _ H' => Q .non H', rt := Q } (start N vs) H) : C8.Cal P w K mg base (k + 1) x sp [] := by
  obtain ⟨f, fd, F, b⟩ := D
  exact C8.cal0 F b .nil S len (hbody f)
theorem def_mk {x : Str} {st : Stmt} {f : Addr} {oc : Value} {od an : Option Addr} {osl : Array (Option Value)} {kV doc pm cdv ct : Value}
    (l : K.lookup f = some ⟨oc, od, .func (PySem.W.fnOf x x (C8.fnArgs st) (C8.fnBody st) (C8.fnScope st) .none kV doc pm an cdv ct), osl⟩)
    (c : PySem.W.codeIn K cdv x = true) (k : PySem.W.keepIn K (.ref f) = true) (m : mg x = some (.ref f)) : C8.Def K mg x st f (PySem.W.fnOf x x (C8.fnArgs st) (C8.fnBody st) (C8.fnScope st) .none kV doc pm an cdv ct) :=
  ⟨⟨oc, od, .none, kV, doc, pm, an, cdv, ct, osl, rfl, l, c⟩, m, k⟩
theorem dn_mk {x : Str} {st : Stmt} {f : Addr} {oc : Value} {od an : Option Addr} {osl : Array (Option Value)} {kV doc pm cdv ct : Value} {ps : List Str}
    (l : K.lookup f = some ⟨oc, od, .func (PySem.W.fnOf x x (C8.fnArgs st) (C8.fnBody st) (C8.fnScope st) .none kV doc pm an cdv ct), osl⟩)
    (c : PySem.W.codeIn K cdv x = true) (k : PySem.W.keepIn K (.ref f) = true) (m : mg x = some (.ref f))
    (h : ∀ (kV doc pm : Value) (an : Option Addr) (cdv ct : Value) (us : List Value), us.length = ps.length → bindArgs (PySem.W.fnOf x x (C8.fnArgs st) (C8.fnBody st) (C8.fnScope st) .none kV doc pm an cdv ct) ⟨us, []⟩ = pure (ps.zip us)) : Dn K mg x st ps :=
  ⟨f, _, def_mk l c k m, C8.Fun.binds (def_mk l c k m).fn rfl h⟩
end
def rIsT : R2 := fun x y H Q => ∃ b : Bool, y = .bl b ∧ Q (.bl (decide (x = .bl b))) H
def rNotT : R2 := fun x y H Q => ∃ b : Bool, y = .bl b ∧ Q (.bl (!decide (x = .bl b))) H
section
variable {X : Cx}
theorem rel_bl {x : V} {v : Value} {b : Bool} (rx : RelV x v) : PySem.plainIs v (.bool b) = true ∧ (v == .bool b) = decide (x = .bl b) ∨ ∃ n, v = .builtin n := by
  cases x with
  | non => cases (show v = Value.none from rx); exact .inl ⟨rfl, rfl⟩
  | bl c => cases (show v = Value.bool c from rx); exact .inl ⟨rfl, by cases b <;> cases c <;> rfl⟩
  | int i => obtain ⟨t, e⟩ := (show ∃ t, v = Value.int i t from rx); cases e; exact .inl ⟨rfl, rfl⟩
  | str i => obtain ⟨t, e⟩ := (show ∃ t, v = Value.str i t from rx); cases e; exact .inl ⟨rfl, rfl⟩
  | byt i => obtain ⟨t, e⟩ := (show ∃ t, v = Value.bytes i t from rx); cases e; exact .inl ⟨rfl, rfl⟩
  | flt i => obtain ⟨t, e⟩ := (show ∃ t, v = Value.float i t from rx); cases e; exact .inl ⟨rfl, rfl⟩
  | ref a => cases (show v = Value.ref a from rx); exact .inl ⟨rfl, rfl⟩
  | ty n => cases (show v = Value.type n from rx); exact .inl ⟨rfl, rfl⟩
theorem rel_bl' {x : V} {v : Value} {b : Bool} (rx : RelV x v) : PySem.plainIs v (.bool b) = true ∧ (v == .bool b) = decide (x = .bl b) := by
  rcases rel_bl (b := b) rx with h | ⟨n, rfl⟩
  · exact h
  · cases x <;> first | exact nomatch (rx : Value.builtin n = _) | (obtain ⟨t, e⟩ := rx; exact nomatch e)
theorem op_isTF : OpR X (compareOp .Is) rIsT := by
  intro pins s σ H x y v u Q I rx ry h
  obtain ⟨b, rfl, q⟩ := h
  cases (show u = Value.bool b from ry)
  obtain ⟨h1, h2⟩ := rel_bl' (b := b) rx
  exact wpAny_is_plain h1 ⟨.bl _, H, I, rfl, by rw [h2]; exact q⟩
end
section
variable {K : PySem.W.Frag} {σ : L2.St} {H H' : Hp} {ta tb te tx : TE} {t u : TT} {x y z v : V} {r : R2}
theorem rv_isT {b : Bool} : RV rIsT x (.bl b) H (.bl (decide (x = .bl b))) := fun H1 _ _ q => ⟨b, rfl, q H1 (Ex.refl H1)⟩
theorem rv_notT {b : Bool} : RV rNotT x (.bl b) H (.bl (!decide (x = .bl b))) := fun H1 _ _ q => ⟨b, rfl, q H1 (Ex.refl H1)⟩
theorem rv_isN : RV (fun x y H Q => y = .non ∧ Q (.bl (decide (x = .non))) H) x .non H (.bl (decide (x = .non))) := fun H1 _ _ q => ⟨rfl, q H1 (Ex.refl H1)⟩
theorem rv_notN : RV (fun x y H Q => y = .non ∧ Q (.bl (!decide (x = .non))) H) x .non H (.bl (!decide (x = .non))) := fun H1 _ _ q => ⟨rfl, q H1 (Ex.refl H1)⟩
theorem ev_int {i : Int} (h : Ev ta σ H (.int i)) : Ev (tCB (fun xs H Q => (∃ i, xs = [.int i] ∧ Q (.int i) H) ∨ ∃ k, xs = [.bl k] ∧ Q (.int (if k then 1 else 0)) H) (tCons ta tNil)) σ H (.int i) :=
  fun H1 e Q q => h H1 e _ fun H2 e2 => .inl ⟨i, rfl, q H2 e2⟩
theorem ev_intB {b : Bool} (h : Ev ta σ H (.bl b)) : Ev (tCB (fun xs H Q => (∃ i, xs = [.int i] ∧ Q (.int i) H) ∨ ∃ k, xs = [.bl k] ∧ Q (.int (if k then 1 else 0)) H) (tCons ta tNil)) σ H (.int (if b then 1 else 0)) :=
  fun H1 e Q q => h H1 e _ fun H2 e2 => .inr ⟨b, rfl, q H2 e2⟩
theorem ev_abs {i : Int} (h : Ev ta σ H (.int i)) : Ev (tCB (fun xs H Q => ∃ i, xs = [.int i] ∧ Q (.int (if i < 0 then -i else i)) H) (tCons ta tNil)) σ H (.int (if i < 0 then -i else i)) :=
  fun H1 e Q q => h H1 e _ fun H2 e2 => ⟨i, rfl, q H2 e2⟩
theorem ev_min2 {i j : Int} (ha : Ev ta σ H (.int i)) (hb : Ev tb σ H (.int j)) : Ev (tCB (fun xs H Q => ∃ i j, xs = [.int i, .int j] ∧ Q (.int (if j < i then j else i)) H) (tCons ta (tCons tb tNil))) σ H (.int (if j < i then j else i)) := fun H1 e Q q =>
  ha H1 e _ fun H2 e2 => hb H2 (e.trans e2) _ fun H3 e3 => ⟨i, j, rfl, q H3 (e2.trans e3)⟩
theorem ev_lenS {s : Str} (h : Ev ta σ H (.str s)) (hz : s.length ≤ 100000) : Ev (tCB (fun xs H Q => ∃ z, xs = [.str z] ∧ z.length ≤ sizeLine ∧ Q (.int z.length) H) (tCons ta tNil)) σ H (.int s.length) :=
  fun H1 e Q q => h H1 e _ fun H2 e2 => ⟨s, rfl, sz_of hz, q H2 e2⟩
theorem ev_isi {T : String} {tn : String} {b : Bool} (ha : Ev ta σ H x) (ht : ∀ H1, TyX K H1 x (.type tn)) (hk : kitB tn T = some b) : Ev (tCB (rIsi K) (tCons ta (tCons (tC (.ty T)) tNil))) σ H (.bl b) :=
  fun H1 e Q q => ha H1 e _ fun H2 e2 => ⟨x, .ty T, .type tn, .type T, b, rfl, .ty T, ht H2, kit_ty hk, q H2 e2⟩
end
local macro_rules | `(tactic| walk_at "side") => `(tactic| first
  | exact .inr ⟨by decide, by decide⟩
  | exact .inl ⟨by decide, by decide⟩
  | exact .inl ⟨by omega, by omega⟩
  | exact .inr ⟨by omega, by omega⟩
  | exact ⟨by decide, by decide⟩
  | exact ⟨by omega, by omega⟩
  | decide
  | (show (_ : Int) < _; omega)
  | omega)
local macro_rules | `(tactic| walk_at "rv") => `(tactic| first
  | exact rv_I0
  | ((refine' rv_I ?k1); (case k1 => walk_at "side"))
  | exact rv_isT
  | exact rv_notT
  | exact rv_isN
  | exact rv_notN
  | exact rv_eq rfl
  | exact rv_ne rfl)
local macro_rules | `(tactic| walk_at "sq") => `(tactic| first | assumption | exact ex_l (by assumption) (by assumption) | exact sq_of (by assumption))
/-- what a part gives, read off its form -/
local macro_rules | `(tactic| walk_at "ev") => `(tactic| first
  | exact ev_var rfl
  | exact ev_c
  | ((with_reducible refine' ev_op ?k1 ?k2 ?k3); (case k1 => walk_at "ev"); (case k2 => walk_at "ev"); (case k3 => walk_at "rv"))
  | ((with_reducible refine' ev_un ?k1 ?k2); (case k1 => walk_at "ev"); (case k2 => exact ru_neg))
  | ((with_reducible refine' ev_int ?k1); (case k1 => walk_at "ev"))
  | ((with_reducible refine' ev_abs ?k1); (case k1 => walk_at "ev"))
  | ((with_reducible refine' ev_andV ?k1 ?k2); (case k1 => walk_at "ev"); (case k2 => intro _; walk_at "ev"))
  | ((with_reducible refine' ev_orV ?k1 ?k2); (case k1 => walk_at "ev"); (case k2 => intro _; walk_at "ev"))
  | ((with_reducible refine' ev_notV ?k1); (case k1 => walk_at "ev"))
  | ((refine' ev_len ?k1 ?k2); (case k1 => walk_at "ev"); (case k2 => walk_at "sq")))
local macro_rules | `(tactic| walk_at "et") => `(tactic| first
  | ((with_reducible refine' et_or ?k1 ?k2); (case k1 => walk_at "et"); (case k2 => intro _; walk_at "et"))
  | ((with_reducible refine' et_and ?k1 ?k2); (case k1 => walk_at "et"); (case k2 => intro _; walk_at "et"))
  | ((with_reducible refine' et_not ?k1); (case k1 => walk_at "et"))
  | (refine' et_test ?k1; (case k1 => walk_at "ev"))
  | (refine' et_B ?k1; (case k1 => walk_at "ev")))
def SpU (sp : Sp) (vs : List V) (H : Hp) (xs : List V) : Prop := ∀ H1, Ex H H1 → ∀ Q : VK, (∀ p H2, H1 p = none → Ex H1 H2 → H2 p = some (.tup xs) → Q (.ref p) H2) → ∀ E : XK, sp vs H1 Q E
section
variable {K : PySem.W.Frag} {σ : L2.St} {H H' : Hp} {ta tb te : TE} {x y z v : V}
theorem eu_call {sp : Sp} {dvs vs xs : List V} {E : XK} {ta : TA} (h : EvA ta σ H vs) (hs : SpU sp (vs ++ dvs) H xs) : EvU (tCall sp dvs E ta) σ H xs := fun H1 e Q q =>
  h H1 e _ fun H2 e2 => hs H2 (e.trans e2) Q (fun p H3 hp e3 h3 => q p H3 (fresh_back e2 hp) (e2.trans e3) h3) E
theorem ev_isi' {T : String} {tn : String} {b : Bool} (ha : Ev ta σ H x) (ht : ∀ H1, Ex H H1 → TyX K H1 x (.type tn)) (hk : kitB tn T = some b) : Ev (tCB (rIsi K) (tCons ta (tCons (tC (.ty T)) tNil))) σ H (.bl b) :=
  fun H1 e Q q => ha H1 e _ fun H2 e2 => ⟨x, .ty T, .type tn, .type T, b, rfl, .ty T, ht H2 (e.trans e2), kit_ty hk, q H2 e2⟩
theorem ev_chain {r r' : R2} {tc : TE} {b c : Bool} (ha : Ev ta σ H x) (hb : Ev tb σ H y) (hr : RV r x y H (.bl b)) (hc : b = true → Ev tc σ H z) (hr' : b = true → RV r' y z H (.bl c)) : Ev (tChain r r' ta tb tc) σ H (.bl (b && c)) := fun H1 e Q q =>
  ha H1 e _ fun H2 e2 => hb H2 (e.trans e2) _ fun H3 e3 => hr H3 ((e.trans e2).trans e3) _ fun H4 e4 => ⟨b, rfl, by
    cases b with
    | true =>
      show tc σ H4 fun w' H5 => r' y w' H5 Q
      exact hc rfl H4 (((e.trans e2).trans e3).trans e4) _ fun H5 e5 => hr' rfl H5 ((((e.trans e2).trans e3).trans e4).trans e5) Q fun H6 e6 => q H6 ((((e2.trans e3).trans e4).trans e5).trans e6)
    | false =>
      show Q (.bl false) H4
      exact q H4 ((e2.trans e3).trans e4)⟩
/-- a, b = (..): a new tuple unpacked into names -/
theorem gt2 {p : Addr} {i j : Nat} (h : SqT K H p [x, y]) {Q : L2.St → Hp → Prop} (k : Q ((σ.set i (some x)).set j (some y)) H) : gTup K 2 (gCons (gName i) (gCons (gName j) gNil)) (.ref p) σ H Q :=
  ⟨p, [x, y], rfl, h, rfl, x, [y], rfl, y, [], rfl, rfl, k⟩
theorem gt3 {p : Addr} {i j l : Nat} (h : SqT K H p [x, y, z]) {Q : L2.St → Hp → Prop} (k : Q (((σ.set i (some x)).set j (some y)).set l (some z)) H) : gTup K 3 (gCons (gName i) (gCons (gName j) (gCons (gName l) gNil))) (.ref p) σ H Q :=
  ⟨p, [x, y, z], rfl, h, rfl, x, [y, z], rfl, y, [z], rfl, z, [], rfl, rfl, k⟩
end
theorem hu64 {A : Around} {k : Nat} (hr : Room k A) : A.units + 64 < cLine := by
  have := hr.un
  omega
section
variable {K : PySem.W.Frag} {σ : L2.St} {H : Hp} {te : TE} {D : Ends} {tz : TS} {g : TG} {xs : List V}
theorem q_asgV {v : V} (h : Ev te σ H v) (k : ∀ H1, Ex H H1 → g v σ H1 (tz D)) : tSeq (tAsg te g) tz D σ H := h H (Ex.refl H) _ fun H1 e => k H1 e
end
inductive Pl : V → Prop where
  | non : Pl .non
  | bl (b : Bool) : Pl (.bl b)
  | int (i : Int) : Pl (.int i)
  | str (s : Str) : Pl (.str s)
def tyN : V → String
  | .bl _ => "bool"
  | .int _ => "int"
  | .str _ => "str"
  | _ => "NoneType"
def isInt : V → Bool
  | .int _ => true
  | _ => false
theorem tx_pl {K : PySem.W.Frag} {x : V} (h : Pl x) (H1 : Hp) : TyX K H1 x (.type (tyN x)) := by
  cases h with
  | non => exact .base .non
  | bl b => exact .base (.bl b)
  | int i => exact .base (.int i)
  | str s => exact .base (.str s)
theorem ev_isiP {K : PySem.W.Frag} {σ : L2.St} {H : Hp} {ta : TE} {x : V} {T : String} {b : Bool} (ha : Ev ta σ H x) (hx : Pl x) (hk : kitB (tyN x) T = some b) : Ev (tCB (rIsi K) (tCons ta (tCons (tC (.ty T)) tNil))) σ H (.bl b) :=
  ev_isi ha (tx_pl hx) hk
/-- isinstance(x, int) and not isinstance(x, bool) -/
theorem ev_isInt {K : PySem.W.Frag} {σ : L2.St} {H : Hp} {ta tb : TE} {x : V} (ha : Ev ta σ H x) (hb : Ev tb σ H x) (hx : Pl x) :
    Ev (tAndV (tCB (rIsi K) (tCons ta (tCons (tC (.ty "int")) tNil))) (tNotV (tCB (rIsi K) (tCons tb (tCons (tC (.ty "bool")) tNil))))) σ H (.bl (isInt x)) := by
  cases hx with
  | non => exact ev_is (ev_andV (ev_isiP (b := false) ha .non (by decide +kernel)) fun z => nomatch z) (show V.bl (false && true) = _ from rfl)
  | bl b => exact ev_is (ev_andV (ev_isiP (b := true) ha (.bl b) (by show kitB "bool" "int" = some true; decide +kernel)) fun _ => ev_notV (ev_isiP (b := true) hb (.bl b) (by show kitB "bool" "bool" = some true; decide +kernel))) rfl
  | int i => exact ev_is (ev_andV (ev_isiP (b := true) ha (.int i) (by show kitB "int" "int" = some true; decide +kernel)) fun _ => ev_notV (ev_isiP (b := false) hb (.int i) (by show kitB "int" "bool" = some false; decide +kernel))) rfl
  | str s => exact ev_is (ev_andV (ev_isiP (b := false) ha (.str s) (by show kitB "str" "int" = some false; decide +kernel)) fun z => nomatch z) (show V.bl (false && true) = _ from rfl)
section
open PySem.SeqAt PySem.MeetsSeq PySem.MeetsSeq2 PySem.MeetsSeq3
open PySem.AutoSeq1 (wpAny_loadPart')
/-- pairs walked from the left: the first that differ decide; z where none do -/
inductive Lx (A : Around) (s : Shared) (z : Bool) : List (Value × Value) → Bool → Prop
  | nil : Lx A s z [] z
  | eq {y x : Value} {ps : List (Value × Value)} {c : Bool} : EqAt A s y x true → Lx A s z ps c → Lx A s z ((y, x) :: ps) c
  | lt {y x : Value} {ps : List (Value × Value)} {c : Bool} : EqAt A s y x false → Ob.RcOp .Lt A s y x c → Lx A s z ((y, x) :: ps) c
theorem lt_meets (l b : Addr) (us vs : Array Value) (n m : Nat) (dl db : Option Addr) (sl sb : Array (Option Value)) :
    Meets (Builtin.«tuple.__lt__» ⟨[.ref l, .ref b], []⟩)
      (fun A R s => s.heap.get? l = some { cls := .type "tuple", dict := dl, data := .seq us n, slots := sl } ∧ s.heap.get? b = some { cls := .type "tuple", dict := db, data := .seq vs m, slots := sb } ∧
        ∃ c, Lx A.in1 s (decide (us.size < vs.size)) (us.toList.zip vs.toList) c ∧ R (.ok (.ret (.bool c))) s) := by
  refine .of_wp fun prog w A R s h => ?_
  obtain ⟨hp, g, d, tk, os⟩ := s
  obtain ⟨hl, hb, c, hx, h⟩ := h
  have f2 := AutoSeq1.sub_tuple_tuple
  wp_walk using wpAny_loadPart' hl, wpAny_loadPart' hb, wpAny_forIn_list _ (fun ps b s' => b.1 = none ∧ s' = ⟨hp, g, d, tk, os⟩ ∧ ∃ c, Lx A.in1 ⟨hp, g, d, tk, os⟩ (decide (us.size < vs.size)) ps c ∧ R (.ok (.ret (.bool c))) ⟨hp, g, d, tk, os⟩) _
  case turn =>
    rintro ⟨y, x⟩ ps b s' ⟨hb', rfl, c, hz, hR⟩
    cases hz with
    | eq he ht =>
      refine wpAny_bind (he prog w _ _ ?_)
      wp_walk
      exact ⟨rfl, rfl, c, ht, hR⟩
    | lt he hr =>
      refine wpAny_bind (he prog w _ _ ?_)
      have hri := hr prog w
      wp_walk using hri
      exact ⟨_, rfl, hR⟩
  case fin =>
    rintro ⟨b1, b2⟩ s' ⟨hb', rfl, c, hz, hR⟩
    simp only at hb'
    subst hb'
    cases hz
    wp_walk
    exact ⟨_, rfl, by simpa [Builtin.Tuple.tupleCompareSizes] using hR⟩
  case h => exact ⟨rfl, rfl, c, hx, h⟩
theorem lt_tuples {A : Around} {s : Shared} {l b : Addr} {us vs : Array Value} {c : Bool} (hl : s.heap.IsTuple l us) (hb : s.heap.IsTuple b vs) (hu : A.units < cLine) (hx : Lx A.in1 s (decide (us.size < vs.size)) (us.toList.zip vs.toList) c) :
    Ob.RcOp .Lt A s (.ref l) (.ref b) c := by
  intro prog w E Q h
  obtain ⟨⟨k1, dl, da, sl⟩, ho, hc, n, hd⟩ := hl
  obtain ⟨⟨k2, db, da2, sb⟩, ho2, hc2, m, hd2⟩ := hb
  simp only at hc hd hc2 hd2
  subst hc hd hc2 hd2
  exact richCompare_meets_room (op := .Lt) ⟨_, ho, rfl⟩ ⟨_, ho2, rfl⟩ F.slot_tuple_lt F.entry_tuple_lt (F.args_tuple_lt_2 _ _) (lt_meets l b us vs n m dl db sl sb) ⟨ho, ho2, c, hx, ⟨(fun z => nomatch z), h⟩⟩ hu
end
mutual
/-- less, of data -/
def ltD : PyData → PyData → Bool
  | .int a, .int b => decide (a < b)
  | .str x, .str y => decide (x.cps.toList < y.cps.toList)
  | .tuple xs, .tuple ys => ltDs xs ys
  | _, _ => false
def ltDs : List PyData → List PyData → Bool
  | [], [] => false
  | [], _ :: _ => true
  | _ :: _, [] => false
  | x :: xs, y :: ys => if PyData.eqv x y then ltDs xs ys else ltD x y
end
mutual
/-- may be compared by less -/
def ordD : PyData → PyData → Bool
  | .int _, .int _ => true
  | .str _, .str _ => true
  | .tuple xs, .tuple ys => ordDs xs ys
  | _, _ => false
def ordDs : List PyData → List PyData → Bool
  | [], _ => true
  | _ :: _, [] => true
  | x :: xs, y :: ys => if PyData.eqv x y then ordDs xs ys else ordD x y
end
theorem reads_len {h : Heap} : ∀ {ds : List PyData} {us : List Value} {as : List Addr}, ReadsAll h us ds as → us.length = ds.length
  | [], _, _, r => by cases r; rfl
  | _ :: ds, _, _, r => by
    cases r with
    | cons r1 r2 => exact congrArg (· + 1) (reads_len r2)
theorem lt_list {n : Nat} (IH : ∀ (d e : PyData) (A : Around) (s : Shared) (u v : Value) (as bs : List Addr), d.depth ≤ n → Reads s.heap u d as → Reads s.heap v e bs → d.canLay0 = true → e.canLay0 = true → ordD d e = true →
    A.units + d.depth < cLine → Ob.RcOp .Lt A s u v (ltD d e)) (A : Around) (s : Shared) : ∀ (xs ys : List PyData) (us vs : List Value) (as bs : List Addr), PyData.depthAll xs ≤ n → ReadsAll s.heap us xs as → ReadsAll s.heap vs ys bs →
    PyData.canLayAll0 xs = true → PyData.canLayAll0 ys = true → ordDs xs ys = true → A.units + PyData.depthAll xs < cLine → Lx A s (decide (xs.length < ys.length)) (us.zip vs) (ltDs xs ys) := by
  intro xs
  induction xs with
  | nil =>
    intro ys us vs as bs hn r1 r2 c1 c2 ho hu
    cases r1
    cases ys with
    | nil => exact .nil
    | cons y ys =>
      rw [show decide (([] : List PyData).length < (y :: ys).length) = true from decide_eq_true (Nat.zero_lt_succ _)]
      show Lx A s true [] true
      exact .nil
  | cons x xs ih =>
    intro ys us vs as bs hn r1 r2 c1 c2 ho hu
    cases ys with
    | nil =>
      cases r2
      rw [show decide ((x :: xs).length < ([] : List PyData).length) = false from decide_eq_false (Nat.not_lt_zero _), List.zip_nil_right]
      exact .nil
    | cons y ys =>
      have a1 : x.canLay0 = true ∧ PyData.canLayAll0 xs = true := by simpa [PyData.canLayAll0] using c1
      have a2 : y.canLay0 = true ∧ PyData.canLayAll0 ys = true := by simpa [PyData.canLayAll0] using c2
      have hd : A.units + max x.depth (PyData.depthAll xs) < cLine := hu
      have hn' : max x.depth (PyData.depthAll xs) ≤ n := hn
      rw [show decide ((x :: xs).length < (y :: ys).length) = decide (xs.length < ys.length) by simp]
      cases r1 with
      | cons p1 q1 =>
        cases r2 with
        | cons p2 q2 =>
          have he := PySem.SeqAt.eqAt_reads x y A s _ _ _ _ p1 p2 a1.1 a2.1 (by omega)
          by_cases c : PyData.eqv x y = true
          · have o : ordDs xs ys = true := by rw [ordDs, if_pos c] at ho; exact ho
            rw [show ltDs (x :: xs) (y :: ys) = ltDs xs ys by rw [ltDs, if_pos c]]
            rw [c] at he
            exact .eq he (ih ys _ _ _ _ (by omega) q1 q2 a1.2 a2.2 o (by omega))
          · have o : ordD x y = true := by rw [ordDs, if_neg c] at ho; exact ho
            rw [show ltDs (x :: xs) (y :: ys) = ltD x y by rw [ltDs, if_neg c]]
            rw [Bool.not_eq_true] at c
            rw [c] at he
            exact .lt he (IH x y A s _ _ _ _ (by omega) p1 p2 a1.1 a2.1 o (by omega))
theorem lt_reads : ∀ (n : Nat) (d e : PyData) (A : Around) (s : Shared) (u v : Value) (as bs : List Addr), d.depth ≤ n → Reads s.heap u d as → Reads s.heap v e bs → d.canLay0 = true → e.canLay0 = true → ordD d e = true →
    A.units + d.depth < cLine → Ob.RcOp .Lt A s u v (ltD d e) := by
  intro n
  induction n with
  | zero =>
    intro d e A s u v as bs hn r1 r2 c1 c2 ho hu
    cases r1 with
    | int a t =>
      cases r2 with
      | int b t' => rw [ltD]; exact Ob.RcOp.lt_int _ _ _ _
      | _ => simp [ordD] at ho
    | str a t =>
      cases r2 with
      | str b t' => rw [ltD]; exact fun prog w E Q h => lt_str h
      | _ => simp [ordD] at ho
    | tuple => simp [PyData.depth] at hn
    | _ => simp [ordD] at ho
  | succ n ih =>
    intro d e A s u v as bs hn r1 r2 c1 c2 ho hu
    cases r1 with
    | int a t =>
      cases r2 with
      | int b t' => rw [ltD]; exact Ob.RcOp.lt_int _ _ _ _
      | _ => simp [ordD] at ho
    | str a t =>
      cases r2 with
      | str b t' => rw [ltD]; exact fun prog w E Q h => lt_str h
      | _ => simp [ordD] at ho
    | tuple h1 h2 h3 h4 =>
      cases r2 with
      | tuple k1 k2 k3 k4 =>
        rename_i xs _ _ _ _ _ ys
        simp only [PyData.depth] at hn hu
        have l1 := reads_len h4
        have l2 := reads_len k4
        rw [ltD]
        refine lt_tuples ⟨_, h1, h2, _, h3⟩ ⟨_, k1, k2, _, k3⟩ (by omega) ?_
        rw [← Array.length_toList, ← Array.length_toList, l1, l2]
        exact lt_list ih A.in1 s _ _ _ _ _ _ (by omega) h4 k4 (by simpa [PyData.canLay0] using c1) (by simpa [PyData.canLay0] using c2) (by simpa [ordD] using ho) (by show A.units + 1 + _ < _; omega)
      | _ => simp [ordD] at ho
    | _ => simp [ordD] at ho
def rLtD (K : PySem.W.Frag) : R2 := fun x y H Q => ∃ d e, Dp K H x d ∧ Dp K H y e ∧ d.canLay0 = true ∧ e.canLay0 = true ∧ ordD d e = true ∧ d.depth ≤ 60 ∧ Q (.bl (ltD d e)) H
theorem op_ltD {X : Cx} (hu : X.A.units + 64 < cLine) : OpR X (compareOp .Lt) (rLtD X.K) := by
  intro pins s σ H x y v u Q I rx ry h
  obtain ⟨d, e, hd, he, c1, c2, o, dp, q⟩ := h
  obtain ⟨as, r1⟩ := Dp.reads I d x v hd rx
  obtain ⟨bs, r2⟩ := Dp.reads I e y u he ry
  exact lt_reads _ d e X.A s v u as bs (Nat.le_refl _) r1 r2 c1 c2 o (by omega) X.prog X.w _ _ ⟨.bl _, H, I, rfl, q⟩
section
variable {K : PySem.W.Frag}
mutual
theorem ex_dp {H H' : Hp} (e : Ex H H') : ∀ {v : V} {d : PyData}, Dp K H v d → Dp K H' v d
  | _, _, .non => .non
  | _, _, .bl b => .bl b
  | _, _, .int i => .int i
  | _, _, .str x => .str x
  | _, _, .lst h a => .lst (ex_l e h) (ex_dps e a)
  | _, _, .tup h a => .tup (ex_t e h) (ex_dps e a)
theorem ex_dps {H H' : Hp} (e : Ex H H') : ∀ {vs : List V} {ds : List PyData}, DpAll K H vs ds → DpAll K H' vs ds
  | _, _, .nil => .nil
  | _, _, .cons h t => .cons (ex_dp e h) (ex_dps e t)
end
def EvD (K : PySem.W.Frag) (te : TE) (σ : L2.St) (H : Hp) (d : PyData) : Prop := ∀ H1, Ex H H1 → ∀ Q : VK, (∀ v H2, Ex H1 H2 → Dp K H2 v d → Q v H2) → te σ H1 Q
/-- a new list, a new tuple of data -/
def EvLD (K : PySem.W.Frag) (te : TE) (σ : L2.St) (H : Hp) (ds : List PyData) : Prop := ∀ H1, Ex H H1 → ∀ Q : VK, (∀ p H2 ys, H1 p = none → Ex H1 H2 → H2 p = some (.lst ys) → DpAll K H2 ys ds → Q (.ref p) H2) → te σ H1 Q
def EvUD (K : PySem.W.Frag) (te : TE) (σ : L2.St) (H : Hp) (ds : List PyData) : Prop := ∀ H1, Ex H H1 → ∀ Q : VK, (∀ p H2 ys, H1 p = none → Ex H1 H2 → H2 p = some (.tup ys) → DpAll K H2 ys ds → Q (.ref p) H2) → te σ H1 Q
variable {σ : L2.St} {H H' : Hp} {ta tb te : TE} {tr : TA} {x y z v : V} {d e : PyData} {ds es : List PyData}
theorem ed_tupU (h : EvUD K te σ H ds) : EvD K te σ H (.tuple ds) := fun H1 e Q q => h H1 e _ fun p H2 ys _ e2 h2 hd => q _ H2 e2 (.tup (st_of h2) hd)
theorem ed_lst (h : EvLD K te σ H ds) : EvD K te σ H (.list ds) := fun H1 e Q q => h H1 e _ fun p H2 ys _ e2 h2 hd => q _ H2 e2 (.lst (sq_of h2) hd)
theorem dps_len : ∀ {vs : List V} {ds : List PyData} {H : Hp}, DpAll K H vs ds → vs.length = ds.length
  | _, _, _, .nil => rfl
  | _, _, _, .cons _ t => congrArg (· + 1) (dps_len t)
/-- == , != , < of data -/
theorem ev_eqD (ha : EvD K ta σ H d) (hb : EvD K tb σ H e) (s1 : SeqAt.shaped d = true) (s2 : SeqAt.shaped e = true) : Ev (tOp (rEqD K) ta tb) σ H (.bl (PyData.eqv d e)) := fun H1 ex Q q =>
  ha H1 ex _ fun x H2 e2 h2 => hb H2 (ex.trans e2) _ fun y H3 e3 h3 => ⟨d, e, ex_dp e3 h2, h3, s1, s2, q H3 (e2.trans e3)⟩
theorem ev_neD (ha : EvD K ta σ H d) (hb : EvD K tb σ H e) (s1 : SeqAt.shaped d = true) (s2 : SeqAt.shaped e = true) : Ev (tOp (rNeD K) ta tb) σ H (.bl (!PyData.eqv d e)) := fun H1 ex Q q =>
  ha H1 ex _ fun x H2 e2 h2 => hb H2 (ex.trans e2) _ fun y H3 e3 h3 => ⟨d, e, ex_dp e3 h2, h3, s1, s2, q H3 (e2.trans e3)⟩
theorem ev_ltD (ha : EvD K ta σ H d) (hb : EvD K tb σ H e) (s1 : SeqAt.shaped d = true) (s2 : SeqAt.shaped e = true) (o : ordD d e = true) (dp : d.depth ≤ 60) : Ev (tOp (rLtD K) ta tb) σ H (.bl (ltD d e)) := fun H1 ex Q q =>
  ha H1 ex _ fun x H2 e2 h2 => hb H2 (ex.trans e2) _ fun y H3 e3 h3 => ⟨d, e, ex_dp e3 h2, h3, SeqAt.canLay_of_shaped s1, SeqAt.canLay_of_shaped s2, o, dp, q H3 (e2.trans e3)⟩
mutual
/-- no list within -/
def noL : PyData → Bool
  | .list _ => false
  | .tuple xs => noLs xs
  | .dict _ => false
  | .none | .bool _ | .int _ | .str _ => true
def noLs : List PyData → Bool
  | [] => true
  | x :: xs => noL x && noLs xs
end
mutual
theorem dp_upd {H : Hp} {D : Addr} {ys zs : List V} (hD : H D = some (.lst ys)) : ∀ {v : V} {d : PyData}, noL d = true → Dp K H v d → Dp K (upd H D (.lst zs)) v d
  | _, _, _, .non => .non
  | _, _, _, .bl b => .bl b
  | _, _, _, .int i => .int i
  | _, _, _, .str x => .str x
  | _, _, n, .lst h a => by simp [noL] at n
  | _, _, n, .tup h a => by
    refine .tup ?_ (dps_upd hD (by simpa [noL] using n) a)
    rcases h with (h | ⟨o, h⟩) | h
    · exact .inl (.inl (by rw [upd_ne (by intro z; rw [z, hD] at h; cases h)]; exact h))
    · exact .inl (.inr ⟨o, by rw [upd_ne (by intro z; rw [z, hD] at h; cases h)]; exact h⟩)
    · exact .inr h
theorem dps_upd {H : Hp} {D : Addr} {ys zs : List V} (hD : H D = some (.lst ys)) : ∀ {vs : List V} {ds : List PyData}, noLs ds = true → DpAll K H vs ds → DpAll K (upd H D (.lst zs)) vs ds
  | _, _, _, .nil => .nil
  | _, _, n, .cons h t => by
    have n' : (noL _ && noLs _) = true := n
    rw [Bool.and_eq_true] at n'
    exact .cons (dp_upd hD n'.1 h) (dps_upd hD n'.2 t)
end
theorem noLs_map {f : Nat → PyData} (h : ∀ i, noL (f i) = true) : ∀ l : List Nat, noLs (l.map f) = true
  | [] => rfl
  | i :: l => by
    show (noL (f i) && noLs (l.map f)) = true
    rw [h i, noLs_map h l]
    rfl
/-- [f(x) for x in xs] -/
theorem dps_snoc : ∀ {vs : List V} {ds : List PyData} {H : Hp} {v : V} {d : PyData}, DpAll K H vs ds → Dp K H v d → DpAll K H (vs ++ [v]) (ds ++ [d])
  | _, _, _, _, _, .nil, h => .cons h .nil
  | _, _, _, _, _, .cons a t, h => .cons a (dps_snoc t h)
theorem ld_lcL {a : Addr} {xs : List V} {tl : TE} {j : Nat} {vs : List Nat} (f : Nat → PyData) (h : Ev tl σ H (.ref a)) (hx : SqL K H a xs) (hz : xs.length ≤ 40000) (hn : ∀ i, noL (f i) = true) (hw : ∀ x, wipe ((wipe σ vs).set j (some x)) vs = wipe σ vs)
    (he : ∀ (i : Nat) (x : V) H1, Ex H H1 → xs[i]? = some x → EvD K te ((wipe σ vs).set j (some x)) H1 (f i)) :
    EvLD K (tLc (iList K tl) (gName j) tYes te vs) σ H ((List.range xs.length).map f) := fun H0 e0 Q q => h H0 e0 _ fun H1 e1 => ⟨a, rfl, ⟨xs, ex_l (e0.trans e1) hx⟩, fun D hD =>
  lc_list (xs := xs) (fun i H' => H1 D = none ∧ Ex H1 H' ∧ ∃ ys, H' D = some (.lst ys) ∧ DpAll K H' ys ((List.range i).map f)) ⟨hD, Ex.new hD, [], upd_same, .nil⟩ (fun i H' _ p => ex_l ((e0.trans e1).trans p.2.1) hx)
    (fun i x H' hi p => by
      obtain ⟨p1, p2, ys, p3, p4⟩ := p
      refine ⟨hw x, ?_⟩
      show te ((wipe σ vs).set j (some x)) H' fun y H4 => ∃ acc, H4 D = some (.lst acc) ∧ acc.length < sizeLine ∧ _
      refine he i x H' ((e0.trans e1).trans p2) hi H' (Ex.refl H') _ fun y H4 e4 hy => ⟨ys, e4 _ _ p3, sz_lt ?_, p1, Ex.mut (p2.trans e4) p1, ys ++ [y], upd_same, ?_⟩
      · have := dps_len p4
        rw [List.length_map, List.length_range] at this
        have := (List.getElem?_eq_some_iff.mp hi).1
        omega
      · rw [List.range_succ, List.map_append]
        exact dps_snoc (dps_upd (e4 _ _ p3) (noLs_map hn _) (ex_dps e4 p4)) (dp_upd (e4 _ _ p3) (hn i) hy))
    (fun H' p => by
      obtain ⟨p1, p2, ys, p3, p4⟩ := p
      exact q D H' ys (fresh_back e1 p1) (e1.trans p2) p3 p4)⟩
end
def tCallH (P : Program) (w : World) (K : PySem.W.Frag) (mg : Str → Option Value) (base : Heap) (i k : Nat) (t : TA) : TE := fun σ H Q => ∃ f sp, σ[i]? = some (some (.ref f)) ∧ L2.Held P w K mg base k f sp ∧ t σ H fun vs H1 => sp vs H1 Q (fun _ _ _ => False)
theorem pe_callH {X : Cx} {x : Str} {p pos : Pos} {e : Expr} {es : List Expr} {t : TA} {i k : Nat} (hr : Room k X.A) (hN : X.N[i]? = some x) (hv : Vis X.env.scope x) (ha : PA X (e :: es) t)
    (hdb : (x == ("__debug__" : Str)) = false := by decide) (hcd : (x == ("__classdict__" : Str)) = false := by decide)
    (he : starEach (e :: es) X.env = (false, eval e X.env) :: starEach es X.env := by rfl) (hpl : (backTo pos (starEach es X.env)).any (·.1) = false := by rfl) : PE X (.Call (.Name x p) (e :: es) [] pos) (tCallH X.prog X.w X.K X.mg X.base i k t) := by
  refine ⟨fun pins s σ H Q I h => ?_⟩
  obtain ⟨f, sp, hs, hH, ht⟩ := h
  refine (L2.pe_callA (S := fun g => if g = f then some sp else none) (fun g sq z => ?_) hr hN hv ha hdb hcd he hpl).run pins s σ H Q I ⟨f, sp, hs, if_pos rfl, ht⟩
  by_cases e : g = f
  · rw [if_pos e] at z
    cases z
    rw [e]
    exact hH
  · rw [if_neg e] at z
    cases z
theorem held_of {P : Program} {w : World} {K : PySem.W.Frag} {mg : Str → Option Value} {base : Heap} {j k : Nat} {x : Str} {sp : Sp} {f : Addr} (c : C8.Cal P w K mg base j x sp []) (m : mg x = some (.ref f)) (h : j ≤ k) : L2.Held P w K mg base k f sp := by
  obtain ⟨f', fd, ps, ds, F, hm, kp, b, v⟩ := c.ex
  rw [m] at hm
  cases hm
  cases v
  exact ⟨fd, ps, F.mono h, kp, b⟩
/-- a def of two values that gives a value -/
def spBin (pre : V → V → Prop) (op : V → V → V) : Sp := fun vs H Q _ => ∃ x y : V, vs = [x, y] ∧ pre x y ∧ ∀ H', Ex H H' → Q (op x y) H'
theorem ec_held {P : Program} {w : World} {K : PySem.W.Frag} {mg : Str → Option Value} {base : Heap} {i k : Nat} {σ : L2.St} {H : Hp} {ta tb : TE} {f : Addr} {pre : V → V → Prop} {op : V → V → V} {x y : V} (hσ : σ[i]? = some (some (.ref f))) (h : L2.Held P w K mg base k f (spBin pre op)) (hp : pre x y) (ha : Ev ta σ H x) (hb : Ev tb σ H y) :
    Ev (tCallH P w K mg base i k (tCons ta (tCons tb tNil))) σ H (op x y) := fun H1 e Q q => ⟨f, _, hσ, h, ha H1 e _ fun H2 e2 => hb H2 (e.trans e2) _ fun H3 e3 => ⟨x, y, rfl, hp, fun H' e' => q H' ((e2.trans e3).trans e')⟩⟩
abbrev NK := PySem.NestedKey
mutual
inductive NKey (H : Hp) : NK → V → Prop where
  | non : NKey H .none .non
  | num (i : Int) : NKey H (.num i) (.int i)
  | text (x : Str) : NKey H (.text x) (.str x)
  | tup {a : Addr} {xs : List V} {ks : List NK} (h : H a = some (.tup xs)) (hs : NKeys H ks xs) : NKey H (.tup ks) (.ref a)
inductive NKeys (H : Hp) : List NK → List V → Prop where
  | nil : NKeys H [] []
  | cons {k : NK} {v : V} {ks : List NK} {vs : List V} (h : NKey H k v) (hs : NKeys H ks vs) : NKeys H (k :: ks) (v :: vs)
end
mutual
theorem NKey.mono {H H' : Hp} (t : ∀ b xs, H b = some (.tup xs) → H' b = some (.tup xs)) : ∀ {k : NK} {v : V}, NKey H k v → NKey H' k v
  | _, _, .non => .non
  | _, _, .num i => .num i
  | _, _, .text x => .text x
  | _, _, .tup h hs => .tup (t _ _ h) (NKeys.mono t hs)
theorem NKeys.mono {H H' : Hp} (t : ∀ b xs, H b = some (.tup xs) → H' b = some (.tup xs)) : ∀ {ks : List NK} {vs : List V}, NKeys H ks vs → NKeys H' ks vs
  | _, _, .nil => .nil
  | _, _, .cons h hs => .cons (NKey.mono t h) (NKeys.mono t hs)
end
theorem NKey.ex {H H' : Hp} {k : NK} {v : V} (h : NKey H k v) (e : Ex H H') : NKey H' k v := h.mono fun b xs q => e b _ q
mutual
theorem NKey.is {P : Program} {w : World} {H : Hp} {h : Heap} (ok : HOk P w H h) : ∀ {k : NK} {v : V} {u : Value}, NKey H k v → RelV v u → PySem.NestedIs h k u
  | _, _, u, .non, r => by cases (show u = Value.none from r); exact .none
  | _, _, u, .num i, r => by obtain ⟨t, rfl⟩ := (show ∃ t, u = Value.int i t from r); exact .int i t
  | _, _, u, .text x, r => by obtain ⟨t, rfl⟩ := (show ∃ t, u = Value.str x t from r); exact .text x t
  | _, _, u, .tup (a := a) e hs, r => by
    cases (show u = Value.ref a from r)
    obtain ⟨_, its, rr, o, h1, h2, n, h3⟩ := (show ObjOk P w H h a (.tup _) from ok a _ e)
    exact .tup h1 h2 h3 (by simpa using NKeys.is ok hs rr)
theorem NKeys.is {P : Program} {w : World} {H : Hp} {h : Heap} (ok : HOk P w H h) : ∀ {ks : List NK} {vs : List V} {us : List Value}, NKeys H ks vs → Vals vs us → PySem.NestedAll h ks us
  | _, _, _, .nil, r => by cases r; exact .nil
  | _, _, _, .cons k ks, r => by
    cases r with
    | cons r1 r2 => exact .cons (NKey.is ok k r1) (NKeys.is ok ks r2)
end
def nkd (P : Program) (w : World) : PySem.HeapKind P w NK := PySem.nestedKind P w
def NObj (P : Program) (w : World) (d : Addr) (xs : List (NK × Addr × Value)) : HO := .ext fun h => (d == sysModules) = false ∧ ∃ o es ep, h.get? d = some o ∧ o.ExactDict ∧ o.data = .dict es ep ∧ es.toList = xs.map (entryOfKey (nkd P w)) ∧ (xs.map (·.1)).Nodup
/-- at d stands a dict with the keys and values kvs, in the order of insertion -/
def NDict (P : Program) (w : World) (H : Hp) (d : Addr) (kvs : List (NK × V)) : Prop :=
  ∃ xs : List (NK × Addr × Value), H d = some (NObj P w d xs) ∧ (∀ x ∈ xs, NKey H x.1 (.ref x.2.1) ∧ x.1.depth ≤ 8) ∧ KV kvs (PySem.pairsH xs) ∧ kvs.length ≤ sizeLine
theorem NDict.ex {P : Program} {w : World} {H H' : Hp} {d : Addr} {kvs : List (NK × V)} (h : NDict P w H d kvs) (e : Ex H H') : NDict P w H' d kvs := by
  obtain ⟨xs, h1, h2, h3⟩ := h
  exact ⟨xs, e _ _ h1, fun x hx => ⟨(h2 x hx).1.ex e, (h2 x hx).2⟩, h3⟩
theorem NDict.upd {P : Program} {w : World} {H : Hp} {d p : Addr} {o u : HO} {kvs : List (NK × V)} (h : NDict P w H d kvs) (hp : H p = some u) (hu : ∀ xs, u ≠ .tup xs) (hd : d ≠ p) : NDict P w (upd H p o) d kvs := by
  obtain ⟨xs, h1, h2, h3⟩ := h
  refine ⟨xs, by rw [upd_ne hd]; exact h1, fun x hx => ⟨(h2 x hx).1.mono fun b ys q => ?_, (h2 x hx).2⟩, h3⟩
  rw [upd_ne fun z => ?_]
  · exact q
  · rw [z, hp] at q
    exact hu _ (Option.some.inj q)
theorem NDict.some {P : Program} {w : World} {H : Hp} {d : Addr} {kvs : List (NK × V)} (h : NDict P w H d kvs) : ∃ o, H d = some o := by
  obtain ⟨xs, h1, _⟩ := h
  exact ⟨_, h1⟩
section
variable {P : Program} {w : World} {H : Hp} {h : Heap} {d : Addr} {kvs : List (NK × V)}
theorem NDict.of (ok : HOk P w H h) (e : NDict P w H d kvs) : (d == sysModules) = false ∧ ∃ xs, H d = Option.some (NObj P w d xs) ∧ (∀ x ∈ xs, NKey H x.1 (.ref x.2.1) ∧ x.1.depth ≤ 8) ∧ KV kvs (PySem.pairsH xs) ∧ kvs.length ≤ sizeLine ∧ h.DictOfH (nkd P w) d xs := by
  obtain ⟨xs, h1, h2, h3, h4⟩ := e
  obtain ⟨⟨q1, o, es, ep, q2, q3, q4, q5, q6⟩, _⟩ := (show ObjOk P w H h d (NObj P w d xs) from ok d _ h1)
  exact ⟨q1, xs, h1, h2, h3, h4, o, es, ep, q2, q3, q4, q5, fun x hx => ⟨NKey.is ok (h2 x hx).1 (show RelV (.ref x.2.1) (.ref x.2.1) from rfl), (h2 x hx).2⟩, q6⟩
end
def limV (n : Int) : V := if -1000000000000000 ≤ n ∧ n ≤ 1000000000000000 then .int n else .non
def topS (i : Nat) : Stmt := PySem.Challenge.pw_stylobate_k56_sorting_with_any_memory.main.body.getD i (.Pass ⟨0, 0, 0, 0⟩)
abbrev s_kind_rank : Stmt := topS 1
abbrev n_kind_rank : List Str := ["value"]
theorem sc_kind_rank : FnScope n_kind_rank ["value"] (C8.fnScope s_kind_rank) := C8.fnScope_by (by decide +kernel)
abbrev s_is_integer : Stmt := topS 2
abbrev n_is_integer : List Str := ["value"]
theorem sc_is_integer : FnScope n_is_integer ["value"] (C8.fnScope s_is_integer) := C8.fnScope_by (by decide +kernel)
abbrev s_rank : Stmt := topS 3
abbrev n_rank : List Str := ["value", "kind"]
theorem sc_rank : FnScope n_rank ["value"] (C8.fnScope s_rank) := C8.fnScope_by (by decide +kernel)
abbrev s_row_rank : Stmt := topS 4
abbrev n_row_rank : List Str := ["row", "value"]
theorem sc_row_rank : FnScope n_row_rank ["row"] (C8.fnScope s_row_rank) := C8.fnScope_by (by decide +kernel)
abbrev s_same : Stmt := topS 5
abbrev n_same : List Str := ["first", "second"]
theorem sc_same : FnScope n_same ["first", "second"] (C8.fnScope s_same) := C8.fnScope_by (by decide +kernel)
abbrev s_before : Stmt := topS 6
abbrev n_before : List Str := ["first", "second"]
theorem sc_before : FnScope n_before ["first", "second"] (C8.fnScope s_before) := C8.fnScope_by (by decide +kernel)
abbrev s_limited : Stmt := topS 36
abbrev n_limited : List Str := ["number"]
theorem sc_limited : FnScope n_limited ["number"] (C8.fnScope s_limited) := C8.fnScope_by (by decide +kernel)
abbrev s_negated : Stmt := topS 45
abbrev n_negated : List Str := ["value"]
theorem sc_negated : FnScope n_negated ["value"] (C8.fnScope s_negated) := C8.fnScope_by (by decide +kernel)
abbrev s_both : Stmt := topS 46
abbrev n_both : List Str := ["first", "second"]
theorem sc_both : FnScope n_both ["first", "second"] (C8.fnScope s_both) := C8.fnScope_by (by decide +kernel)
abbrev s_either : Stmt := topS 47
abbrev n_either : List Str := ["first", "second"]
theorem sc_either : FnScope n_either ["first", "second"] (C8.fnScope s_either) := C8.fnScope_by (by decide +kernel)
abbrev s__negate : Stmt := topS 49
abbrev n__negate : List Str := ["number"]
theorem sc__negate : FnScope n__negate ["number"] (C8.fnScope s__negate) := C8.fnScope_by (by decide +kernel)
abbrev s__length : Stmt := topS 59
abbrev n__length : List Str := ["text"]
theorem sc__length : FnScope n__length ["text"] (C8.fnScope s__length) := C8.fnScope_by (by decide +kernel)
abbrev s_value_of_one : Stmt := topS 75
abbrev n_value_of_one : List Str := ["name", "value", "action"]
theorem sc_value_of_one : FnScope n_value_of_one ["name", "value"] (C8.fnScope s_value_of_one) := C8.fnScope_by (by decide +kernel)
abbrev s__both : Stmt := topS 84
abbrev n__both : List Str := ["first", "second"]
theorem sc__both : FnScope n__both ["first", "second"] (C8.fnScope s__both) := C8.fnScope_by (by decide +kernel)
abbrev s__either : Stmt := topS 85
abbrev n__either : List Str := ["first", "second"]
theorem sc__either : FnScope n__either ["first", "second"] (C8.fnScope s__either) := C8.fnScope_by (by decide +kernel)
abbrev s__same : Stmt := topS 86
abbrev n__same : List Str := ["first", "second"]
theorem sc__same : FnScope n__same ["first", "second"] (C8.fnScope s__same) := C8.fnScope_by (by decide +kernel)
abbrev s__first_known : Stmt := topS 87
abbrev n__first_known : List Str := ["first", "second"]
theorem sc__first_known : FnScope n__first_known ["first", "second"] (C8.fnScope s__first_known) := C8.fnScope_by (by decide +kernel)
abbrev s__equal : Stmt := topS 88
abbrev n__equal : List Str := ["first", "second"]
theorem sc__equal : FnScope n__equal ["first", "second"] (C8.fnScope s__equal) := C8.fnScope_by (by decide +kernel)
abbrev s__less : Stmt := topS 89
abbrev n__less : List Str := ["first", "second"]
theorem sc__less : FnScope n__less ["first", "second"] (C8.fnScope s__less) := C8.fnScope_by (by decide +kernel)
abbrev s__at_most : Stmt := topS 90
abbrev n__at_most : List Str := ["first", "second"]
theorem sc__at_most : FnScope n__at_most ["first", "second"] (C8.fnScope s__at_most) := C8.fnScope_by (by decide +kernel)
abbrev s__least : Stmt := topS 91
abbrev n__least : List Str := ["first", "second"]
theorem sc__least : FnScope n__least ["first", "second"] (C8.fnScope s__least) := C8.fnScope_by (by decide +kernel)
abbrev s__add : Stmt := topS 93
abbrev n__add : List Str := ["first", "second"]
theorem sc__add : FnScope n__add ["first", "second"] (C8.fnScope s__add) := C8.fnScope_by (by decide +kernel)
abbrev s__join : Stmt := topS 100
abbrev n__join : List Str := ["first", "second"]
theorem sc__join : FnScope n__join ["first", "second"] (C8.fnScope s__join) := C8.fnScope_by (by decide +kernel)
abbrev s__are_alike : Stmt := topS 110
abbrev n__are_alike : List Str := ["first", "second"]
theorem sc__are_alike : FnScope n__are_alike ["first", "second"] (C8.fnScope s__are_alike) := C8.fnScope_by (by decide +kernel)
abbrev s_value_of_two : Stmt := topS 111
abbrev n_value_of_two : List Str := ["name", "first", "second", "action"]
theorem sc_value_of_two : FnScope n_value_of_two ["name", "first", "second"] (C8.fnScope s_value_of_two) := C8.fnScope_by (by decide +kernel)
abbrev s_unary : Stmt := topS 113
abbrev n_unary : List Str := ["name", "value"]
theorem sc_unary : FnScope n_unary ["name", "value"] (C8.fnScope s_unary) := C8.fnScope_by (by decide +kernel)
abbrev s_binary : Stmt := topS 114
abbrev n_binary : List Str := ["name", "first", "second"]
theorem sc_binary : FnScope n_binary ["name", "first", "second"] (C8.fnScope s_binary) := C8.fnScope_by (by decide +kernel)
abbrev s_evaluate : Stmt := topS 117
abbrev n_evaluate : List Str := ["expression", "row", "form", "number", "chosen", "first", "second", "third"]
theorem sc_evaluate : FnScope n_evaluate ["expression", "row"] (C8.fnScope s_evaluate) := C8.fnScope_by (by decide +kernel)
abbrev s__sorted_by : Stmt := topS 119
abbrev n__sorted_by : List Str := ["rows", "key", "expression", "descending", "ranked", "row", "_"]
theorem sc__sorted_by : FnScope n__sorted_by ["rows", "key"] (C8.fnScope s__sorted_by) := C8.fnScope_by (by decide +kernel)
abbrev s_sorted_rows : Stmt := topS 120
abbrev n_sorted_rows : List Str := ["rows", "keys", "ranked", "found", "at", "_", "row"]
theorem sc_sorted_rows : FnScope n_sorted_rows ["rows", "keys"] (C8.fnScope s_sorted_rows) := C8.fnScope_by (by decide +kernel)
abbrev s_cut_rows : Stmt := topS 121
abbrev n_cut_rows : List Str := ["rows", "skip", "count", "behind", "row"]
theorem sc_cut_rows : FnScope n_cut_rows ["rows", "skip", "count"] (C8.fnScope s_cut_rows) := C8.fnScope_by (by decide +kernel)
abbrev s__ranked : Stmt := topS 123
abbrev n__ranked : List Str := ["row", "keys", "expression", "_"]
theorem sc__ranked : FnScope n__ranked ["row", "keys"] (C8.fnScope s__ranked) := C8.fnScope_by (by decide +kernel)
abbrev s__is_behind : Stmt := topS 124
abbrev n__is_behind : List Str := ["first", "second", "keys", "at", "_", "descending"]
theorem sc__is_behind : FnScope n__is_behind ["first", "second", "keys"] (C8.fnScope s__is_behind) := C8.fnScope_by (by decide +kernel)
abbrev s__merged : Stmt := topS 125
abbrev n__merged : List Str := ["one", "other", "keys", "found", "at", "ranked"]
theorem sc__merged : FnScope n__merged ["one", "other", "keys"] (C8.fnScope s__merged) := C8.fnScope_by (by decide +kernel)
abbrev s_merge_runs : Stmt := topS 126
abbrev n_merge_runs : List Str := ["runs", "keys", "waiting", "pairs", "run", "_", "row", "at", "pair"]
theorem sc_merge_runs : FnScope n_merge_runs ["runs", "keys"] (C8.fnScope s_merge_runs) := C8.fnScope_by (by decide +kernel)
abbrev s_sort_rows : Stmt := topS 127
abbrev n_sort_rows : List Str := ["rows", "keys", "memory", "runs", "at"]
theorem sc_sort_rows : FnScope n_sort_rows ["rows", "keys", "memory"] (C8.fnScope s_sort_rows) := C8.fnScope_by (by decide +kernel)
abbrev s_sort_written : Stmt := topS 128
abbrev n_sort_written : List Str := ["rows", "memory"]
theorem sc_sort_written : FnScope n_sort_written ["rows", "memory"] (C8.fnScope s_sort_written) := C8.fnScope_by (by decide +kernel)
abbrev s__place_of : Stmt := topS 129
abbrev n__place_of : List Str := ["ranked", "kept", "keys", "low", "high", "middle"]
theorem sc__place_of : FnScope n__place_of ["ranked", "kept", "keys"] (C8.fnScope s__place_of) := C8.fnScope_by (by decide +kernel)
abbrev s__first_rows : Stmt := topS 130
abbrev n__first_rows : List Str := ["rows", "keys", "many", "kept", "row", "ranked", "place", "_"]
theorem sc__first_rows : FnScope n__first_rows ["rows", "keys", "many"] (C8.fnScope s__first_rows) := C8.fnScope_by (by decide +kernel)
abbrev s__is_kept : Stmt := topS 131
abbrev n__is_kept : List Str := ["skip", "count", "memory"]
theorem sc__is_kept : FnScope n__is_kept ["skip", "count", "memory"] (C8.fnScope s__is_kept) := C8.fnScope_by (by decide +kernel)
abbrev s_top_rows : Stmt := topS 132
abbrev n_top_rows : List Str := ["rows", "keys", "skip", "count", "memory"]
theorem sc_top_rows : FnScope n_top_rows ["rows", "keys", "skip", "count", "memory"] (C8.fnScope s_top_rows) := C8.fnScope_by (by decide +kernel)
abbrev s_top_written : Stmt := topS 133
abbrev n_top_written : List Str := ["rows", "skip", "count", "memory"]
theorem sc_top_written : FnScope n_top_written ["rows", "skip", "count", "memory"] (C8.fnScope s_top_written) := C8.fnScope_by (by decide +kernel)
abbrev s__law_cell : Stmt := topS 135
abbrev n__law_cell : List Str := ["script", "k"]
theorem sc__law_cell : FnScope n__law_cell ["script", "k"] (C8.fnScope s__law_cell) := C8.fnScope_by (by decide +kernel)
abbrev s__law_state : Stmt := topS 136
abbrev n__law_state : List Str := ["cell", "k", "prime", "first", "second", "third", "fourth"]
theorem sc__law_state : FnScope n__law_state ["cell", "k"] (C8.fnScope s__law_state) := C8.fnScope_by (by decide +kernel)
abbrev s__law_digit : Stmt := topS 137
abbrev n__law_digit : List Str := ["state", "many", "digit"]
theorem sc__law_digit : FnScope n__law_digit ["state", "many"] (C8.fnScope s__law_digit) := C8.fnScope_by (by decide +kernel)
abbrev s__law_is_integer : Stmt := topS 138
abbrev n__law_is_integer : List Str := ["told"]
theorem sc__law_is_integer : FnScope n__law_is_integer ["told"] (C8.fnScope s__law_is_integer) := C8.fnScope_by (by decide +kernel)
abbrev s__law_rank : Stmt := topS 139
abbrev n__law_rank : List Str := ["value"]
theorem sc__law_rank : FnScope n__law_rank ["value"] (C8.fnScope s__law_rank) := C8.fnScope_by (by decide +kernel)
abbrev s__law_ranks : Stmt := topS 140
abbrev n__law_ranks : List Str := ["row", "value"]
theorem sc__law_ranks : FnScope n__law_ranks ["row"] (C8.fnScope s__law_ranks) := C8.fnScope_by (by decide +kernel)
abbrev s__law_same_rows : Stmt := topS 141
abbrev n__law_same_rows : List Str := ["told", "due", "k"]
theorem sc__law_same_rows : FnScope n__law_same_rows ["told", "due"] (C8.fnScope s__law_same_rows) := C8.fnScope_by (by decide +kernel)
abbrev s__law_text : Stmt := topS 142
abbrev n__law_text : List Str := ["state", "signs", "k"]
theorem sc__law_text : FnScope n__law_text ["state"] (C8.fnScope s__law_text) := C8.fnScope_by (by decide +kernel)
abbrev s__law_value : Stmt := topS 143
abbrev n__law_value : List Str := ["state", "kind"]
theorem sc__law_value : FnScope n__law_value ["state"] (C8.fnScope s__law_value) := C8.fnScope_by (by decide +kernel)
abbrev s__law_rows : Stmt := topS 144
abbrev n__law_rows : List Str := ["script", "first", "most", "width", "rows", "k", "state", "row", "j"]
theorem sc__law_rows : FnScope n__law_rows ["script", "first", "most", "width"] (C8.fnScope s__law_rows) := C8.fnScope_by (by decide +kernel)
abbrev s__law_first : Stmt := topS 145
abbrev n__law_first : List Str := ["row", "other", "keys", "expression", "descending", "one", "two"]
theorem sc__law_first : FnScope n__law_first ["row", "other", "keys"] (C8.fnScope s__law_first) := C8.fnScope_by (by decide +kernel)
abbrev s__law_sorted : Stmt := topS 146
abbrev n__law_sorted : List Str := ["rows", "keys", "found", "row", "at"]
theorem sc__law_sorted : FnScope n__law_sorted ["rows", "keys"] (C8.fnScope s__law_sorted) := C8.fnScope_by (by decide +kernel)
abbrev s__law_keys : Stmt := topS 147
abbrev n__law_keys : List Str := ["state", "keys", "k", "expression"]
theorem sc__law_keys : FnScope n__law_keys ["state"] (C8.fnScope s__law_keys) := C8.fnScope_by (by decide +kernel)
abbrev s_law : Stmt := topS 148
abbrev n_law : List Str := ["script", "state", "rows", "keys", "memory", "due", "given", "written", "told", "runs", "k", "skip", "count", "cut", "few", "row", "at"]
theorem sc_law : FnScope n_law ["script"] (C8.fnScope s_law) := C8.fnScope_by (by decide +kernel)
def wo (p : Addr) (H : Hp) : Hp := fun a => if a = p then none else H a
theorem wo_self (p : Addr) (H : Hp) : wo p H p = none := if_pos rfl
theorem wo_ne {p a : Addr} {H : Hp} (h : a ≠ p) : wo p H a = H a := if_neg h
theorem wo_le (p : Addr) (H : Hp) : Ex (wo p H) H := fun a o h => by
  unfold wo at h
  split at h
  · cases h
  · exact h
theorem wx_of {p : Addr} {H H' : Hp} (e : Ex H H') : Ex (wo p H) H' := (wo_le p H).trans e
theorem wx_trans {p : Addr} {H1 H2 H3 : Hp} (a : Ex (wo p H1) H2) (b : Ex (wo p H2) H3) : Ex (wo p H1) H3 := fun x o h => b x o (by
  have hx : x ≠ p := fun z => by
    rw [z, wo_self] at h
    cases h
  rw [wo_ne hx]
  exact a x o h)
theorem wx_back {p : Addr} {H0 H1 H2 : Hp} (h : H0 p = none) (e : Ex H0 H1) (x : Ex (wo p H1) H2) : Ex H0 H2 := fun a o ha => x a o (by
  have hx : a ≠ p := fun z => by
    rw [z, h] at ha
    cases ha
  rw [wo_ne hx]
  exact e a o ha)
theorem wx_to {p : Addr} {H0 H1 : Hp} (h : H0 p = none) (e : Ex H0 H1) : Ex H0 (wo p H1) := wx_back h e (fun _ _ z => z)
def Dr (p : Addr) (H : Hp) : Prop := ∃ s : Int, 0 ≤ s ∧ H p = some (.lst [.int s])
theorem Dr.ex {p : Addr} {H H' : Hp} (d : Dr p H) (e : Ex H H') : Dr p H' := by
  obtain ⟨s, h0, h⟩ := d
  exact ⟨s, h0, e _ _ h⟩
/-- a value that is drawn: one of those with the word P -/
def EvD1 (te : TE) (σ : L2.St) (p : Addr) (H : Hp) (P : V → Prop) : Prop := ∀ H1, Ex (wo p H) H1 → Dr p H1 → ∀ Q : VK, (∀ v H2, P v → Ex (wo p H1) H2 → Dr p H2 → Q v H2) → te σ H1 Q
def EvDT (tt : TT) (σ : L2.St) (p : Addr) (H : Hp) (P : Bool → Prop) : Prop := ∀ H1, Ex (wo p H) H1 → Dr p H1 → ∀ Q : Bool → Hp → Prop, (∀ b H2, P b → Ex (wo p H1) H2 → Dr p H2 → Q b H2) → tt σ H1 Q
def ZP (P : Int → Prop) : V → Prop := fun v => ∃ i, v = .int i ∧ P i
/-- a value of which a word alone is known, all else as it was -/
def EvN (te : TE) (σ : L2.St) (H : Hp) (P : V → Prop) : Prop := ∀ H1, Ex H H1 → ∀ Q : VK, (∀ v H2, P v → Ex H1 H2 → Q v H2) → te σ H1 Q
/-- a new list to draw from -/
def EvC (te : TE) (σ : L2.St) (H : Hp) : Prop := ∀ H1, Ex H H1 → ∀ Q : VK, (∀ p H2, H1 p = none → Ex H1 H2 → Dr p H2 → Q (.ref p) H2) → te σ H1 Q
def sp__law_cell (K : PySem.W.Frag) : Sp := fun vs H Q _ => ∃ (a : Addr) (ns : List Int) (k : Int), vs = [.ref a, .int k] ∧ SqL K H a (ns.map V.int) ∧ 0 ≤ k ∧ ∀ H', Ex H H' → Q (.int (ns.getD k.toNat 0)) H'
def sp__law_state (K : PySem.W.Frag) : Sp := fun vs H Q _ => ∃ c k : Int, vs = [.int c, .int k] ∧ ∀ p H', H p = none → Ex H H' → Dr p H' → Q (.ref p) H'
def sp__law_digit (K : PySem.W.Frag) : Sp := fun vs H Q _ => ∃ (p : Addr) (m : Int), vs = [.ref p, .int m] ∧ Dr p H ∧ 0 < m ∧ m < 2 ^ 400 ∧ ∀ d H', 0 ≤ d → d < m → Ex (wo p H) H' → Dr p H' → Q (.int d) H'
section
variable {K : PySem.W.Frag} {σ : L2.St} {H H' : Hp} {p : Addr} {ta tb te tx : TE} {t u : TT} {x y z v : V} {r : R2} {P R S : V → Prop} {PI RI SI : Int → Prop} {D : Ends} {tz tu tw : TS} {E : XK}
theorem e1_pure (h : Ev te σ (wo p H) v) (hv : P v) : EvD1 te σ p H P := fun H1 e d Q q => h H1 e Q fun H2 e2 => q v H2 hv (wx_of e2) (d.ex e2)
theorem e1_int {i : Int} (h : Ev te σ (wo p H) (.int i)) (hv : PI i) : EvD1 te σ p H (ZP PI) := e1_pure h ⟨i, rfl, hv⟩
theorem e1_mono (h : EvD1 te σ p H P) (k : ∀ v, P v → R v) : EvD1 te σ p H R := fun H1 e d Q q => h H1 e d Q fun v H2 hv e2 d2 => q v H2 (k v hv) e2 d2
theorem ez_mono (h : EvD1 te σ p H (ZP PI)) (k : ∀ i, PI i → RI i) : EvD1 te σ p H (ZP RI) := e1_mono h fun v ⟨i, e, hi⟩ => ⟨i, e, k i hi⟩
theorem ez_op {C : Int → Int → Prop} {g : Int → Int → Int} (ha : EvD1 ta σ p H (ZP PI)) (hb : EvD1 tb σ p H (ZP RI)) (hc : ∀ i j, PI i → RI j → C i j ∧ SI (g i j)) : EvD1 (tOp (rI C fun i j => .int (g i j)) ta tb) σ p H (ZP SI) := fun H1 e d Q q =>
  ha H1 e d _ fun v H2 ⟨i, ev, hi⟩ e2 d2 => hb H2 (wx_trans e e2) d2 _ fun w H3 ⟨j, ew, hj⟩ e3 d3 => ⟨i, j, ev, ew, (hc i j hi hj).1, q _ H3 ⟨_, rfl, (hc i j hi hj).2⟩ (wx_trans e2 e3) d3⟩
theorem ez_op0 {g : Int → Int → Int} (ha : EvD1 ta σ p H (ZP PI)) (hb : EvD1 tb σ p H (ZP RI)) (hc : ∀ i j, PI i → RI j → SI (g i j)) : EvD1 (tOp (rI0 fun i j => .int (g i j)) ta tb) σ p H (ZP SI) := fun H1 e d Q q =>
  ha H1 e d _ fun v H2 ⟨i, ev, hi⟩ e2 d2 => hb H2 (wx_trans e e2) d2 _ fun w H3 ⟨j, ew, hj⟩ e3 d3 => ⟨i, j, ev, ew, q _ H3 ⟨_, rfl, hc i j hi hj⟩ (wx_trans e2 e3) d3⟩
theorem ez_cmp {g : Int → Int → Bool} (ha : EvD1 ta σ p H (ZP PI)) (hb : EvD1 tb σ p H (ZP RI)) : EvD1 (tOp (rI0 fun i j => .bl (g i j)) ta tb) σ p H (fun v => ∃ b, v = .bl b) := fun H1 e d Q q =>
  ha H1 e d _ fun v H2 ⟨i, ev, hi⟩ e2 d2 => hb H2 (wx_trans e e2) d2 _ fun w H3 ⟨j, ew, hj⟩ e3 d3 => ⟨i, j, ev, ew, q _ H3 ⟨_, rfl⟩ (wx_trans e2 e3) d3⟩
theorem ez_eq (ha : EvD1 ta σ p H (ZP PI)) (hb : EvD1 tb σ p H (ZP RI)) : EvD1 (tOp rEq ta tb) σ p H (fun v => ∃ b, v = .bl b) := fun H1 e d Q q =>
  ha H1 e d _ fun v H2 ⟨i, ev, hi⟩ e2 d2 => hb H2 (wx_trans e e2) d2 _ fun w H3 ⟨j, ew, hj⟩ e3 d3 => by
    subst ev ew
    exact ⟨rfl, q _ H3 ⟨_, rfl⟩ (wx_trans e2 e3) d3⟩
/-- _law_digit(state, m) -/
theorem ez_digit {m : Int} (ha : Ev ta σ (wo p H) (.ref p)) (hb : Ev tb σ (wo p H) (.int m)) (h0 : 0 < m) (h1 : m < 2 ^ 400) : EvD1 (tCall (sp__law_digit K) [] E (tCons ta (tCons tb tNil))) σ p H (ZP fun d => 0 ≤ d ∧ d < m) := fun H1 e d Q q =>
  ha H1 e _ fun H2 e2 => hb H2 (e.trans e2) _ fun H3 e3 => ⟨p, m, rfl, d.ex (e2.trans e3), h0, h1, fun d H4 a b e4 d4 => q _ H4 ⟨d, rfl, a, b⟩ (wx_trans (wx_of (e2.trans e3)) e4) d4⟩
theorem edt_test (h : EvD1 te σ p H (fun v => ∃ b, v = .bl b)) : EvDT (tTest te) σ p H (fun _ => True) := fun H1 e d Q q => h H1 e d _ fun v H2 ⟨b, ev⟩ e2 d2 => ⟨b, ev, q b H2 trivial e2 d2⟩
theorem q1_asg {i : Nat} (h : EvD1 te σ p H P) (d : Dr p H) (k : ∀ v H1, P v → Ex (wo p H) H1 → Dr p H1 → tz D (σ.set i (some v)) H1) : tSeq (tAsg te (gName i)) tz D σ H := h H (wo_le p H) d _ fun v H1 hv e1 d1 => k v H1 hv e1 d1
theorem qz_asg {i : Nat} (h : EvD1 te σ p H (ZP PI)) (d : Dr p H) (k : ∀ (n : Int) H1, PI n → Ex (wo p H) H1 → Dr p H1 → tz D (σ.set i (some (.int n))) H1) : tSeq (tAsg te (gName i)) tz D σ H := q1_asg h d fun v H1 ⟨n, ev, hn⟩ e1 d1 => by
  subst ev
  exact k n H1 hn e1 d1
theorem s1_ret (h : EvD1 te σ p H P) (d : Dr p H) (k : ∀ v H1, P v → Ex (wo p H) H1 → Dr p H1 → D.rt v H1) : tRet te D σ H := h H (wo_le p H) d _ fun v H1 hv e1 d1 => k v H1 hv e1 d1
/-- _law_cell(script, i), _law_state(cell, k) -/
theorem ec_cell {a : Addr} {ns : List Int} {k : Int} (ha : Ev ta σ H (.ref a)) (hb : Ev tb σ H (.int k)) (hS : SqL K H a (ns.map V.int)) (h0 : 0 ≤ k) : Ev (tCall (sp__law_cell K) [] E (tCons ta (tCons tb tNil))) σ H (.int (ns.getD k.toNat 0)) :=
  ev_call (ea_cons ha (ea_cons hb ea_nil)) fun H1 e Q q E => ⟨a, ns, k, rfl, ex_l e hS, h0, q⟩
theorem ec_state {c k : Int} (ha : Ev ta σ H (.int c)) (hb : Ev tb σ H (.int k)) : EvC (tCall (sp__law_state K) [] E (tCons ta (tCons tb tNil))) σ H := fun H1 e Q q =>
  ha H1 e _ fun H2 e2 => hb H2 (e.trans e2) _ fun H3 e3 => ⟨c, k, rfl, fun p H4 hp e4 d => q p H4 (fresh_back (e2.trans e3) hp) ((e2.trans e3).trans e4) d⟩
theorem q_asgC {i : Nat} (h : EvC te σ H) (k : ∀ p H1, H p = none → Ex H H1 → Dr p H1 → tz D (σ.set i (some (.ref p))) H1) : tSeq (tAsg te (gName i)) tz D σ H := h H (Ex.refl H) _ fun p H1 hp e d => k p H1 hp e d
theorem EvN.mono (e : Ex H H') (h : EvN te σ H P) : EvN te σ H' P := fun H1 a Q q => h H1 (e.trans a) Q q
end
section
variable {P : Program} {w : World} {K : PySem.W.Frag} {mg : Str → Option Value} {base : Heap}
theorem ok__law_cell (D : Dn K mg "_law_cell" s__law_cell ["script", "k"]) (z_len : mg "len" = none) :
    C8.Cal P w K mg base 1 "_law_cell" (sp__law_cell K) [] := by
  refine cal_of D sc__law_cell (fun vs H Q E h => ?_) (fun f cdv A outer s H vs Q E hr h => ?_)
  · obtain ⟨_, _, _, rfl, _⟩ := h
    rfl
  refine ⟨_, (pss_cons (ps_if (pt_cmpR op_lt (pv 1) (pe_callB call_len_seq (by rfl) z_len PySem.boot_len (pa_cons (pv 0) pa_nil)) (nomark _))
      (pss_one (ps_ret (pe_ix ix_list (pv 0) (pv 1) (fun _ _ => rfl))))
      pss_nil)
    (pss_one (ps_ret pe_int))), ?_⟩
  obtain ⟨a, ns, k, rfl, hS, h0, q⟩ := h
  refine q_when (b := decide (k < (((ns.map V.int).length : Nat) : Int))) (et_test (ev_op (ev_var rfl) (ev_len (ev_var rfl) hS) rv_I0)) (fun hb H1 e1 => ?_) fun hb H1 e1 => ?_
  · have hk : k.toNat < ns.length := by
      have := of_decide_eq_true hb
      rw [List.length_map] at this
      omega
    refine s_ret (v := .int (ns.getD k.toNat 0)) (ev_op (ev_var rfl) (ev_var rfl) (rv_ixL (ex_l e1 hS) ?_)) fun H2 e2 => q _ (e1.trans e2)
    obtain ⟨j, rfl⟩ := Int.eq_ofNat_of_zero_le h0
    rw [Int.toNat_natCast] at hk ⊢
    exact atI_nat (by rw [List.getElem?_map, List.getElem?_eq_getElem hk, List.getD_eq_getElem?_getD, List.getElem?_eq_getElem hk]; rfl)
  · have hk : ns.length ≤ k.toNat := by
      have := of_decide_eq_false hb
      rw [List.length_map] at this
      omega
    refine s_ret (v := .int (ns.getD k.toNat 0)) (ev_is ev_c ?_) fun H2 e2 => q _ (e1.trans e2)
    rw [List.getD_eq_getElem?_getD, List.getElem?_eq_none hk]
    rfl
theorem ok__law_state (D : Dn K mg "_law_state" s__law_state ["cell", "k"]) (z_int : mg "int" = none) :
    C8.Cal P w K mg base 1 "_law_state" (sp__law_state K) [] := by
  refine cal_of D sc__law_state (fun vs H Q E h => ?_) (fun f cdv A outer s H vs Q E hr h => ?_)
  · obtain ⟨_, _, rfl, _⟩ := h
    rfl
  refine ⟨_, (pss_cons (ps_if (pt_cmpR op_ge (pv 0) pe_int (nomark _))
      (pss_one (ps_ret (pe_lst (pa_cons (pv 0) pa_nil))))
      pss_nil)
    (pss_cons (ps_set (i := 2) sc__law_state.nd rfl (.inl rfl) pe_int)
    (pss_cons (ps_set (i := 3) sc__law_state.nd rfl (.inl rfl) (pe_op op_mod (pe_callTy call_int1 (by rfl) z_int (by decide +kernel) (pa_cons (pe_op op_add (pe_op op_add (pe_op op_mul (pv 0) pe_int) (pe_op op_mul (pe_op op_add (pv 1) pe_int) pe_int)) pe_int) pa_nil)) (pv 2)))
    (pss_cons (ps_set (i := 4) sc__law_state.nd rfl (.inl rfl) (pe_op op_mod (pe_callTy call_int1 (by rfl) z_int (by decide +kernel) (pa_cons (pe_op op_add (pe_op op_add (pe_op op_mulX (pv 3) (pv 3)) (pe_op op_mul pe_int (pv 3))) (pv 1)) pa_nil)) (pv 2)))
    (pss_cons (ps_set (i := 5) sc__law_state.nd rfl (.inl rfl) (pe_op op_mod (pe_callTy call_int1 (by rfl) z_int (by decide +kernel) (pa_cons (pe_op op_add (pe_op op_add (pe_op op_mul (pv 4) pe_int) (pe_op op_mul (pv 3) pe_int)) pe_int) pa_nil)) (pv 2)))
    (pss_cons (ps_set (i := 6) sc__law_state.nd rfl (.inl rfl) (pe_op op_mod (pe_callTy call_int1 (by rfl) z_int (by decide +kernel) (pa_cons (pe_op op_add (pe_op op_mulX (pv 5) (pv 5)) (pv 4)) pa_nil)) (pv 2)))
    (pss_one (ps_ret (pe_lst (pa_cons (pe_op op_add (pe_op op_mul (pe_op op_add (pe_op op_mul (pe_op op_add (pe_op op_mul (pv 6) (pv 2)) (pv 5)) (pv 2)) (pv 4)) (pv 2)) (pv 3)) pa_nil)))))))))), ?_⟩
  obtain ⟨c, k, rfl, q⟩ := h
  refine q_when (b := decide (c ≥ 1000000000000000000)) (et_test (ev_op (ev_var rfl) ev_c rv_I0)) (fun hb H1 e1 => ?_) fun hb H1 e1 => ?_
  · exact s_retL (el_lst (ea_cons (ev_var rfl) ea_nil) (by show 1 ≤ 100000; decide)) fun p H2 hp e2 h2 => q p H2 (fresh_back e1 hp) (e1.trans e2) ⟨c, by have := of_decide_eq_true hb; omega, h2⟩
  refine q_asg (v := .int 2305843009213693951) ev_c fun H2 e2 => ?_
  have mp : ∀ n : Int, 0 ≤ n % 2305843009213693951 ∧ n % 2305843009213693951 < 2305843009213693951 := fun n => by omega
  have mb : ∀ i j : Int, 0 ≤ i ∧ i < 2305843009213693951 → 0 ≤ j ∧ j < 2305843009213693951 → CMulX i j := fun i j hi hj => mulx_ok (a := 61) (b := 61) (by omega) (by omega) (by decide)
  refine q_asg (v := .int ((c * 6364136223 + (k + 1) * 104729 + 77) % 2305843009213693951)) ?_ fun H3 e3 => ?_
  · exact ev_op (ev_int (ev_op (ev_op (ev_op (ev_var rfl) ev_c (rv_I (.inr ⟨by decide, by decide⟩))) (ev_op (ev_op (ev_var rfl) ev_c rv_I0) ev_c (rv_I (.inr ⟨by decide, by decide⟩))) rv_I0) ev_c rv_I0)) (ev_var rfl) (rv_I (by decide))
  have h1 := mp (c * 6364136223 + (k + 1) * 104729 + 77)
  generalize (c * 6364136223 + (k + 1) * 104729 + 77) % 2305843009213693951 = f1 at *
  refine q_asg (v := .int ((f1 * f1 + 1013 * f1 + k) % 2305843009213693951)) ?_ fun H4 e4 => ?_
  · exact ev_op (ev_int (ev_op (ev_op (ev_op (ev_var rfl) (ev_var rfl) (rv_I (mb _ _ h1 h1))) (ev_op ev_c (ev_var rfl) (rv_I (.inl ⟨by decide, by decide⟩))) rv_I0) (ev_var rfl) rv_I0)) (ev_var rfl) (rv_I (by decide))
  have h2 := mp (f1 * f1 + 1013 * f1 + k)
  generalize (f1 * f1 + 1013 * f1 + k) % 2305843009213693951 = f2 at *
  refine q_asg (v := .int ((f2 * 48271 + f1 * 31 + 9) % 2305843009213693951)) ?_ fun H5 e5 => ?_
  · exact ev_op (ev_int (ev_op (ev_op (ev_op (ev_var rfl) ev_c (rv_I (.inr ⟨by decide, by decide⟩))) (ev_op (ev_var rfl) ev_c (rv_I (.inr ⟨by decide, by decide⟩))) rv_I0) ev_c rv_I0)) (ev_var rfl) (rv_I (by decide))
  have h3 := mp (f2 * 48271 + f1 * 31 + 9)
  generalize (f2 * 48271 + f1 * 31 + 9) % 2305843009213693951 = f3 at *
  refine q_asg (v := .int ((f3 * f3 + f2) % 2305843009213693951)) ?_ fun H6 e6 => ?_
  · exact ev_op (ev_int (ev_op (ev_op (ev_var rfl) (ev_var rfl) (rv_I (mb _ _ h3 h3))) (ev_var rfl) rv_I0)) (ev_var rfl) (rv_I (by decide))
  have h4 := mp (f3 * f3 + f2)
  generalize (f3 * f3 + f2) % 2305843009213693951 = f4 at *
  refine s_retL (xs := [.int (((f4 * 2305843009213693951 + f3) * 2305843009213693951 + f2) * 2305843009213693951 + f1)]) (el_lst (ea_cons ?_ ea_nil) (by show 1 ≤ 100000; decide)) fun p H7 hp e7 h7 => ?_
  · exact ev_op (ev_op (ev_op (ev_op (ev_op (ev_op (ev_var rfl) (ev_var rfl) (rv_I (.inr ⟨by decide, by decide⟩))) (ev_var rfl) rv_I0) (ev_var rfl) (rv_I (.inr ⟨by decide, by decide⟩))) (ev_var rfl) rv_I0) (ev_var rfl) (rv_I (.inr ⟨by decide, by decide⟩))) (ev_var rfl) rv_I0
  have x6 := ((((e1.trans e2).trans e3).trans e4).trans e5).trans e6
  exact q p H7 (fresh_back x6 hp) (x6.trans e7) ⟨_, by omega, h7⟩
theorem ok__law_digit (D : Dn K mg "_law_digit" s__law_digit ["state", "many"]) (z_int : mg "int" = none) :
    C8.Cal P w K mg base 1 "_law_digit" (sp__law_digit K) [] := by
  refine cal_of D sc__law_digit (fun vs H Q E h => ?_) (fun f cdv A outer s H vs Q E hr h => ?_)
  · obtain ⟨_, _, rfl, _⟩ := h
    rfl
  refine ⟨_, (pss_cons (ps_set (i := 2) sc__law_digit.nd rfl (.inl rfl) (pe_op op_mod (pe_callTy call_int1 (by rfl) z_int (by decide +kernel) (pa_cons (pe_ix ix_list (pv 0) pe_int (fun _ _ => rfl)) pa_nil)) (pv 1)))
    (pss_cons (ps_asg (pe_op op_fdivW (pe_ix ix_list (pv 0) pe_int (fun _ _ => rfl)) (pv 1)) (pg_sub (pv 0) pe_int set_list))
    (pss_one (ps_ret (pv 2))))), ?_⟩
  obtain ⟨p, m, rfl, ⟨s, s0, hp⟩, m0, m1, q⟩ := h
  refine q_asg (v := .int (s % m)) (ev_op (ev_int (ev_op (ev_var rfl) ev_c (rv_ixL (sq_of hp) rfl))) (ev_var rfl) (rv_I m0)) fun H1 e1 => ?_
  refine q_setL (v := .int (s / m)) (j := 0) (e1 _ _ hp) (ev_op (ev_op (ev_var rfl) ev_c (rv_ixL (sq_of (e1 _ _ hp)) rfl)) (ev_var rfl) (rv_I (wide_div (b := 400) m0 (by omega) (by decide) (by decide)))) (ev_var rfl) ev_c (by show 0 < 1; decide) fun H2 e2 => ?_
  exact s_ret (ev_var rfl) fun H3 e3 => q (s % m) H3 (Int.emod_nonneg _ (by omega)) (Int.emod_lt_of_pos _ m0) ((Ex.mut ((wo_le p H).trans (e1.trans e2)) (wo_self p H)).trans e3) ⟨s / m, Int.ediv_nonneg s0 (by omega), e3 _ _ upd_same⟩
end
theorem tx_lst {K : PySem.W.Frag} {H : Hp} {a : Addr} {xs : List V} (h : H a = some (.lst xs)) : ∀ H1, Ex H H1 → TyX K H1 (.ref a) (.type "list") := fun H1 e => .base (.lst (e _ _ h))
theorem ix_listK {X : Cx} {K : PySem.W.Frag} (h : X.K = K) : IxR X (rIxL K) := h ▸ ix_list
theorem call_len_seqK {X : Cx} {K : PySem.W.Frag} (h : X.K = K) : CallR X (.builtin "len") (fun xs H Q => ∃ p ys, xs = [V.ref p] ∧ (SqL K H p ys ∨ SqT K H p ys) ∧ Q (V.int ys.length) H) := h ▸ call_len_seq
def Al2 {α : Type} (R : Hp → Addr → α → Prop) (H : Hp) (qs : List Addr) (L : List α) : Prop := qs.length = L.length ∧ ∀ (i : Nat) q l, qs[i]? = some q → L[i]? = some l → R H q l
def Lst2 {α : Type} (R : Hp → Addr → α → Prop) (H : Hp) (p : Addr) (L : List α) : Prop := ∃ qs, H p = some (.lst (qs.map V.ref)) ∧ Al2 R H qs L
section
variable {α : Type} {R S : Hp → Addr → α → Prop} {H H' : Hp} {qs : List Addr} {L : List α}
theorem Al2.nil : Al2 R H [] [] := ⟨rfl, fun i q l h => by simp at h⟩
theorem Al2.mono (h : Al2 R H qs L) (k : ∀ q l, l ∈ L → R H q l → S H' q l) : Al2 S H' qs L := ⟨h.1, fun i q l a b => k q l (List.mem_of_getElem? b) (h.2 i q l a b)⟩
theorem Al2.snoc {q : Addr} {l : α} (h : Al2 R H qs L) (hr : R H q l) : Al2 R H (qs ++ [q]) (L ++ [l]) := by
  refine ⟨by rw [List.length_append, List.length_append, h.1, List.length_cons, List.length_cons]; rfl, fun i q' l' a b => ?_⟩
  by_cases hi : i < qs.length
  · rw [List.getElem?_append_left hi] at a
    rw [List.getElem?_append_left (by rw [← h.1]; exact hi)] at b
    exact h.2 i q' l' a b
  · rw [List.getElem?_append_right (by omega)] at a
    rw [List.getElem?_append_right (by rw [← h.1]; omega)] at b
    have e : i - qs.length = 0 := by
      by_cases z : i - qs.length = 0
      · exact z
      · rw [List.getElem?_eq_none (by show 1 ≤ _; omega)] at a; cases a
    rw [e] at a
    rw [← h.1, e] at b
    cases a
    cases b
    exact hr
theorem Al2.get (h : Al2 R H qs L) {i : Nat} (hi : i < L.length) : ∃ q, qs[i]? = some q ∧ R H q L[i] := by
  have hq : i < qs.length := by rw [h.1]; exact hi
  exact ⟨qs[i], List.getElem?_eq_getElem hq, h.2 i _ _ (List.getElem?_eq_getElem hq) (List.getElem?_eq_getElem hi)⟩
end
theorem wo_upd (p : Addr) (H : Hp) (o : HO) : wo p (upd H p o) = wo p H := by
  funext a
  unfold wo
  split
  · rfl
  · rename_i h
    exact upd_ne h
theorem wo_mono {p : Addr} {H H' : Hp} (e : Ex H H') : Ex (wo p H) (wo p H') := fun a o h => by
  have hx : a ≠ p := fun z => by rw [z, wo_self] at h; cases h
  rw [wo_ne hx] at h ⊢
  exact e a o h
theorem Lst2.mono {α : Type} {R : Hp → Addr → α → Prop} {H H' : Hp} {p : Addr} {L : List α} (h : Lst2 R H p L) (e : Ex H H') (k : ∀ q l, R H q l → R H' q l) : Lst2 R H' p L := by
  obtain ⟨qs, h1, h2⟩ := h
  exact ⟨qs, e _ _ h1, h2.mono fun q l _ => k q l⟩
def signsL : List Nat := (PySem.Str.ofString " !\"#$&'()*+,-./0123456789:;<=>?@ABCDEFGHIJKLMNOPQRSTUVWXYZ[\\]^_`abcdefghijklmnopqrstuvwxyz{|}~").cps.toList
theorem signs_ok : ∀ c ∈ signsL, 32 ≤ c ∧ c ≤ 126 := by decide +kernel
def okC (c : Nat) : Prop := 32 ≤ c ∧ c ≤ 126
theorem join_ones : ∀ l : List Nat, Txt.join (SX.S []) (l.map fun c => (⟨#[c]⟩ : Str)) = SX.S l := by
  intro l
  have e : (l.map fun c => (⟨#[c]⟩ : Str)) = (l.map fun c => [c]).map SX.S := by
    rw [List.map_map]
    rfl
  rw [e, SX.join_S]
  congr 1
  induction l with
  | nil => rfl
  | cons c r ih =>
    cases r with
    | nil => rfl
    | cons d r => 
      have e2 : TL.joinL [] (List.map (fun c => [c]) (c :: d :: r)) = c :: TL.joinL [] (List.map (fun c => [c]) (d :: r)) := rfl
      rw [e2, ih (by rw [List.map_map]; rfl)]
theorem c00 : PySem.Str.ofString "" = SX.S [] := by decide +kernel
def fewS : List Nat := (PySem.Str.ofString "abAB 19-'~").cps.toList
theorem fewS_len : fewS.length = 10 := by decide +kernel
theorem fewS_S : PySem.Str.ofString "abAB 19-'~" = SX.S fewS := by decide +kernel
theorem fewS_in : ∀ c ∈ fewS, c ∈ signsL := by decide +kernel
def EvLD1 (te : TE) (σ : L2.St) (p : Addr) (H : Hp) (P : List V → Prop) : Prop := ∀ H1, Ex (wo p H) H1 → Dr p H1 → ∀ Q : VK, (∀ l H2 xs, P xs → H1 l = none → Ex (wo p H1) H2 → Dr p H2 → H2 l = some (.lst xs) → Q (.ref l) H2) → te σ H1 Q
theorem dr_ne {p l : Addr} {H : Hp} (d : Dr p H) (h : H l = none) : p ≠ l := fun z => by
  obtain ⟨s, _, e⟩ := d
  rw [z, h] at e
  cases e
theorem Dr.upd {p l : Addr} {H : Hp} {o : HO} (d : Dr p H) (h : p ≠ l) : Dr p (upd H l o) := by
  obtain ⟨s, s0, e⟩ := d
  exact ⟨s, s0, by rw [upd_ne h]; exact e⟩
section
variable {K : PySem.W.Frag} {σ : L2.St} {H : Hp} {p : Addr} {ta tb te tn : TE} {R : V → Prop} {PI : Int → Prop} {D : Ends} {tz : TS}
/-- [what is drawn for k in range(a number that is drawn)] -/
theorem e1_lc {j : Nat} {vs : List Nat} {m : Int} (hn : EvD1 tn σ p H (ZP fun n => 0 ≤ n ∧ n ≤ m)) (hm : m ≤ 10000) (hw : ∀ x, wipe ((wipe σ vs).set j (some x)) vs = wipe σ vs)
    (he : ∀ i : Nat, EvD1 te ((wipe σ vs).set j (some (.int (i : Int)))) p H R) : EvLD1 (tLc (iRng1 (tCons tn tNil)) (gName j) tYes te vs) σ p H (fun xs => (xs.length : Int) ≤ m ∧ ∀ x ∈ xs, R x) := fun H0 e d Q q =>
  hn H0 e d _ fun v H1 ⟨n, ev, hn0, hn1⟩ e1 d1 => by
    subst ev
    refine ⟨n, rfl, by omega, by omega, fun Dl hD => ?_⟩
    have hpd : p ≠ Dl := dr_ne d1 hD
    refine lc_range (lo := 0) (n := n.toNat) (fun i H' => Ex (wo p H1) H' ∧ Dr p H' ∧ ∃ acc, H' Dl = some (.lst acc) ∧ acc.length = i ∧ ∀ x ∈ acc, R x) ⟨Ex.mut (wo_le p H1) (by rw [wo_ne (Ne.symm hpd)]; exact hD), d1.upd hpd, [], upd_same, rfl, fun x hx => by cases hx⟩ (fun i H' hi pv => ?_) (fun H' pv => ?_)
    · obtain ⟨p1, p2, acc, p3, p4, p5⟩ := pv
      have e0 : (0 : Int) + (i : Int) = (i : Int) := Int.zero_add _
      show wipe ((wipe σ vs).set j (some (.int ((0 : Int) + (i : Int))))) vs = wipe σ vs ∧ te ((wipe σ vs).set j (some (.int ((0 : Int) + (i : Int))))) H' fun y H4 => ∃ acc, H4 Dl = some (.lst acc) ∧ acc.length < sizeLine ∧ _
      rw [e0]
      refine ⟨hw _, he i H' (wx_trans e (wx_trans e1 p1)) p2 _ fun y H4 hy e4 d4 => ?_⟩
      refine ⟨acc, e4 Dl _ (by rw [wo_ne (Ne.symm hpd)]; exact p3), sz_lt (by omega), Ex.mut (wx_trans p1 e4) (by rw [wo_ne (Ne.symm hpd)]; exact hD), d4.upd hpd, acc ++ [y], upd_same, by rw [List.length_append, p4]; rfl, fun x hx => ?_⟩
      rcases List.mem_append.mp hx with h | h
      · exact p5 x h
      · rw [List.mem_singleton.mp h]
        exact hy
    · obtain ⟨p1, p2, acc, p3, p4, p5⟩ := pv
      have hD0 : H0 Dl = none := by
        cases z : H0 Dl with
        | none => rfl
        | some o =>
          have := e1 Dl o (by rw [wo_ne (Ne.symm hpd)]; exact z)
          rw [hD] at this
          cases this
      exact q Dl H' acc ⟨by omega, p5⟩ hD0 (wx_trans e1 p1) p2 p3
def oneS (L : List Nat) (v : V) : Prop := ∃ c, v = .str ⟨#[c]⟩ ∧ c ∈ L
theorem ones_of {L : List Nat} : ∀ {xs : List V}, (∀ x ∈ xs, oneS L x) → ∃ l : List Nat, xs = l.map (fun c => V.str ⟨#[c]⟩) ∧ ∀ c ∈ l, c ∈ L
  | [], _ => ⟨[], rfl, fun c hc => by cases hc⟩
  | x :: r, h => by
    obtain ⟨l, e, hl⟩ := ones_of (xs := r) fun y hy => h y (List.mem_cons_of_mem _ hy)
    obtain ⟨c, ec, hc⟩ := h x List.mem_cons_self
    refine ⟨c :: l, by rw [ec, e]; rfl, fun y hy => ?_⟩
    rcases List.mem_cons.mp hy with z | z
    · rw [z]; exact hc
    · exact hl y z
def txtP (L : List Nat) (m : Nat) (v : V) : Prop := ∃ l : List Nat, v = .str (SX.S l) ∧ l.length ≤ m ∧ ∀ c ∈ l, c ∈ L
/-- ''.join(a list of single signs) -/
theorem e1_join {L : List Nat} {m : Nat} (hm : m ≤ 10000) (h : EvLD1 te σ p H (fun xs => (xs.length : Int) ≤ (m : Int) ∧ ∀ x ∈ xs, oneS L x)) : EvD1 (tM1 (fun x xs H Q => ∃ a p, ∃ ys : List Str, x = .str a ∧ xs = [.ref p] ∧ (SqL K H p (ys.map V.str) ∨ SqT K H p (ys.map V.str)) ∧
      (ys.map (·.length)).sum + ys.length * a.length ≤ 16777216 ∧ Q (.str (Txt.join a ys)) H) (tC (.str (PySem.Str.ofString ""))) te) σ p H (txtP L m) := fun H1 e d Q q => by
  refine ⟨⟨_, rfl⟩, h H1 e d _ fun l H2 xs hP hl e2 d2 h2 => ?_⟩
  obtain ⟨hlen, hxs⟩ := hP
  obtain ⟨w, rfl, hw⟩ := ones_of hxs
  rw [List.length_map] at hlen
  have hw2 : w.length ≤ m := by omega
  refine ⟨SX.S [], l, w.map fun c => (⟨#[c]⟩ : Str), by rw [c00], rfl, .inl (sq_of ?_), ?_, ?_⟩
  · rw [h2, List.map_map]
    rfl
  · have e9 : (w.map fun c => (⟨#[c]⟩ : Str)).map (·.length) = List.replicate w.length 1 := by
      rw [List.map_map, List.eq_replicate_iff]
      refine ⟨by rw [List.length_map], fun b hb => ?_⟩
      obtain ⟨c, _, rfl⟩ := List.mem_map.mp hb
      rfl
    rw [e9, List.sum_replicate_nat, List.length_map]
    show w.length * 1 + w.length * 0 ≤ _
    omega
  · rw [join_ones]
    exact q _ H2 ⟨w, rfl, hw2, hw⟩ e2 d2
/-- signs[_law_digit(state, m)] -/
theorem e1_sign {L : List Nat} {m : Int} {E : XK} {i : Nat} (hs : σ[i]? = some (some (.str (SX.S L)))) (hL : (L.length : Int) = m) (h0 : 0 < m) (hm : m ≤ 1000) (ha : Ev ta σ (wo p H) (.ref p)) (hb : Ev tb σ (wo p H) (.int m)) : EvD1 (tOp rIxS (tVar i) (tCall (sp__law_digit K) [] E (tCons ta (tCons tb tNil)))) σ p H (oneS L) := fun H1 e d Q q =>
  ⟨.str (SX.S L), hs, ez_digit ha hb h0 (by omega) H1 e d _ fun v H2 ⟨n, ev, n0, n1⟩ e2 d2 => by
    subst ev
    obtain ⟨k, rfl⟩ := Int.eq_ofNat_of_zero_le n0
    have hk : k < L.length := by omega
    exact ⟨SX.S L, (k : Int), L[k], rfl, rfl, by rw [SX.S_len]; exact sz_of (by omega), atI_nat (List.getElem?_eq_getElem hk), q _ H2 ⟨L[k], rfl, List.getElem_mem hk⟩ e2 d2⟩⟩
end
/-- a value that is drawn -/
inductive DV : V → Prop where
  | non : DV .non
  | bl (b : Bool) : DV (.bl b)
  | int (i : Int) (h : -1000000000000000 ≤ i ∧ i ≤ 1000000000000000) : DV (.int i)
  | str (l : List Nat) (h : l.length ≤ 4) (hc : ∀ c ∈ l, c ∈ signsL) : DV (.str (SX.S l))
theorem DV.pl {x : V} (h : DV x) : Pl x := by cases h <;> constructor
def sp__law_text (K : PySem.W.Frag) : Sp := fun vs H Q _ => ∃ p : Addr, vs = [.ref p] ∧ Dr p H ∧ ∀ v H', txtP signsL 4 v → Ex (wo p H) H' → Dr p H' → Q v H'
def sp__law_value (K : PySem.W.Frag) : Sp := fun vs H Q _ => ∃ p : Addr, vs = [.ref p] ∧ Dr p H ∧ ∀ v H', DV v → Ex (wo p H) H' → Dr p H' → Q v H'
section
variable {P : Program} {w : World} {K : PySem.W.Frag} {mg : Str → Option Value} {base : Heap}
theorem ok__law_text (D : Dn K mg "_law_text" s__law_text ["state"]) (c__law_digit : C8.Cal P w K mg base 1 "_law_digit" (sp__law_digit K) []) (z_range : mg "range" = none) :
    C8.Cal P w K mg base 2 "_law_text" (sp__law_text K) [] := by
  refine cal_of D sc__law_text (fun vs H Q E h => ?_) (fun f cdv A outer s H vs Q E hr h => ?_)
  · obtain ⟨_, rfl, _⟩ := h
    rfl
  refine ⟨_, (pss_cons (ps_set (i := 1) sc__law_text.nd rfl (.inr rfl) pe_str)
    (pss_one (ps_ret (pe_join pe_str (pe_lc (own := [("k", 2)]) (g := gName 2) (tt := tYes) rfl sc__law_text.nd (pi_range1 rfl z_range (pa_cons (C8.pe_c c__law_digit hr (by decide) (by rfl) (pa_cons (pv 0) (pa_cons pe_int pa_nil))) pa_nil)) (blkOk_by (N := n__law_text) (sc := C8.fnScope s__law_text) (by decide +kernel)) (fun _ _ _ _ _ => pg_name (i := 2) sc__law_text.nd rfl (Or.inl rfl)) (fun _ _ _ _ _ => pts_nil) (fun _ _ _ _ _ => (pe_ix ix_str (pv 1) (C8.pe_c c__law_digit hr (by decide) (by rfl) (pa_cons (pv 0) (pa_cons pe_int pa_nil))) (fun _ _ => rfl)))))))), ?_⟩
  obtain ⟨p, rfl, d, q⟩ := h
  refine q_asg (v := .str (SX.S fewS)) (ev_is ev_c (by rw [fewS_S])) fun H1 e1 => ?_
  refine s1_ret (P := txtP fewS 4) (e1_join (by decide) (e1_lc (m := 4) (ez_mono (ez_digit (ev_var rfl) ev_c (by decide) (by decide)) fun i hi => by omega) (by decide) (fun _ => rfl) fun i => e1_sign rfl (by rw [fewS_len]; rfl) (by decide) (by decide) (ev_var rfl) ev_c)) (d.ex e1) fun v H2 hv e2 d2 => ?_
  obtain ⟨l, rfl, hl, hc⟩ := hv
  exact q _ H2 ⟨l, rfl, hl, fun c h => fewS_in c (hc c h)⟩ (wx_trans (wx_of e1) e2) d2
section
variable {σ : L2.St} {H : Hp} {ta : TE} {E : XK} {p : Addr}
theorem e1_text (ha : Ev ta σ (wo p H) (.ref p)) : EvD1 (tCall (sp__law_text K) [] E (tCons ta tNil)) σ p H (txtP signsL 4) := fun H1 e d Q q =>
  ha H1 e _ fun H2 e2 => ⟨p, rfl, d.ex e2, fun v H3 hv e3 d3 => q v H3 hv (wx_trans (wx_of e2) e3) d3⟩
theorem e1_value (ha : Ev ta σ (wo p H) (.ref p)) : EvD1 (tCall (sp__law_value K) [] E (tCons ta tNil)) σ p H DV := fun H1 e d Q q =>
  ha H1 e _ fun H2 e2 => ⟨p, rfl, d.ex e2, fun v H3 hv e3 d3 => q v H3 hv (wx_trans (wx_of e2) e3) d3⟩
end
theorem ok__law_value (D : Dn K mg "_law_value" s__law_value ["state"]) (c__law_digit : C8.Cal P w K mg base 1 "_law_digit" (sp__law_digit K) []) (c__law_text : C8.Cal P w K mg base 2 "_law_text" (sp__law_text K) []) :
    C8.Cal P w K mg base 3 "_law_value" (sp__law_value K) [] := by
  refine cal_of D sc__law_value (fun vs H Q E h => ?_) (fun f cdv A outer s H vs Q E hr h => ?_)
  · obtain ⟨_, rfl, _⟩ := h
    rfl
  refine ⟨_, (pss_cons (ps_set (i := 1) sc__law_value.nd rfl (.inl rfl) (C8.pe_c c__law_digit hr (by decide) (by rfl) (pa_cons (pv 0) (pa_cons pe_int pa_nil))))
    (pss_cons (ps_if (pt_cmpR op_lt (pv 1) pe_int (nomark _))
      (pss_one (ps_ret pe_non))
      pss_nil)
    (pss_cons (ps_if (pt_cmpR op_eq (pv 1) pe_int (nomark _))
      (pss_one (ps_ret (pe_cmpR op_eq (C8.pe_c c__law_digit hr (by decide) (by rfl) (pa_cons (pv 0) (pa_cons pe_int pa_nil))) pe_int (nomark _))))
      pss_nil)
    (pss_cons (ps_if (pt_cmpR op_lt (pv 1) pe_int (nomark _))
      (pss_one (ps_ret (pe_op op_sub (C8.pe_c c__law_digit hr (by decide) (by rfl) (pa_cons (pv 0) (pa_cons pe_int pa_nil))) pe_int)))
      pss_nil)
    (pss_cons (ps_if (pt_cmpR op_eq (pv 1) pe_int (nomark _))
      (pss_one (ps_ret (pe_op op_mul (pe_op op_sub (pe_op op_mul (C8.pe_c c__law_digit hr (by decide) (by rfl) (pa_cons (pv 0) (pa_cons pe_int pa_nil))) pe_int) pe_int) (pe_op op_sub pe_int (C8.pe_c c__law_digit hr (by decide) (by rfl) (pa_cons (pv 0) (pa_cons pe_int pa_nil)))))))
      pss_nil)
    (pss_one (ps_ret (C8.pe_c c__law_text hr (by decide) (by rfl) (pa_cons (pv 0) pa_nil))))))))), ?_⟩
  obtain ⟨p, rfl, d, q⟩ := h
  refine qz_asg (ez_digit (ev_var rfl) ev_c (by decide) (by decide)) d fun kd H1 hk e1 d1 => ?_
  have w2 : ∀ {H2 : Hp}, Ex H1 H2 → Ex (wo p H) H2 := fun e => wx_trans e1 (wx_of e)
  refine q_when (b := decide (kd < 2)) (by walk_at "et") (fun _ H2 e2 => s_ret ev_c fun H3 e3 => q _ H3 .non (w2 (e2.trans e3)) (d1.ex (e2.trans e3))) fun _ H2 e2 => ?_
  have dg : ∀ {m : Int} {σ : L2.St} {H0 : Hp}, σ[0]? = some (some (V.ref p)) → 0 < m → m < 2 ^ 400 → EvD1 (tCall (sp__law_digit K) [] C8.E0 (tCons (tVar 0) (tCons (tC (.int m)) tNil))) σ p H0 (ZP fun d => 0 ≤ d ∧ d < m) := fun h0 a b => ez_digit (ev_var h0) ev_c a b
  have cc : ∀ {c : Int} {σ : L2.St} {H0 : Hp}, EvD1 (tC (.int c)) σ p H0 (ZP fun d => d = c) := e1_int ev_c rfl
  refine q_when (b := decide (V.int kd = V.int 2)) (by walk_at "et") (fun _ H3 e3 => ?_) fun _ H3 e3 => ?_
  · refine s1_ret (P := fun v => ∃ b, v = .bl b) (ez_eq (dg rfl (by decide) (by decide)) cc) (d1.ex (e2.trans e3)) fun v H4 hv e4 d4 => ?_
    obtain ⟨b, rfl⟩ := hv
    exact q _ H4 (.bl b) (wx_trans (w2 (e2.trans e3)) e4) d4
  have x3 := e2.trans e3
  refine q_when (b := decide (kd < 5)) (by walk_at "et") (fun _ H4 e4 => ?_) fun _ H4 e4 => ?_
  · refine s1_ret (P := ZP fun i => -3 ≤ i ∧ i < 4) (ez_op0 (dg rfl (by decide) (by decide)) cc fun i j hi hj => ⟨by omega, by omega⟩) (d1.ex (x3.trans e4)) fun v H5 hv e5 d5 => ?_
    obtain ⟨i, rfl, hi⟩ := hv
    exact q _ H5 (.int i (by omega)) (wx_trans (w2 (x3.trans e4)) e5) d5
  refine q_when (b := decide (V.int kd = V.int 5)) (by walk_at "et") (fun _ H5 e5 => ?_) fun _ H5 e5 => ?_
  · refine s1_ret (P := ZP fun i => -1000000000000000 ≤ i ∧ i ≤ 1000000000000000) ?_ (d1.ex ((x3.trans e4).trans e5)) fun v H6 hv e6 d6 => ?_
    · refine ez_op (PI := fun i => i = -1 ∨ i = 1) (RI := fun j => 0 ≤ j ∧ j ≤ 1000000000000000) (ez_op0 (PI := fun i => i = 0 ∨ i = 2) (ez_op (dg rfl (by decide) (by decide)) cc fun i j hi hj => ⟨.inl ⟨by omega, by omega⟩, by subst hj; omega⟩) cc fun i j hi hj => by omega) (ez_op0 cc (dg rfl (by decide) (by decide)) fun i j hi hj => ⟨by omega, by omega⟩) fun i j hi hj => ⟨.inl ⟨by omega, by omega⟩, ?_⟩
      rcases hi with h | h <;> subst h <;> omega
    · obtain ⟨i, rfl, hi⟩ := hv
      exact q _ H6 (.int i hi) (wx_trans (w2 ((x3.trans e4).trans e5)) e6) d6
  · refine s1_ret (e1_text (ev_var rfl)) (d1.ex ((x3.trans e4).trans e5)) fun v H6 hv e6 d6 => ?_
    obtain ⟨l, rfl, hl, hc⟩ := hv
    exact q _ H6 (.str l hl hc) (wx_trans (w2 ((x3.trans e4).trans e5)) e6) d6
end
section
variable {K : PySem.W.Frag} {σ : L2.St} {H : Hp} {tl te ta tb : TE}
/-- a new list + a new list -/
theorem el_catNN {xs ys : List V} (ha : EvL ta σ H xs) (hb : EvL tb σ H ys) (hz : xs.length + ys.length ≤ 100000) : EvL (tOp rCat ta tb) σ H (xs ++ ys) := fun H1 e Q q =>
  ha H1 e _ fun a H2 ha2 e2 h2 => hb H2 (e.trans e2) _ fun b H3 _ e3 hb3 => ⟨a, b, xs, ys, rfl, rfl, e3 _ _ h2, hb3, sz_of hz, fun p hp => q p _ (fresh_back (e2.trans e3) hp) ((e2.trans e3).trans (Ex.new hp)) upd_same⟩
end
def kr : V → Int
  | .non => 0
  | .bl _ => 1
  | .int _ => 2
  | _ => 3
def payV : V → V
  | .non => .int 0
  | .bl b => .int (if b then 1 else 0)
  | x => x
def rkL (x : V) : List V := [.int (kr x), payV x]
def payD : V → PyData
  | .non => .int 0
  | .bl b => .int (if b then 1 else 0)
  | .int i => .int i
  | .str s => .str s
  | _ => .none
def rkDs (x : V) : List PyData := [.int (kr x), payD x]
def rkD (x : V) : PyData := .tuple (rkDs x)
/-- plain, and its signs are signs -/
inductive Ok : V → Prop where
  | non : Ok .non
  | bl (b : Bool) : Ok (.bl b)
  | int (i : Int) : Ok (.int i)
  | str (s : Str) (h : PyData.strOk s = true ∧ s.length ≤ 10000) : Ok (.str s)
theorem Ok.pl {x : V} (h : Ok x) : Pl x := by cases h <;> constructor
theorem strOk_S {l : List Nat} (h : ∀ c ∈ l, 32 ≤ c ∧ c ≤ 126) : PyData.strOk (SX.S l) = true := by
  unfold PyData.strOk
  rw [Array.all_eq_true']
  intro c hc
  have := h c (by simpa using hc)
  exact decide_eq_true (by omega)
theorem dp_pay {K : PySem.W.Frag} {H : Hp} {x : V} (h : Ok x) : Dp K H (payV x) (payD x) := by
  cases h with
  | non => exact .int 0
  | bl b => exact .int _
  | int i => exact .int i
  | str s _ => exact .str s
theorem dp_rks {K : PySem.W.Frag} {H : Hp} {x : V} (h : Ok x) : DpAll K H (rkL x) (rkDs x) := .cons (.int _) (.cons (dp_pay h) .nil)
theorem dp_rk {K : PySem.W.Frag} {H : Hp} {x : V} {p : Addr} (h : Ok x) (hp : H p = some (.tup (rkL x))) : Dp K H (.ref p) (rkD x) := .tup (st_of hp) (dp_rks h)
theorem lay_rk {x : V} (h : Ok x) : (rkD x).canLay0 = true := by
  cases h with
  | non => rfl
  | bl b => rfl
  | int i => rfl
  | str s hs =>
    show (true && (PyData.strOk s && true)) = true
    rw [hs.1]
    rfl
theorem dep_rk {x : V} (h : Ok x) : (rkD x).depth = 1 := by cases h <;> rfl
theorem shaped_rk {x : V} (h : Ok x) : SeqAt.shaped (rkD x) = true := by
  unfold SeqAt.shaped
  rw [lay_rk h, dep_rk h]
  rfl
theorem noL_rk {x : V} (h : Ok x) : noL (rkD x) = true := by cases h <;> rfl
theorem ord_rk {x y : V} (hx : Ok x) (hy : Ok y) : ordD (rkD x) (rkD y) = true := by
  have step : ∀ (a b : Int) (p q : PyData), (a = b → ordD p q = true) → ordD (.tuple [.int a, p]) (.tuple [.int b, q]) = true := by
    intro a b p q h
    rw [ordD, ordDs]
    split
    · rename_i e
      rw [ordDs]
      split
      · rfl
      · exact h (beq_iff_eq.mp (show (a == b) = true from e))
    · rfl
  refine step _ _ _ _ fun e => ?_
  cases hx <;> cases hy <;> first | rfl | (simp [kr] at e)
theorem lays_rk : ∀ {xs : List V}, (∀ x ∈ xs, Ok x) → PyData.canLayAll0 (xs.map rkD) = true
  | [], _ => rfl
  | x :: xs, h => by
    show ((rkD x).canLay0 && PyData.canLayAll0 (xs.map rkD)) = true
    rw [lay_rk (h x (List.mem_cons_self ..)), lays_rk fun y hy => h y (List.mem_cons_of_mem _ hy)]
    rfl
theorem deps_rk : ∀ {xs : List V}, (∀ x ∈ xs, Ok x) → PyData.depthAll (xs.map rkD) ≤ 1
  | [], _ => by show 0 ≤ 1; decide
  | x :: xs, h => by
    show max (rkD x).depth (PyData.depthAll (xs.map rkD)) ≤ 1
    rw [dep_rk (h x (List.mem_cons_self ..))]
    have := deps_rk fun y hy => h y (List.mem_cons_of_mem _ hy)
    omega
def sp_kind_rank (K : PySem.W.Frag) : Sp := fun vs H Q _ => ∃ x : V, vs = [x] ∧ Ok x ∧ ∀ H', Ex H H' → Q (.int (kr x)) H'
def sp_is_integer (K : PySem.W.Frag) : Sp := fun vs H Q _ => ∃ x : V, vs = [x] ∧ Pl x ∧ ∀ H', Ex H H' → Q (.bl (isInt x)) H'
def sp__law_is_integer (K : PySem.W.Frag) : Sp := fun vs H Q _ => ∃ x : V, vs = [x] ∧ Pl x ∧ ∀ H', Ex H H' → Q (.bl (isInt x)) H'
def sp_same (K : PySem.W.Frag) : Sp := fun vs H Q _ => ∃ x y : V, vs = [x, y] ∧ Ok x ∧ Ok y ∧ ∀ H', Ex H H' → Q (.bl (PyData.eqv (rkD x) (rkD y))) H'
def sp_before (K : PySem.W.Frag) : Sp := fun vs H Q _ => ∃ x y : V, vs = [x, y] ∧ Ok x ∧ Ok y ∧ ∀ H', Ex H H' → Q (.bl (ltD (rkD x) (rkD y))) H'
def sp_rank (K : PySem.W.Frag) : Sp := fun vs H Q _ => ∃ x : V, vs = [x] ∧ Ok x ∧ ∀ p H', H p = none → Ex H H' → H' p = some (.tup (rkL x)) → Q (.ref p) H'
def sp__law_rank (K : PySem.W.Frag) : Sp := fun vs H Q _ => ∃ x : V, vs = [x] ∧ Ok x ∧ ∀ p H', H p = none → Ex H H' → H' p = some (.tup (rkL x)) → Q (.ref p) H'
section
variable {P : Program} {w : World} {K : PySem.W.Frag} {mg : Str → Option Value} {base : Heap}
section
variable {σ : L2.St} {H : Hp} {ta tb tc : TE} {E : XK} {x y : V}
theorem ec_isint0 (ha : Ev ta σ H x) (h : Pl x) : Ev (tCall (sp_is_integer K) [] E (tCons ta tNil)) σ H (.bl (isInt x)) := ev_call (ea_cons ha ea_nil) fun H1 e Q q E => ⟨x, rfl, h, q⟩
theorem ec_isint (ha : Ev ta σ H x) (h : Pl x) : Ev (tCall (sp__law_is_integer K) [] E (tCons ta tNil)) σ H (.bl (isInt x)) := ev_call (ea_cons ha ea_nil) fun H1 e Q q E => ⟨x, rfl, h, q⟩
theorem ec_same (ha : Ev ta σ H x) (hb : Ev tb σ H y) (h1 : Ok x) (h2 : Ok y) : Ev (tCall (sp_same K) [] E (tCons ta (tCons tb tNil))) σ H (.bl (PyData.eqv (rkD x) (rkD y))) := ev_call (ea_cons ha (ea_cons hb ea_nil)) fun H1 e Q q E => ⟨x, y, rfl, h1, h2, q⟩
theorem ec_before (ha : Ev ta σ H x) (hb : Ev tb σ H y) (h1 : Ok x) (h2 : Ok y) : Ev (tCall (sp_before K) [] E (tCons ta (tCons tb tNil))) σ H (.bl (ltD (rkD x) (rkD y))) := ev_call (ea_cons ha (ea_cons hb ea_nil)) fun H1 e Q q E => ⟨x, y, rfl, h1, h2, q⟩
theorem ec_kr (ha : Ev ta σ H x) (h : Ok x) : Ev (tCall (sp_kind_rank K) [] E (tCons ta tNil)) σ H (.int (kr x)) := ev_call (ea_cons ha ea_nil) fun H1 e Q q E => ⟨x, rfl, h, q⟩
theorem ec_rank (ha : Ev ta σ H x) (h : Ok x) : EvU (tCall (sp_rank K) [] E (tCons ta tNil)) σ H (rkL x) := eu_call (ea_cons ha ea_nil) fun H1 e Q q E => ⟨x, rfl, h, q⟩
theorem ec_lrank (ha : Ev ta σ H x) (h : Ok x) : EvU (tCall (sp__law_rank K) [] E (tCons ta tNil)) σ H (rkL x) := eu_call (ea_cons ha ea_nil) fun H1 e Q q E => ⟨x, rfl, h, q⟩
theorem ud_rk (h : EvU ta σ H (rkL x)) (hx : Ok x) : EvUD K ta σ H (rkDs x) := fun H1 e Q q => h H1 e _ fun p H2 hp e2 h2 => q p H2 _ hp e2 h2 (dp_rks hx)
theorem ed_rk (h : EvU ta σ H (rkL x)) (hx : Ok x) : EvD K ta σ H (rkD x) := ed_tupU (ud_rk h hx)
end
theorem ok_kind_rank (D : Dn K mg "kind_rank" s_kind_rank ["value"]) (z_bool : mg "bool" = none) (z_int : mg "int" = none) (z_isinstance : mg "isinstance" = none) :
    C8.Cal P w K mg base 1 "kind_rank" (sp_kind_rank K) [] := by
  refine cal_of D sc_kind_rank (fun vs H Q E h => ?_) (fun f cdv A outer s H vs Q E hr h => ?_)
  · obtain ⟨_, rfl, _⟩ := h
    rfl
  refine ⟨_, (pss_cons (ps_if (pt_cmpR op_isN (pv 0) pe_non (nomark _))
      (pss_one (ps_ret pe_int))
      pss_nil)
    (pss_cons (ps_if (pt_val (pe_callB call_isi (by rfl) z_isinstance (by decide +kernel) (pa_cons (pv 0) (pa_cons (pe_bltn (v := .ty "bool") (u := .type "bool") rfl z_bool (by decide +kernel) rfl) pa_nil))))
      (pss_one (ps_ret pe_int))
      pss_nil)
    (pss_cons (ps_if (pt_val (pe_callB call_isi (by rfl) z_isinstance (by decide +kernel) (pa_cons (pv 0) (pa_cons (pe_bltn (v := .ty "int") (u := .type "int") rfl z_int (by decide +kernel) rfl) pa_nil))))
      (pss_one (ps_ret pe_int))
      pss_nil)
    (pss_one (ps_ret pe_int))))), ?_⟩
  obtain ⟨x, rfl, hx, q⟩ := h
  refine q_when (b := decide (x = .non)) (by walk_at "et") (fun hb H1 e1 => s_ret (v := .int (kr x)) ?_ fun H2 e2 => q _ (e1.trans e2)) fun hb H1 e1 => ?_
  · rw [of_decide_eq_true hb]
    exact ev_c
  cases hx with
  | non => exact absurd hb (by decide)
  | bl b => exact q_when (b := true) (et_B (ev_isiP (ev_var rfl) (.bl b) (by show kitB "bool" "bool" = some true; decide +kernel))) (fun _ H2 e2 => s_ret ev_c fun H3 e3 => q _ ((e1.trans e2).trans e3)) fun hb => nomatch hb
  | int i => exact q_when (b := false) (et_B (ev_isiP (ev_var rfl) (.int i) (by show kitB "int" "bool" = some false; decide +kernel))) (fun hb => nomatch hb) fun _ H2 e2 => q_when (b := true) (et_B (ev_isiP (ev_var rfl) (.int i) (by show kitB "int" "int" = some true; decide +kernel))) (fun _ H3 e3 => s_ret ev_c fun H4 e4 => q _ (((e1.trans e2).trans e3).trans e4)) fun hb => nomatch hb
  | str s hs => exact q_when (b := false) (et_B (ev_isiP (ev_var rfl) (.str s) (by show kitB "str" "bool" = some false; decide +kernel))) (fun hb => nomatch hb) fun _ H2 e2 => q_when (b := false) (et_B (ev_isiP (ev_var rfl) (.str s) (by show kitB "str" "int" = some false; decide +kernel))) (fun hb => nomatch hb) fun _ H3 e3 => s_ret ev_c fun H4 e4 => q _ (((e1.trans e2).trans e3).trans e4)
theorem ok_rank (D : Dn K mg "rank" s_rank ["value"]) (c_kind_rank : C8.Cal P w K mg base 1 "kind_rank" (sp_kind_rank K) []) (z_int : mg "int" = none) :
    C8.Cal P w K mg base 2 "rank" (sp_rank K) [] := by
  refine cal_of D sc_rank (fun vs H Q E h => ?_) (fun f cdv A outer s H vs Q E hr h => ?_)
  · obtain ⟨_, rfl, _⟩ := h
    rfl
  refine ⟨_, (pss_cons (ps_set (i := 1) sc_rank.nd rfl (.inl rfl) (C8.pe_c c_kind_rank hr (by decide) (by rfl) (pa_cons (pv 0) pa_nil)))
    (pss_cons (ps_if (pt_cmpR op_eq (pv 1) pe_int (nomark _))
      (pss_one (ps_ret (pe_tup (pa_cons pe_int (pa_cons pe_int pa_nil)))))
      pss_nil)
    (pss_cons (ps_if (pt_cmpR op_eq (pv 1) pe_int (nomark _))
      (pss_one (ps_ret (pe_tup (pa_cons pe_int (pa_cons (pe_callTy call_int1 (by rfl) z_int (by decide +kernel) (pa_cons (pv 0) pa_nil)) pa_nil)))))
      pss_nil)
    (pss_one (ps_ret (pe_tup (pa_cons (pv 1) (pa_cons (pv 0) pa_nil)))))))), ?_⟩
  obtain ⟨x, rfl, hx, q⟩ := h
  refine q_asg (ec_kr (ev_var rfl) hx) fun H1 e1 => ?_
  refine q_when (b := decide (V.int (kr x) = V.int 0)) (by walk_at "et") (fun hb H2 e2 => s_retU (xs := rkL x) ?_ fun p H3 hp e3 h3 => q p H3 (fresh_back (e1.trans e2) hp) ((e1.trans e2).trans e3) h3) fun hb H2 e2 => ?_
  · cases hx with
    | non => exact eu_tup (ea_cons ev_c (ea_cons ev_c ea_nil)) (by show 2 ≤ 100000; decide)
    | _ => simp [kr] at hb
  refine q_when (b := decide (V.int (kr x) = V.int 1)) (by walk_at "et") (fun hb H3 e3 => s_retU (xs := rkL x) ?_ fun p H4 hp e4 h4 => q p H4 (fresh_back ((e1.trans e2).trans e3) hp) (((e1.trans e2).trans e3).trans e4) h4) fun hb H3 e3 => s_retU (xs := rkL x) ?_ fun p H4 hp e4 h4 => q p H4 (fresh_back ((e1.trans e2).trans e3) hp) (((e1.trans e2).trans e3).trans e4) h4
  · cases hx with
    | bl b => exact eu_tup (ea_cons ev_c (ea_cons (ev_intB (ev_var rfl)) ea_nil)) (by show 2 ≤ 100000; decide)
    | _ => simp [kr] at hb
  · cases hx with
    | non => exact absurd ‹decide (V.int (kr .non) = V.int 0) = false› (by decide)
    | bl b => exact absurd ‹decide (V.int (kr (.bl b)) = V.int 1) = false› (by show ¬ decide (V.int 1 = V.int 1) = false; decide)
    | int i => exact eu_tup (ea_cons (ev_var rfl) (ea_cons (ev_var rfl) ea_nil)) (by show 2 ≤ 100000; decide)
    | str s hs => exact eu_tup (ea_cons (ev_var rfl) (ea_cons (ev_var rfl) ea_nil)) (by show 2 ≤ 100000; decide)
theorem ok__law_rank (D : Dn K mg "_law_rank" s__law_rank ["value"]) (z_bool : mg "bool" = none) (z_int : mg "int" = none) (z_isinstance : mg "isinstance" = none) :
    C8.Cal P w K mg base 1 "_law_rank" (sp__law_rank K) [] := by
  refine cal_of D sc__law_rank (fun vs H Q E h => ?_) (fun f cdv A outer s H vs Q E hr h => ?_)
  · obtain ⟨_, rfl, _⟩ := h
    rfl
  refine ⟨_, (pss_cons (ps_if (pt_cmpR op_isN (pv 0) pe_non (nomark _))
      (pss_one (ps_ret (pe_tup (pa_cons pe_int (pa_cons pe_int pa_nil)))))
      pss_nil)
    (pss_cons (ps_if (pt_val (pe_callB call_isi (by rfl) z_isinstance (by decide +kernel) (pa_cons (pv 0) (pa_cons (pe_bltn (v := .ty "bool") (u := .type "bool") rfl z_bool (by decide +kernel) rfl) pa_nil))))
      (pss_one (ps_ret (pe_tup (pa_cons pe_int (pa_cons (pe_callTy call_int1 (by rfl) z_int (by decide +kernel) (pa_cons (pv 0) pa_nil)) pa_nil)))))
      pss_nil)
    (pss_cons (ps_if (pt_val (pe_callB call_isi (by rfl) z_isinstance (by decide +kernel) (pa_cons (pv 0) (pa_cons (pe_bltn (v := .ty "int") (u := .type "int") rfl z_int (by decide +kernel) rfl) pa_nil))))
      (pss_one (ps_ret (pe_tup (pa_cons pe_int (pa_cons (pv 0) pa_nil)))))
      pss_nil)
    (pss_one (ps_ret (pe_tup (pa_cons pe_int (pa_cons (pv 0) pa_nil)))))))), ?_⟩
  obtain ⟨x, rfl, hx, q⟩ := h
  have two : (2 : Nat) ≤ 100000 := by decide
  refine q_when (b := decide (x = .non)) (by walk_at "et") (fun hb H1 e1 => s_retU (xs := rkL x) ?_ fun p H2 hp e2 h2 => q p H2 (fresh_back e1 hp) (e1.trans e2) h2) fun hb H1 e1 => ?_
  · rw [of_decide_eq_true hb]
    exact eu_tup (ea_cons ev_c (ea_cons ev_c ea_nil)) (by show 2 ≤ 100000; decide)
  cases hx with
  | non => exact absurd hb (by decide)
  | bl b => exact q_when (b := true) (et_B (ev_isiP (ev_var rfl) (.bl b) (by show kitB "bool" "bool" = some true; decide +kernel))) (fun _ H2 e2 => s_retU (xs := rkL (.bl b)) (eu_tup (ea_cons ev_c (ea_cons (ev_intB (ev_var rfl)) ea_nil)) two) fun p H3 hp e3 h3 => q p H3 (fresh_back (e1.trans e2) hp) ((e1.trans e2).trans e3) h3) fun hb => nomatch hb
  | int i => exact q_when (b := false) (et_B (ev_isiP (ev_var rfl) (.int i) (by show kitB "int" "bool" = some false; decide +kernel))) (fun hb => nomatch hb) fun _ H2 e2 => q_when (b := true) (et_B (ev_isiP (ev_var rfl) (.int i) (by show kitB "int" "int" = some true; decide +kernel))) (fun _ H3 e3 => s_retU (xs := rkL (.int i)) (eu_tup (ea_cons ev_c (ea_cons (ev_var rfl) ea_nil)) two) fun p H4 hp e4 h4 => q p H4 (fresh_back ((e1.trans e2).trans e3) hp) (((e1.trans e2).trans e3).trans e4) h4) fun hb => nomatch hb
  | str s hs => exact q_when (b := false) (et_B (ev_isiP (ev_var rfl) (.str s) (by show kitB "str" "bool" = some false; decide +kernel))) (fun hb => nomatch hb) fun _ H2 e2 => q_when (b := false) (et_B (ev_isiP (ev_var rfl) (.str s) (by show kitB "str" "int" = some false; decide +kernel))) (fun hb => nomatch hb) fun _ H3 e3 => s_retU (xs := rkL (.str s)) (eu_tup (ea_cons ev_c (ea_cons (ev_var rfl) ea_nil)) two) fun p H4 hp e4 h4 => q p H4 (fresh_back ((e1.trans e2).trans e3) hp) (((e1.trans e2).trans e3).trans e4) h4
theorem ok_is_integer (D : Dn K mg "is_integer" s_is_integer ["value"]) (z_bool : mg "bool" = none) (z_int : mg "int" = none) (z_isinstance : mg "isinstance" = none) :
    C8.Cal P w K mg base 1 "is_integer" (sp_is_integer K) [] := by
  refine cal_of D sc_is_integer (fun vs H Q E h => ?_) (fun f cdv A outer s H vs Q E hr h => ?_)
  · obtain ⟨_, rfl, _⟩ := h
    rfl
  refine ⟨_, (pss_one (ps_ret (pe_and (pe_callB call_isi (by rfl) z_isinstance (by decide +kernel) (pa_cons (pv 0) (pa_cons (pe_bltn (v := .ty "int") (u := .type "int") rfl z_int (by decide +kernel) rfl) pa_nil))) (pe_one (pe_not (pe_callB call_isi (by rfl) z_isinstance (by decide +kernel) (pa_cons (pv 0) (pa_cons (pe_bltn (v := .ty "bool") (u := .type "bool") rfl z_bool (by decide +kernel) rfl) pa_nil)))))))), ?_⟩
  obtain ⟨x, rfl, hx, q⟩ := h
  exact s_ret (ev_isInt (ev_var rfl) (ev_var rfl) hx) fun H2 e2 => q _ e2
theorem ok_same (D : Dn K mg "same" s_same ["first", "second"]) (c_rank : C8.Cal P w K mg base 2 "rank" (sp_rank K) []) :
    C8.Cal P w K mg base 3 "same" (sp_same K) [] := by
  refine cal_of D sc_same (fun vs H Q E h => ?_) (fun f cdv A outer s H vs Q E hr h => ?_)
  · obtain ⟨_, _, rfl, _⟩ := h
    rfl
  refine ⟨_, (pss_one (ps_ret (pe_cmpR (op_eqD (hu64 hr)) (C8.pe_c c_rank hr (by decide) (by rfl) (pa_cons (pv 0) pa_nil)) (C8.pe_c c_rank hr (by decide) (by rfl) (pa_cons (pv 1) pa_nil)) (nomark _)))), ?_⟩
  obtain ⟨x, y, rfl, hx, hy, q⟩ := h
  exact s_ret (ev_eqD (ed_rk (ec_rank (ev_var rfl) hx) hx) (ed_rk (ec_rank (ev_var rfl) hy) hy) (shaped_rk hx) (shaped_rk hy)) fun H2 e2 => q _ e2
theorem ok_before (D : Dn K mg "before" s_before ["first", "second"]) (c_rank : C8.Cal P w K mg base 2 "rank" (sp_rank K) []) :
    C8.Cal P w K mg base 3 "before" (sp_before K) [] := by
  refine cal_of D sc_before (fun vs H Q E h => ?_) (fun f cdv A outer s H vs Q E hr h => ?_)
  · obtain ⟨_, _, rfl, _⟩ := h
    rfl
  refine ⟨_, (pss_one (ps_ret (pe_cmpR (op_ltD (hu64 hr)) (C8.pe_c c_rank hr (by decide) (by rfl) (pa_cons (pv 0) pa_nil)) (C8.pe_c c_rank hr (by decide) (by rfl) (pa_cons (pv 1) pa_nil)) (nomark _)))), ?_⟩
  obtain ⟨x, y, rfl, hx, hy, q⟩ := h
  exact s_ret (ev_ltD (ed_rk (ec_rank (ev_var rfl) hx) hx) (ed_rk (ec_rank (ev_var rfl) hy) hy) (shaped_rk hx) (shaped_rk hy) (ord_rk hx hy) (by rw [dep_rk hx]; decide)) fun H2 e2 => q _ e2
end
section
variable {P : Program} {w : World} {K : PySem.W.Frag} {mg : Str → Option Value} {base : Heap}
theorem ok__law_is_integer (D : Dn K mg "_law_is_integer" s__law_is_integer ["told"]) (z_bool : mg "bool" = none) (z_int : mg "int" = none) (z_isinstance : mg "isinstance" = none) :
    C8.Cal P w K mg base 1 "_law_is_integer" (sp__law_is_integer K) [] := by
  refine cal_of D sc__law_is_integer (fun vs H Q E h => ?_) (fun f cdv A outer s H vs Q E hr h => ?_)
  · obtain ⟨_, rfl, _⟩ := h
    rfl
  refine ⟨_, (pss_one (ps_ret (pe_and (pe_callB call_isi (by rfl) z_isinstance (by decide +kernel) (pa_cons (pv 0) (pa_cons (pe_bltn (v := .ty "int") (u := .type "int") rfl z_int (by decide +kernel) rfl) pa_nil))) (pe_one (pe_not (pe_callB call_isi (by rfl) z_isinstance (by decide +kernel) (pa_cons (pv 0) (pa_cons (pe_bltn (v := .ty "bool") (u := .type "bool") rfl z_bool (by decide +kernel) rfl) pa_nil)))))))), ?_⟩
  obtain ⟨x, rfl, hx, q⟩ := h
  exact s_ret (ev_isInt (ev_var rfl) (ev_var rfl) hx) fun H2 e2 => q _ e2
end
def unNames : List Str := ["not", "is null", "negate", "length"]
def binNames : List Str := ["and", "or", "equal", "less", "at most", "same", "coalesce", "add", "join", "least"]
def bdV : V → Prop
  | .int i => -1152921504606846976 ≤ i ∧ i ≤ 1152921504606846976
  | _ => True
theorem cal_no {P : Program} {w : World} {K : PySem.W.Frag} {mg : Str → Option Value} {base : Heap} {x : Str} {st : Stmt} {N ps : List Str} {k : Nat} {sp : Sp} (D : Dn K mg x st ps) (S : FnScope N ps (C8.fnScope st)) (no : ∀ vs H Q E, sp vs H Q E → False) : C8.Cal P w K mg base (k + 1) x sp [] :=
  cal_of D S (fun vs H Q E h => (no vs H Q E h).elim) fun f cdv A outer s H vs Q E hr h => (no vs H Q E h).elim
inductive Cnd where
  | col (n : Nat)
  | cst (v : V)
  | un (nm : Str) (a : Cnd)
  | bin (nm : Str) (a b : Cnd)
def vDc : V → PyData
  | .bl b => .bool b
  | .int i => .int i
  | .str s => .str s
  | _ => .none
theorem vDc_is {K : PySem.W.Frag} {H : Hp} {v x : V} (h : Pl x) (hd : Dp K H v (vDc x)) : v = x := by cases h <;> cases hd <;> rfl
def Cnd.d : Cnd → PyData
  | .col n => .tuple [.str "column", .int (n : Int)]
  | .cst v => .tuple [.str "constant", vDc v]
  | .un nm a => .tuple [.str "unary", .str nm, a.d]
  | .bin nm a b => .tuple [.str "binary", .str nm, a.d, b.d]
def Cnd.dep : Cnd → Nat
  | .col _ => 1
  | .cst _ => 1
  | .un _ a => a.dep + 1
  | .bin _ a b => max a.dep b.dep + 1
/-- over w columns, of these names -/
inductive Cnd.ok (w : Nat) : Cnd → Prop where
  | col (n : Nat) (h : n < w) : Cnd.ok w (.col n)
  | cst (v : V) (h : Ok v ∧ bdV v) : Cnd.ok w (.cst v)
  | un (nm : Str) (a : Cnd) (h : nm ∈ unNames) (ha : a.ok w) : Cnd.ok w (.un nm a)
  | bin (nm : Str) (a b : Cnd) (h : nm ∈ binNames) (ha : a.ok w) (hb : b.ok w) : Cnd.ok w (.bin nm a b)
theorem noL_vDc (v : V) : noL (vDc v) = true := by cases v <;> rfl
theorem noL_cx : ∀ e : Cnd, noL e.d = true
  | .col _ => rfl
  | .cst v => by
    show (true && (noL (vDc v) && true)) = true
    rw [noL_vDc]
    rfl
  | .un _ a => by
    show (true && (true && (noL a.d && true))) = true
    rw [noL_cx a]
    rfl
  | .bin _ a b => by
    show (true && (true && (noL a.d && (noL b.d && true)))) = true
    rw [noL_cx a, noL_cx b]
    rfl
def neg3 (x : V) : V := if x = .bl true then .bl false else if x = .bl false then .bl true else .non
def and3 (x y : V) : V := if x = .bl false ∨ y = .bl false then .bl false else if x = .bl true ∧ y = .bl true then .bl true else .non
def or3 (x y : V) : V := if x = .bl true ∨ y = .bl true then .bl true else if x = .bl false ∧ y = .bl false then .bl false else .non
def sp_negated (K : PySem.W.Frag) : Sp := fun vs H Q _ => ∃ x : V, vs = [x] ∧ ∀ H', Ex H H' → Q (neg3 x) H'
def sp_both (K : PySem.W.Frag) : Sp := fun vs H Q _ => ∃ x y : V, vs = [x, y] ∧ ∀ H', Ex H H' → Q (and3 x y) H'
def sp_either (K : PySem.W.Frag) : Sp := fun vs H Q _ => ∃ x y : V, vs = [x, y] ∧ ∀ H', Ex H H' → Q (or3 x y) H'
section
variable {P : Program} {w : World} {K : PySem.W.Frag} {mg : Str → Option Value} {base : Heap}
theorem ok_both (D : Dn K mg "both" s_both ["first", "second"]) :
    C8.Cal P w K mg base 1 "both" (sp_both K) [] := by
  refine cal_of D sc_both (fun vs H Q E h => ?_) (fun f cdv A outer s H vs Q E hr h => ?_)
  · obtain ⟨_, _, rfl, _⟩ := h
    rfl
  refine ⟨_, (pss_cons (ps_if (PW.pt (pw_or (pt_cmpR op_isTF (pv 0) pe_bl (nomark _)) (pw_or1 (pt_cmpR op_isTF (pv 1) pe_bl (nomark _)))))
      (pss_one (ps_ret pe_bl))
      pss_nil)
    (pss_cons (ps_if (PW.pt (pw_and (pt_cmpR op_isTF (pv 0) pe_bl (nomark _)) (pw_and1 (pt_cmpR op_isTF (pv 1) pe_bl (nomark _)))))
      (pss_one (ps_ret pe_bl))
      pss_nil)
    (pss_one (ps_ret pe_non)))), ?_⟩
  obtain ⟨x, y, rfl, q⟩ := h
  refine q_when (b := decide (x = .bl false) || decide (y = .bl false)) (by walk_at "et") (fun hb H1 e1 => s_ret (v := and3 x y) ?_ fun H2 e2 => q _ (e1.trans e2)) fun hb H1 e1 => ?_
  · refine ev_is ev_c ?_
    unfold and3
    rw [if_pos (by rw [Bool.or_eq_true, decide_eq_true_eq, decide_eq_true_eq] at hb; exact hb)]
  have nb : ¬ (x = .bl false ∨ y = .bl false) := by
    intro z
    rw [Bool.or_eq_false_iff, decide_eq_false_iff_not, decide_eq_false_iff_not] at hb
    exact z.elim hb.1 hb.2
  refine q_when (b := decide (x = .bl true) && decide (y = .bl true)) (by walk_at "et") (fun hc H2 e2 => s_ret (v := and3 x y) ?_ fun H3 e3 => q _ ((e1.trans e2).trans e3)) fun hc H2 e2 => s_ret (v := and3 x y) ?_ fun H3 e3 => q _ ((e1.trans e2).trans e3)
  · refine ev_is ev_c ?_
    unfold and3
    rw [if_neg nb, if_pos (by rw [Bool.and_eq_true, decide_eq_true_eq, decide_eq_true_eq] at hc; exact hc)]
  · refine ev_is ev_c ?_
    unfold and3
    rw [if_neg nb, if_neg (fun z => by rw [decide_eq_true z.1, decide_eq_true z.2] at hc; cases hc)]
theorem ok_either (D : Dn K mg "either" s_either ["first", "second"]) :
    C8.Cal P w K mg base 1 "either" (sp_either K) [] := by
  refine cal_of D sc_either (fun vs H Q E h => ?_) (fun f cdv A outer s H vs Q E hr h => ?_)
  · obtain ⟨_, _, rfl, _⟩ := h
    rfl
  refine ⟨_, (pss_cons (ps_if (PW.pt (pw_or (pt_cmpR op_isTF (pv 0) pe_bl (nomark _)) (pw_or1 (pt_cmpR op_isTF (pv 1) pe_bl (nomark _)))))
      (pss_one (ps_ret pe_bl))
      pss_nil)
    (pss_cons (ps_if (PW.pt (pw_and (pt_cmpR op_isTF (pv 0) pe_bl (nomark _)) (pw_and1 (pt_cmpR op_isTF (pv 1) pe_bl (nomark _)))))
      (pss_one (ps_ret pe_bl))
      pss_nil)
    (pss_one (ps_ret pe_non)))), ?_⟩
  obtain ⟨x, y, rfl, q⟩ := h
  refine q_when (b := decide (x = .bl true) || decide (y = .bl true)) (by walk_at "et") (fun hb H1 e1 => s_ret (v := or3 x y) ?_ fun H2 e2 => q _ (e1.trans e2)) fun hb H1 e1 => ?_
  · refine ev_is ev_c ?_
    unfold or3
    rw [if_pos (by rw [Bool.or_eq_true, decide_eq_true_eq, decide_eq_true_eq] at hb; exact hb)]
  have nb : ¬ (x = .bl true ∨ y = .bl true) := by
    intro z
    rw [Bool.or_eq_false_iff, decide_eq_false_iff_not, decide_eq_false_iff_not] at hb
    exact z.elim hb.1 hb.2
  refine q_when (b := decide (x = .bl false) && decide (y = .bl false)) (by walk_at "et") (fun hc H2 e2 => s_ret (v := or3 x y) ?_ fun H3 e3 => q _ ((e1.trans e2).trans e3)) fun hc H2 e2 => s_ret (v := or3 x y) ?_ fun H3 e3 => q _ ((e1.trans e2).trans e3)
  · refine ev_is ev_c ?_
    unfold or3
    rw [if_neg nb, if_pos (by rw [Bool.and_eq_true, decide_eq_true_eq, decide_eq_true_eq] at hc; exact hc)]
  · refine ev_is ev_c ?_
    unfold or3
    rw [if_neg nb, if_neg (fun z => by rw [decide_eq_true z.1, decide_eq_true z.2] at hc; cases hc)]
section
variable {σ : L2.St} {H : Hp} {ta tb : TE} {E : XK} {x y : V}
theorem ec_both (ha : Ev ta σ H x) (hb : Ev tb σ H y) : Ev (tCall (sp_both K) [] E (tCons ta (tCons tb tNil))) σ H (and3 x y) := ev_call (ea_cons ha (ea_cons hb ea_nil)) fun H1 e Q q E => ⟨x, y, rfl, q⟩
theorem ec_either (ha : Ev ta σ H x) (hb : Ev tb σ H y) : Ev (tCall (sp_either K) [] E (tCons ta (tCons tb tNil))) σ H (or3 x y) := ev_call (ea_cons ha (ea_cons hb ea_nil)) fun H1 e Q q E => ⟨x, y, rfl, q⟩
end
end
section
variable {P : Program} {w : World} {K : PySem.W.Frag} {mg : Str → Option Value} {base : Heap}
theorem ok_negated (D : Dn K mg "negated" s_negated ["value"]) :
    C8.Cal P w K mg base 1 "negated" (sp_negated K) [] := by
  refine cal_of D sc_negated (fun vs H Q E h => ?_) (fun f cdv A outer s H vs Q E hr h => ?_)
  · obtain ⟨_, rfl, _⟩ := h
    rfl
  refine ⟨_, (pss_cons (ps_if (pt_cmpR op_isTF (pv 0) pe_bl (nomark _))
      (pss_one (ps_ret pe_bl))
      pss_nil)
    (pss_cons (ps_if (pt_cmpR op_isTF (pv 0) pe_bl (nomark _))
      (pss_one (ps_ret pe_bl))
      pss_nil)
    (pss_one (ps_ret pe_non)))), ?_⟩
  obtain ⟨x, rfl, q⟩ := h
  refine q_when (b := decide (x = .bl true)) (by walk_at "et") (fun hb H1 e1 => s_ret (v := neg3 x) ?_ fun H2 e2 => q _ (e1.trans e2)) fun hb H1 e1 => ?_
  · refine ev_is ev_c ?_
    unfold neg3
    rw [if_pos (of_decide_eq_true hb)]
  refine q_when (b := decide (x = .bl false)) (by walk_at "et") (fun hc H2 e2 => s_ret (v := neg3 x) ?_ fun H3 e3 => q _ ((e1.trans e2).trans e3)) fun hc H2 e2 => s_ret (v := neg3 x) ?_ fun H3 e3 => q _ ((e1.trans e2).trans e3)
  · refine ev_is ev_c ?_
    unfold neg3
    rw [if_neg (of_decide_eq_false hb), if_pos (of_decide_eq_true hc)]
  · refine ev_is ev_c ?_
    unfold neg3
    rw [if_neg (of_decide_eq_false hb), if_neg (of_decide_eq_false hc)]
end
def bothOk (x y : V) : Prop := Ok x ∧ Ok y
def anyV (_ _ : V) : Prop := True
def twoI (x y : V) : Prop := ∃ a b : Int, x = .int a ∧ y = .int b
def twoS (x y : V) : Prop := ∃ a b : Str, x = .str a ∧ y = .str b ∧ a.length ≤ 10000 ∧ b.length ≤ 10000
def sameV (x y : V) : V := .bl (PyData.eqv (rkD x) (rkD y))
def lessV (x y : V) : V := .bl (ltD (rkD x) (rkD y))
def mostV (x y : V) : V := .bl (!ltD (rkD y) (rkD x))
def leastV (x y : V) : V := if ltD (rkD y) (rkD x) = true then y else x
def coalV (x y : V) : V := if x = .non then y else x
def addV : V → V → V
  | .int i, .int j => limV (i + j)
  | _, _ => .non
def joinV : V → V → V
  | .str a, .str b => if 10000 < a.length + b.length then .non else .str (a ++ b)
  | _, _ => .non
def isStr : V → Bool
  | .str _ => true
  | _ => false
def negV : V → V
  | .int i => .int (-i)
  | _ => .non
def lenV : V → V
  | .str s => .int (s.length : Int)
  | _ => .non
def alike (x y : V) : Bool := (!decide (x = .non)) && decide (V.int (kr x) = V.int (kr y))
def binV (nm : Str) (x y : V) : V :=
  if nm = "and" then and3 x y else if nm = "or" then or3 x y else if nm = "same" then sameV x y else if nm = "coalesce" then coalV x y
  else if nm = "add" then addV x y else if nm = "join" then joinV x y
  else if alike x y = true then (if nm = "equal" then sameV x y else if nm = "less" then lessV x y else if nm = "at most" then mostV x y else leastV x y) else .non
def unV (nm : Str) (x : V) : V := if nm = "not" then neg3 x else if nm = "is null" then .bl (decide (x = .non)) else if nm = "negate" then negV x else lenV x
def evE (xs : List V) : Cnd → V
  | .col n => xs.getD n .non
  | .cst v => v
  | .un nm a => unV nm (evE xs a)
  | .bin nm a b => binV nm (evE xs a) (evE xs b)
theorem lim_ok (n : Int) : Ok (limV n) := by unfold limV; split; exact .int _; exact .non
theorem strOk_app {a b : Str} (ha : PyData.strOk a = true) (hb : PyData.strOk b = true) : PyData.strOk (a ++ b) = true := by
  unfold PyData.strOk at ha hb ⊢
  show ((a.cps ++ b.cps).all _) = true
  rw [Array.all_append, ha, hb]
  rfl
theorem len_app (a b : Str) : (a ++ b).length = a.length + b.length := Array.size_append
theorem neg_ok (x : V) : Ok (neg3 x) := by unfold neg3; split; exact .bl _; split; exact .bl _; exact .non
theorem and_ok (x y : V) : Ok (and3 x y) := by unfold and3; split; exact .bl _; split; exact .bl _; exact .non
theorem or_ok (x y : V) : Ok (or3 x y) := by unfold or3; split; exact .bl _; split; exact .bl _; exact .non
theorem un_ok (nm : Str) {x : V} (h : Ok x) : Ok (unV nm x) := by
  unfold unV
  split
  · exact neg_ok x
  split
  · exact .bl _
  split
  · cases h <;> first | exact .non | exact .int _
  · cases h <;> first | exact .non | exact .int _
theorem add_ok (x y : V) : Ok (addV x y) := by
  unfold addV
  split
  · exact lim_ok _
  · exact .non
theorem join_ok {x y : V} (hx : Ok x) (hy : Ok y) : Ok (joinV x y) := by
  cases hx with
  | str a ha =>
    cases hy with
    | str b hb =>
      show Ok (if 10000 < a.length + b.length then .non else .str (a ++ b))
      split
      · exact .non
      · exact .str _ ⟨strOk_app ha.1 hb.1, by rw [len_app]; omega⟩
    | _ => exact .non
  | _ => exact .non
theorem bin_ok (nm : Str) {x y : V} (hx : Ok x) (hy : Ok y) : Ok (binV nm x y) := by
  unfold binV
  split
  · exact and_ok x y
  split
  · exact or_ok x y
  split
  · exact .bl _
  split
  · unfold coalV; split <;> assumption
  split
  · exact add_ok x y
  split
  · exact join_ok hx hy
  split
  · split
    · exact .bl _
    split
    · exact .bl _
    split
    · exact .bl _
    · unfold leastV; split <;> assumption
  · exact .non
theorem row_ok {xs : List V} (h : ∀ x ∈ xs, Ok x) (n : Nat) : Ok (xs.getD n .non) := by
  rw [List.getD_eq_getElem?_getD]
  cases e : xs[n]? with
  | none => exact .non
  | some x => exact h x (List.mem_of_getElem? e)
theorem ev_ok {w : Nat} {xs : List V} (h : ∀ x ∈ xs, Ok x) : ∀ {e : Cnd}, e.ok w → Ok (evE xs e)
  | .col n, _ => row_ok h n
  | .cst v, .cst _ hv => hv.1
  | .un nm a, .un _ _ _ ha => un_ok nm (ev_ok h ha)
  | .bin nm a b, .bin _ _ _ _ ha hb => bin_ok nm (ev_ok h ha) (ev_ok h hb)
inductive Opr2 (P : Program) (w : World) (K : PySem.W.Frag) (mg : Str → Option Value) (base : Heap) (dA dL dI dT : Addr) : Str → V → V → V → Prop
  | any {nm : Str} {x y : V} {f : Addr} {pre : V → V → Prop} {op : V → V → V} : PySem.W.nsIn K dA nm = some (some (.ref f)) → L2.Held P w K mg base 4 f (spBin pre op) → pre x y → Opr2 P w K mg base dA dL dI dT nm x y (op x y)
  | alike {nm : Str} {x y : V} {f : Addr} {op : V → V → V} : PySem.W.nsIn K dA nm = some none → PySem.W.nsIn K dL nm = some (some (.ref f)) → L2.Held P w K mg base 4 f (spBin bothOk op) → Opr2 P w K mg base dA dL dI dT nm x y (if alike x y = true then op x y else .non)
  | nums {nm : Str} {x y : V} {f : Addr} : PySem.W.nsIn K dA nm = some none → PySem.W.nsIn K dL nm = some none → PySem.W.nsIn K dI nm = some (some (.ref f)) → L2.Held P w K mg base 4 f (spBin twoI addV) → Opr2 P w K mg base dA dL dI dT nm x y (addV x y)
  | wrds {nm : Str} {x y : V} {f : Addr} : PySem.W.nsIn K dA nm = some none → PySem.W.nsIn K dL nm = some none → PySem.W.nsIn K dI nm = some none → PySem.W.nsIn K dT nm = some (some (.ref f)) → L2.Held P w K mg base 4 f (spBin twoS joinV) → Opr2 P w K mg base dA dL dI dT nm x y (joinV x y)
theorem rv_inKD {K : PySem.W.Frag} {d : Addr} {z : Str} {r : Option Value} {H : Hp} (e : PySem.W.nsIn K d z = some r) : RV (fun x y H Q => ∃ (z : Str) (r : Option Value), x = .str z ∧ y = .ref d ∧ PySem.W.nsIn K d z = some r ∧ Q (.bl r.isSome) H) (.str z) (.ref d) H (.bl r.isSome) :=
  fun H1 _ _ q => ⟨z, r, rfl, rfl, e, q H1 (Ex.refl H1)⟩
theorem rv_ixKD {K : PySem.W.Frag} {w : World} {d : Addr} {es : Array DictEntry} {n : Nat} {z : Str} {u : Value} {v : V} {H : Hp} (D : KDict K w d es n) (e : PySem.W.nsIn K d z = some (some u)) (r : RelV v u) : RV (rIxD K w) (.ref d) (.str z) H v :=
  fun H1 _ _ q => ⟨d, z, v, rfl, rfl, ⟨es, n, u, D.at_, D.lit, e, r⟩, q H1 (Ex.refl H1)⟩
theorem dp_tupD {K : PySem.W.Frag} {H : Hp} {v : V} {ds : List PyData} (h : Dp K H v (.tuple ds)) : ∃ b ys, v = .ref b ∧ SqT K H b ys ∧ DpAll K H ys ds := by
  cases h with
  | tup hS hd => exact ⟨_, _, rfl, hS, hd⟩
def sp__both (K : PySem.W.Frag) : Sp := spBin anyV and3
def sp__either (K : PySem.W.Frag) : Sp := spBin anyV or3
def sp__same (K : PySem.W.Frag) : Sp := spBin bothOk sameV
def sp__equal (K : PySem.W.Frag) : Sp := spBin bothOk sameV
def sp__less (K : PySem.W.Frag) : Sp := spBin bothOk lessV
def sp__at_most (K : PySem.W.Frag) : Sp := spBin bothOk mostV
def sp__least (K : PySem.W.Frag) : Sp := spBin bothOk leastV
def sp__first_known (K : PySem.W.Frag) : Sp := spBin anyV coalV
def sp__add (K : PySem.W.Frag) : Sp := spBin twoI addV
def sp__join (K : PySem.W.Frag) : Sp := spBin twoS joinV
def sp_limited (K : PySem.W.Frag) : Sp := fun vs H Q _ => ∃ n : Int, vs = [.int n] ∧ ∀ H', Ex H H' → Q (limV n) H'
def sp__are_alike (K : PySem.W.Frag) : Sp := fun vs H Q _ => ∃ x y : V, vs = [x, y] ∧ Ok x ∧ Ok y ∧ ∀ H', Ex H H' → Q (.bl (alike x y)) H'
def sp_value_of_two (K : PySem.W.Frag) : Sp := fun vs H Q _ => ∃ (nm : Str) (x y : V), vs = [.str nm, x, y] ∧ nm ∈ binNames ∧ Ok x ∧ Ok y ∧ ∀ H', Ex H H' → Q (binV nm x y) H'
abbrev sp_binary (K : PySem.W.Frag) : Sp := sp_value_of_two K
def sp__negate (K : PySem.W.Frag) : Sp := fun vs H Q _ => ∃ i : Int, vs = [.int i] ∧ ∀ H', Ex H H' → Q (.int (-i)) H'
def sp__length (K : PySem.W.Frag) : Sp := fun vs H Q _ => ∃ s : Str, vs = [.str s] ∧ s.length ≤ 10000 ∧ ∀ H', Ex H H' → Q (.int (s.length : Int)) H'
def sp_value_of_one (K : PySem.W.Frag) : Sp := fun vs H Q _ => ∃ (nm : Str) (x : V), vs = [.str nm, x] ∧ nm ∈ unNames ∧ Ok x ∧ ∀ H', Ex H H' → Q (unV nm x) H'
abbrev sp_unary (K : PySem.W.Frag) : Sp := sp_value_of_one K
/-- a condition as data, of names that are known, n deep at most -/
def CxAt (K : PySem.W.Frag) (H : Hp) (v : V) (e : Cnd) (n : Nat) : Prop := Dp K H v e.d ∧ e.dep ≤ n ∧ ∃ w, e.ok w
theorem CxAt.ex {K : PySem.W.Frag} {H H' : Hp} {v : V} {e : Cnd} {n : Nat} (h : CxAt K H v e n) (x : Ex H H') : CxAt K H' v e n := ⟨ex_dp x h.1, h.2⟩
def spR_evaluate : Nat → PySem.W.Frag → Sp
  | 0, _ => fun _ _ _ _ => False
  | n + 1, K => fun vs H Q _ => ∃ (v : V) (e : Cnd) (a : Addr) (xs : List V), vs = [v, .ref a] ∧ CxAt K H v e (n + 1) ∧ SqL K H a xs ∧ (∀ x ∈ xs, Ok x) ∧ xs.length ≤ 1000 ∧ ∀ H', Ex H H' → Q (evE xs e) H'
def sp_evaluate (K : PySem.W.Frag) : Sp := spR_evaluate 8 K
section
variable {P : Program} {w : World} {K : PySem.W.Frag} {mg : Str → Option Value} {base : Heap}
section
variable {σ : L2.St} {H : Hp} {ta tb tc : TE} {E : XK} {x y v : V} {nm : Str} {e : Cnd} {n : Nat} {a : Addr} {xs : List V}
theorem ev_isStr (ha : Ev ta σ H x) (h : Ok x) : Ev (tCB (rIsi K) (tCons ta (tCons (tC (.ty "str")) tNil))) σ H (.bl (isStr x)) := by
  cases h with
  | non => exact ev_isiP (b := false) ha .non (by show kitB "NoneType" "str" = some false; decide +kernel)
  | bl b => exact ev_isiP (b := false) ha (.bl b) (by show kitB "bool" "str" = some false; decide +kernel)
  | int i => exact ev_isiP (b := false) ha (.int i) (by show kitB "int" "str" = some false; decide +kernel)
  | str s _ => exact ev_isiP (b := true) ha (.str s) (by show kitB "str" "str" = some true; decide +kernel)
theorem ec_alike (ha : Ev ta σ H x) (hb : Ev tb σ H y) (h1 : Ok x) (h2 : Ok y) : Ev (tCall (sp__are_alike K) [] E (tCons ta (tCons tb tNil))) σ H (.bl (alike x y)) := ev_call (ea_cons ha (ea_cons hb ea_nil)) fun H1 e Q q E => ⟨x, y, rfl, h1, h2, q⟩
theorem ec_neg3 (ha : Ev ta σ H x) : Ev (tCall (sp_negated K) [] E (tCons ta tNil)) σ H (neg3 x) := ev_call (ea_cons ha ea_nil) fun H1 e Q q E => ⟨x, rfl, q⟩
theorem ec_two (h : nm ∈ binNames) (h1 : Ok x) (h2 : Ok y) (ha : Ev ta σ H (.str nm)) (hb : Ev tb σ H x) (hc : Ev tc σ H y) : Ev (tCall (sp_value_of_two K) [] E (tCons ta (tCons tb (tCons tc tNil)))) σ H (binV nm x y) := ev_call (ea_cons ha (ea_cons hb (ea_cons hc ea_nil))) fun H1 e Q q E => ⟨nm, x, y, rfl, h, h1, h2, q⟩
theorem ec_one (h : nm ∈ unNames) (h1 : Ok x) (ha : Ev ta σ H (.str nm)) (hb : Ev tb σ H x) : Ev (tCall (sp_value_of_one K) [] E (tCons ta (tCons tb tNil))) σ H (unV nm x) := ev_call (ea_cons ha (ea_cons hb ea_nil)) fun H1 e Q q E => ⟨nm, x, rfl, h, h1, q⟩
theorem ec_evalR (ha : Ev ta σ H v) (hb : Ev tb σ H (.ref a)) (he : CxAt K H v e (n + 1)) (hS : SqL K H a xs) (hx : ∀ x ∈ xs, Ok x) (hl : xs.length ≤ 1000) : Ev (tCall (spR_evaluate (n + 1) K) [] E (tCons ta (tCons tb tNil))) σ H (evE xs e) := ev_call (ea_cons ha (ea_cons hb ea_nil)) fun H1 e1 Q q E => ⟨v, e, a, xs, rfl, he.ex e1, ex_l e1 hS, hx, hl, q⟩
theorem ec_eval (ha : Ev ta σ H v) (hb : Ev tb σ H (.ref a)) (he : CxAt K H v e 8) (hS : SqL K H a xs) (hx : ∀ x ∈ xs, Ok x) (hl : xs.length ≤ 1000) : Ev (tCall (sp_evaluate K) [] E (tCons ta (tCons tb tNil))) σ H (evE xs e) := ec_evalR ha hb he hS hx hl
end
theorem ok__both (D : Dn K mg "_both" s__both ["first", "second"]) (c_both : C8.Cal P w K mg base 1 "both" (sp_both K) []) :
    C8.Cal P w K mg base 2 "_both" (sp__both K) [] := by
  refine cal_of D sc__both (fun vs H Q E h => ?_) (fun f cdv A outer s H vs Q E hr h => ?_)
  · obtain ⟨_, _, rfl, _⟩ := h
    rfl
  refine ⟨_, (pss_one (ps_ret (C8.pe_c c_both hr (by decide) (by rfl) (pa_cons (pv 0) (pa_cons (pv 1) pa_nil))))), ?_⟩
  obtain ⟨x, y, rfl, _, q⟩ := h
  exact s_ret (ec_both (ev_var rfl) (ev_var rfl)) fun H2 e2 => q _ e2
theorem ok__either (D : Dn K mg "_either" s__either ["first", "second"]) (c_either : C8.Cal P w K mg base 1 "either" (sp_either K) []) :
    C8.Cal P w K mg base 2 "_either" (sp__either K) [] := by
  refine cal_of D sc__either (fun vs H Q E h => ?_) (fun f cdv A outer s H vs Q E hr h => ?_)
  · obtain ⟨_, _, rfl, _⟩ := h
    rfl
  refine ⟨_, (pss_one (ps_ret (C8.pe_c c_either hr (by decide) (by rfl) (pa_cons (pv 0) (pa_cons (pv 1) pa_nil))))), ?_⟩
  obtain ⟨x, y, rfl, _, q⟩ := h
  exact s_ret (ec_either (ev_var rfl) (ev_var rfl)) fun H2 e2 => q _ e2
theorem ok__same (D : Dn K mg "_same" s__same ["first", "second"]) (c_same : C8.Cal P w K mg base 3 "same" (sp_same K) []) :
    C8.Cal P w K mg base 4 "_same" (sp__same K) [] := by
  refine cal_of D sc__same (fun vs H Q E h => ?_) (fun f cdv A outer s H vs Q E hr h => ?_)
  · obtain ⟨_, _, rfl, _⟩ := h
    rfl
  refine ⟨_, (pss_one (ps_ret (C8.pe_c c_same hr (by decide) (by rfl) (pa_cons (pv 0) (pa_cons (pv 1) pa_nil))))), ?_⟩
  obtain ⟨x, y, rfl, ⟨hx, hy⟩, q⟩ := h
  exact s_ret (ec_same (ev_var rfl) (ev_var rfl) hx hy) fun H2 e2 => q _ e2
theorem ok__equal (D : Dn K mg "_equal" s__equal ["first", "second"]) (c_same : C8.Cal P w K mg base 3 "same" (sp_same K) []) :
    C8.Cal P w K mg base 4 "_equal" (sp__equal K) [] := by
  refine cal_of D sc__equal (fun vs H Q E h => ?_) (fun f cdv A outer s H vs Q E hr h => ?_)
  · obtain ⟨_, _, rfl, _⟩ := h
    rfl
  refine ⟨_, (pss_one (ps_ret (C8.pe_c c_same hr (by decide) (by rfl) (pa_cons (pv 0) (pa_cons (pv 1) pa_nil))))), ?_⟩
  obtain ⟨x, y, rfl, ⟨hx, hy⟩, q⟩ := h
  exact s_ret (ec_same (ev_var rfl) (ev_var rfl) hx hy) fun H2 e2 => q _ e2
theorem ok__less (D : Dn K mg "_less" s__less ["first", "second"]) (c_before : C8.Cal P w K mg base 3 "before" (sp_before K) []) :
    C8.Cal P w K mg base 4 "_less" (sp__less K) [] := by
  refine cal_of D sc__less (fun vs H Q E h => ?_) (fun f cdv A outer s H vs Q E hr h => ?_)
  · obtain ⟨_, _, rfl, _⟩ := h
    rfl
  refine ⟨_, (pss_one (ps_ret (C8.pe_c c_before hr (by decide) (by rfl) (pa_cons (pv 0) (pa_cons (pv 1) pa_nil))))), ?_⟩
  obtain ⟨x, y, rfl, ⟨hx, hy⟩, q⟩ := h
  exact s_ret (ec_before (ev_var rfl) (ev_var rfl) hx hy) fun H2 e2 => q _ e2
theorem ok__at_most (D : Dn K mg "_at_most" s__at_most ["first", "second"]) (c_before : C8.Cal P w K mg base 3 "before" (sp_before K) []) :
    C8.Cal P w K mg base 4 "_at_most" (sp__at_most K) [] := by
  refine cal_of D sc__at_most (fun vs H Q E h => ?_) (fun f cdv A outer s H vs Q E hr h => ?_)
  · obtain ⟨_, _, rfl, _⟩ := h
    rfl
  refine ⟨_, (pss_one (ps_ret (pe_not (C8.pe_c c_before hr (by decide) (by rfl) (pa_cons (pv 1) (pa_cons (pv 0) pa_nil)))))), ?_⟩
  obtain ⟨x, y, rfl, ⟨hx, hy⟩, q⟩ := h
  exact s_ret (ev_notV (ec_before (ev_var rfl) (ev_var rfl) hy hx)) fun H2 e2 => q _ e2
theorem ok__are_alike (D : Dn K mg "_are_alike" s__are_alike ["first", "second"]) (c_kind_rank : C8.Cal P w K mg base 1 "kind_rank" (sp_kind_rank K) []) :
    C8.Cal P w K mg base 2 "_are_alike" (sp__are_alike K) [] := by
  refine cal_of D sc__are_alike (fun vs H Q E h => ?_) (fun f cdv A outer s H vs Q E hr h => ?_)
  · obtain ⟨_, _, rfl, _⟩ := h
    rfl
  refine ⟨_, (pss_one (ps_ret (pe_and (pe_cmpR op_notN (pv 0) pe_non (nomark _)) (pe_one (pe_cmpR op_eq (C8.pe_c c_kind_rank hr (by decide) (by rfl) (pa_cons (pv 0) pa_nil)) (C8.pe_c c_kind_rank hr (by decide) (by rfl) (pa_cons (pv 1) pa_nil)) (nomark _)))))), ?_⟩
  obtain ⟨x, y, rfl, hx, hy, q⟩ := h
  exact s_ret (ev_andV (ev_op (ev_var rfl) ev_c rv_notN) fun _ => ev_op (ec_kr (ev_var rfl) hx) (ec_kr (ev_var rfl) hy) (rv_eq rfl)) fun H2 e2 => q _ e2
theorem ok__first_known (D : Dn K mg "_first_known" s__first_known ["first", "second"]) :
    C8.Cal P w K mg base 1 "_first_known" (sp__first_known K) [] := by
  refine cal_of D sc__first_known (fun vs H Q E h => ?_) (fun f cdv A outer s H vs Q E hr h => ?_)
  · obtain ⟨_, _, rfl, _⟩ := h
    rfl
  refine ⟨_, (pss_one (ps_ret (pe_ifExp (pt_cmpR op_isN (pv 0) pe_non (nomark _)) (pv 1) (pv 0)))), ?_⟩
  obtain ⟨x, y, rfl, _, q⟩ := h
  refine s_ret (v := coalV x y) (ev_if (b := decide (x = .non)) (et_test (ev_op (ev_var rfl) ev_c rv_isN)) (fun hb => ev_is (ev_var rfl) ?_) fun hb => ev_is (ev_var rfl) ?_) fun H2 e2 => q _ e2
  · unfold coalV; rw [if_pos (of_decide_eq_true hb)]
  · unfold coalV; rw [if_neg (of_decide_eq_false hb)]
theorem ok__least (D : Dn K mg "_least" s__least ["first", "second"]) (c_before : C8.Cal P w K mg base 3 "before" (sp_before K) []) :
    C8.Cal P w K mg base 4 "_least" (sp__least K) [] := by
  refine cal_of D sc__least (fun vs H Q E h => ?_) (fun f cdv A outer s H vs Q E hr h => ?_)
  · obtain ⟨_, _, rfl, _⟩ := h
    rfl
  refine ⟨_, (pss_one (ps_ret (pe_ifExp (pt_val (C8.pe_c c_before hr (by decide) (by rfl) (pa_cons (pv 1) (pa_cons (pv 0) pa_nil)))) (pv 1) (pv 0)))), ?_⟩
  obtain ⟨x, y, rfl, ⟨hx, hy⟩, q⟩ := h
  refine s_ret (v := leastV x y) (ev_if (et_B (ec_before (ev_var rfl) (ev_var rfl) hy hx)) (fun hb => ev_is (ev_var rfl) ?_) fun hb => ev_is (ev_var rfl) ?_) fun H2 e2 => q _ e2
  · unfold leastV; rw [if_pos hb]
  · unfold leastV; rw [if_neg (by rw [hb]; decide)]
theorem ok_limited (D : Dn K mg "limited" s_limited ["number"]) (g_GREATEST : ∃ u, mg "GREATEST" = some u ∧ RelV (.int (1000000000000000)) u) :
    C8.Cal P w K mg base 1 "limited" (sp_limited K) [] := by
  refine cal_of D sc_limited (fun vs H Q E h => ?_) (fun f cdv A outer s H vs Q E hr h => ?_)
  · obtain ⟨_, rfl, _⟩ := h
    rfl
  refine ⟨_, (pss_cons (ps_if (pt_chain op_le op_le (pe_un un_neg (C8.pe_gc rfl g_GREATEST)) (pv 0) (C8.pe_gc rfl g_GREATEST))
      (pss_one (ps_ret (pv 0)))
      pss_nil)
    (pss_one (ps_ret pe_non))), ?_⟩
  obtain ⟨n, rfl, q⟩ := h
  refine q_when (b := decide (-1000000000000000 ≤ n) && decide (n ≤ 1000000000000000)) (et_test (ev_chain (ev_un ev_c ru_neg) (ev_var rfl) rv_I0 (fun _ => ev_c) (fun _ => rv_I0))) (fun hb H1 e1 => s_ret (v := limV n) ?_ fun H2 e2 => q _ (e1.trans e2)) fun hb H1 e1 => s_ret (v := limV n) ?_ fun H2 e2 => q _ (e1.trans e2)
  · rw [Bool.and_eq_true, decide_eq_true_eq, decide_eq_true_eq] at hb
    refine ev_is (ev_var rfl) ?_
    unfold limV
    rw [if_pos hb]
  · refine ev_is ev_c ?_
    unfold limV
    rw [if_neg]
    intro z
    rw [decide_eq_true z.1, decide_eq_true z.2] at hb
    cases hb
theorem ec_lim {σ : L2.St} {H : Hp} {ta : TE} {E : XK} {n : Int} (ha : Ev ta σ H (.int n)) : Ev (tCall (sp_limited K) [] E (tCons ta tNil)) σ H (limV n) := ev_call (ea_cons ha ea_nil) fun H1 e Q q E => ⟨n, rfl, q⟩
theorem ok__add (D : Dn K mg "_add" s__add ["first", "second"]) (c_limited : C8.Cal P w K mg base 1 "limited" (sp_limited K) []) :
    C8.Cal P w K mg base 2 "_add" (sp__add K) [] := by
  refine cal_of D sc__add (fun vs H Q E h => ?_) (fun f cdv A outer s H vs Q E hr h => ?_)
  · obtain ⟨_, _, rfl, _⟩ := h
    rfl
  refine ⟨_, (pss_one (ps_ret (C8.pe_c c_limited hr (by decide) (by rfl) (pa_cons (pe_op op_add (pv 0) (pv 1)) pa_nil)))), ?_⟩
  obtain ⟨x, y, rfl, ⟨a, b, rfl, rfl⟩, q⟩ := h
  exact s_ret (ec_lim (ev_op (ev_var rfl) (ev_var rfl) rv_I0)) fun H2 e2 => q _ e2
theorem ok__join (D : Dn K mg "_join" s__join ["first", "second"]) (z_len : mg "len" = none) (g_MOST : ∃ u, mg "MOST" = some u ∧ RelV (.int (10000)) u) :
    C8.Cal P w K mg base 1 "_join" (sp__join K) [] := by
  refine cal_of D sc__join (fun vs H Q E h => ?_) (fun f cdv A outer s H vs Q E hr h => ?_)
  · obtain ⟨_, _, rfl, _⟩ := h
    rfl
  refine ⟨_, (pss_one (ps_ret (pe_ifExp (pt_cmpR op_gt (pe_op op_add (pe_callB call_len_str (by rfl) z_len PySem.boot_len (pa_cons (pv 0) pa_nil)) (pe_callB call_len_str (by rfl) z_len PySem.boot_len (pa_cons (pv 1) pa_nil))) (C8.pe_gc rfl g_MOST) (nomark _)) pe_non (pe_op op_add_str (pv 0) (pv 1))))), ?_⟩
  obtain ⟨x, y, rfl, ⟨a, b, rfl, rfl, la, lb⟩, q⟩ := h
  refine s_ret (v := joinV (.str a) (.str b)) (ev_if (b := decide ((a.length : Int) + (b.length : Int) > 10000)) (et_test (ev_op (ev_op (ev_lenS (ev_var rfl) (by omega)) (ev_lenS (ev_var rfl) (by omega)) rv_I0) ev_c rv_I0)) (fun hb => ev_is ev_c ?_) fun hb => ?_) fun H2 e2 => q _ e2
  · have := of_decide_eq_true hb
    show _ = if 10000 < a.length + b.length then _ else _
    rw [if_pos (by omega)]
  · have := of_decide_eq_false hb
    have e9 : joinV (.str a) (.str b) = .str (a ++ b) := by
      show (if 10000 < a.length + b.length then _ else _) = _
      rw [if_neg (by omega)]
    rw [e9]
    exact fun H1 e1 Q k => (ev_var rfl) H1 e1 _ fun H2 e2 => (ev_var rfl) H2 (e1.trans e2) _ fun H3 e3 => ⟨a, b, rfl, rfl, sz_of (by omega), k H3 (e2.trans e3)⟩
theorem ok_value_of_two (D : Dn K mg "value_of_two" s_value_of_two ["name", "first", "second"]) (c__are_alike : C8.Cal P w K mg base 2 "_are_alike" (sp__are_alike K) []) (c_is_integer : C8.Cal P w K mg base 1 "is_integer" (sp_is_integer K) []) (z_isinstance : mg "isinstance" = none) (z_str : mg "str" = none) {p_OF_INTEGERS_of_two : Addr} {es_OF_INTEGERS_of_two : Array DictEntry} {n_OF_INTEGERS_of_two : Nat} (g_OF_INTEGERS_of_two : ∃ u, mg "OF_INTEGERS_of_two" = some u ∧ RelV (.ref p_OF_INTEGERS_of_two) u) (h_OF_INTEGERS_of_two : KDict K w p_OF_INTEGERS_of_two es_OF_INTEGERS_of_two n_OF_INTEGERS_of_two) {p_OF_TEXTS_of_two : Addr} {es_OF_TEXTS_of_two : Array DictEntry} {n_OF_TEXTS_of_two : Nat} (g_OF_TEXTS_of_two : ∃ u, mg "OF_TEXTS_of_two" = some u ∧ RelV (.ref p_OF_TEXTS_of_two) u) (h_OF_TEXTS_of_two : KDict K w p_OF_TEXTS_of_two es_OF_TEXTS_of_two n_OF_TEXTS_of_two) {p__OF_ALIKE : Addr} {es__OF_ALIKE : Array DictEntry} {n__OF_ALIKE : Nat} (g__OF_ALIKE : ∃ u, mg "_OF_ALIKE" = some u ∧ RelV (.ref p__OF_ALIKE) u) (h__OF_ALIKE : KDict K w p__OF_ALIKE es__OF_ALIKE n__OF_ALIKE) {p__OF_ANY : Addr} {es__OF_ANY : Array DictEntry} {n__OF_ANY : Nat} (g__OF_ANY : ∃ u, mg "_OF_ANY" = some u ∧ RelV (.ref p__OF_ANY) u) (h__OF_ANY : KDict K w p__OF_ANY es__OF_ANY n__OF_ANY) (tab : ∀ nm x y, nm ∈ binNames → Ok x → Ok y → Opr2 P w K mg base p__OF_ANY p__OF_ALIKE p_OF_INTEGERS_of_two p_OF_TEXTS_of_two nm x y (binV nm x y)) :
    C8.Cal P w K mg base 5 "value_of_two" (sp_value_of_two K) [] := by
  refine cal_of D sc_value_of_two (fun vs H Q E h => ?_) (fun f cdv A outer s H vs Q E hr h => ?_)
  · obtain ⟨_, _, _, rfl, _⟩ := h
    rfl
  refine ⟨_, (pss_cons (ps_if (pt_cmpR (op_in_kd h__OF_ANY) (pv 0) (C8.pe_gc rfl g__OF_ANY) (by with_unfolding_all rfl))
      (pss_cons (ps_set (i := 3) sc_value_of_two.nd rfl (.inl rfl) (pe_ix ix_kdict (C8.pe_gc rfl g__OF_ANY) (pv 0) (fun _ _ => rfl)))
    (pss_one (ps_ret (pe_callH (i := 3) hr rfl (Or.inl rfl) (pa_cons (pv 1) (pa_cons (pv 2) pa_nil))))))
      pss_nil)
    (pss_cons (ps_if (pt_cmpR (op_in_kd h__OF_ALIKE) (pv 0) (C8.pe_gc rfl g__OF_ALIKE) (by with_unfolding_all rfl))
      (pss_cons (ps_set (i := 3) sc_value_of_two.nd rfl (.inl rfl) (pe_ix ix_kdict (C8.pe_gc rfl g__OF_ALIKE) (pv 0) (fun _ _ => rfl)))
    (pss_one (ps_ret (pe_ifExp (pt_val (C8.pe_c c__are_alike hr (by decide) (by rfl) (pa_cons (pv 1) (pa_cons (pv 2) pa_nil)))) (pe_callH (i := 3) hr rfl (Or.inl rfl) (pa_cons (pv 1) (pa_cons (pv 2) pa_nil))) pe_non))))
      pss_nil)
    (pss_cons (ps_if (pt_cmpR (op_in_kd h_OF_INTEGERS_of_two) (pv 0) (C8.pe_gc rfl g_OF_INTEGERS_of_two) (by with_unfolding_all rfl))
      (pss_cons (ps_set (i := 3) sc_value_of_two.nd rfl (.inl rfl) (pe_ix ix_kdict (C8.pe_gc rfl g_OF_INTEGERS_of_two) (pv 0) (fun _ _ => rfl)))
    (pss_one (ps_ret (pe_ifExp (PW.pt (pw_and (pt_val (C8.pe_c c_is_integer hr (by decide) (by rfl) (pa_cons (pv 1) pa_nil))) (pw_and1 (pt_val (C8.pe_c c_is_integer hr (by decide) (by rfl) (pa_cons (pv 2) pa_nil)))))) (pe_callH (i := 3) hr rfl (Or.inl rfl) (pa_cons (pv 1) (pa_cons (pv 2) pa_nil))) pe_non))))
      pss_nil)
    (pss_cons (ps_if (pt_cmpR (op_in_kd h_OF_TEXTS_of_two) (pv 0) (C8.pe_gc rfl g_OF_TEXTS_of_two) (by with_unfolding_all rfl))
      (pss_cons (ps_set (i := 3) sc_value_of_two.nd rfl (.inl rfl) (pe_ix ix_kdict (C8.pe_gc rfl g_OF_TEXTS_of_two) (pv 0) (fun _ _ => rfl)))
    (pss_one (ps_ret (pe_ifExp (PW.pt (pw_and (pt_val (pe_callB call_isi (by rfl) z_isinstance (by decide +kernel) (pa_cons (pv 1) (pa_cons (pe_bltn (v := .ty "str") (u := .type "str") rfl z_str (by decide +kernel) rfl) pa_nil)))) (pw_and1 (pt_val (pe_callB call_isi (by rfl) z_isinstance (by decide +kernel) (pa_cons (pv 2) (pa_cons (pe_bltn (v := .ty "str") (u := .type "str") rfl z_str (by decide +kernel) rfl) pa_nil))))))) (pe_callH (i := 3) hr rfl (Or.inl rfl) (pa_cons (pv 1) (pa_cons (pv 2) pa_nil))) pe_non))))
      pss_nil)
    (pss_cons ps_never
    (pss_one ps_never)))))), ?_⟩
  obtain ⟨nm, x, y, rfl, hnm, hx, hy, q⟩ := h
  have T := tab nm x y hnm hx hy
  have no : ∀ {d : Addr} {H0 : Hp}, PySem.W.nsIn K d nm = some none → EvT (tTest (tOp (fun x y H Q => ∃ (z : Str) (r : Option Value), x = .str z ∧ y = .ref d ∧ PySem.W.nsIn K d z = some r ∧ Q (.bl r.isSome) H) (tVar 0) (tC (.ref d)))) (start n_value_of_two [.str nm, x, y]) H0 false := fun e => et_test (ev_op (ev_var rfl) ev_c (rv_inKD e))
  have yes : ∀ {d f : Addr} {H0 : Hp}, PySem.W.nsIn K d nm = some (some (.ref f)) → EvT (tTest (tOp (fun x y H Q => ∃ (z : Str) (r : Option Value), x = .str z ∧ y = .ref d ∧ PySem.W.nsIn K d z = some r ∧ Q (.bl r.isSome) H) (tVar 0) (tC (.ref d)))) (start n_value_of_two [.str nm, x, y]) H0 true := fun e => et_test (ev_op (ev_var rfl) ev_c (rv_inKD e))
  generalize binV nm x y = z at T q
  cases T with
  | any e1 hh hp =>
    refine q_when (yes e1) (fun _ H1 x1 => ?_) fun hb => nomatch hb
    refine q_asg (ev_op ev_c (ev_var rfl) (rv_ixKD (v := .ref _) h__OF_ANY e1 rfl)) fun H2 x2 => ?_
    exact s_ret (ec_held rfl hh hp (ev_var rfl) (ev_var rfl)) fun H3 x3 => q _ ((x1.trans x2).trans x3)
  | alike e1 e2 hh =>
    refine q_when (no e1) (fun hb => nomatch hb) fun _ H1 x1 => ?_
    refine q_when (yes e2) (fun _ H2 x2 => ?_) fun hb => nomatch hb
    refine q_asg (ev_op ev_c (ev_var rfl) (rv_ixKD (v := .ref _) h__OF_ALIKE e2 rfl)) fun H3 x3 => ?_
    refine s_ret (ev_if (et_B (ec_alike (ev_var rfl) (ev_var rfl) hx hy)) (fun hb => ?_) fun hb => ?_) fun H4 x4 => q _ (((x1.trans x2).trans x3).trans x4)
    · exact ev_is (ec_held rfl hh ⟨hx, hy⟩ (ev_var rfl) (ev_var rfl)) (by rw [if_pos hb])
    · exact ev_is ev_c (by rw [if_neg (by rw [hb]; decide)])
  | nums e1 e2 e3 hh =>
    refine q_when (no e1) (fun hb => nomatch hb) fun _ H1 x1 => ?_
    refine q_when (no e2) (fun hb => nomatch hb) fun _ H2 x2 => ?_
    refine q_when (yes e3) (fun _ H3 x3 => ?_) fun hb => nomatch hb
    refine q_asg (ev_op ev_c (ev_var rfl) (rv_ixKD (v := .ref _) h_OF_INTEGERS_of_two e3 rfl)) fun H4 x4 => ?_
    refine s_ret (ev_if (b := isInt x && isInt y) (et_and (et_B (ec_isint0 (ev_var rfl) hx.pl)) fun _ => et_B (ec_isint0 (ev_var rfl) hy.pl)) (fun hb => ?_) fun hb => ?_) fun H5 x5 => q _ ((((x1.trans x2).trans x3).trans x4).trans x5)
    · cases hx <;> cases hy <;> first | (simp [isInt] at hb; done) | exact ec_held rfl hh ⟨_, _, rfl, rfl⟩ (ev_var rfl) (ev_var rfl)
    · cases hx <;> cases hy <;> first | (simp [isInt] at hb; done) | exact ev_c
  | wrds e1 e2 e3 e4 hh =>
    refine q_when (no e1) (fun hb => nomatch hb) fun _ H1 x1 => ?_
    refine q_when (no e2) (fun hb => nomatch hb) fun _ H2 x2 => ?_
    refine q_when (no e3) (fun hb => nomatch hb) fun _ H3 x3 => ?_
    refine q_when (yes e4) (fun _ H4 x4 => ?_) fun hb => nomatch hb
    refine q_asg (ev_op ev_c (ev_var rfl) (rv_ixKD (v := .ref _) h_OF_TEXTS_of_two e4 rfl)) fun H5 x5 => ?_
    refine s_ret (ev_if (b := isStr x && isStr y) (et_and (et_B (ev_isStr (ev_var rfl) hx)) fun _ => et_B (ev_isStr (ev_var rfl) hy)) (fun hb => ?_) fun hb => ?_) fun H6 x6 => q _ (((((x1.trans x2).trans x3).trans x4).trans x5).trans x6)
    · cases hx with
      | str a ha =>
        cases hy with
        | str b hb2 => exact ec_held rfl hh ⟨_, _, rfl, rfl, ha.2, hb2.2⟩ (ev_var rfl) (ev_var rfl)
        | _ => simp [isStr] at hb
      | _ => simp [isStr] at hb
    · cases hx <;> cases hy <;> first | (simp [isStr] at hb; done) | exact ev_c
theorem ok_binary (D : Dn K mg "binary" s_binary ["name", "first", "second"]) (c_value_of_two : C8.Cal P w K mg base 5 "value_of_two" (sp_value_of_two K) []) :
    C8.Cal P w K mg base 6 "binary" (sp_binary K) [] := by
  refine cal_of D sc_binary (fun vs H Q E h => ?_) (fun f cdv A outer s H vs Q E hr h => ?_)
  · obtain ⟨_, _, _, rfl, _⟩ := h
    rfl
  refine ⟨_, (pss_one (ps_ret (C8.pe_c c_value_of_two hr (by decide) (by rfl) (pa_cons (pv 0) (pa_cons (pv 1) (pa_cons (pv 2) pa_nil)))))), ?_⟩
  obtain ⟨nm, x, y, rfl, hnm, hx, hy, q⟩ := h
  exact s_ret (ec_two hnm hx hy (ev_var rfl) (ev_var rfl) (ev_var rfl)) fun H2 e2 => q _ e2
theorem ok__negate (D : Dn K mg "_negate" s__negate ["number"]) :
    C8.Cal P w K mg base 1 "_negate" (sp__negate K) [] := by
  refine cal_of D sc__negate (fun vs H Q E h => ?_) (fun f cdv A outer s H vs Q E hr h => ?_)
  · obtain ⟨_, rfl, _⟩ := h
    rfl
  refine ⟨_, (pss_one (ps_ret (pe_un un_neg (pv 0)))), ?_⟩
  obtain ⟨i, rfl, q⟩ := h
  exact s_ret (ev_un (ev_var rfl) ru_neg) fun H1 e1 => q H1 e1
theorem ok__length (D : Dn K mg "_length" s__length ["text"]) (z_len : mg "len" = none) :
    C8.Cal P w K mg base 1 "_length" (sp__length K) [] := by
  refine cal_of D sc__length (fun vs H Q E h => ?_) (fun f cdv A outer s H vs Q E hr h => ?_)
  · obtain ⟨_, rfl, _⟩ := h
    rfl
  refine ⟨_, (pss_one (ps_ret (pe_callB call_len_str (by rfl) z_len PySem.boot_len (pa_cons (pv 0) pa_nil)))), ?_⟩
  obtain ⟨s, rfl, hs, q⟩ := h
  exact s_ret (ev_lenS (ev_var rfl) (by omega)) fun H1 e1 => q H1 e1
theorem ok_value_of_one (D : Dn K mg "value_of_one" s_value_of_one ["name", "value"]) (c_is_integer : C8.Cal P w K mg base 1 "is_integer" (sp_is_integer K) []) (c_negated : C8.Cal P w K mg base 1 "negated" (sp_negated K) []) (z_isinstance : mg "isinstance" = none) (z_str : mg "str" = none) {p_OF_INTEGERS_of_one : Addr} {es_OF_INTEGERS_of_one : Array DictEntry} {n_OF_INTEGERS_of_one : Nat} (g_OF_INTEGERS_of_one : ∃ u, mg "OF_INTEGERS_of_one" = some u ∧ RelV (.ref p_OF_INTEGERS_of_one) u) (h_OF_INTEGERS_of_one : KDict K w p_OF_INTEGERS_of_one es_OF_INTEGERS_of_one n_OF_INTEGERS_of_one) {p_OF_TEXTS_of_one : Addr} {es_OF_TEXTS_of_one : Array DictEntry} {n_OF_TEXTS_of_one : Nat} (g_OF_TEXTS_of_one : ∃ u, mg "OF_TEXTS_of_one" = some u ∧ RelV (.ref p_OF_TEXTS_of_one) u) (h_OF_TEXTS_of_one : KDict K w p_OF_TEXTS_of_one es_OF_TEXTS_of_one n_OF_TEXTS_of_one) {fS fT : Addr} (eS : PySem.W.nsIn K p_OF_INTEGERS_of_one "negate" = some (some (.ref fS))) (hS : L2.Held P w K mg base 4 fS (sp__negate K)) (eN : PySem.W.nsIn K p_OF_INTEGERS_of_one "length" = some none) (eT : PySem.W.nsIn K p_OF_TEXTS_of_one "length" = some (some (.ref fT))) (hT : L2.Held P w K mg base 4 fT (sp__length K)) :
    C8.Cal P w K mg base 5 "value_of_one" (sp_value_of_one K) [] := by
  refine cal_of D sc_value_of_one (fun vs H Q E h => ?_) (fun f cdv A outer s H vs Q E hr h => ?_)
  · obtain ⟨_, _, rfl, _⟩ := h
    rfl
  refine ⟨_, (pss_cons (ps_if (pt_cmpR op_eq (pv 0) pe_str (nomark _))
      (pss_one (ps_ret (C8.pe_c c_negated hr (by decide) (by rfl) (pa_cons (pv 1) pa_nil))))
      pss_nil)
    (pss_cons (ps_if (pt_cmpR op_eq (pv 0) pe_str (nomark _))
      (pss_one (ps_ret (pe_cmpR op_isN (pv 1) pe_non (nomark _))))
      pss_nil)
    (pss_cons (ps_if (pt_cmpR (op_in_kd h_OF_INTEGERS_of_one) (pv 0) (C8.pe_gc rfl g_OF_INTEGERS_of_one) (by with_unfolding_all rfl))
      (pss_cons (ps_set (i := 2) sc_value_of_one.nd rfl (.inl rfl) (pe_ix ix_kdict (C8.pe_gc rfl g_OF_INTEGERS_of_one) (pv 0) (fun _ _ => rfl)))
    (pss_one (ps_ret (pe_ifExp (pt_val (C8.pe_c c_is_integer hr (by decide) (by rfl) (pa_cons (pv 1) pa_nil))) (pe_callH (i := 2) hr rfl (Or.inl rfl) (pa_cons (pv 1) pa_nil)) pe_non))))
      pss_nil)
    (pss_cons (ps_if (pt_cmpR (op_in_kd h_OF_TEXTS_of_one) (pv 0) (C8.pe_gc rfl g_OF_TEXTS_of_one) (by with_unfolding_all rfl))
      (pss_cons (ps_set (i := 2) sc_value_of_one.nd rfl (.inl rfl) (pe_ix ix_kdict (C8.pe_gc rfl g_OF_TEXTS_of_one) (pv 0) (fun _ _ => rfl)))
    (pss_one (ps_ret (pe_ifExp (pt_val (pe_callB call_isi (by rfl) z_isinstance (by decide +kernel) (pa_cons (pv 1) (pa_cons (pe_bltn (v := .ty "str") (u := .type "str") rfl z_str (by decide +kernel) rfl) pa_nil)))) (pe_callH (i := 2) hr rfl (Or.inl rfl) (pa_cons (pv 1) pa_nil)) pe_non))))
      pss_nil)
    (pss_cons ps_never
    (pss_one ps_never)))))), ?_⟩
  obtain ⟨nm, x, rfl, hnm, hx, q⟩ := h
  simp only [unNames, List.mem_cons, List.not_mem_nil, or_false] at hnm
  rcases hnm with rfl | rfl | rfl | rfl
  · exact q_when (b := true) (et_test (ev_is (ev_op (ev_var rfl) ev_c (rv_eq rfl)) (by decide +kernel))) (fun _ H1 e1 => s_ret (v := unV "not" x) (ec_neg3 (ev_var rfl)) fun H2 e2 => q H2 (e1.trans e2)) fun h => nomatch h
  · refine q_when (b := false) (et_test (ev_is (ev_op (ev_var rfl) ev_c (rv_eq rfl)) (by decide +kernel))) (fun h => nomatch h) fun _ H1 e1 => ?_
    exact q_when (b := true) (et_test (ev_is (ev_op (ev_var rfl) ev_c (rv_eq rfl)) (by decide +kernel))) (fun _ H2 e2 => s_ret (v := unV "is null" x) (ev_is (ev_op (ev_var rfl) ev_c rv_isN) rfl) fun H3 e3 => q H3 ((e1.trans e2).trans e3)) fun h => nomatch h
  · refine q_when (b := false) (et_test (ev_is (ev_op (ev_var rfl) ev_c (rv_eq rfl)) (by decide +kernel))) (fun h => nomatch h) fun _ H1 e1 => ?_
    refine q_when (b := false) (et_test (ev_is (ev_op (ev_var rfl) ev_c (rv_eq rfl)) (by decide +kernel))) (fun h => nomatch h) fun _ H2 e2 => ?_
    refine q_when (b := true) (et_test (ev_op (ev_var rfl) ev_c (rv_inKD eS))) (fun _ H3 e3 => ?_) fun h => nomatch h
    refine q_asg (ev_op ev_c (ev_var rfl) (rv_ixKD (v := .ref fS) h_OF_INTEGERS_of_one eS rfl)) fun H4 e4 => ?_
    have hv : unV "negate" x = negV x := by unfold unV; rw [if_neg (by decide +kernel), if_neg (by decide +kernel), if_pos (by decide +kernel)]
    refine s_ret (v := unV "negate" x) (ev_if (et_B (ec_isint0 (ev_var rfl) hx.pl)) (fun hb => ?_) fun hb => ?_) fun H5 e5 => q H5 ((e1.trans e2).trans ((e3.trans e4).trans e5))
    · rw [hv]
      cases hx with
      | int i => exact fun H6 e6 Q q => ⟨fS, _, rfl, hS, .int i, rfl, i, rfl, fun H7 e7 => q H7 e7⟩
      | _ => simp [isInt] at hb
    · rw [hv]
      cases hx with
      | int i => simp [isInt] at hb
      | _ => exact ev_c
  · refine q_when (b := false) (et_test (ev_is (ev_op (ev_var rfl) ev_c (rv_eq rfl)) (by decide +kernel))) (fun h => nomatch h) fun _ H1 e1 => ?_
    refine q_when (b := false) (et_test (ev_is (ev_op (ev_var rfl) ev_c (rv_eq rfl)) (by decide +kernel))) (fun h => nomatch h) fun _ H2 e2 => ?_
    refine q_when (b := false) (et_test (ev_op (ev_var rfl) ev_c (rv_inKD eN))) (fun h => nomatch h) fun _ H3 e3 => ?_
    refine q_when (b := true) (et_test (ev_op (ev_var rfl) ev_c (rv_inKD eT))) (fun _ H4 e4 => ?_) fun h => nomatch h
    refine q_asg (ev_op ev_c (ev_var rfl) (rv_ixKD (v := .ref fT) h_OF_TEXTS_of_one eT rfl)) fun H5 e5 => ?_
    have hv : unV "length" x = lenV x := by unfold unV; rw [if_neg (by decide +kernel), if_neg (by decide +kernel), if_neg (by decide +kernel)]
    refine s_ret (v := unV "length" x) (ev_if (et_B (ev_isStr (ev_var rfl) hx)) (fun hb => ?_) fun hb => ?_) fun H6 e6 => q H6 ((e1.trans e2).trans ((e3.trans e4).trans (e5.trans e6)))
    · rw [hv]
      cases hx with
      | str s hs => exact fun H6 e6 Q q => ⟨fT, _, rfl, hT, .str s, rfl, s, rfl, hs.2, fun H7 e7 => q H7 e7⟩
      | _ => simp [isStr] at hb
    · rw [hv]
      cases hx with
      | str s hs => simp [isStr] at hb
      | _ => exact ev_c
theorem ok_unary (D : Dn K mg "unary" s_unary ["name", "value"]) (c_value_of_one : C8.Cal P w K mg base 5 "value_of_one" (sp_value_of_one K) []) :
    C8.Cal P w K mg base 6 "unary" (sp_unary K) [] := by
  refine cal_of D sc_unary (fun vs H Q E h => ?_) (fun f cdv A outer s H vs Q E hr h => ?_)
  · obtain ⟨_, _, rfl, _⟩ := h
    rfl
  refine ⟨_, (pss_one (ps_ret (C8.pe_c c_value_of_one hr (by decide) (by rfl) (pa_cons (pv 0) (pa_cons (pv 1) pa_nil))))), ?_⟩
  obtain ⟨nm, x, rfl, hnm, hx, q⟩ := h
  exact s_ret (ec_one hnm hx (ev_var rfl) (ev_var rfl)) fun H2 e2 => q _ e2
theorem ok_evaluate {rn : Nat} (D : Dn K mg "evaluate" s_evaluate ["expression", "row"]) (c_binary : C8.Cal P w K mg base 6 "binary" (sp_binary K) []) (c_unary : C8.Cal P w K mg base 6 "unary" (sp_unary K) []) (z_len : mg "len" = none) (c_evaluate : C8.Cal P w K mg base (7 + rn) "evaluate" (spR_evaluate rn K) []) :
    C8.Cal P w K mg base (7 + rn + 1) "evaluate" (spR_evaluate (rn + 1) K) [] := by
  refine cal_of D sc_evaluate (fun vs H Q E h => ?_) (fun f cdv A outer s H vs Q E hr h => ?_)
  · obtain ⟨_, _, _, _, rfl, _⟩ := h
    rfl
  refine ⟨_, (pss_cons (ps_set (i := 2) sc_evaluate.nd rfl (.inl rfl) (pe_ix ix_tup (pv 0) pe_int (fun _ _ => rfl)))
    (pss_cons (ps_if (pt_cmpR op_eq (pv 2) pe_str (nomark _))
      (pss_one (ps_ret (pe_ix ix_tup (pv 0) pe_int (fun _ _ => rfl))))
      pss_nil)
    (pss_cons (ps_if (pt_cmpR op_eq (pv 2) pe_str (nomark _))
      (pss_cons (ps_set (i := 3) sc_evaluate.nd rfl (.inl rfl) (pe_ix ix_tup (pv 0) pe_int (fun _ _ => rfl)))
    (pss_one (ps_ret (pe_ifExp (pt_cmpR op_lt (pv 3) (pe_callB call_len_seq (by rfl) z_len PySem.boot_len (pa_cons (pv 1) pa_nil)) (nomark _)) (pe_ix ix_list (pv 1) (pv 3) (fun _ _ => rfl)) pe_non))))
      pss_nil)
    (pss_cons (ps_if (pt_cmpR op_eq (pv 2) pe_str (nomark _))
      (pss_one (ps_ret (C8.pe_c c_unary hr (by omega) (by rfl) (pa_cons (pe_ix ix_tup (pv 0) pe_int (fun _ _ => rfl)) (pa_cons (C8.pe_c c_evaluate hr (Nat.le_refl _) (by rfl) (pa_cons (pe_ix ix_tup (pv 0) pe_int (fun _ _ => rfl)) (pa_cons (pv 1) pa_nil))) pa_nil)))))
      pss_nil)
    (pss_cons (ps_if (pt_cmpR op_eq (pv 2) pe_str (nomark _))
      (pss_one (ps_ret (C8.pe_c c_binary hr (by omega) (by rfl) (pa_cons (pe_ix ix_tup (pv 0) pe_int (fun _ _ => rfl)) (pa_cons (C8.pe_c c_evaluate hr (Nat.le_refl _) (by rfl) (pa_cons (pe_ix ix_tup (pv 0) pe_int (fun _ _ => rfl)) (pa_cons (pv 1) pa_nil))) (pa_cons (C8.pe_c c_evaluate hr (Nat.le_refl _) (by rfl) (pa_cons (pe_ix ix_tup (pv 0) pe_int (fun _ _ => rfl)) (pa_cons (pv 1) pa_nil))) pa_nil))))))
      pss_nil)
    (pss_cons ps_never
    (pss_cons ps_never
    (pss_one ps_never)))))))), ?_⟩
  obtain ⟨v, e, a, xs, rfl, ⟨hd, hdep, wd, hok⟩, hS, hx, hl, q⟩ := h
  have form : ∀ {σ : L2.St} {H0 : Hp} {s t : Str} {b : Bool}, σ[2]? = some (some (.str s)) → decide (V.str s = V.str t) = b → EvT (tTest (tOp rEq (tVar 2) (tC (.str t)))) σ H0 b := fun h0 hb => et_test (ev_is (ev_op (ev_var h0) ev_c (rv_eq rfl)) (by rw [hb]))
  cases hok with
  | col n hn =>
    obtain ⟨b, ys, rfl, hT, hds⟩ := dp_tupD hd
    cases hds with | cons h1 hds =>
    cases hds with | cons h2 hds =>
    cases hds
    cases h1
    cases h2
    have ix : ∀ {σ : L2.St} {H0 : Hp} {i : Nat} {x : V}, σ[0]? = some (some (.ref b)) → Ex H H0 → ([V.str "column", .int (n : Int)] : List V)[i]? = some x → Ev (tOp (rIxT K) (tVar 0) (tC (.int (i : Int)))) σ H0 x := fun h0 e0 hi => ev_op (ev_var h0) ev_c (rv_ixT (ex_t e0 hT) (atI_nat hi))
    refine q_asg (ix (i := 0) rfl (Ex.refl H) rfl) fun H1 e1 => ?_
    refine q_when (form rfl (show decide (V.str "column" = V.str "constant") = false by decide +kernel)) (fun h => nomatch h) fun _ H2 e2 => ?_
    refine q_when (form rfl (show decide (V.str "column" = V.str "column") = true by decide +kernel)) (fun _ H3 e3 => ?_) fun h => nomatch h
    refine q_asg (ix (i := 1) rfl ((e1.trans e2).trans e3) rfl) fun H4 e4 => ?_
    have x4 := ((e1.trans e2).trans e3).trans e4
    refine s_ret (v := evE xs (.col n)) (ev_if (b := decide ((n : Int) < (xs.length : Int))) (et_test (ev_op (ev_var rfl) (ev_len (ev_var rfl) (ex_l x4 hS)) rv_I0)) (fun hb => ?_) fun hb => ?_) fun H5 e5 => q H5 (x4.trans e5)
    · have hlt : n < xs.length := by have := of_decide_eq_true hb; omega
      exact ev_op (ev_var rfl) (ev_var rfl) (rv_ixL (ex_l x4 hS) (atI_nat (by rw [List.getElem?_eq_getElem hlt]; show some xs[n] = some (xs.getD n .non); rw [List.getD_eq_getElem?_getD, List.getElem?_eq_getElem hlt]; rfl)))
    · have hlt : ¬ n < xs.length := by have := of_decide_eq_false hb; omega
      refine ev_is ev_c ?_
      show V.non = xs.getD n .non
      rw [List.getD_eq_getElem?_getD, List.getElem?_eq_none (by omega)]
      rfl
  | cst c hc =>
    obtain ⟨b, ys, rfl, hT, hds⟩ := dp_tupD hd
    cases hds with | cons h1 hds =>
    cases hds with | cons h2 hds =>
    cases hds
    cases h1
    obtain rfl := vDc_is hc.1.pl h2
    refine q_asg (v := .str "constant") (ev_op (ev_var rfl) ev_c (rv_ixT hT (atI_nat (j := 0) rfl))) fun H1 e1 => ?_
    refine q_when (form rfl (show decide (V.str "constant" = V.str "constant") = true by decide +kernel)) (fun _ H2 e2 => ?_) fun h => nomatch h
    exact s_ret (ev_op (ev_var rfl) ev_c (rv_ixT (ex_t (e1.trans e2) hT) (atI_nat (j := 1) rfl))) fun H3 e3 => q H3 ((e1.trans e2).trans e3)
  | un nm x hnm hok1 =>
    obtain ⟨b, ys, rfl, hT, hds⟩ := dp_tupD hd
    cases hds with | cons h1 hds =>
    cases hds with | cons h2 hds =>
    cases hds with | cons h3 hds =>
    cases hds
    cases h1
    cases h2
    refine q_asg (v := .str "unary") (ev_op (ev_var rfl) ev_c (rv_ixT hT (atI_nat (j := 0) rfl))) fun H1 e1 => ?_
    refine q_when (form rfl (show decide (V.str "unary" = V.str "constant") = false by decide +kernel)) (fun h => nomatch h) fun _ H2 e2 => ?_
    refine q_when (form rfl (show decide (V.str "unary" = V.str "column") = false by decide +kernel)) (fun h => nomatch h) fun _ H3 e3 => ?_
    refine q_when (form rfl (show decide (V.str "unary" = V.str "unary") = true by decide +kernel)) (fun _ H4 e4 => ?_) fun h => nomatch h
    have x4 := ((e1.trans e2).trans e3).trans e4
    have hdx : x.dep + 1 ≤ rn + 1 := hdep
    cases rn with
    | zero => cases x <;> simp [Cnd.dep] at hdx
    | succ m =>
    exact s_ret (ec_one hnm (ev_ok hx hok1) (ev_op (ev_var rfl) ev_c (rv_ixT (ex_t x4 hT) (atI_nat (j := 1) rfl))) (ec_evalR (n := m) (e := x) (ev_op (ev_var rfl) ev_c (rv_ixT (ex_t x4 hT) (atI_nat (j := 2) rfl))) (ev_var rfl) ⟨ex_dp x4 h3, by omega, wd, hok1⟩ (ex_l x4 hS) hx hl)) fun H5 e5 => q H5 (x4.trans e5)
  | bin nm x y hnm hok1 hok2 =>
    obtain ⟨b, ys, rfl, hT, hds⟩ := dp_tupD hd
    cases hds with | cons h1 hds =>
    cases hds with | cons h2 hds =>
    cases hds with | cons h3 hds =>
    cases hds with | cons h4 hds =>
    cases hds
    cases h1
    cases h2
    refine q_asg (v := .str "binary") (ev_op (ev_var rfl) ev_c (rv_ixT hT (atI_nat (j := 0) rfl))) fun H1 e1 => ?_
    refine q_when (form rfl (show decide (V.str "binary" = V.str "constant") = false by decide +kernel)) (fun h => nomatch h) fun _ H2 e2 => ?_
    refine q_when (form rfl (show decide (V.str "binary" = V.str "column") = false by decide +kernel)) (fun h => nomatch h) fun _ H3 e3 => ?_
    refine q_when (form rfl (show decide (V.str "binary" = V.str "unary") = false by decide +kernel)) (fun h => nomatch h) fun _ H4 e4 => ?_
    refine q_when (form rfl (show decide (V.str "binary" = V.str "binary") = true by decide +kernel)) (fun _ H5 e5 => ?_) fun h => nomatch h
    have x5 := (((e1.trans e2).trans e3).trans e4).trans e5
    have hdx : max x.dep y.dep + 1 ≤ rn + 1 := hdep
    have hpos : 0 < max x.dep y.dep := by cases x <;> simp [Cnd.dep] <;> omega
    cases rn with
    | zero => omega
    | succ m =>
    exact s_ret (ec_two hnm (ev_ok hx hok1) (ev_ok hx hok2) (ev_op (ev_var rfl) ev_c (rv_ixT (ex_t x5 hT) (atI_nat (j := 1) rfl))) (ec_evalR (n := m) (e := x) (ev_op (ev_var rfl) ev_c (rv_ixT (ex_t x5 hT) (atI_nat (j := 2) rfl))) (ev_var rfl) ⟨ex_dp x5 h3, by omega, wd, hok1⟩ (ex_l x5 hS) hx hl) (ec_evalR (n := m) (e := y) (ev_op (ev_var rfl) ev_c (rv_ixT (ex_t x5 hT) (atI_nat (j := 3) rfl))) (ev_var rfl) ⟨ex_dp x5 h4, by omega, wd, hok2⟩ (ex_l x5 hS) hx hl)) fun H6 e6 => q H6 (x5.trans e6)
end
section
open PySem.SeqAt PySem.MeetsSeq PySem.MeetsSeq2 PySem.MeetsSeq3
open PySem.AutoSeq1 (wpAny_loadPart')
/-- the same of <=: z where none differ -/
inductive Lxe (A : Around) (s : Shared) (z : Bool) : List (Value × Value) → Bool → Prop
  | nil : Lxe A s z [] z
  | eq {y x : Value} {ps : List (Value × Value)} {c : Bool} : EqAt A s y x true → Lxe A s z ps c → Lxe A s z ((y, x) :: ps) c
  | le {y x : Value} {ps : List (Value × Value)} {c : Bool} : EqAt A s y x false → Ob.RcOp .LtE A s y x c → Lxe A s z ((y, x) :: ps) c
theorem le_meets (l b : Addr) (us vs : Array Value) (n m : Nat) (dl db : Option Addr) (sl sb : Array (Option Value)) :
    Meets (Builtin.«tuple.__le__» ⟨[.ref l, .ref b], []⟩)
      (fun A R s => s.heap.get? l = some { cls := .type "tuple", dict := dl, data := .seq us n, slots := sl } ∧ s.heap.get? b = some { cls := .type "tuple", dict := db, data := .seq vs m, slots := sb } ∧
        ∃ c, Lxe A.in1 s (decide (us.size ≤ vs.size)) (us.toList.zip vs.toList) c ∧ R (.ok (.ret (.bool c))) s) := by
  refine .of_wp fun prog w A R s h => ?_
  obtain ⟨hp, g, d, tk, os⟩ := s
  obtain ⟨hl, hb, c, hx, h⟩ := h
  have f2 := AutoSeq1.sub_tuple_tuple
  wp_walk using wpAny_loadPart' hl, wpAny_loadPart' hb, wpAny_forIn_list _ (fun ps b s' => b.1 = none ∧ s' = ⟨hp, g, d, tk, os⟩ ∧ ∃ c, Lxe A.in1 ⟨hp, g, d, tk, os⟩ (decide (us.size ≤ vs.size)) ps c ∧ R (.ok (.ret (.bool c))) ⟨hp, g, d, tk, os⟩) _
  case turn =>
    rintro ⟨y, x⟩ ps b s' ⟨hb', rfl, c, hz, hR⟩
    cases hz with
    | eq he ht =>
      refine wpAny_bind (he prog w _ _ ?_)
      wp_walk
      exact ⟨rfl, rfl, c, ht, hR⟩
    | le he hr =>
      refine wpAny_bind (he prog w _ _ ?_)
      have hri := hr prog w
      wp_walk using hri
      exact ⟨_, rfl, hR⟩
  case fin =>
    rintro ⟨b1, b2⟩ s' ⟨hb', rfl, c, hz, hR⟩
    simp only at hb'
    subst hb'
    cases hz
    wp_walk
    exact ⟨_, rfl, by simpa [Builtin.Tuple.tupleCompareSizes] using hR⟩
  case h => exact ⟨rfl, rfl, c, hx, h⟩
theorem le_tuples {A : Around} {s : Shared} {l b : Addr} {us vs : Array Value} {c : Bool} (hl : s.heap.IsTuple l us) (hb : s.heap.IsTuple b vs) (hu : A.units < cLine) (hx : Lxe A.in1 s (decide (us.size ≤ vs.size)) (us.toList.zip vs.toList) c) :
    Ob.RcOp .LtE A s (.ref l) (.ref b) c := by
  intro prog w E Q h
  obtain ⟨⟨k1, dl, da, sl⟩, ho, hc, n, hd⟩ := hl
  obtain ⟨⟨k2, db, da2, sb⟩, ho2, hc2, m, hd2⟩ := hb
  simp only at hc hd hc2 hd2
  subst hc hd hc2 hd2
  exact richCompare_meets_room (op := .LtE) ⟨_, ho, rfl⟩ ⟨_, ho2, rfl⟩ F.slot_tuple_le F.entry_tuple_le (F.args_tuple_le_2 _ _) (le_meets l b us vs n m dl db sl sb) ⟨ho, ho2, c, hx, ⟨(fun z => nomatch z), h⟩⟩ hu
end
section
open PySem.SeqAt PySem.MeetsSeq PySem.MeetsSeq2 PySem.MeetsSeq3
open PySem.AutoSeq1 (wpAny_loadPart')
inductive Lxg (A : Around) (s : Shared) (z : Bool) : List (Value × Value) → Bool → Prop
  | nil : Lxg A s z [] z
  | eq {y x : Value} {ps : List (Value × Value)} {c : Bool} : EqAt A s y x true → Lxg A s z ps c → Lxg A s z ((y, x) :: ps) c
  | gt {y x : Value} {ps : List (Value × Value)} {c : Bool} : EqAt A s y x false → Ob.RcOp .Gt A s y x c → Lxg A s z ((y, x) :: ps) c
theorem gt_meets (l b : Addr) (us vs : Array Value) (n m : Nat) (dl db : Option Addr) (sl sb : Array (Option Value)) :
    Meets (Builtin.«tuple.__gt__» ⟨[.ref l, .ref b], []⟩)
      (fun A R s => s.heap.get? l = some { cls := .type "tuple", dict := dl, data := .seq us n, slots := sl } ∧ s.heap.get? b = some { cls := .type "tuple", dict := db, data := .seq vs m, slots := sb } ∧
        ∃ c, Lxg A.in1 s (decide (us.size > vs.size)) (us.toList.zip vs.toList) c ∧ R (.ok (.ret (.bool c))) s) := by
  refine .of_wp fun prog w A R s h => ?_
  obtain ⟨hp, g, d, tk, os⟩ := s
  obtain ⟨hl, hb, c, hx, h⟩ := h
  have f2 := AutoSeq1.sub_tuple_tuple
  wp_walk using wpAny_loadPart' hl, wpAny_loadPart' hb, wpAny_forIn_list _ (fun ps b s' => b.1 = none ∧ s' = ⟨hp, g, d, tk, os⟩ ∧ ∃ c, Lxg A.in1 ⟨hp, g, d, tk, os⟩ (decide (us.size > vs.size)) ps c ∧ R (.ok (.ret (.bool c))) ⟨hp, g, d, tk, os⟩) _
  case turn =>
    rintro ⟨y, x⟩ ps b s' ⟨hb', rfl, c, hz, hR⟩
    cases hz with
    | eq he ht =>
      refine wpAny_bind (he prog w _ _ ?_)
      wp_walk
      exact ⟨rfl, rfl, c, ht, hR⟩
    | gt he hr =>
      refine wpAny_bind (he prog w _ _ ?_)
      have hri := hr prog w
      wp_walk using hri
      exact ⟨_, rfl, hR⟩
  case fin =>
    rintro ⟨b1, b2⟩ s' ⟨hb', rfl, c, hz, hR⟩
    simp only at hb'
    subst hb'
    cases hz
    wp_walk
    exact ⟨_, rfl, by simpa [Builtin.Tuple.tupleCompareSizes] using hR⟩
  case h => exact ⟨rfl, rfl, c, hx, h⟩
theorem gt_tuples {A : Around} {s : Shared} {l b : Addr} {us vs : Array Value} {c : Bool} (hl : s.heap.IsTuple l us) (hb : s.heap.IsTuple b vs) (hu : A.units < cLine) (hx : Lxg A.in1 s (decide (us.size > vs.size)) (us.toList.zip vs.toList) c) :
    Ob.RcOp .Gt A s (.ref l) (.ref b) c := by
  intro prog w E Q h
  obtain ⟨⟨k1, dl, da, sl⟩, ho, hc, n, hd⟩ := hl
  obtain ⟨⟨k2, db, da2, sb⟩, ho2, hc2, m, hd2⟩ := hb
  simp only at hc hd hc2 hd2
  subst hc hd hc2 hd2
  exact richCompare_meets_room (op := .Gt) ⟨_, ho, rfl⟩ ⟨_, ho2, rfl⟩ F.slot_tuple_gt F.entry_tuple_gt (F.args_tuple_gt_2 _ _) (gt_meets l b us vs n m dl db sl sb) ⟨ho, ho2, c, hx, ⟨(fun z => nomatch z), h⟩⟩ hu
end
mutual
theorem rd_det {h : Heap} : ∀ {d e : PyData} {v : Value} {as bs : List Addr}, noL d = true → Reads h v d as → Reads h v e bs → d = e
  | .none, _, _, _, _, _, .none, r => by cases r; rfl
  | .bool _, _, _, _, _, _, .bool _, r => by cases r; rfl
  | .int _, _, _, _, _, _, .int _ _, r => by cases r; rfl
  | .str _, _, _, _, _, _, .str _ _, r => by cases r; rfl
  | .tuple xs, _, _, _, _, n, .tuple h1 h2 h3 h4, r => by
    cases r with
    | list k1 k2 _ _ => rw [h1] at k1; cases k1; rw [h2] at k2; exact absurd (Value.type.inj k2) (by decide)
    | dict k1 k2 _ _ _ => rw [h1] at k1; cases k1; rw [h2] at k2; exact absurd (Value.type.inj k2) (by decide)
    | tuple k1 k2 k3 k4 =>
      rw [h1] at k1
      cases k1
      rw [h3] at k3
      cases k3
      rw [rd_dets (by simpa [noL] using n) h4 k4]
  | .list _, _, _, _, _, n, _, _ => by simp [noL] at n
  | .dict _, _, _, _, _, n, _, _ => by simp [noL] at n
theorem rd_dets {h : Heap} : ∀ {ds es : List PyData} {vs : List Value} {as bs : List Addr}, noLs ds = true → ReadsAll h vs ds as → ReadsAll h vs es bs → ds = es
  | [], _, _, _, _, _, .nil, r => by cases r; rfl
  | d :: ds, _, _, _, _, n, .cons h1 h2, r => by
    cases r with
    | cons k1 k2 =>
      have n' : (noL d && noLs ds) = true := n
      rw [Bool.and_eq_true] at n'
      rw [rd_det n'.1 h1 k1, rd_dets n'.2 h2 k2]
end
abbrev Tks := List (Int ⊕ List Nat)
abbrev tkLt (a b : Tks) : Bool := PyProof.Rows.lexLt PyProof.Rows.itemOrd a b
structure KFam {β : Type} (k : β → List PyData) (t : β → Tks) (fst : Bool) (P : β → Prop) : Prop where
  lt : ∀ x y, P x → P y → ltDs (k x) (k y) = tkLt (t x) (t y)
  ord : ∀ x y, P x → P y → ordDs (k x) (k y) = true
  lay : ∀ x, P x → PyData.canLayAll0 (k x) = true
  dep : ∀ x, P x → PyData.depthAll (k x) ≤ 50
  nol : ∀ x, P x → noLs (k x) = true
  head : ∀ x, P x → ∃ d r, k x = d :: r ∧ if fst = true then ∃ n, d = .int n else ∃ ys, d = .tuple ys
section
variable {β : Type} {k : β → List PyData} {t : β → Tks} {fst : Bool} {Pr : β → Prop}
theorem KFam.uniq (F : KFam k t fst Pr) {h : Heap} {v : Value} {x y : β} {as bs : List Addr} (hx : Pr x) (hy : Pr y) (r : Reads h v (.tuple (k x)) as) (r2 : Reads h v (.tuple (k y)) bs) : t x = t y := by
  have e : k x = k y := PyData.tuple.inj (rd_det (d := .tuple (k x)) (by simpa [noL] using F.nol x hx) r r2)
  have h1 : tkLt (t x) (t y) = false := by rw [← F.lt x y hx hy, ← e, F.lt x x hx hx]; exact PyProof.Rows.lex_irrefl _
  have h2 : tkLt (t y) (t x) = false := by rw [← F.lt y x hy hx, ← e, F.lt x x hx hx]; exact PyProof.Rows.lex_irrefl _
  exact (PyProof.Rows.listOrd PyProof.Rows.itemOrd).total _ _ h1 h2
noncomputable def ownKind (h : Heap) (k : β → List PyData) (t : β → Tks) (Pr : β → Prop) : PyProof.Rows.KeyKind where
  toKeyOrd := PyProof.Rows.listOrd PyProof.Rows.itemOrd
  keyOf v := open Classical in if q : ∃ x, Pr x ∧ ∃ as, Reads h v (.tuple (k x)) as then some (t q.choose) else none
  dflt := ([] : Tks)
theorem own_some (F : KFam k t fst Pr) {h : Heap} {v : Value} {x : β} {as : List Addr} (hx : Pr x) (r : Reads h v (.tuple (k x)) as) : (ownKind h k t Pr).keyOf v = some (t x) := by
  have q : ∃ x, Pr x ∧ ∃ as, Reads h v (.tuple (k x)) as := ⟨x, hx, as, r⟩
  have e : (ownKind h k t Pr).keyOf v = some (t q.choose) := by
    show (open Classical in if q : ∃ x, Pr x ∧ ∃ as, Reads h v (.tuple (k x)) as then some (t q.choose) else none) = _
    exact dif_pos q
  obtain ⟨h1, bs, h2⟩ := q.choose_spec
  rw [e, F.uniq h1 hx h2 r]
theorem own_inv {h : Heap} {v : Value} {c : Tks} (e : (ownKind h k t Pr).keyOf v = some c) : ∃ x as, Pr x ∧ Reads h v (.tuple (k x)) as ∧ c = t x := by
  by_cases q : ∃ x, Pr x ∧ ∃ as, Reads h v (.tuple (k x)) as
  · have e2 : (ownKind h k t Pr).keyOf v = some (t q.choose) := by
      show (open Classical in if q : ∃ x, Pr x ∧ ∃ as, Reads h v (.tuple (k x)) as then some (t q.choose) else none) = _
      exact dif_pos q
    obtain ⟨h1, bs, h2⟩ := q.choose_spec
    rw [e2] at e
    exact ⟨_, bs, h1, h2, (Option.some.inj e).symm⟩
  · have e2 : (ownKind h k t Pr).keyOf v = none := by
      show (open Classical in if q : ∃ x, Pr x ∧ ∃ as, Reads h v (.tuple (k x)) as then some (t q.choose) else none) = _
      exact dif_neg q
    rw [e2] at e
    cases e
end
section
open PySem.W PySem.Calls PySem.SeqAt
variable {prog : Program} {w : World} {A : Around} {s : Shared}
theorem kat_ord {b : Bool} {Q : Bool → Shared → Prop} : ∀ (xs ys : List PyData) (i : Nat) (us vs : List Value) (as bs : List Addr), ReadsAll s.heap us xs as → ReadsAll s.heap vs ys bs → PyData.canLayAll0 xs = true → PyData.canLayAll0 ys = true → ordDs xs ys = true →
    (b = true → i = 0 → ∀ x r y r', xs = x :: r → ys = y :: r' → ∃ m n, x = .int m ∧ y = .int n) → A.units + PyData.depthAll xs < cLine → Q (ltDs xs ys) s → KatLex prog w A b (decide (xs.length < ys.length)) Q (us.zip vs) i s
  | [], [], i, _, _, _, _, r1, r2, _, _, _, _, _, hq => by
    cases r1
    exact kat_nil hq
  | [], y :: ys, i, _, _, _, _, r1, r2, _, _, _, _, _, hq => by
    cases r1
    exact kat_nil (by rw [show decide (([] : List PyData).length < (y :: ys).length) = true from decide_eq_true (Nat.zero_lt_succ _)]; exact hq)
  | x :: xs, [], i, _, _, _, _, r1, r2, _, _, _, _, _, hq => by
    cases r2
    rw [List.zip_nil_right]
    exact kat_nil (by rw [show decide ((x :: xs).length < ([] : List PyData).length) = false from decide_eq_false (Nat.not_lt_zero _)]; exact hq)
  | x :: xs, y :: ys, i, _, _, _, _, r1, r2, c1, c2, o, hb, hu, hq => by
    have a1 : x.canLay0 = true ∧ PyData.canLayAll0 xs = true := by simpa [PyData.canLayAll0] using c1
    have a2 : y.canLay0 = true ∧ PyData.canLayAll0 ys = true := by simpa [PyData.canLayAll0] using c2
    have hd : A.units + max x.depth (PyData.depthAll xs) < cLine := hu
    cases r1 with
    | cons p1 q1 =>
      cases r2 with
      | cons p2 q2 =>
        rw [show decide ((x :: xs).length < (y :: ys).length) = decide (xs.length < ys.length) by simp, List.zip_cons_cons]
        have he := PySem.SeqAt.eqAt_reads x y A s _ _ _ _ p1 p2 a1.1 a2.1 (by omega)
        refine kat_cons (he prog w _ _ ?_)
        by_cases c : PyData.eqv x y = true
        · rw [c]
          refine kat_yes (kat_ord xs ys (i + 1) _ _ _ _ q1 q2 a1.2 a2.2 (by rw [ordDs, if_pos c] at o; exact o) (fun _ z => absurd z (Nat.succ_ne_zero i)) (by omega) ?_)
          rw [ltDs, if_pos c] at hq
          exact hq
        · rw [Bool.not_eq_true] at c
          rw [c]
          refine kat_no ?_
          rw [ordDs, if_neg (by rw [c]; decide)] at o
          rw [ltDs, if_neg (by rw [c]; decide)] at hq
          cases hf : (b && i == 0) with
          | false =>
            rw [oneLt'_eq]
            simp only [Bool.false_eq_true, if_false]
            exact wpAny_bind (lt_reads _ x y A s _ _ _ _ (Nat.le_refl _) p1 p2 a1.1 a2.1 o (by omega) prog w _ _ (wpAny_truthy_bool hq))
          | true =>
            have hf2 : b = true ∧ i = 0 := by simpa using hf
            obtain ⟨m, n, rfl, rfl⟩ := hb hf2.1 hf2.2 x xs y ys rfl rfl
            cases p1
            cases p2
            exact oneLt_int hq
theorem own_tups {β : Type} {k : β → List PyData} {t : β → Tks} {fst : Bool} {Pr : β → Prop} (F : KFam k t fst Pr) : ∀ {vs : List Value} {xs : List β}, EachIs (fun v x => ∃ as, Reads s.heap v (.tuple (k x)) as) vs xs → (∀ x ∈ xs, Pr x) → ∃ fs, KatTups s.heap vs fs ∧ fs.length = vs.length ∧ ∀ f ∈ fs, ∃ d as, (if fst = true then ∃ n, d = PyData.int n else ∃ ys, d = PyData.tuple ys) ∧ Reads s.heap f d as
  | _, _, .nil, _ => ⟨[], KatTups.nil, rfl, fun f hf => nomatch hf⟩
  | _, _, .cons (b := x) ⟨as, r⟩ rest, hp => by
    obtain ⟨fs, h1, h2, h3⟩ := own_tups F rest fun y hy => hp y (List.mem_cons_of_mem _ hy)
    obtain ⟨d, l, hk, hd⟩ := F.head x (hp x (List.mem_cons_self ..))
    rw [hk] at r
    cases r with
    | @tuple a o us n _ _ g1 g2 g3 g4 =>
      cases hu : us.toList with
      | nil => rw [hu] at g4; cases g4
      | cons f fr =>
        rw [hu] at g4
        cases g4 with
        | cons p1 p2 =>
          have at0 : us[0]? = some f := by rw [← Array.getElem?_toList, hu]; rfl
          refine ⟨f :: fs, KatTups.cons g1 g2 g3 at0 h1, by rw [List.length_cons, List.length_cons, h2], fun g hg => ?_⟩
          rcases List.mem_cons.mp hg with z | z
          · rw [z]; exact ⟨d, _, hd, p1⟩
          · exact h3 g z
/-- such values can be sorted -/
theorem own_sorts {β : Type} {k : β → List PyData} {t : β → Tks} {fst : Bool} {Pr : β → Prop} (F : KFam k t fst Pr) {vs : List Value} {xs : List β} (e : EachIs (fun v x => ∃ as, Reads s.heap v (.tuple (k x)) as) vs xs) (hp : ∀ x ∈ xs, Pr x) (hu : A.units + 60 < cLine) : SortsAt prog w A s (ownKind s.heap k t Pr) vs := by
  refine ⟨fun v hv => ?_, tuples' fst, ?_, fun h2 E Q hq => ?_⟩
  · obtain ⟨x, hx, as, r⟩ := e.left v hv
    exact ⟨_, own_some F (hp x hx) r⟩
  · intro E u v a b Q ha hb hq
    obtain ⟨x, as, hx, ra, rfl⟩ := own_inv ha
    obtain ⟨y, bs, hy, rb, rfl⟩ := own_inv hb
    have hq2 : Q (ltDs (k x) (k y)) s := by rw [F.lt x y hx hy]; exact hq
    have hdx := F.dep x hx
    cases ra with
    | @tuple l o us n _ _ h1 h2 h3 h4 =>
      cases rb with
      | @tuple l' o' us' n' _ _ k1 k2 k3 k4 =>
        have l1 : us.size = (k x).length := by simpa using reads_len h4
        have l2 : us'.size = (k y).length := by simpa using reads_len k4
        refine kat_lt h1 h3 k1 k3 ?_
        rw [l1, l2]
        refine kat_ord (k x) (k y) 0 _ _ _ _ h4 k4 (F.lay x hx) (F.lay y hy) (F.ord x y hx hy) (fun hb _ x' r y' r' ex ey => ?_) (by omega) hq2
        obtain ⟨d, l, e1, g1⟩ := F.head x hx
        obtain ⟨d', l', e2, g2⟩ := F.head y hy
        rw [if_pos hb] at g1 g2
        rw [e1] at ex
        rw [e2] at ey
        cases ex
        cases ey
        obtain ⟨m, rfl⟩ := g1
        obtain ⟨n, rfl⟩ := g2
        exact ⟨m, n, rfl, rfl⟩
  · obtain ⟨fs, t1, t2, t3⟩ := own_tups F e hp
    have hT : ∀ T : Value, (∀ d, (if fst = true then ∃ n, d = PyData.int n else ∃ ys, d = PyData.tuple ys) → dataType d = T) → (T == T) = true → (T != Value.type "tuple") = fst → wpAny (model prog w) A (keyKind' vs.toArray) Q E s := fun T hd hT2 hf => by
      refine kat_kind (T := T) t1 (by omega) (fun f hf2 => ?_) hT2 (by rw [hf]; exact hq)
      obtain ⟨d, as, g1, g2⟩ := t3 f hf2
      rw [← hd d g1]
      exact looks_reads g2
    cases fst with
    | true => exact hT (.type "int") (fun d ⟨n, hn⟩ => by rw [hn]; rfl) (by decide) (by decide)
    | false => exact hT (.type "tuple") (fun d ⟨n, hn⟩ => by rw [hn]; rfl) (by decide) (by decide)
end
theorem freed_at (h : Heap) (a : Addr) : (h.update a fun o => { o with data := .freed }).get? a = none := by
  obtain ⟨objs, l⟩ := h
  unfold Heap.update Heap.get?
  simp only [Array.getElem?_modify, if_true]
  cases objs[a]? <;> rfl
def sortT {β : Type} (t : β → Tks) (rev : Bool) (xs : List β) : List β := xs.mergeSort (PySem.W.sortLe (PyProof.Rows.listOrd PyProof.Rows.itemOrd) rev t)
theorem sortT_perm {β : Type} (t : β → Tks) (rev : Bool) (xs : List β) : (sortT t rev xs).Perm xs := List.mergeSort_perm _ _
theorem vals_each {β : Type} {it : β → V} : ∀ {bs : List β} {us : List Value}, Vals (bs.map it) us → PySem.W.EachIs (fun u b => RelV (it b) u) us bs
  | [], _, .nil => .nil
  | _ :: _, _, .cons r t => .cons r (vals_each t)
theorem each_vals {β : Type} {it : β → V} : ∀ {bs : List β} {us : List Value}, PySem.W.EachIs (fun u b => RelV (it b) u) us bs → Vals (bs.map it) us
  | _, _, .nil => .nil
  | _, _, .cons r t => .cons r (each_vals t)
section
open PySem.W PySem.Calls
variable {X : Cx}
theorem vals_len {xs : List V} {us : List Value} (r : Vals xs us) : us.length = xs.length := r.length.symm
theorem each_reads {β : Type} {k : β → List PyData} {pins : List (Addr × Obj)} {σ : L2.St} {H : Hp} {s : Shared} (I : Inv X pins σ H s) : ∀ {bs : List β} {ys : List V} {us : List Value}, Vals ys us → DpAll X.K H ys (bs.map fun x => .tuple (k x)) → EachIs (fun v x => ∃ as, Reads s.heap v (.tuple (k x)) as) us bs
  | [], _, _, r, d => by
    cases d
    cases r
    exact .nil
  | x :: bs, _, _, r, d => by
    cases d with
    | cons d1 d2 =>
      cases r with
      | cons r1 r2 =>
        obtain ⟨as, g⟩ := Dp.reads I _ _ _ d1 r1
        exact .cons ⟨as, g⟩ (each_reads I r2 d2)
end
section
variable {P : Program} {w : World} {K : PySem.W.Frag} {mg : Str → Option Value}
theorem lam_run {q : Str} {params : Arguments} {bodyE : Expr} {scope : Scope} {pm ctv : Value} {N ps : List Str} {k : Nat} {f c' : Addr} {A : Around} {outer : List Env} {s : Shared} {H : Hp} {args : Args} {us : List Value} {vs : List V} {Q : VK} {base : Heap}
    (hf : s.heap.get? f = some (PySem.W.kla_obj "<lambda>" q params bodyE scope [] pm c' ctv)) (hc : s.heap.CodeRec (.ref c') q) (S : FnScope N ps scope) (room : Room (k + 1) A) (env : Env0 P w K mg base A outer s H)
    (bi : BindsTo s (PySem.W.kla_fn "<lambda>" q params bodyE scope [] pm (.ref c') ctv) args (ps.zip us)) (rv : Vals vs us) (len : vs.length = ps.length)
    (body : Room k (A.deeper (envOfC q scope s.heap.objs.size f (.ref c'))) → ∃ t, PE (cxOf C8.CX0 P w K mg base N q scope f (.ref c') A outer s H C8.E0).nox bodyE t ∧ t (start N vs) H Q) :
    codeAny (model P w) A (.call (.ref f) args) (CR C8.CX0 outer P w H s Q C8.E0) s := by
  have sub : ∀ b o, base.get? b = some o → s.heap.get? b = some o := fun b o e => (env.bs b o e).1
  have noLim := env.mod.nolimit.keeps sub
  refine PySem.W.kla_callFunE room.depth hf rfl S.co S.gen rfl hc ?_
  apply bi
  apply wpAny_newFunctionEnv_cells S.kind
  · rintro ⟨n, v⟩ hy
    have hp := S.par n (List.of_mem_zip hy).1
    exact hp.imp id fun c => ⟨c, PySem.W.cellsFrom_some _ _ _ (.inl c)⟩
  intro e he s1 made
  subst he
  obtain ⟨t, ht, hq⟩ := body (room.deeper _)
  have inv := inv_start (CX := C8.CX0) (E := C8.E0) (N := N) (qual := q) (scope := scope) (f := f) (cd := .ref c') S room.hd env len rv made
  refine ⟨noLim.keeps made.toInCall.keep, PySem.W.kla_codeExpr ?_⟩
  refine wpAny_mono (ht.nox.run [] s1 _ H _ inv hq) ?_ fun _ _ z => z
  intro u s' ⟨v, H', J, r, q⟩
  exact ⟨v, H', J.os, J.bare, J.base, J.hok, r, q⟩
end
def LamO (f c' : Addr) (q : Str) (params : Arguments) (body : Expr) (scope : Scope) : HO := .ext fun h => ∃ pm ctv, h.get? f = some (PySem.W.kla_obj "<lambda>" q params body scope [] pm c' ctv)
theorem lamO_ok {P : Program} {w : World} {H : Hp} {h : Heap} {f c' : Addr} {q : Str} {params : Arguments} {body : Expr} {scope : Scope} {pm ctv : Value} (e : h.get? f = some (PySem.W.kla_obj "<lambda>" q params body scope [] pm c' ctv)) : ObjOk P w H h f (LamO f c' q params body scope) :=
  ⟨⟨pm, ctv, e⟩, ⟨_, e⟩, fun h1 h2 ⟨pm, ctv, e⟩ k => ⟨pm, ctv, k _ e⟩⟩
def tLamb (P : Addr) (q : Str) (params : Arguments) (body : Expr) (scope : Scope) : TE := fun σ H Q => LamX.TabS H P q ∧ ∀ f c' H1, H f = none → LamX.ExtN H H1 → (∀ b o, b ≠ P → H b = some o → H1 b = some o) → LamX.TabS H1 P q → H1 f = some (LamO f c' q params body scope) → H1 c' = some (LamX.CodeO c' q) → Q (.ref f) H1
theorem pe_lamb {X : Cx} {c P : Addr} {params : Arguments} {body : Expr} {scope : Scope} {pos : Pos} (TB : LamX.TabB X.base X.mg c P) (hcode : X.env.code = .ref c) (hdef : defaultsOf params X.env = ([], [])) (hcl : cloFrom X.env.cells scope.names [] = []) (hfree : ∀ y ∈ scope.names, y.2 ≠ .free) :
    PE X (.Lambda params body scope pos) (tLamb P (X.env.qual ++ "<lambda>") params body scope) := by
  refine ⟨fun pins s σ H Q I h => ?_⟩
  obtain ⟨⟨ps, hP, ht, ha⟩, k⟩ := h
  have hfr : ∀ y ∈ scope.names, y.2 = .free → ∃ c, X.env.cells.lookup y.1 = some c := fun y hy e => absurd e (hfree y hy)
  refine PySem.W.kla_eval hdef ?_
  have bP : s.heap.BuiltinsAt X.mg P := TB.bm.keeps I.bk
  have hP' : s.heap.get? P = some { cls := .none, data := .fields ps } := I.hok P _ hP
  cases hc : codeAmong pos ps.toList with
  | none =>
    refine PySem.W.kla_makeFunction (closure_ok hfr) I.ok.glob (I.mod.glob.keeps I.bk) hcode (TB.code.keeps I.bk) hP' ht hc TB.gP bP fun c' ctv h' tk hx hge hlt hrec htb => ?_
    rw [hcl]
    obtain ⟨c2, oc, vs, t, e2, hoc, hd, hv⟩ := hrec
    cases e2
    have J := LamX.inv_table (t' := tk) (q := X.env.qual ++ "<lambda>") (c := c') (more := #[rawInt pos.line, rawInt pos.col, .ref c']) I hP hx htb hge ⟨oc, vs, t, hoc, hd, hv⟩
    have nC : H c' = none := I.hok.fresh hge
    have nPc : P ≠ c' := fun z => by rw [← z, hP] at nC; cases nC
    have hsz : s.heap.objs.size ≤ h'.objs.size := Nat.le_trans hge (Nat.le_of_lt hlt)
    have nF : H h'.objs.size = none := I.hok.fresh hsz
    have j1 : upd (upd H P (.tbl (ps ++ #[rawInt pos.line, rawInt pos.col, .ref c']))) c' (LamX.CodeO c' (X.env.qual ++ "<lambda>")) P = some (.tbl (ps ++ #[rawInt pos.line, rawInt pos.col, .ref c'])) := by rw [upd_ne nPc, upd_same]
    have hE : LamX.ExtN H (upd (upd H P (.tbl (ps ++ #[rawInt pos.line, rawInt pos.col, .ref c']))) c' (LamX.CodeO c' (X.env.qual ++ "<lambda>"))) := fun b o e n => by
      rw [upd_ne (fun z => by rw [z, nC] at e; cases e), upd_ne (fun z => by rw [z, hP] at e; exact n ps (Option.some.inj e).symm)]
      exact e
    have eL : (ps ++ #[rawInt pos.line, rawInt pos.col, .ref c']).toList = ps.toList ++ [rawInt pos.line, rawInt pos.col, .ref c'] := by simp
    have hT : LamX.TabS (upd (upd H P (.tbl (ps ++ #[rawInt pos.line, rawInt pos.col, .ref c']))) c' (LamX.CodeO c' (X.env.qual ++ "<lambda>"))) P (X.env.qual ++ "<lambda>") := by
      refine ⟨_, j1, by rw [eL]; exact PySem.TriplesOk_snoc _ _ _ _ ht, fun p' cv hcv => ?_⟩
      rw [eL] at hcv
      rcases LamX.among_app _ ht hcv with z | z
      · obtain ⟨c0, e1, e2⟩ := ha p' cv z
        exact ⟨c0, e1, hE _ _ e2 LamX.codeO_ne⟩
      · exact ⟨c', z, upd_same⟩
    have nF2 : upd (upd H P (.tbl (ps ++ #[rawInt pos.line, rawInt pos.col, .ref c']))) c' (LamX.CodeO c' (X.env.qual ++ "<lambda>")) h'.objs.size = none := J.hok.fresh (Nat.le_refl _)
    have hat := Heap.get?_push_size h' (o := PySem.W.kla_obj "<lambda>" (X.env.qual ++ "<lambda>") params body scope [] ((X.mg "__name__").getD .none) c' ctv) rfl
    refine ⟨.ref h'.objs.size, _, J.laid (t' := tk) (a := h'.objs.size) (o := LamO h'.objs.size c' (X.env.qual ++ "<lambda>") params body scope) (fun _ _ q => Heap.get?_push_of_some _ q) (Nat.le_refl _) (lamO_ok hat), rfl, k _ c' _ nF (hE.trans (.of fun b o e => by rw [upd_ne (fun z => by rw [z, nF2] at e; cases e)]; exact e)) (fun b o hb e => by rw [upd_ne (fun z => by rw [z, nF] at e; cases e), upd_ne (fun z => by rw [z, nC] at e; cases e), upd_ne hb]; exact e) (hT.ext fun b o e => by rw [upd_ne (fun z => by rw [z, nF2] at e; cases e)]; exact e) upd_same ?_⟩
    rw [upd_ne (Nat.ne_of_lt hlt), upd_same]
  | some cv =>
    obtain ⟨c', e, hco⟩ := ha pos cv hc
    subst e
    refine PySem.W.kla_makeFunctionHit (closure_ok hfr) I.ok.glob (I.mod.glob.keeps I.bk) hcode (TB.code.keeps I.bk) hP' ht hc bP fun ctv h' tk hx hsz => ?_
    rw [hcl]
    have J : Inv X pins σ H { s with heap := h', toks := tk } := I.kept hx
    have nF : H h'.objs.size = none := J.hok.fresh (Nat.le_refl _)
    have hat := Heap.get?_push_size h' (o := PySem.W.kla_obj "<lambda>" (X.env.qual ++ "<lambda>") params body scope [] ((X.mg "__name__").getD .none) c' ctv) rfl
    have up : ∀ b o, H b = some o → upd H h'.objs.size (LamO h'.objs.size c' (X.env.qual ++ "<lambda>") params body scope) b = some o := fun b o e => by rw [upd_ne (fun z => by rw [z, nF] at e; cases e)]; exact e
    exact ⟨.ref h'.objs.size, _, J.laid (t' := tk) (a := h'.objs.size) (o := LamO h'.objs.size c' (X.env.qual ++ "<lambda>") params body scope) (fun _ _ q => Heap.get?_push_of_some _ q) (Nat.le_refl _) (lamO_ok hat), rfl, k _ c' _ nF (.of up) (fun b o _ e => up b o e) (LamX.TabS.ext ⟨ps, hP, ht, ha⟩ up) upd_same (up _ _ hco)⟩
structure LamFirst (x : Str) (params : Arguments) (body : Expr) (scope : Scope) : Prop where
  sc : FnScope [x] [x] scope
  bind : ∀ (q : Str) (c' : Addr) (pm ctv u : Value), bindArgs (PySem.W.kla_fn "<lambda>" q params body scope [] pm (.ref c') ctv) ⟨[u], []⟩ = pure [(x, u)]
  run : ∀ (P : Program) (w : World) (K : PySem.W.Frag) (mg : Str → Option Value) (base : Heap) (q : Str) (f c' : Addr) (A : Around) (outer : List Env) (s : Shared) (H : Hp), PE (cxOf C8.CX0 P w K mg base [x] q scope f (.ref c') A outer s H C8.E0).nox body (tOp (rIxT K) (tVar 0) (tC (.int 0)))
section
open PySem.W PySem.Calls
variable {X : Cx}
theorem sorted_runL {lv : Nat} {rev : Bool} {kw : List (Str × Value)} (hr : Room (lv + 1 + 2) X.A) {pins : List (Addr × Obj)} {s : Shared} {σ : L2.St} {H : Hp} {Q : VK} {a f c' : Addr} {qn x : Str} {params : Arguments} {bodyE : Expr} {scope : Scope} {β : Type} {bs : List β} {it : β → V} {k : β → List PyData} {t : β → Tks} {fst : Bool} {Pr : β → Prop} (I : Inv X pins σ H s)
    (hkw : ∀ x : Addr, Builtin.«list.sort» ⟨[.ref x], kw⟩ = ksk_tree x (.ref f) rev) (ha1 : argsOk "sorted" ⟨[.ref a], kw⟩) (ha2 : ∀ x : Addr, argsOk "list.sort" ⟨[.ref x], kw⟩)
    (hs : SqL X.K H a (bs.map it)) (LF : LamFirst x params bodyE scope) (hF : H f = some (LamO f c' qn params bodyE scope)) (hcO : H c' = some (LamX.CodeO c' qn))
    (hit : ∀ b ∈ bs, ∃ tt rr z, it b = .ref tt ∧ H tt = some (.tup [.ref rr, z]) ∧ Dp X.K H (.ref rr) (.tuple (k b)))
    (F : KFam k t fst Pr) (hp : ∀ x ∈ bs, Pr x)
    (q : ∀ p H', H p = none → Ex H H' → H' p = some (.lst ((sortT t rev bs).map it)) → Q (.ref p) H') : wpAny (model X.prog X.w) X.A (call (.builtin "sorted") [.ref a] kw) (EP X pins σ Q) X.xe s := by
  obtain ⟨its, rv, hl, hz⟩ := I.list hs
  have hilen : its.length = bs.length := by rw [vals_len rv, List.length_map]
  have hZ : its.length ≤ sizeLine := by rw [vals_len rv]; exact hz
  refine sorted_of_sort hl.isList hZ ha1 ha2 fun E' => ?_
  rw [hkw]
  have hc0 : s.heap.get? (s.heap.objs.size + 1) = none := Heap.get?_none_of_le (Nat.le_succ _)
  have ho := copyHeap_at s.heap its
  have hcopy : ∀ b o, s.heap.get? b = some o → (copyHeap s.heap its).get? b = some o := fun b o => copyHeap_old
  generalize hcdef : s.heap.objs.size + 1 = c at ho hc0 ⊢
  have hcge : s.heap.objs.size ≤ c := by rw [← hcdef]; exact Nat.le_succ _
  generalize copyHeap s.heap its = h1 at ho hcopy ⊢
  have hclt : c < h1.objs.size := Heap.lt_size ho
  obtain ⟨e1, ho1⟩ : ∃ e1, (h1.update c (Obj.mapSeq fun _ => (#[] : Array Value))).get? c = some (seqObj "list" #[] e1) := ⟨_, get?_update_seq ho fun _ => #[]⟩
  unfold ksk_tree
  refine wpAny_bind (listItems_at ho rfl (wpAny_bind (listUpdate_at ho rfl ?_ (by rw [List.size_toArray]; exact hZ) (Nat.zero_le _))))
  refine wpAny_bind (seqEpoch_at ho1 rfl (wpAny_bind (wpAny_newTuple ?_ (by show its.length ≤ _; exact hZ))))
  refine wpAny_bind (wpAny_newList (wpAny_holding ?_) (Nat.zero_le _))
  have hmid : ∀ b o, b ≠ c → h1.get? b = some o → (((h1.update c (Obj.mapSeq fun _ => (#[] : Array Value))).push (seqObj "tuple" its.toArray 0)).push (seqObj "list" #[] 0)).get? b = some o := fun b o hb e => sortingHeap_old hb e
  have hms : ((h1.update c (Obj.mapSeq fun _ => (#[] : Array Value))).push (seqObj "tuple" its.toArray 0)).objs.size = h1.objs.size + 1 := by rw [size_push', Heap.size_update]
  have hmS : (((h1.update c (Obj.mapSeq fun _ => (#[] : Array Value))).push (seqObj "tuple" its.toArray 0)).push (seqObj "list" #[] 0)).get? ((h1.update c (Obj.mapSeq fun _ => (#[] : Array Value))).push (seqObj "tuple" its.toArray 0)).objs.size = some (seqObj "list" #[] 0) := Heap.get?_push_size _ rfl
  have hmc : (((h1.update c (Obj.mapSeq fun _ => (#[] : Array Value))).push (seqObj "tuple" its.toArray 0)).push (seqObj "list" #[] 0)).get? c = some (seqObj "list" #[] e1) := Heap.get?_push_of_some _ (Heap.get?_push_of_some _ ho1)
  have hSc : ((h1.update c (Obj.mapSeq fun _ => (#[] : Array Value))).push (seqObj "tuple" its.toArray 0)).objs.size ≠ c := by
    rw [hms]
    exact Nat.ne_of_gt (Nat.lt_succ_of_lt hclt)
  have hSge : s.heap.objs.size ≤ ((h1.update c (Obj.mapSeq fun _ => (#[] : Array Value))).push (seqObj "tuple" its.toArray 0)).objs.size := by
    rw [hms]
    exact Nat.le_trans hcge (Nat.le_of_lt (Nat.lt_succ_of_lt hclt))
  generalize ((h1.update c (Obj.mapSeq fun _ => (#[] : Array Value))).push (seqObj "tuple" its.toArray 0)).objs.size = kS at hmS hSc hSge ⊢
  generalize (((h1.update c (Obj.mapSeq fun _ => (#[] : Array Value))).push (seqObj "tuple" its.toArray 0)).push (seqObj "list" #[] 0)) = h2 at hmid hmS hmc ⊢
  have hold : ∀ b o, s.heap.get? b = some o → h2.get? b = some o := fun b o e => hmid b o (fun z => by rw [z, hc0] at e; cases e) (hcopy b o e)
  have I2 : Inv X pins σ H { s with heap := h2 } := I.kept (t' := s.toks) hold
  have fpS := I.fpOk hSge (I.hok.fresh hSge)
  have fpC := I.fpOk hcge (I.hok.fresh hcge)
  have roomI : Room (lv + 1) X.A.in1.in1 := (hr.in1).in1
  unfold ksk_rest
  refine wpAny_bind (wpAny_rule ?_)
  rw [List.forIn_toArray]
  refine wpAny_bind (ksk_fold (fun i s' => ∃ (H' : Hp) (kA : Array Value) (e : Nat) (ys : List V), Inv X pins σ H' s' ∧ Ex H H' ∧ s'.heap.get? kS = some (seqObj "list" kA e) ∧ s'.heap.get? c = some (seqObj "list" #[] e1) ∧ H' kS = none ∧ H' c = none ∧ Vals ys kA.toList ∧ DpAll X.K H' ys ((bs.take i).map fun x => .tuple (k x))) its 0 _
    ⟨H, #[], 0, [], I2, Ex.refl H, hmS, hmc, fpS.1, fpC.1, .nil, .nil⟩ (fun j u s' hu hw => ?_) fun s' hw => ?_)
  · obtain ⟨H', kA, e, ys, I', x', nS, nC, hS, hC, hv, hd⟩ := hw
    rw [Nat.zero_add] at hd ⊢
    have hj : j < bs.length := by rw [← hilen]; exact (List.getElem?_eq_some_iff.mp hu).1
    have hb := List.getElem?_eq_getElem hj
    have hmem := List.getElem_mem hj
    generalize bs[j] = b at hb hmem
    obtain ⟨u2, hu2, ru⟩ := rv.get (i := j) (x := it b) (by rw [List.getElem?_map, hb]; rfl)
    rw [hu] at hu2
    cases hu2
    have rS : FpOk X pins H' kS := ⟨hS, fpS.2⟩
    have rC : FpOk X pins H' c := ⟨hC, fpC.2⟩
    have Ip := I'.pinned (fp := [kS, c]) (fun b hb => by
      rcases (show b = kS ∨ b = c by simpa using hb) with z | z <;> rw [z] <;> assumption) (fun b hb => by
      rcases (show b = kS ∨ b = c by simpa using hb) with z | z <;> rw [z]
      · exact ⟨_, nS, fun v z => nomatch z⟩
      · exact ⟨_, nC, fun v z => nomatch z⟩)

    have env1 : Env0 X.prog X.w X.K X.mg X.base X.A.in1.in1 X.stack s' H' := (Ip.env0.in1).in1
    have hcR : s'.heap.CodeRec (.ref c') qn := by
      obtain ⟨⟨oc, vs, tt, e1, e2, e3⟩, _⟩ := (show ObjOk X.prog X.w H' s'.heap c' (LamX.CodeO c' qn) from I'.hok c' _ (x' _ _ hcO))
      exact ⟨c', oc, vs, tt, rfl, e1, e2, e3⟩
    obtain ⟨pm, ctv, nF⟩ := (show ObjOk X.prog X.w H' s'.heap f (LamO f c' qn params bodyE scope) from I'.hok f _ (x' _ _ hF)).1
    obtain ⟨tt, rr, z, eit, htt, hdr⟩ := hit b hmem
    refine wpAny_bind (wpAny_attempt (wpAny_call (codeAny_mono (lam_run (N := [x]) (ps := [x]) (vs := [it b]) (Q := fun v H2 => Ex H' H2 ∧ Dp X.K H2 v (.tuple (k b))) nF hcR LF.sc roomI env1 (fun M A Q E q => by rw [LF.bind]; exact wpAny_pure q) (.cons ru .nil) rfl (fun rm => ⟨_, LF.run _ _ _ _ _ _ _ _ _ _ _ _, by
      rw [eit]
      exact (ev_op (ev_var rfl) ev_c (rv_ixT (K := X.K) (st_of (x' _ _ htt)) (atI_nat (j := 0) rfl))) H' (Ex.refl H') _ fun H2 e2 => ⟨e2, ex_dp (x'.trans e2) hdr⟩⟩)) fun r s2 hq => ?_)))
    cases r with
    | error er => exact hq.elim
    | ok fl =>
      cases fl with
      | next => exact hq.elim
      | brk => exact hq.elim
      | cont => exact hq.elim
      | ret u3 =>
        obtain ⟨v, H2, J2, rvv, ex2, hdv⟩ := Ip.after hq
        have pn : ∀ b ∈ [kS, c], ∀ o, s'.heap.get? b = some o → s2.heap.get? b = some o ∧ H2 b = none := fun b hb o ho => by
          have := J2.pin (b, o) (List.mem_append_right _ (List.mem_append_right _ (mem_pinsAt hb ho)))
          exact ⟨this.1, this.2.1⟩
        have nS2 := pn kS (by simp) _ nS
        have nC2 := pn c (by simp) _ nC
        have J := J2.unpinned
        have hkA : kA.size ≤ its.length := by
          have h5 := dps_len hd
          have h6 := vals_len hv
          rw [List.length_map, List.length_take] at h5
          rw [Array.length_toList] at h6
          omega
        show wpAny _ _ (do Builtin.List.listUpdate (Value.ref kS) fun x => x.push u3; pure (ForInStep.yield PUnit.unit)) _ _ s2
        have szp : (kA.push u3).size ≤ sizeLine + 1 := by
          rw [Array.size_push]
          omega
        refine wpAny_bind (listUpdate_at nS2.1 rfl ?_ (Nat.le_trans hkA hZ) szp)
        obtain ⟨c2, hc2⟩ : ∃ c2, (s2.heap.update kS (Obj.mapSeq (·.push u3))).get? kS = some (seqObj "list" (kA.push u3) c2) := ⟨_, get?_update_seq nS2.1 (·.push u3)⟩
        have ne_ : ∀ b, b ≠ kS → (s2.heap.update kS (Obj.mapSeq (·.push u3))).get? b = s2.heap.get? b := fun b hb => Heap.get?_update_ne _ _ _ _ hb
        have J3 : Inv X pins σ H2 { s2 with heap := s2.heap.update kS (Obj.mapSeq (·.push u3)) } := J.turnedL (t' := s2.toks) (ch := [kS]) (fun b o hb e => (ne_ b (fun z => hb (by simp [z]))).trans e) (fun b hb => by
          rw [show b = kS by simpa using hb]
          exact ⟨nS2.2, fpS.2⟩)
        refine wpAny_pure ⟨rfl, H2, kA.push u3, c2, ys ++ [v], J3, x'.trans ex2, hc2, (ne_ c (Ne.symm hSc)).trans nC2.1, nS2.2, nC2.2, ?_, ?_⟩
        · rw [Array.toList_push]
          exact hv.append (.cons rvv .nil)
        · have ht : bs.take (j + 1) = bs.take j ++ [b] := by rw [List.take_add_one, hb]; rfl
          rw [ht, List.map_append]
          exact dps_snoc (ex_dps ex2 hd) hdv
  · obtain ⟨H', kA, e, ys, I', x', nS, nC, hS, hC, hv, hd⟩ := hw
    rw [Nat.zero_add, hilen, List.take_length] at hd
    have hkl : kA.toList.length = bs.length := by
      have h5 := dps_len hd
      rw [List.length_map] at h5
      rw [vals_len hv, h5]
    have hks : kA.size = its.length := by rw [← Array.length_toList, hkl, hilen]
    have rS : FpOk X pins H' kS := ⟨hS, fpS.2⟩
    have rC : FpOk X pins H' c := ⟨hC, fpC.2⟩
    have hE := each_reads (k := k) I' hv hd
    refine wpAny_bind (listItems_at nS rfl ?_)
    have hu60 : X.A.in1.in1.units + 60 < cLine := by
      have := roomI.un
      omega
    refine keyH_end (κ := ownKind s'.heap k t Pr) (h₁ := s'.heap.update kS fun o => { o with data := .freed }) (fun b o hb e => ?_) (freed_at _ _) nS nC hSc (own_sorts F hE hp hu60) hks hZ fun h' tk c3 kp hD => ⟨rfl, ?_⟩
    · have hbk : b ≠ kS := fun z => by rw [z, freed_at] at e; cases e
      rw [Heap.get?_update_ne _ _ _ _ hbk] at e
      exact e
    · have kept : ∀ b o, b ∉ [kS, c] → s'.heap.get? b = some o → h'.get? b = some o := fun b o hb e => by
        refine kp b o (fun z => hb (by simp [z])) ?_
        rw [Heap.get?_update_ne _ _ _ _ (fun z => hb (by simp [z]))]
        exact e
      have I3 : Inv X pins σ H' { s' with heap := h', toks := tk } := I'.turnedL (t' := tk) (ch := [kS, c]) kept fun b hb => by
        rcases (show b = kS ∨ b = c by simpa using hb) with z | z <;> rw [z] <;> assumption
      have hout : Vals ((sortT t rev bs).map it) (sortVals (ownKind s'.heap k t Pr) rev kA.toList its) := each_vals (sortVals_each (κ := ownKind s'.heap k t Pr) t (vals_each rv) ((each_mem hE).mono fun v b ⟨⟨as, g⟩, hb⟩ => own_some F (hp b hb) g))
      have hlen3 : ((sortT t rev bs).map it).length ≤ sizeLine := by
        rw [List.length_map, (sortT_perm t rev bs).length_eq, ← hilen]
        exact hZ
      exact ⟨.ref c, upd H' c (.lst ((sortT t rev bs).map it)), Inv.take (s := { s' with heap := h', toks := tk }) (h' := h') (t' := tk) I3 (fun b ob _ e => e) rC ⟨hlen3, _, c3, hout, hD⟩, rfl, q c _ fpC.1 (Ex.mut x' fpC.1) upd_same⟩
def rSortedL (K : PySem.W.Frag) (x : Str) (params : Arguments) (body : Expr) (scope : Scope) (rev : Bool) (zs0 : Addr → List V) : List V → List V → Hp → VK → Prop := fun vs zs H Q => ∃ (a f c' : Addr) (q : Str) (β : Type) (bs : List β) (it : β → V) (k : β → List PyData) (t : β → Tks) (fst : Bool) (Pr : β → Prop),
  vs = [.ref a] ∧ zs = zs0 f ∧ SqL K H a (bs.map it) ∧ H f = some (LamO f c' q params body scope) ∧ H c' = some (LamX.CodeO c' q) ∧ (∀ b ∈ bs, ∃ tt rr z, it b = .ref tt ∧ H tt = some (.tup [.ref rr, z]) ∧ Dp K H (.ref rr) (.tuple (k b))) ∧ KFam k t fst Pr ∧ (∀ x ∈ bs, Pr x) ∧
  ∀ p H', H p = none → Ex H H' → H' p = some (.lst ((sortT t rev bs).map it)) → Q (.ref p) H'
theorem cr_sortedL {lv : Nat} {x : Str} {params : Arguments} {body : Expr} {scope : Scope} (LF : LamFirst x params body scope) (hr : Room (lv + 1 + 2) X.A) : CallRK X (.builtin "sorted") [Str.ofString "key"] (rSortedL X.K x params body scope false fun f => [.ref f]) := by
  intro pins s σ H vs zs us ws Q I r rz h
  obtain ⟨a, f, c', q, β, bs, it, k, t, fst, Pr, rfl, rfl, hs, hF, hc, hit, F, hp, qq⟩ := h
  obtain rfl := Vals.ref1 r
  obtain ⟨w1, rfl, e1⟩ := vals1 rz
  obtain rfl : w1 = Value.ref f := e1
  exact sorted_runL hr I (fun x => ksk_t1 f x) (PyProof.Rows.ksk_s1 _ _) (fun x => PyProof.Rows.ksk_l1 _ _) hs LF hF hc hit F hp qq
theorem cr_sortedLR {lv : Nat} {x : Str} {params : Arguments} {body : Expr} {scope : Scope} (LF : LamFirst x params body scope) (hr : Room (lv + 1 + 2) X.A) : CallRK X (.builtin "sorted") [Str.ofString "key", Str.ofString "reverse"] (rSortedL X.K x params body scope true fun f => [.ref f, .bl true]) := by
  intro pins s σ H vs zs us ws Q I r rz h
  obtain ⟨a, f, c', q, β, bs, it, k, t, fst, Pr, rfl, rfl, hs, hF, hc, hit, F, hp, qq⟩ := h
  obtain rfl := Vals.ref1 r
  obtain ⟨w1, w2, rfl, e1, e2⟩ : ∃ w1 w2, ws = [w1, w2] ∧ RelV (.ref f) w1 ∧ RelV (.bl true) w2 := by
    cases rz with
    | cons r1 r => cases r with
      | cons r2 r =>
        cases r
        exact ⟨_, _, rfl, r1, r2⟩
  obtain rfl : w1 = Value.ref f := e1
  obtain rfl : w2 = Value.bool true := e2
  exact sorted_runL hr I (fun x => ksk_t2 f x true) (PyProof.Rows.ksk_s2 _ _ _) (fun x => PyProof.Rows.ksk_l2 _ _ _) hs LF hF hc hit F hp qq
theorem clo_none (cells : List (Str × Addr)) : ∀ (names : List (Str × NameKind)) (acc : List (Str × Addr)), (∀ y ∈ names, y.2 ≠ .free) → cloFrom cells names acc = acc
  | [], acc, _ => rfl
  | y :: r, acc, h => by
    obtain ⟨n, k⟩ := y
    have hk : k ≠ .free := h (n, k) List.mem_cons_self
    have ih := clo_none cells r acc fun z hz => h z (List.mem_cons_of_mem _ hz)
    cases k <;> first | exact absurd rfl hk | exact ih
/-- sorted(e, key=lambda ..) -/
theorem pe_sortedLam {lv : Nat} {e : Expr} {te : TE} {x : Str} {c P : Addr} {params : Arguments} {body : Expr} {scope : Scope} {p lpos kpos pos : Pos} (LF : LamFirst x params body scope) (TB : LamX.TabB X.base X.mg c P) (hcode : X.env.code = .ref c) (hg : Gl X "sorted") (hm : X.mg "sorted" = none) (hr : Room (lv + 1 + 2) X.A) (he : PE X e te)
    (hdef : defaultsOf params X.env = ([], []) := by rfl) (hs : starEach [e] X.env = (false, eval e X.env) :: starEach [] X.env := by rfl) (h1 : backTo pos (starEach [e] X.env) = (false, eval e X.env) :: backTo pos (starEach [] X.env) := by rfl) (h2 : (backTo pos (starEach [e] X.env)).any (·.1) = false := by rfl) :
    PE X (.Call (.Name "sorted" p) [e] [⟨some (Str.ofString "key"), .Lambda params body scope lpos, kpos⟩] pos) (tCKw (rSortedL X.K x params body scope false fun f => [.ref f]) (tCons te tNil) (tCons (tLamb P (X.env.qual ++ "<lambda>") params body scope) tNil)) :=
  pe_callBK (cr_sortedL LF hr) hg hm (by decide +kernel) (pa_cons he pa_nil hs) (pk_cons (pe_lamb TB hcode hdef (clo_none _ _ _ LF.sc.nofree) LF.sc.nofree) pk_nil) (by decide) (by decide) h1 h2
/-- sorted(e, key=lambda .., reverse=True) -/
theorem pe_sortedLamR {lv : Nat} {e : Expr} {te : TE} {x : Str} {c P : Addr} {params : Arguments} {body : Expr} {scope : Scope} {p lpos kpos rpos bpos pos : Pos} {cid : Nat} (LF : LamFirst x params body scope) (TB : LamX.TabB X.base X.mg c P) (hcode : X.env.code = .ref c) (hg : Gl X "sorted") (hm : X.mg "sorted" = none) (hr : Room (lv + 1 + 2) X.A) (he : PE X e te)
    (hdef : defaultsOf params X.env = ([], []) := by rfl) (hs : starEach [e] X.env = (false, eval e X.env) :: starEach [] X.env := by rfl) (h1 : backTo pos (starEach [e] X.env) = (false, eval e X.env) :: backTo pos (starEach [] X.env) := by rfl) (h2 : (backTo pos (starEach [e] X.env)).any (·.1) = false := by rfl) :
    PE X (.Call (.Name "sorted" p) [e] [⟨some (Str.ofString "key"), .Lambda params body scope lpos, kpos⟩, ⟨some (Str.ofString "reverse"), .Constant (.bool true) cid bpos, rpos⟩] pos) (tCKw (rSortedL X.K x params body scope true fun f => [.ref f, .bl true]) (tCons te tNil) (tCons (tLamb P (X.env.qual ++ "<lambda>") params body scope) (tCons (tC (.bl true)) tNil))) :=
  pe_callBK (cr_sortedLR LF hr) hg hm (by decide +kernel) (pa_cons he pa_nil hs) (pk_cons (pe_lamb TB hcode hdef (clo_none _ _ _ LF.sc.nofree) LF.sc.nofree) (pk_cons pe_bl pk_nil)) (by decide) (by decide) h1 h2
end
def DnC (K : PySem.W.Frag) (mg : Str → Option Value) (x : Str) (st : Stmt) (ps : List Str) (cd : Value) : Prop := ∃ f fd, C8.Def K mg x st f fd ∧ Binds K fd ps [] ∧ fd.code = cd
section
variable {P : Program} {w : World} {K : PySem.W.Frag} {mg : Str → Option Value} {base : Heap}
theorem dnC_mk {x : Str} {st : Stmt} {f : Addr} {oc : Value} {od an : Option Addr} {osl : Array (Option Value)} {kV doc pm cdv ct : Value} {ps : List Str}
    (l : K.lookup f = some ⟨oc, od, .func (PySem.W.fnOf x x (C8.fnArgs st) (C8.fnBody st) (C8.fnScope st) .none kV doc pm an cdv ct), osl⟩)
    (c : PySem.W.codeIn K cdv x = true) (k : PySem.W.keepIn K (.ref f) = true) (m : mg x = some (.ref f))
    (h : ∀ (kV doc pm : Value) (an : Option Addr) (cdv ct : Value) (us : List Value), us.length = ps.length → bindArgs (PySem.W.fnOf x x (C8.fnArgs st) (C8.fnBody st) (C8.fnScope st) .none kV doc pm an cdv ct) ⟨us, []⟩ = pure (ps.zip us)) : DnC K mg x st ps cdv :=
  ⟨f, _, def_mk l c k m, C8.Fun.binds (def_mk l c k m).fn rfl h, rfl⟩
theorem cal_cd {x : Str} {st : Stmt} {N ps : List Str} {k : Nat} {sp : Sp} {cd : Value} (D : DnC K mg x st ps cd) (S : FnScope N ps (C8.fnScope st)) (len : ∀ vs H Q E, sp vs H Q E → vs.length = ps.length)
    (hbody : ∀ (f : Addr) (A : Around) (outer : List Env) (s : Shared) (H : Hp) (vs : List V) (Q : VK) (E : XK), Room k (A.deeper (envOfC x (C8.fnScope st) s.heap.objs.size f cd)) → sp vs H Q E →
      ∃ t, PSs (cxOf C8.CX0 P w K mg base N x (C8.fnScope st) f cd A outer s H E).nox (C8.fnBody st) t ∧ t { nx := fun _ H' => Q .non H', rt := Q } (start N vs) H) : C8.Cal P w K mg base (k + 1) x sp [] := by
  obtain ⟨f, fd, F, b, hc⟩ := D
  obtain ⟨oc, od, dV, kV, doc, pm, an, cdv, ct, osl, rfl, lk, hcd⟩ := F.fn.ex
  obtain rfl : cdv = cd := hc
  exact ⟨f, _, ps, [], fn_of lk hcd S len (fun A outer s H vs Q E hr hsp => let ⟨t, h, q⟩ := hbody f A outer s H vs Q E hr hsp; ⟨t, h.nox, q⟩), F.mgf, F.kp, b, .nil⟩
end
def tabOf (K : PySem.W.Frag) (x : Str) : Addr := match PySem.W.nsIn K mainGlobals x with
  | some (some (.ref f)) => match K.lookup f with
    | some ⟨_, _, .func fd, _⟩ => match fd.code with
      | .ref c => match K.lookup c with
        | some ⟨_, _, .fields vs, _⟩ => match vs.getD 11 .none with
          | .ref P => P
          | _ => 0
        | _ => 0
      | _ => 0
    | _ => 0
  | _ => 0
def noT (H : Hp) : Hp := fun a => match H a with
  | some (.tbl _) => none
  | o => o
theorem noT_at {H : Hp} {a : Addr} {o : HO} (h : H a = some o) (n : ∀ ps, o ≠ .tbl ps) : noT H a = some o := by
  unfold noT
  rw [h]
  cases o <;> first | rfl | exact absurd rfl (n _)
theorem noT_le (H : Hp) : Ex (noT H) H := fun a o h => by
  unfold noT at h
  split at h
  · cases h
  · exact h
theorem noT_no {H : Hp} {a : Addr} {ps : Array Value} : noT H a ≠ some (.tbl ps) := fun h => by
  unfold noT at h
  split at h
  · cases h
  · rename_i n
    exact n ps h
theorem ex_noT {H H' : Hp} (e : LamX.ExtN H H') : Ex (noT H) H' := fun a o h => e a o (noT_le _ _ _ h) fun ps z => noT_no (z ▸ h)
theorem noT_mono {H H' : Hp} (e : Ex (noT H) H') : Ex (noT H) (noT H') := fun a o h => noT_at (e a o h) fun ps z => noT_no (z ▸ h)
section
variable {K : PySem.W.Frag} {H : Hp}
theorem rd_noT {a : Addr} {u : HO} (h : Rd H a u) (n : ∀ ps, u ≠ .tbl ps) : Rd (noT H) a u := h.imp (fun h => noT_at h n) fun ⟨o, h⟩ => ⟨o, noT_at h fun ps z => nomatch z⟩
theorem sq_noT {a : Addr} {xs : List V} (h : SqL K H a xs) : SqL K (noT H) a xs := h.imp (fun h => rd_noT h fun ps z => nomatch z) id
theorem st_noT {a : Addr} {xs : List V} (h : SqT K H a xs) : SqT K (noT H) a xs := h.imp (fun h => rd_noT h fun ps z => nomatch z) id
mutual
theorem dp_noT : ∀ {v : V} {d : PyData}, Dp K H v d → Dp K (noT H) v d
  | _, _, .non => .non
  | _, _, .bl b => .bl b
  | _, _, .int i => .int i
  | _, _, .str x => .str x
  | _, _, .lst h a => .lst (sq_noT h) (dps_noT a)
  | _, _, .tup h a => .tup (st_noT h) (dps_noT a)
theorem dps_noT : ∀ {vs : List V} {ds : List PyData}, DpAll K H vs ds → DpAll K (noT H) vs ds
  | _, _, .nil => .nil
  | _, _, .cons h t => .cons (dp_noT h) (dps_noT t)
end
end
def vlt (x y : V) : Bool := ltD (rkD x) (rkD y)
theorem vlt_two {x y : V} : vlt x y = (if kr x = kr y then (if PyData.eqv (payD x) (payD y) = true then false else ltD (payD x) (payD y)) else decide (kr x < kr y)) := by
  show ltD (.tuple [.int (kr x), payD x]) (.tuple [.int (kr y), payD y]) = _
  rw [ltD, ltDs]
  by_cases h : kr x = kr y
  · rw [if_pos (show PyData.eqv (.int (kr x)) (.int (kr y)) = true from beq_iff_eq.mpr h), if_pos h, ltDs]
    rfl
  · rw [if_neg (show ¬ PyData.eqv (.int (kr x)) (.int (kr y)) = true from fun z => h (beq_iff_eq.mp z)), if_neg h, ltD]
theorem dle (a b : Int) : decide (a ≤ b) = !decide (b < a) := by
  by_cases h : a ≤ b
  · rw [decide_eq_true h, decide_eq_false (show ¬ b < a by omega)]
    rfl
  · rw [decide_eq_false h, decide_eq_true (show b < a by omega)]
    rfl
/-- of one kind: two ints or two texts -/
inductive Two : V → V → PyData → PyData → Prop where
  | int (a b : Int) : Two (.int a) (.int b) (.int a) (.int b)
  | str (a b : Str) : Two (.str a) (.str b) (.str a) (.str b)
theorem two_pay {x y : V} (hx : Ok x) (hy : Ok y) (h : kr x = kr y) : Two (payV x) (payV y) (payD x) (payD y) := by
  cases hx <;> cases hy <;> first | exact .int _ _ | exact .str _ _ | exact absurd h (by decide) | (simp [kr] at h)
section
variable {K : PySem.W.Frag} {H : Hp} {x y : V} {a b : Addr}
theorem rv_ltR (ha : H a = some (.tup (rkL x))) (hb : H b = some (.tup (rkL y))) (hx : Ok x) (hy : Ok y) : RV (rLtD K) (.ref a) (.ref b) H (.bl (vlt x y)) := fun H1 e Q q =>
  ⟨rkD x, rkD y, dp_rk hx (e _ _ ha), dp_rk hy (e _ _ hb), lay_rk hx, lay_rk hy, ord_rk hx hy, by rw [dep_rk hx]; decide, q H1 (Ex.refl H1)⟩
end
def payT : V → Int ⊕ List Nat
  | .bl b => .inl (if b = true then 1 else 0)
  | .int i => .inl i
  | .str s => .inr s.cps.toList
  | _ => .inl 0
def tkR (x : V) : Tks := [.inl (kr x), payT x]
theorem lex_two (m n : Int) (a b : Int ⊕ List Nat) : tkLt [.inl m, a] [.inl n, b] = if m = n then PyProof.Rows.itemLt a b else decide (m < n) := by
  by_cases h : m = n
  · subst h
    rw [if_pos rfl]
    show PyProof.Rows.lexLt PyProof.Rows.itemOrd (Sum.inl m :: [a]) (Sum.inl m :: [b]) = _
    rw [PyProof.Rows.lex_self, PyProof.Rows.lex_cons]
    show (PyProof.Rows.itemLt a b || (!PyProof.Rows.itemLt b a && false)) = _
    rw [Bool.and_false, Bool.or_false]
  · rw [if_neg h]
    exact PyProof.Rows.lex_diff (O := PyProof.Rows.itemOrd) (x := Sum.inl m) (y := Sum.inl n) fun z => h (Sum.inl.inj z)
theorem kf_rank : KFam rkDs tkR true Ok where
  lt x y hx hy := by
    have e : ltDs (rkDs x) (rkDs y) = vlt x y := by
      show _ = ltD (.tuple (rkDs x)) (.tuple (rkDs y))
      rw [ltD]
    rw [e, vlt_two]
    have same : ∀ a b : Int, (if PyData.eqv (.int a) (.int b) = true then false else ltD (.int a) (.int b)) = decide (a < b) := fun a b => by
      show (if (a == b) = true then false else ltD (.int a) (.int b)) = _
      rw [ltD]
      by_cases z : a = b
      · subst z; simp
      · simp [z]
    rw [show tkLt (tkR x) (tkR y) = _ from lex_two _ _ _ _]
    by_cases h : kr x = kr y
    · rw [if_pos h, if_pos h]
      cases hx <;> cases hy <;> first | exact same _ _ | exact absurd h (by decide) | (simp [kr] at h; done) | skip
      rename_i a _ b _
      show (if (a == b) = true then false else ltD (.str a) (.str b)) = decide (a.cps.toList < b.cps.toList)
      rw [ltD]
      by_cases z : a = b
      · subst z; simp
      · simp [z]
    · rw [if_neg h, if_neg h]
  ord x y hx hy := by
    have := ord_rk hx hy
    rw [rkD, rkD, ordD] at this
    exact this
  lay x hx := by have := lay_rk hx; simpa [rkD, PyData.canLay0] using this
  dep x hx := by
    have := dep_rk hx
    have h2 : (rkD x).depth = PyData.depthAll (rkDs x) + 1 := rfl
    omega
  nol x hx := by have := noL_rk hx; simpa [rkD, noL] using this
  head x hx := ⟨_, _, rfl, by rw [if_pos rfl]; exact ⟨_, rfl⟩⟩
theorem call_list_ofK {X : L2.Cx} {K : PySem.W.Frag} (h : X.K = K) : CallR X (.type "list") (rListS K) := h ▸ call_list_of
theorem sl_listK {X : L2.Cx} {K : PySem.W.Frag} (h : X.K = K) : SlR X (rSlL K) := h ▸ sl_list
theorem pi_listK {X : L2.Cx} {K : PySem.W.Frag} {tg e : Expr} {te : TE} (h : X.K = K) (he : PE X e te) : PI X tg e (iList K te) := h ▸ pi_list he
def RowAt (H : Hp) (p : Addr) (xs : List V) : Prop := H p = some (.lst xs)
def Mn {α : Type} (R : Hp → Addr → α → Prop) : Prop := ∀ H H' q l, Ex H H' → R H q l → R H' q l
theorem RowAt.mn : Mn RowAt := fun H H' q l e h => e _ _ h
theorem Lst2.mn {α : Type} {R : Hp → Addr → α → Prop} (hm : Mn R) : Mn (Lst2 R) := fun H H' q l e h => h.mono e fun q l h => hm _ _ _ _ e h
/-- what is new since H0 -/
def nu (H0 H : Hp) : Hp := fun a => match H0 a with
  | none => H a
  | some _ => none
theorem nu_le {H0 H : Hp} : Ex (nu H0 H) H := fun a o h => by
  unfold nu at h
  split at h
  · exact h
  · cases h
theorem nu_mono {H0 H1 H2 : Hp} (e : Ex H1 H2) : Ex (nu H0 H1) (nu H0 H2) := fun a o h => by
  unfold nu at h ⊢
  cases z : H0 a with
  | none => rw [z] at h; exact e a o h
  | some u => rw [z] at h; cases h
theorem nu_back {H0 H1 H : Hp} (e : Ex H0 H1) : Ex (nu H1 H) (nu H0 H) := fun a o h => by
  unfold nu at h ⊢
  cases z : H1 a with
  | none => rw [z] at h; rw [fresh_back e z]; exact h
  | some u => rw [z] at h; cases h
theorem nu_at {H0 H : Hp} {p : Addr} {o : HO} (h0 : H0 p = none) (h : H p = some o) : nu H0 H p = some o := by
  unfold nu
  rw [h0]
  exact h
theorem nu_wo2 {H0 H1 H : Hp} {D : Addr} {o : HO} (h : H1 D = some o) (e : Ex H0 H1) : Ex (nu H1 H) (wo D (nu H0 H)) := fun a u ha => by
  have hn : a ≠ D := fun z => by
    unfold nu at ha
    rw [z, h] at ha
    cases ha
  rw [wo_ne hn]
  exact nu_back e a u ha
theorem wo_nu_upd {H0 H : Hp} {D : Addr} {o : HO} : wo D (nu H0 (upd H D o)) = wo D (nu H0 H) := by
  funext a
  by_cases h : a = D
  · rw [h, wo_self, wo_self]
  · rw [wo_ne h, wo_ne h]
    unfold nu
    rw [upd_ne h]
def EvRn (R : Hp → Addr → Prop) (te : TE) (σ : L2.St) (H : Hp) : Prop := ∀ H1, Ex H H1 → ∀ Q : VK, (∀ p H2, H1 p = none → Ex H1 H2 → R (nu H1 H2) p → Q (.ref p) H2) → te σ H1 Q
def EvRo (R : Hp → Addr → Prop) (te : TE) (σ : L2.St) (H : Hp) : Prop := ∀ H1, Ex H H1 → ∀ Q : VK, (∀ p H2, H1 p = none → Ex H1 H2 → R H2 p → Q (.ref p) H2) → te σ H1 Q
/-- a new list, the items' words stand beside it -/
def Lst3 {α : Type} (R : Hp → Addr → α → Prop) (H : Hp) (p : Addr) (L : List α) : Prop := ∃ qs, H p = some (.lst (qs.map V.ref)) ∧ Al2 R (wo p H) qs L
theorem Lst3.two {α : Type} {R : Hp → Addr → α → Prop} (hm : Mn R) {H : Hp} {p : Addr} {L : List α} (h : Lst3 R H p L) : Lst2 R H p L := by
  obtain ⟨qs, h1, h2⟩ := h
  exact ⟨qs, h1, h2.mono fun q l _ => hm _ _ _ _ (wo_le _ _)⟩
section
variable {K : PySem.W.Frag} {σ : L2.St} {H : Hp} {ta tb te tl : TE} {α : Type} {R : Hp → Addr → α → Prop} {D : Ends} {tz : TS}
theorem q_asgR {i : Nat} {R : Hp → Addr → Prop} (h : EvRn R te σ H) (k : ∀ p H1, H p = none → Ex H H1 → R (nu H H1) p → tz D (σ.set i (some (.ref p))) H1) : tSeq (tAsg te (gName i)) tz D σ H := h H (Ex.refl H) _ k
theorem q_asgO {i : Nat} {R : Hp → Addr → Prop} (h : EvRo R te σ H) (k : ∀ p H1, H p = none → Ex H H1 → R H1 p → tz D (σ.set i (some (.ref p))) H1) : tSeq (tAsg te (gName i)) tz D σ H := h H (Ex.refl H) _ k
theorem s_retR {R : Hp → Addr → Prop} (h : EvRn R te σ H) (k : ∀ p H1, H p = none → Ex H H1 → R (nu H H1) p → D.rt (.ref p) H1) : tRet te D σ H := h H (Ex.refl H) _ k
theorem rn_list {p : Addr} {xs : List V} (ha : Ev ta σ H (.ref p)) (h : SqL K H p xs) : EvRn (fun H p => RowAt H p xs) (tCB (rListS K) (tCons ta tNil)) σ H := fun H1 e Q q => el_list ha h H1 e Q fun p H2 hp e2 h2 => q p H2 hp e2 (nu_at hp h2)
/-- [a new object for x in xs] -/
theorem er_lcD (hm : Mn R) {a : Addr} {xs : List V} {j : Nat} {vs : List Nat} (f : Nat → α) (h : Ev tl σ H (.ref a)) (hx : SqL K H a xs) (hz : xs.length ≤ 40000) (hw : ∀ x, wipe ((wipe σ vs).set j (some x)) vs = wipe σ vs)
    (he : ∀ (i : Nat) (x : V) (H1 : Hp) (D : Addr), Ex H H1 → H D = none → (∃ ys, H1 D = some (.lst ys)) → xs[i]? = some x → ∀ Q : VK, (∀ p H2, H1 p = none → Ex H1 H2 → R (wo D H2) p (f i) → Q (.ref p) H2) → te ((wipe σ vs).set j (some x)) H1 Q) :
    EvRo (fun H p => Lst3 R H p ((List.range xs.length).map f)) (tLc (iList K tl) (gName j) tYes te vs) σ H := fun H0 e0 Q q => h H0 e0 _ fun H1 e1 => ⟨a, rfl, ⟨xs, ex_l (e0.trans e1) hx⟩, fun D hD =>
  lc_list (xs := xs) (fun i H' => H1 D = none ∧ Ex H1 H' ∧ ∃ qs, H' D = some (.lst (qs.map V.ref)) ∧ Al2 R (wo D H') qs ((List.range i).map f)) ⟨hD, Ex.new hD, [], upd_same, Al2.nil⟩ (fun i H' _ p => ex_l ((e0.trans e1).trans p.2.1) hx)
    (fun i x H' hi p => by
      obtain ⟨p1, p2, qs, p3, p4⟩ := p
      refine ⟨hw x, ?_⟩
      show te ((wipe σ vs).set j (some x)) H' fun y H4 => ∃ acc, H4 D = some (.lst acc) ∧ acc.length < sizeLine ∧ _
      refine he i x H' D ((e0.trans e1).trans p2) (fresh_back (e0.trans e1) hD) ⟨_, p3⟩ hi _ fun r H4 hr e4 hR => ⟨_, e4 _ _ p3, sz_lt ?_, p1, Ex.mut (p2.trans e4) p1, qs ++ [r], by rw [upd_same, List.map_append]; rfl, ?_⟩
      · have := p4.1
        rw [List.length_map, List.length_range] at this
        have := (List.getElem?_eq_some_iff.mp hi).1
        rw [List.length_map]
        omega
      · rw [wo_upd, List.range_succ, List.map_append]
        exact (p4.mono fun q l _ => hm _ _ _ _ (wo_mono e4)).snoc hR)
    (fun H' p => by
      obtain ⟨p1, p2, qs, p3, p4⟩ := p
      exact q D H' (fresh_back e1 p1) (e1.trans p2) ⟨qs, p3, p4⟩)⟩
/-- .. objects that are wholly new -/
theorem er_lcN (hm : Mn R) {a : Addr} {xs : List V} {j : Nat} {vs : List Nat} (f : Nat → α) (h : Ev tl σ H (.ref a)) (hx : SqL K H a xs) (hz : xs.length ≤ 40000) (hw : ∀ x, wipe ((wipe σ vs).set j (some x)) vs = wipe σ vs)
    (he : ∀ (i : Nat) (x : V) (H1 : Hp), Ex H H1 → xs[i]? = some x → EvRn (fun H q => R H q (f i)) te ((wipe σ vs).set j (some x)) H1) :
    EvRn (fun H p => Lst2 R H p ((List.range xs.length).map f)) (tLc (iList K tl) (gName j) tYes te vs) σ H := fun H0 e0 Q q => h H0 e0 _ fun H1 e1 => ⟨a, rfl, ⟨xs, ex_l (e0.trans e1) hx⟩, fun D hD =>
  lc_list (xs := xs) (fun i H' => H1 D = none ∧ Ex H1 H' ∧ ∃ qs, H' D = some (.lst (qs.map V.ref)) ∧ Al2 R (wo D (nu H0 H')) qs ((List.range i).map f)) ⟨hD, Ex.new hD, [], upd_same, Al2.nil⟩ (fun i H' _ p => ex_l ((e0.trans e1).trans p.2.1) hx)
    (fun i x H' hi p => by
      obtain ⟨p1, p2, qs, p3, p4⟩ := p
      refine ⟨hw x, ?_⟩
      show te ((wipe σ vs).set j (some x)) H' fun y H4 => ∃ acc, H4 D = some (.lst acc) ∧ acc.length < sizeLine ∧ _
      refine he i x H' ((e0.trans e1).trans p2) hi H' (Ex.refl H') _ fun r H4 hr e4 hR => ⟨_, e4 _ _ p3, sz_lt ?_, p1, Ex.mut (p2.trans e4) p1, qs ++ [r], by rw [upd_same, List.map_append]; rfl, ?_⟩
      · have := p4.1
        rw [List.length_map, List.length_range] at this
        have := (List.getElem?_eq_some_iff.mp hi).1
        rw [List.length_map]
        omega
      · rw [wo_nu_upd, List.range_succ, List.map_append]
        exact (p4.mono fun q l _ => hm _ _ _ _ (wo_mono (nu_mono e4))).snoc (hm _ _ _ _ (nu_wo2 p3 (e1.trans p2)) hR))
    (fun H' p => by
      obtain ⟨p1, p2, qs, p3, p4⟩ := p
      have hD0 := fresh_back e1 p1
      exact q D H' hD0 (e1.trans p2) ⟨qs, nu_at hD0 p3, p4.mono fun q l _ => hm _ _ _ _ (wo_le _ _)⟩)⟩
theorem lc_rangeC {lo c : Int} {n : Nat} {g : TG} {tt : TT} {te : TE} {vs : List Nat} {σ : L2.St} {H1 : Hp} {D : Addr} {Qd : Hp → Prop} (Pv : Nat → Hp → Prop) (h0 : Pv 0 (upd H1 D (.lst [])))
    (hs : ∀ i H, i < n → Pv i H → g (.int (lo + (i : Nat) * c)) (wipe σ vs) H fun σ2 H2 => wipe σ2 vs = wipe σ vs ∧ tt σ2 H2 fun b H3 =>
      if b = true then te σ2 H3 fun y H4 => ∃ acc, H4 D = some (.lst acc) ∧ acc.length < sizeLine ∧ Pv (i + 1) (upd H4 D (.lst (acc ++ [y]))) else Pv (i + 1) H3) (hd : ∀ H, Pv n H → Qd H) :
    ∃ W : Nat → Nat → Hp → Prop, (∃ m, W 0 m (upd H1 D (.lst []))) ∧ ∀ i m H, W i m H →
      ((Itc lo c n).stop i H ∧ Qd H) ∨ ((Itc lo c n).go i H ∧ ∃ Nx : Hp → Prop, (∀ H', Nx H' → ∃ m', m' < m ∧ W (i + 1) m' H') ∧ ∀ x H', (Itc lo c n).yld i H x H' → g x (wipe σ vs) H' fun σ2 H2 => wipe σ2 vs = wipe σ vs ∧ tt σ2 H2 fun b H3 =>
        if b = true then te σ2 H3 fun y H4 => ∃ acc, H4 D = some (.lst acc) ∧ acc.length < sizeLine ∧ Nx (upd H4 D (.lst (acc ++ [y]))) else Nx H3) := by
  refine ⟨fun i m H => m = n - i ∧ i ≤ n ∧ Pv i H, ⟨n, by simp, Nat.zero_le _, h0⟩, ?_⟩
  rintro i m H ⟨rfl, hi, p⟩
  by_cases hlt : i < n
  · refine .inr ⟨hlt, Pv (i + 1), fun H' p' => ⟨n - (i + 1), by omega, rfl, hlt, p'⟩, fun x H' y => ?_⟩
    obtain ⟨e, y⟩ := y
    subst e y
    exact hs i _ hlt p
  · have e : i = n := by omega
    subst e
    exact .inl ⟨Nat.le_refl _, hd H p⟩
def stepsN (n c : Nat) : Nat := if 0 < n then (n - 1) / c + 1 else 0
theorem stepsN_le {n c : Nat} (hc : 0 < c) : stepsN n c ≤ n := by
  unfold stepsN
  split
  · have := Nat.div_le_self (n - 1) c
    omega
  · omega
theorem stepsN_mul {n c : Nat} (hc : 0 < c) : stepsN n c * c ≤ n + c := by
  unfold stepsN
  split
  · have h1 := Nat.div_mul_le_self (n - 1) c
    rw [Nat.add_mul, Nat.one_mul]
    omega
  · omega
theorem RgC.up {n c : Nat} (hn : n ≤ 100000) (hc : 0 < c) (hc2 : c ≤ 100000) : RgC 0 (n : Int) (c : Int) (stepsN n c) := by
  have hr : Builtin.Range.rangeSize 0 (n : Int) (c : Int) = ((stepsN n c : Nat) : Int) := by
    unfold Builtin.Range.rangeSize stepsN
    rw [if_pos (by omega)]
    by_cases h : 0 < n
    · rw [if_pos (by omega), if_pos h]
      have : (n : Int) - 0 - 1 = ((n - 1 : Nat) : Int) := by omega
      rw [this]
      rfl
    · rw [if_neg (by omega), if_neg h]
      rfl
  refine ⟨by omega, by omega, ?_, hr⟩
  have hm := stepsN_mul (n := n) hc
  have hm2 := stepsN_le (n := n) hc
  have e : ((stepsN n c : Nat) : Int) * (c : Int) = ((stepsN n c * c : Nat) : Int) := by rw [Int.natCast_mul]
  unfold Builtin.Range.small
  rw [hr]
  simp only [Builtin.Range.rangeFitsLong, Bool.and_eq_true, Bool.or_eq_true, decide_eq_true_eq, beq_iff_eq, show (c : Int) > 0 by omega, if_true, e, Int.zero_add]
  omega
theorem stepsN_at {n c i : Nat} (hc : 0 < c) (h : i < stepsN n c) : i * c < n := by
  unfold stepsN at h
  split at h
  · have h2 : i ≤ (n - 1) / c := by omega
    have := (Nat.le_div_iff_mul_le hc).mp h2
    omega
  · omega
theorem stepsN_all {n c : Nat} (hc : 0 < c) : n ≤ stepsN n c * c := by
  unfold stepsN
  split
  · have h1 := Nat.div_add_mod (n - 1) c
    have h2 := Nat.mod_lt (n - 1) hc
    rw [Nat.add_mul, Nat.one_mul, Nat.mul_comm]
    omega
  · omega
/-- .. over range(0, n, c) -/
theorem er_lcC (hm : Mn R) {n c : Nat} {tr : TA} {j : Nat} {vs : List Nat} (f : Nat → α) (h : EvA tr σ H [.int 0, .int (n : Int), .int (c : Int)]) (hn : n ≤ 40000) (hc : 0 < c) (hc2 : c ≤ 100000) (hw : ∀ x, wipe ((wipe σ vs).set j (some x)) vs = wipe σ vs)
    (he : ∀ (i : Nat) (H1 : Hp) (D : Addr), Ex H H1 → H D = none → (∃ ys, H1 D = some (.lst ys)) → i < stepsN n c → ∀ Q : VK, (∀ p H2, H1 p = none → Ex H1 H2 → R (wo D H2) p (f i) → Q (.ref p) H2) → te ((wipe σ vs).set j (some (.int ((i * c : Nat) : Int)))) H1 Q) :
    EvRo (fun H p => Lst3 R H p ((List.range (stepsN n c)).map f)) (tLc (iRng3 tr) (gName j) tYes te vs) σ H := fun H0 e0 Q q => h H0 e0 _ fun H1 e1 => ⟨0, (n : Int), (c : Int), stepsN n c, rfl, RgC.up (by omega) hc hc2, fun D hD =>
  lc_rangeC (lo := 0) (c := (c : Int)) (n := stepsN n c) (fun i H' => H1 D = none ∧ Ex H1 H' ∧ ∃ qs, H' D = some (.lst (qs.map V.ref)) ∧ Al2 R (wo D H') qs ((List.range i).map f)) ⟨hD, Ex.new hD, [], upd_same, Al2.nil⟩
    (fun i H' hi p => by
      obtain ⟨p1, p2, qs, p3, p4⟩ := p
      have e9 : (0 : Int) + ((i : Nat) : Int) * (c : Int) = ((i * c : Nat) : Int) := by rw [Int.natCast_mul, Int.zero_add]
      refine ⟨hw _, ?_⟩
      show te ((wipe σ vs).set j (some (.int ((0 : Int) + ((i : Nat) : Int) * (c : Int))))) H' fun y H4 => ∃ acc, H4 D = some (.lst acc) ∧ acc.length < sizeLine ∧ _
      rw [e9]
      refine he i H' D ((e0.trans e1).trans p2) (fresh_back (e0.trans e1) hD) ⟨_, p3⟩ hi _ fun r H4 hr e4 hR => ⟨_, e4 _ _ p3, sz_lt ?_, p1, Ex.mut (p2.trans e4) p1, qs ++ [r], by rw [upd_same, List.map_append]; rfl, ?_⟩
      · have := p4.1
        rw [List.length_map, List.length_range] at this
        have h9 := stepsN_le (n := n) hc
        rw [List.length_map]
        omega
      · rw [wo_upd, List.range_succ, List.map_append]
        exact (p4.mono fun q l _ => hm _ _ _ _ (wo_mono e4)).snoc hR)
    (fun H' p => by
      obtain ⟨p1, p2, qs, p3, p4⟩ := p
      exact q D H' (fresh_back e1 p1) (e1.trans p2) ⟨qs, p3, p4⟩)⟩
theorem cutV_nat {xs : List V} {i j : Nat} : cutV xs (some (i : Int)) (some (j : Int)) = (xs.take j).drop i := by
  unfold cutV
  rw [HT.sIx_nat, HT.sIx_nat, List.drop_take]
  by_cases hi : i ≤ xs.length
  · rw [Nat.min_eq_left hi]
    by_cases hj : j ≤ xs.length
    · rw [Nat.min_eq_left hj]
    · rw [Nat.min_eq_right (show xs.length ≤ j by omega), List.take_of_length_le (by rw [List.length_drop]; omega), List.take_of_length_le (by rw [List.length_drop]; omega)]
  · rw [Nat.min_eq_right (show xs.length ≤ i by omega), List.drop_eq_nil_of_le (Nat.le_refl _), List.drop_eq_nil_of_le (show xs.length ≤ i by omega)]
    simp
def chunk {α : Type} (xs : List α) (c i : Nat) : List α := (xs.take (i * c + c)).drop (i * c)
theorem chunk_flat {α : Type} (xs : List α) (c : Nat) : ∀ n, ((List.range n).map (chunk xs c)).flatten = xs.take (n * c)
  | 0 => by simp
  | n + 1 => by
    rw [List.range_succ, List.map_append, List.flatten_append, chunk_flat xs c n]
    show xs.take (n * c) ++ (chunk xs c n ++ []) = xs.take ((n + 1) * c)
    rw [List.append_nil, Nat.add_mul, Nat.one_mul]
    unfold chunk
    have := List.take_append_drop (n * c) (xs.take (n * c + c))
    rw [List.take_take, Nat.min_eq_left (by omega)] at this
    exact this
/-- a list of rows, cut -/
theorem Al2.cut {qs : List Addr} {L : List α} (h : Al2 R H qs L) (c i : Nat) : Al2 R H (chunk qs c i) (chunk L c i) := by
  refine ⟨by unfold chunk; rw [List.length_drop, List.length_drop, List.length_take, List.length_take, h.1], fun k q l a b => ?_⟩
  unfold chunk at a b
  rw [List.getElem?_drop, List.getElem?_take] at a b
  split at a
  · rename_i hlt
    rw [if_pos hlt] at b
    exact h.2 _ q l a b
  · cases a
end
section
variable {K : PySem.W.Frag} {σ : L2.St} {H : Hp} {p : Addr} {te tn : TE} {R : V → Prop}
/-- [what is drawn for k in range(n)] -/
theorem e1_lcE {j : Nat} {vs : List Nat} {n : Nat} (hn : Ev tn σ (wo p H) (.int (n : Int))) (hm : n ≤ 10000) (hw : ∀ x, wipe ((wipe σ vs).set j (some x)) vs = wipe σ vs)
    (he : ∀ i : Nat, EvD1 te ((wipe σ vs).set j (some (.int (i : Int)))) p H R) : EvLD1 (tLc (iRng1 (tCons tn tNil)) (gName j) tYes te vs) σ p H (fun xs => xs.length = n ∧ ∀ x ∈ xs, R x) := fun H0 e d Q q =>
  hn H0 e _ fun H1 e1 => by
    have d1 := d.ex e1
    refine ⟨(n : Int), rfl, by omega, by omega, fun Dl hD => ?_⟩
    have hpd : p ≠ Dl := dr_ne d1 hD
    refine lc_range (lo := 0) (n := ((n : Int)).toNat) (fun i H' => Ex (wo p H1) H' ∧ Dr p H' ∧ ∃ acc, H' Dl = some (.lst acc) ∧ acc.length = i ∧ ∀ x ∈ acc, R x) ⟨Ex.mut (wo_le p H1) (by rw [wo_ne (Ne.symm hpd)]; exact hD), d1.upd hpd, [], upd_same, rfl, fun x hx => by cases hx⟩ (fun i H' hi pv => ?_) (fun H' pv => ?_)
    · obtain ⟨p1, p2, acc, p3, p4, p5⟩ := pv
      have e0 : (0 : Int) + (i : Int) = (i : Int) := Int.zero_add _
      show wipe ((wipe σ vs).set j (some (.int ((0 : Int) + (i : Int))))) vs = wipe σ vs ∧ te ((wipe σ vs).set j (some (.int ((0 : Int) + (i : Int))))) H' fun y H4 => ∃ acc, H4 Dl = some (.lst acc) ∧ acc.length < sizeLine ∧ _
      rw [e0]
      refine ⟨hw _, he i H' (wx_trans e (wx_trans (wx_of e1) p1)) p2 _ fun y H4 hy e4 d4 => ?_⟩
      refine ⟨acc, e4 Dl _ (by rw [wo_ne (Ne.symm hpd)]; exact p3), sz_lt (by omega), Ex.mut (wx_trans p1 e4) (by rw [wo_ne (Ne.symm hpd)]; exact hD), d4.upd hpd, acc ++ [y], upd_same, by rw [List.length_append, p4]; rfl, fun x hx => ?_⟩
      rcases List.mem_append.mp hx with h | h
      · exact p5 x h
      · rw [List.mem_singleton.mp h]
        exact hy
    · obtain ⟨p1, p2, acc, p3, p4, p5⟩ := pv
      exact q Dl H' acc ⟨by rw [p4]; exact Int.toNat_natCast n, p5⟩ (fresh_back e1 hD) (wx_trans (wx_of e1) p1) p2 p3
theorem q1_asgL {i : Nat} {P : List V → Prop} {D : Ends} {tz : TS} (h : EvLD1 te σ p H P) (d : Dr p H) (k : ∀ l H1 xs, P xs → H l = none → Ex (wo p H) H1 → Dr p H1 → H1 l = some (.lst xs) → tz D (σ.set i (some (.ref l))) H1) : tSeq (tAsg te (gName i)) tz D σ H := h H (wo_le p H) d _ fun l H1 xs hP hl e d1 h1 => k l H1 xs hP hl e d1 h1
end
def payN : V → NK
  | .non => .num 0
  | .bl b => .num (if b then 1 else 0)
  | .int i => .num i
  | .str s => .text s
  | _ => .none
def rkN (x : V) : NK := .tup [.num (kr x), payN x]
def rowN (xs : List V) : NK := .tup (xs.map rkN)
theorem nk_rk {H : Hp} {x : V} {p : Addr} (h : Ok x) (hp : H p = some (.tup (rkL x))) : NKey H (rkN x) (.ref p) := by
  refine .tup hp (.cons (.num _) (.cons ?_ .nil))
  cases h with
  | non => exact .num 0
  | bl b => exact .num _
  | int i => exact .num i
  | str s _ => exact .text s
theorem datas_map : ∀ ks : List NK, NestedKey.datas ks = ks.map NestedKey.data
  | [] => rfl
  | k :: r => by rw [NestedKey.datas, datas_map r]; rfl
theorem rk_data {x : V} (h : Ok x) : (rkN x).data = rkD x := by cases h <;> rfl
theorem row_data {xs : List V} (h : ∀ x ∈ xs, Ok x) : (rowN xs).data = .tuple (xs.map rkD) := by
  unfold rowN
  rw [NestedKey.data, datas_map, List.map_map]
  congr 1
  exact List.map_congr_left fun x hx => rk_data (h x hx)
mutual
theorem eqv_data : ∀ a b : NK, PyData.eqv a.data b.data = NestedKey.beq a b
  | .none, .none => rfl
  | .num a, .num b => by
    show (a == b) = decide (a = b)
    rw [Bool.eq_iff_iff, beq_iff_eq, decide_eq_true_eq]
  | .text a, .text b => by
    show (a == b) = decide (a = b)
    rw [Bool.eq_iff_iff, beq_iff_eq, decide_eq_true_eq]
  | .tup a, .tup b => eqvs_data a b
  | .none, .num _ | .none, .text _ | .none, .tup _ => rfl
  | .num _, .none | .num _, .text _ | .num _, .tup _ => rfl
  | .text _, .none | .text _, .num _ | .text _, .tup _ => rfl
  | .tup _, .none | .tup _, .num _ | .tup _, .text _ => rfl
theorem eqvs_data : ∀ a b : List NK, PyData.eqvAll (NestedKey.datas a) (NestedKey.datas b) = NestedKey.beqAll a b
  | [], [] => rfl
  | x :: xs, y :: ys => by
    show (PyData.eqv x.data y.data && PyData.eqvAll (NestedKey.datas xs) (NestedKey.datas ys)) = _
    rw [eqv_data x y, eqvs_data xs ys]
    rfl
  | [], _ :: _ => rfl
  | _ :: _, [] => rfl
end
theorem eqv_key (a b : NK) : PyData.eqv a.data b.data = decide (a = b) := by rw [eqv_data, NestedKey.decide_eq]
section
variable {K : PySem.W.Frag}
mutual
theorem dp_key {H : Hp} : ∀ {k : NK} {v : V}, NKey H k v → Dp K H v k.data
  | _, _, .non => .non
  | _, _, .num i => .int i
  | _, _, .text x => .str x
  | _, _, .tup h hs => .tup (st_of h) (dp_keys hs)
theorem dp_keys {H : Hp} : ∀ {ks : List NK} {vs : List V}, NKeys H ks vs → DpAll K H vs (NestedKey.datas ks)
  | _, _, .nil => .nil
  | _, _, .cons h hs => .cons (dp_key h) (dp_keys hs)
end
theorem nks_len {H : Hp} : ∀ {ks : List NK} {vs : List V}, NKeys H ks vs → vs.length = ks.length
  | _, _, .nil => rfl
  | _, _, .cons _ t => congrArg (· + 1) (nks_len t)
theorem nks_snoc {H : Hp} : ∀ {ks : List NK} {vs : List V} {k : NK} {v : V}, NKeys H ks vs → NKey H k v → NKeys H (ks ++ [k]) (vs ++ [v])
  | _, _, _, _, .nil, h => .cons h .nil
  | _, _, _, _, .cons a t, h => .cons a (nks_snoc t h)
theorem keep_tup {H : Hp} {p : Addr} {o u : HO} (hp : H p = some u) (hu : ∀ xs, u ≠ .tup xs) : ∀ b xs, H b = some (.tup xs) → upd H p o b = some (.tup xs) := fun b xs q => by
  rw [upd_ne fun z => ?_]
  · exact q
  · rw [z, hp] at q
    exact hu _ (Option.some.inj q)
theorem keep_lst {H : Hp} {p : Addr} {o : HO} {ys : List V} (hp : H p = some (.lst ys)) : ∀ b xs, H b = some (.tup xs) → upd H p o b = some (.tup xs) := keep_tup hp fun xs z => nomatch z
theorem keep_new {H : Hp} {p : Addr} {o : HO} (hp : H p = none) : ∀ b xs, H b = some (.tup xs) → upd H p o b = some (.tup xs) := fun b xs q => by
  rw [upd_ne (ne_of_none q hp)]
  exact q
/-- a new tuple that is the key k -/
def EvK (te : TE) (σ : L2.St) (H : Hp) (k : NK) : Prop := ∀ H1, Ex H H1 → ∀ Q : VK, (∀ p H2, H1 p = none → Ex H1 H2 → NKey H2 k (.ref p) → Q (.ref p) H2) → te σ H1 Q
def EvLK (te : TE) (σ : L2.St) (H : Hp) (ks : List NK) : Prop := ∀ H1, Ex H H1 → ∀ Q : VK, (∀ p H2 ys, H1 p = none → Ex H1 H2 → H2 p = some (.lst ys) → NKeys H2 ks ys → Q (.ref p) H2) → te σ H1 Q
variable {σ : L2.St} {H H' : Hp} {ta tb te tl : TE} {x y z v : V} {k : NK} {ks : List NK} {D : Ends} {tz : TS}
theorem ek_rk (h : EvU ta σ H (rkL x)) (hx : Ok x) : EvK ta σ H (rkN x) := fun H1 e Q q => h H1 e _ fun p H2 hp e2 h2 => q p H2 hp e2 (nk_rk hx h2)
theorem s_retK (h : EvK te σ H k) (q : ∀ p H1, H p = none → Ex H H1 → NKey H1 k (.ref p) → D.rt (.ref p) H1) : tRet te D σ H := h H (Ex.refl H) _ fun p H1 hp e h1 => q p H1 hp e h1
theorem ek_tuple (h : EvLK tl σ H ks) : EvK (tCB (fun xs H Q => ∃ p ys, xs = [.ref p] ∧ ((SqL K H p ys ∧ ∀ l, H l = none → Q (.ref l) (upd H l (.tup ys))) ∨ (SqT K H p ys ∧ Q (.ref p) H))) (tCons tl tNil)) σ H (.tup ks) := fun H1 e Q q =>
  h H1 e _ fun p H2 ys _ e2 h2 hd => ⟨p, ys, rfl, .inl ⟨sq_of h2, fun l hl => q l _ (fresh_back e2 hl) (e2.trans (Ex.new hl)) (.tup upd_same (NKeys.mono (keep_new hl) hd))⟩⟩
theorem lk_lcL {a : Addr} {xs : List V} {j : Nat} {vs : List Nat} (f : V → NK) (h : Ev tl σ H (.ref a)) (hx : SqL K H a xs) (hz : xs.length ≤ 40000) (hw : ∀ x, wipe ((wipe σ vs).set j (some x)) vs = wipe σ vs)
    (he : ∀ (x : V) H1, Ex H H1 → x ∈ xs → EvK te ((wipe σ vs).set j (some x)) H1 (f x)) :
    EvLK (tLc (iList K tl) (gName j) tYes te vs) σ H (xs.map f) := fun H0 e0 Q q => h H0 e0 _ fun H1 e1 => ⟨a, rfl, ⟨xs, ex_l (e0.trans e1) hx⟩, fun D hD =>
  lc_list (xs := xs) (fun i H' => H1 D = none ∧ Ex H1 H' ∧ ∃ ys, H' D = some (.lst ys) ∧ NKeys H' ((xs.take i).map f) ys) ⟨hD, Ex.new hD, [], upd_same, .nil⟩ (fun i H' _ p => ex_l ((e0.trans e1).trans p.2.1) hx)
    (fun i x H' hi p => by
      obtain ⟨p1, p2, ys, p3, p4⟩ := p
      refine ⟨hw x, ?_⟩
      show te ((wipe σ vs).set j (some x)) H' fun y H4 => ∃ acc, H4 D = some (.lst acc) ∧ acc.length < sizeLine ∧ _
      refine he x H' ((e0.trans e1).trans p2) (List.mem_of_getElem? hi) H' (Ex.refl H') _ fun y H4 _ e4 hy => ⟨ys, e4 _ _ p3, sz_lt ?_, p1, Ex.mut (p2.trans e4) p1, ys ++ [.ref y], upd_same, ?_⟩
      · have := nks_len p4
        rw [List.length_map, List.length_take] at this
        have := (List.getElem?_eq_some_iff.mp hi).1
        omega
      · rw [List.take_add_one, hi, List.map_append]
        exact nks_snoc (NKeys.mono (keep_lst (e4 _ _ p3)) (NKeys.mono (fun b xs q => e4 b _ q) p4)) (NKey.mono (keep_lst (e4 _ _ p3)) hy))
    (fun H' p => by
      obtain ⟨p1, p2, ys, p3, p4⟩ := p
      rw [List.take_length] at p4
      exact q D H' ys (fresh_back e1 p1) (e1.trans p2) p3 p4)⟩
end
inductive RowsAt (H : Hp) : List V → List (List V) → Prop where
  | nil : RowsAt H [] []
  | cons {p : Addr} {xs : List V} {rs : List V} {xss : List (List V)} (h : H p = some (.lst xs)) (t : RowsAt H rs xss) : RowsAt H (.ref p :: rs) (xs :: xss)
theorem RowsAt.ex {H H' : Hp} (e : Ex H H') : ∀ {rs : List V} {xss : List (List V)}, RowsAt H rs xss → RowsAt H' rs xss
  | _, _, .nil => .nil
  | _, _, .cons h t => .cons (e _ _ h) (RowsAt.ex e t)
theorem RowsAt.upd {H : Hp} {p : Addr} {o : HO} : ∀ {rs : List V} {xss : List (List V)}, RowsAt H rs xss → (∀ r ∈ rs, r ≠ .ref p) → RowsAt (upd H p o) rs xss
  | _, _, .nil, _ => .nil
  | _, _, .cons h t, n => .cons (by rw [upd_ne fun z => n _ List.mem_cons_self (by rw [z])]; exact h) (RowsAt.upd t fun r hr => n r (List.mem_cons_of_mem _ hr))
theorem RowsAt.get {H : Hp} : ∀ {rs : List V} {xss : List (List V)} {i : Nat} {x : V}, RowsAt H rs xss → rs[i]? = some x → ∃ p xs, x = .ref p ∧ H p = some (.lst xs) ∧ xss[i]? = some xs
  | _, _, _, _, .nil, h => by simp at h
  | _, _, 0, _, .cons h t, e => by
    cases e
    exact ⟨_, _, rfl, h, rfl⟩
  | _, _, i + 1, _, .cons h t, e => by
    obtain ⟨p, xs, h1, h2, h3⟩ := RowsAt.get (i := i) t (by simpa using e)
    exact ⟨p, xs, h1, h2, by simpa using h3⟩
theorem RowsAt.snoc {H : Hp} {p : Addr} {xs : List V} : ∀ {rs : List V} {xss : List (List V)}, RowsAt H rs xss → H p = some (.lst xs) → RowsAt H (rs ++ [.ref p]) (xss ++ [xs])
  | _, _, .nil, h => .cons h .nil
  | _, _, .cons a t, h => .cons a (RowsAt.snoc t h)
def OkRw (xs : List V) : Prop := xs.length ≤ 1000 ∧ ∀ x ∈ xs, Ok x
def sp_row_rank (K : PySem.W.Frag) : Sp := fun vs H Q _ => ∃ (a : Addr) (xs : List V), vs = [.ref a] ∧ SqL K H a xs ∧ OkRw xs ∧ ∀ p H', H p = none → Ex H H' → NKey H' (rowN xs) (.ref p) → Q (.ref p) H'
section
variable {P : Program} {w : World} {K : PySem.W.Frag} {mg : Str → Option Value} {base : Heap}
section
variable {σ : L2.St} {H : Hp} {ta tb tc : TE} {E : XK} {x y : V}
theorem ek_row {a : Addr} {xs : List V} (ha : Ev ta σ H (.ref a)) (hS : SqL K H a xs) (hx : OkRw xs) : EvK (tCall (sp_row_rank K) [] E (tCons ta tNil)) σ H (rowN xs) := fun H1 e Q q =>
  ha H1 e _ fun H2 e2 => ⟨a, xs, rfl, ex_l (e.trans e2) hS, hx, fun p H3 hp e3 h3 => q p H3 (fresh_back e2 hp) (e2.trans e3) h3⟩
end
theorem ok_row_rank (D : Dn K mg "row_rank" s_row_rank ["row"]) (c_rank : C8.Cal P w K mg base 2 "rank" (sp_rank K) []) (z_tuple : mg "tuple" = none) :
    C8.Cal P w K mg base 3 "row_rank" (sp_row_rank K) [] := by
  refine cal_of D sc_row_rank (fun vs H Q E h => ?_) (fun f cdv A outer s H vs Q E hr h => ?_)
  · obtain ⟨_, _, rfl, _⟩ := h
    rfl
  refine ⟨_, (pss_one (ps_ret (pe_callTy call_tuple_of (by rfl) z_tuple (by decide +kernel) (pa_cons (pe_lc (own := [("value", 1)]) (g := gName 1) (tt := tYes) rfl sc_row_rank.nd (pi_list (pv 0)) (blkOk_by (N := n_row_rank) (sc := C8.fnScope s_row_rank) (by decide +kernel)) (fun _ _ _ _ _ => pg_name (i := 1) sc_row_rank.nd rfl (Or.inl rfl)) (fun _ _ _ _ _ => pts_nil) (fun _ _ _ _ _ => (C8.pe_c c_rank hr (by decide) (by rfl) (pa_cons (pv 1) pa_nil)))) pa_nil)))), ?_⟩
  obtain ⟨a, xs, rfl, hS, hx, q⟩ := h
  exact s_retK (ek_tuple (lk_lcL rkN (ev_var rfl) hS (by have := hx.1; omega) (fun _ => rfl) fun x H1 e1 hm => ek_rk (ec_rank (ev_var rfl) (hx.2 x hm)) (hx.2 x hm))) q
end
def OkRB (r : List V) : Prop := r.length ≤ 1000 ∧ ∀ x ∈ r, Ok x ∧ bdV x
theorem al_getB {H : Hp} {qs : List Addr} {L : List (List V)} {i : Nat} {x : V} (h : Al2 RowAt H qs L) (hi : (qs.map V.ref)[i]? = some x) : ∃ b xs, x = .ref b ∧ H b = some (.lst xs) ∧ L[i]? = some xs ∧ qs[i]? = some b := by
  rw [List.getElem?_map] at hi
  cases e : qs[i]? with
  | none => rw [e] at hi; cases hi
  | some b =>
    rw [e] at hi
    obtain rfl := Option.some.inj hi
    have hl : i < L.length := by rw [← h.1]; exact (List.getElem?_eq_some_iff.mp e).1
    exact ⟨b, L[i], rfl, h.2 i b _ e (List.getElem?_eq_getElem hl), List.getElem?_eq_getElem hl, rfl⟩
theorem map_getD {α : Type} (g : List V → α) : ∀ L : List (List V), (List.range L.length).map (fun i => g (L.getD i [])) = L.map g := fun L => by
  apply List.ext_getElem?
  intro i
  rw [List.getElem?_map, List.getElem?_map]
  by_cases h : i < L.length
  · rw [List.getElem?_range h, List.getElem?_eq_getElem h]
    show some (g (L.getD i [])) = some (g L[i])
    rw [List.getD_eq_getElem?_getD, List.getElem?_eq_getElem h]
    rfl
  · rw [List.getElem?_eq_none (by rw [List.length_range]; omega), List.getElem?_eq_none (by omega)]
    rfl
mutual
theorem dp_wo {K : PySem.W.Frag} {H : Hp} {p : Addr} {ys : List V} (hp : H p = some (.lst ys)) : ∀ {v : V} {d : PyData}, noL d = true → Dp K H v d → Dp K (wo p H) v d
  | _, _, _, .non => .non
  | _, _, _, .bl b => .bl b
  | _, _, _, .int i => .int i
  | _, _, _, .str x => .str x
  | _, _, n, .lst h a => by simp [noL] at n
  | _, _, n, .tup h a => by
    refine .tup ?_ (dps_wo hp (by simpa [noL] using n) a)
    rcases h with (h | ⟨o, h⟩) | h
    · exact .inl (.inl (by rw [wo_ne (by intro z; rw [z, hp] at h; cases h)]; exact h))
    · exact .inl (.inr ⟨o, by rw [wo_ne (by intro z; rw [z, hp] at h; cases h)]; exact h⟩)
    · exact .inr h
theorem dps_wo {K : PySem.W.Frag} {H : Hp} {p : Addr} {ys : List V} (hp : H p = some (.lst ys)) : ∀ {vs : List V} {ds : List PyData}, noLs ds = true → DpAll K H vs ds → DpAll K (wo p H) vs ds
  | _, _, _, .nil => .nil
  | _, _, n, .cons h t => by
    have n' : (noL _ && noLs _) = true := n
    rw [Bool.and_eq_true] at n'
    exact .cons (dp_wo hp n'.1 h) (dps_wo hp n'.2 t)
end
theorem Dr.at {p : Addr} {H : Hp} (d : Dr p H) : ∃ xs, H p = some (.lst xs) := by
  obtain ⟨s, _, h⟩ := d
  exact ⟨_, h⟩
theorem dp_wx {K : PySem.W.Frag} {H H' : Hp} {p : Addr} {v : V} {d : PyData} (hd : Dp K H v d) (n : noL d = true) (dr : Dr p H) (e : Ex (wo p H) H') : Dp K H' v d := by
  obtain ⟨xs, hx⟩ := dr.at
  exact ex_dp e (dp_wo hx n hd)
theorem dps_wx {K : PySem.W.Frag} {H H' : Hp} {p : Addr} {vs : List V} {ds : List PyData} (hd : DpAll K H vs ds) (n : noLs ds = true) (dr : Dr p H) (e : Ex (wo p H) H') : DpAll K H' vs ds := by
  obtain ⟨xs, hx⟩ := dr.at
  exact ex_dps e (dps_wo hx n hd)
/-- an expression that is drawn -/
def EvX (K : PySem.W.Frag) (te : TE) (σ : L2.St) (p : Addr) (H : Hp) (P : PyData → Prop) : Prop := ∀ H1, Ex (wo p H) H1 → Dr p H1 → ∀ Q : VK, (∀ v H2 d, P d → noL d = true → Dp K H2 v d → Ex (wo p H1) H2 → Dr p H2 → Q v H2) → te σ H1 Q
def EvXA (K : PySem.W.Frag) (ta : TA) (σ : L2.St) (p : Addr) (H : Hp) (P : List PyData → Prop) : Prop := ∀ H1, Ex (wo p H) H1 → Dr p H1 → ∀ Q : List V → Hp → Prop, (∀ vs H2 ds, P ds → noLs ds = true → DpAll K H2 vs ds → Ex (wo p H1) H2 → Dr p H2 → Q vs H2) → ta σ H1 Q
section
variable {K : PySem.W.Frag} {σ : L2.St} {H : Hp} {p : Addr} {ta tb te : TE} {tr : TA} {P R : PyData → Prop} {PL : List PyData → Prop} {D : Ends} {tz : TS} {E : XK} {v : V} {t : TT}
theorem x_pure {d : PyData} (h : Ev te σ (wo p H) v) (hd : ∀ H, Dp K H v d) (n : noL d = true) : EvX K te σ p H (· = d) := fun H1 e dr Q q => h H1 e Q fun H2 e2 => q v H2 d rfl n (hd H2) (wx_of e2) (dr.ex e2)
theorem x_var {i : Nat} {d : PyData} (h : σ[i]? = some (some v)) (hd : Dp K H v d) (n : noL d = true) (d0 : Dr p H) : EvX K (tVar i) σ p H (· = d) := fun H1 e dr Q q => ⟨v, h, q v H1 d rfl n (dp_wx hd n d0 e) (wo_le p H1) dr⟩
theorem x_int {PI : Int → Prop} (h : EvD1 te σ p H (ZP PI)) : EvX K te σ p H (fun d => ∃ i, PI i ∧ d = .int i) := fun H1 e dr Q q => h H1 e dr Q fun v H2 ⟨i, ev, hi⟩ e2 d2 => by
  subst ev
  exact q _ H2 (.int i) ⟨i, hi, rfl⟩ rfl (.int i) e2 d2
theorem x_mono (h : EvX K te σ p H P) (k : ∀ d, P d → R d) : EvX K te σ p H R := fun H1 e dr Q q => h H1 e dr Q fun v H2 d hd => q v H2 d (k d hd)
theorem xa_nil : EvXA K tNil σ p H (· = []) := fun H1 _ dr _ q => q [] H1 [] rfl rfl .nil (wo_le p H1) dr
theorem xa_cons (h : EvX K te σ p H P) (hr : EvXA K tr σ p H PL) : EvXA K (tCons te tr) σ p H (fun ds => ∃ d r, ds = d :: r ∧ P d ∧ PL r) := fun H1 e dr Q q =>
  h H1 e dr _ fun v H2 d hd n hv e2 d2 => hr H2 (wx_trans e e2) d2 _ fun vs H3 r hr' n' hvs e3 d3 => q (v :: vs) H3 (d :: r) ⟨d, r, rfl, hd, hr'⟩ (by show (noL d && noLs r) = true; rw [n, n']; rfl) (.cons (dp_wx hv n d2 e3) hvs) (wx_trans e2 e3) d3
theorem x_tup (h : EvXA K tr σ p H PL) (hl : ∀ ds, PL ds → ds.length ≤ 100000) : EvX K (tTup tr) σ p H (fun d => ∃ ds, d = .tuple ds ∧ PL ds) := fun H1 e dr Q q =>
  h H1 e dr _ fun vs H2 ds hds n hvs e2 d2 => ⟨sz_of (by rw [dps_len hvs]; exact hl ds hds), fun a ha => q (.ref a) _ (.tuple ds) ⟨ds, rfl, hds⟩ n (.tup (st_of upd_same) (ex_dps (Ex.new ha) hvs)) (e2.trans (Ex.new ha)) (d2.ex (Ex.new ha))⟩
theorem qx_asg {i : Nat} (h : EvX K te σ p H P) (d : Dr p H) (k : ∀ v H1 d', P d' → noL d' = true → Dp K H1 v d' → Ex (wo p H) H1 → Dr p H1 → tz D (σ.set i (some v)) H1) : tSeq (tAsg te (gName i)) tz D σ H := h H (wo_le p H) d _ k
end
def OkRow (r : List V) : Prop := (∀ x ∈ r, Ok x) ∧ r.length ≤ 1000
def OkRows (L : List (List V)) : Prop := L.length ≤ 2000 ∧ ∀ r ∈ L, OkRow r
theorem range_map {α : Type} {xs : List V} (f : V → α) : (List.range xs.length).map (fun i => f (xs.getD i .non)) = xs.map f := by
  apply List.ext_getElem?
  intro i
  rw [List.getElem?_map, List.getElem?_map]
  by_cases h : i < xs.length
  · rw [List.getElem?_range h, List.getElem?_eq_getElem h]
    show some (f (xs.getD i .non)) = some (f xs[i])
    rw [List.getD_eq_getElem?_getD, List.getElem?_eq_getElem h]
    rfl
  · rw [List.getElem?_eq_none (by rw [List.length_range]; omega), List.getElem?_eq_none (by omega)]
    rfl
theorem getD_is {α : Type} {xs : List α} {i : Nat} {x d : α} (h : xs[i]? = some x) : xs.getD i d = x := by rw [List.getD_eq_getElem?_getD, h]; rfl
theorem sh_ranks {xs : List V} (h : ∀ x ∈ xs, Ok x) : SeqAt.shaped (.list (xs.map rkD)) = true := by
  have hd := deps_rk h
  show (PyData.canLayAll0 (xs.map rkD) && decide (PyData.depthAll (xs.map rkD) + 1 ≤ 64)) = true
  rw [lays_rk h, decide_eq_true (by omega)]
  rfl
def sp__law_ranks (K : PySem.W.Frag) : Sp := fun vs H Q _ => ∃ (a : Addr) (xs : List V), vs = [.ref a] ∧ SqL K H a xs ∧ OkRow xs ∧ ∀ p H' ys, H p = none → Ex H H' → H' p = some (.lst ys) → DpAll K H' ys (xs.map rkD) → Q (.ref p) H'
def sp__law_same_rows (K : PySem.W.Frag) : Sp := fun vs H Q _ => ∃ (p q : Addr) (L : List (List V)), vs = [.ref p, .ref q] ∧ Lst2 RowAt H p L ∧ Lst2 RowAt H q L ∧ OkRows L ∧ ∀ H', Ex H H' → Q (.bl true) H'
section
variable {P : Program} {w : World} {K : PySem.W.Frag} {mg : Str → Option Value} {base : Heap}
theorem ld_ranks {σ : L2.St} {H : Hp} {ta : TE} {E : XK} {a : Addr} {xs : List V} (ha : Ev ta σ H (.ref a)) (hS : SqL K H a xs) (hx : OkRow xs) : EvLD K (tCall (sp__law_ranks K) [] E (tCons ta tNil)) σ H (xs.map rkD) := fun H1 e Q q =>
  ha H1 e _ fun H2 e2 => ⟨a, xs, rfl, ex_l (e.trans e2) hS, hx, fun p H3 ys hp e3 h3 hd => q p H3 ys (fresh_back e2 hp) (e2.trans e3) h3 hd⟩
theorem ec_srows {σ : L2.St} {H : Hp} {ta tb : TE} {E : XK} {p q : Addr} {L : List (List V)} (ha : Ev ta σ H (.ref p)) (hb : Ev tb σ H (.ref q)) (h1 : Lst2 RowAt H p L) (h2 : Lst2 RowAt H q L) (hL : OkRows L) : Ev (tCall (sp__law_same_rows K) [] E (tCons ta (tCons tb tNil))) σ H (.bl true) := ev_call (ea_cons ha (ea_cons hb ea_nil)) fun H1 e Q k E => ⟨p, q, L, rfl, Lst2.mn RowAt.mn _ _ _ _ e h1, Lst2.mn RowAt.mn _ _ _ _ e h2, hL, k⟩
theorem ok__law_ranks (D : Dn K mg "_law_ranks" s__law_ranks ["row"]) (c__law_rank : C8.Cal P w K mg base 1 "_law_rank" (sp__law_rank K) []) :
    C8.Cal P w K mg base 2 "_law_ranks" (sp__law_ranks K) [] := by
  refine cal_of D sc__law_ranks (fun vs H Q E h => ?_) (fun f cdv A outer s H vs Q E hr h => ?_)
  · obtain ⟨_, _, rfl, _⟩ := h
    rfl
  refine ⟨_, (pss_one (ps_ret (pe_lc (own := [("value", 1)]) (g := gName 1) (tt := tYes) rfl sc__law_ranks.nd (pi_list (pv 0)) (blkOk_by (N := n__law_ranks) (sc := C8.fnScope s__law_ranks) (by decide +kernel)) (fun _ _ _ _ _ => pg_name (i := 1) sc__law_ranks.nd rfl (Or.inl rfl)) (fun _ _ _ _ _ => pts_nil) (fun _ _ _ _ _ => (C8.pe_c c__law_rank hr (by decide) (by rfl) (pa_cons (pv 1) pa_nil)))))), ?_⟩
  obtain ⟨a, xs, rfl, hS, hx, q⟩ := h
  have hz := hx.2
  refine (ld_lcL (K := K) (fun i => rkD (xs.getD i .non)) (ev_var rfl) hS (by omega) (fun i => noL_rk (row_ok hx.1 i)) (fun _ => rfl) fun i x H1 e1 hi => ?_) H (Ex.refl H) _ fun p H2 ys hp e2 h2 hd => q p H2 ys hp e2 h2 (by rw [← range_map]; exact hd)
  rw [getD_is hi]
  exact ed_rk (ec_lrank (ev_var rfl) (hx.1 x (List.mem_of_getElem? hi))) (hx.1 x (List.mem_of_getElem? hi))
theorem ok__law_same_rows (D : Dn K mg "_law_same_rows" s__law_same_rows ["told", "due"]) (c__law_ranks : C8.Cal P w K mg base 2 "_law_ranks" (sp__law_ranks K) []) (z_isinstance : mg "isinstance" = none) (z_len : mg "len" = none) (z_list : mg "list" = none) (z_range : mg "range" = none) :
    C8.Cal P w K mg base 3 "_law_same_rows" (sp__law_same_rows K) [] := by
  refine cal_of D sc__law_same_rows (fun vs H Q E h => ?_) (fun f cdv A outer s H vs Q E hr h => ?_)
  · obtain ⟨_, _, _, rfl, _⟩ := h
    rfl
  refine ⟨_, (pss_cons (ps_if (PW.pt (pw_or (pt_not (pt_val (pe_callB call_isi (by rfl) z_isinstance (by decide +kernel) (pa_cons (pv 0) (pa_cons (pe_bltn (v := .ty "list") (u := .type "list") rfl z_list (by decide +kernel) rfl) pa_nil))))) (pw_or1 (pt_cmpR op_ne (pe_callB call_len_seq (by rfl) z_len PySem.boot_len (pa_cons (pv 0) pa_nil)) (pe_callB call_len_seq (by rfl) z_len PySem.boot_len (pa_cons (pv 1) pa_nil)) (nomark _)))))
      (pss_one (ps_ret pe_bl))
      pss_nil)
    (pss_cons (ps_for PassesOwn.never rfl (pi_range1 rfl z_range (pa_cons (pe_callB call_len_seq (by rfl) z_len PySem.boot_len (pa_cons (pv 1) pa_nil)) pa_nil)) (pg_name (i := 2) sc__law_same_rows.nd rfl (.inl rfl))
      (pss_one (ps_if (PW.pt (pw_or (pt_not (pt_val (pe_callB call_isi (by rfl) z_isinstance (by decide +kernel) (pa_cons (pe_ix ix_list (pv 0) (pv 2) (fun _ _ => rfl)) (pa_cons (pe_bltn (v := .ty "list") (u := .type "list") rfl z_list (by decide +kernel) rfl) pa_nil))))) (pw_or1 (pt_cmpR (op_neD (hu64 hr)) (C8.pe_c c__law_ranks hr (by decide) (by rfl) (pa_cons (pe_ix ix_list (pv 0) (pv 2) (fun _ _ => rfl)) pa_nil)) (C8.pe_c c__law_ranks hr (by decide) (by rfl) (pa_cons (pe_ix ix_list (pv 1) (pv 2) (fun _ _ => rfl)) pa_nil)) (nomark _)))))
      (pss_one (ps_ret pe_bl))
      pss_nil)))
    (pss_one (ps_ret pe_bl)))), ?_⟩
  obtain ⟨p, q', L, rfl, ⟨ps, hp, hA⟩, ⟨qs, hq, hB⟩, hL, q⟩ := h
  have hz := hL.1
  have lenE : (ps.map V.ref).length = L.length := by rw [List.length_map, hA.1]
  have lenM : (qs.map V.ref).length = L.length := by rw [List.length_map, hB.1]
  refine q_when (b := !true || !decide (V.int ((L.length : Nat) : Int) = V.int ((L.length : Nat) : Int))) (et_or (et_not (et_B (ev_isi' (T := "list") (ev_var rfl) (tx_lst hp) (by decide +kernel)))) fun _ => et_test (ev_op (ev_is (ev_len (ev_var rfl) (sq_of hp)) (by rw [lenE])) (ev_is (ev_len (ev_var rfl) (sq_of hq)) (by rw [lenM])) (rv_ne rfl))) (fun hb => by simp at hb) fun _ H1 e1 => ?_
  refine q_forR1 (n := (L.length : Int)) (ea_cons (ev_is (ev_len (ev_var rfl) (sq_of (e1 _ _ hq))) (by rw [lenM])) ea_nil) ⟨by omega, by omega⟩ (fun i σ' H' => ∃ kv, σ' = [some (.ref p), some (.ref q'), kv] ∧ Ex H H') (fun H2 e2 => ⟨none, rfl, e1.trans e2⟩) (fun i σ' H' hi pv => ?_) fun σ' H' pv => ?_
  · obtain ⟨kv, rfl, e⟩ := pv
    have hi2 : i < L.length := by omega
    obtain ⟨pi, hpi, hpl⟩ := hA.get hi2
    obtain ⟨qi, hqi, hql⟩ := hB.get hi2
    have hok := hL.2 _ (List.getElem_mem hi2)
    generalize L[i] = r at hpl hql hok
    have told : ∀ {σ : L2.St} {H0 : Hp}, σ[0]? = some (some (.ref p)) → σ[2]? = some (some (.int (i : Int))) → Ex H H0 → Ev (tOp (rIxL K) (tVar 0) (tVar 2)) σ H0 (.ref pi) := fun h0 h2 e0 => ev_op (ev_var h0) (ev_var h2) (rv_ixL (sq_of (e0 _ _ hp)) (atI_nat (by rw [List.getElem?_map, hpi]; rfl)))
    have due : ∀ {σ : L2.St} {H0 : Hp}, σ[1]? = some (some (.ref q')) → σ[2]? = some (some (.int (i : Int))) → Ex H H0 → Ev (tOp (rIxL K) (tVar 1) (tVar 2)) σ H0 (.ref qi) := fun h0 h2 e0 => ev_op (ev_var h0) (ev_var h2) (rv_ixL (sq_of (e0 _ _ hq)) (atI_nat (by rw [List.getElem?_map, hqi]; rfl)))
    have sh := sh_ranks hok.1
    have er := PySem.SeqAt.eqv_refl _ (SeqAt.canLay_of_shaped sh)
    refine s_when (b := !true || !PyData.eqv (.list (r.map rkD)) (.list (r.map rkD))) (et_or (et_not (et_B (ev_isi' (T := "list") (told rfl rfl e) (tx_lst (e _ _ hpl)) (by decide +kernel)))) fun _ => et_test (ev_neD (ed_lst (ld_ranks (told rfl rfl e) (sq_of (e _ _ hpl)) hok)) (ed_lst (ld_ranks (due rfl rfl e) (sq_of (e _ _ hql)) hok)) sh sh)) (fun hb => by rw [er] at hb; cases hb) fun _ H2 e2 => ⟨_, rfl, e.trans e2⟩
  · obtain ⟨kv, rfl, e⟩ := pv
    exact s_ret ev_c fun H5 e5 => q H5 (e.trans e5)
end
def sp__law_rows (K : PySem.W.Frag) : Sp := fun vs H Q _ => ∃ (a : Addr) (ns : List Int) (first most wd : Nat), vs = [.ref a, .int (first : Int), .int (most : Int), .int (wd : Int)] ∧ SqL K H a (ns.map V.int) ∧ ns.length ≤ 63 ∧ most ≤ 1000 ∧ 1 ≤ wd ∧ wd ≤ 10 ∧
  ∀ p H' L, H p = none → Ex H H' → Lst2 RowAt H' p L → (∀ r ∈ L, r.length = wd ∧ ∀ x ∈ r, DV x) → L.length ≤ 63 ∧ L.length ≤ most → Q (.ref p) H'
section
variable {P : Program} {w : World} {K : PySem.W.Frag} {mg : Str → Option Value} {base : Heap}
theorem ok__law_rows (D : Dn K mg "_law_rows" s__law_rows ["script", "first", "most", "width"]) (c__law_digit : C8.Cal P w K mg base 1 "_law_digit" (sp__law_digit K) []) (c__law_state : C8.Cal P w K mg base 1 "_law_state" (sp__law_state K) []) (c__law_value : C8.Cal P w K mg base 3 "_law_value" (sp__law_value K) []) (z_len : mg "len" = none) (z_max : mg "max" = none) (z_min : mg "min" = none) (z_range : mg "range" = none) :
    C8.Cal P w K mg base 4 "_law_rows" (sp__law_rows K) [] := by
  refine cal_of D sc__law_rows (fun vs H Q E h => ?_) (fun f cdv A outer s H vs Q E hr h => ?_)
  · obtain ⟨_, _, _, _, _, rfl, _⟩ := h
    rfl
  refine ⟨_, (pss_cons (ps_set (i := 4) sc__law_rows.nd rfl (.inl rfl) (pe_lst pa_nil))
    (pss_cons (ps_for PassesOwn.never rfl (pi_range1 rfl z_range (pa_cons (pe_callB (call_min2 rfl) (by rfl) z_min (by decide +kernel) (pa_cons (pv 2) (pa_cons (pe_callB (call_max2 rfl) (by rfl) z_max (by decide +kernel) (pa_cons pe_int (pa_cons (pe_op op_sub (pe_callB call_len_seq (by rfl) z_len PySem.boot_len (pa_cons (pv 0) pa_nil)) (pv 1)) pa_nil))) pa_nil))) pa_nil)) (pg_name (i := 5) sc__law_rows.nd rfl (.inl rfl))
      (pss_cons (ps_set (i := 6) sc__law_rows.nd rfl (.inr rfl) (C8.pe_c c__law_state hr (by decide) (by rfl) (pa_cons (pe_ix ix_list (pv 0) (pe_op op_add (pv 1) (pv 5)) (fun _ _ => rfl)) (pa_cons (pv 5) pa_nil))))
    (pss_cons (ps_setLc (i := 7) (own := [("j", 8)]) (g := gName 8) (tt := tYes) rfl sc__law_rows.nd rfl rfl (sw_true rfl rfl rfl (by decide +kernel)) (pi_range1 rfl z_range (pa_cons (pv 3) pa_nil)) (blkOk_by (N := n__law_rows) (sc := C8.fnScope s__law_rows) (by decide +kernel)) (fun _ _ _ _ _ => pg_name (i := 8) sc__law_rows.nd rfl (Or.inl rfl)) (fun _ _ _ _ _ => pts_nil) (fun _ _ _ _ _ => (C8.pe_c c__law_value hr (by decide) (by rfl) (pa_cons (pv 6) pa_nil))))
    (Evl.pss_cut (ps_if (pt_cmpR op_gt (C8.pe_c c__law_digit hr (by decide) (by rfl) (pa_cons (pv 6) (pa_cons pe_int pa_nil))) pe_int (nomark _))
      (pss_one (ps_asg (C8.pe_c c__law_digit hr (by decide) (by rfl) (pa_cons (pv 6) (pa_cons pe_int pa_nil))) (pg_sub (pv 7) pe_int set_list)))
      pss_nil)
    (pss_one (ps_expr (pe_bm PySem.F.plainAttrs_list PySem.F.slot_list_append PySem.F.type_list_append mt_append (pv 4) (pa_cons (pv 7) pa_nil))))))))
    (pss_one (ps_ret (pv 4))))), ?_⟩
  obtain ⟨a, ns, first, most, wd, rfl, hS, h63, hmo, w1, w10, q⟩ := h
  have lenS : (ns.map V.int).length = ns.length := List.length_map ..
  refine q_asgL (el_lst ea_nil (by decide)) fun pR H1 hpR e1 h1 => ?_
  obtain ⟨m0, hm0, hm1, hm2, hm3⟩ : ∃ m0 : Int, (if (((ns.map V.int).length : Nat) : Int) - (first : Int) > 0 then (((ns.map V.int).length : Nat) : Int) - (first : Int) else 0) = m0 ∧ 0 ≤ m0 ∧ (m0 > 0 → m0 = (ns.length : Int) - (first : Int)) ∧ m0 ≤ 63 := by
    rw [lenS]
    refine ⟨_, rfl, ?_, ?_, ?_⟩ <;> split <;> omega
  refine q_forR1 (n := if m0 < (most : Int) then m0 else (most : Int)) (ea_cons (ev_min2 (ev_var rfl) (ev_is (Evl.ev_max2 ev_c (ev_op (ev_len (ev_var rfl) (ex_l e1 hS)) (ev_var rfl) rv_I0)) (by rw [hm0]))) ea_nil) ⟨by split <;> omega, by split <;> omega⟩
    (fun i σ' H' => ∃ (kv sv rv jv : Option V) (L : List (List V)), σ' = [some (.ref a), some (.int (first : Int)), some (.int (most : Int)), some (.int (wd : Int)), some (.ref pR), kv, sv, rv, jv] ∧ Ex H H' ∧ Lst3 RowAt H' pR L ∧ L.length = i ∧ ∀ r ∈ L, r.length = wd ∧ ∀ x ∈ r, DV x) (fun H2 e2 => ⟨none, none, none, none, [], rfl, e1.trans e2, ⟨[], e2 _ _ h1, Al2.nil⟩, rfl, fun r h => nomatch h⟩) (fun i σ' Ho hi pv => ?_) fun σ' H' pv => ?_
  · obtain ⟨kv, sv, rv, jv, L, rfl, xo, ⟨qs, hqs, hA⟩, hl, hL⟩ := pv
    have hik : first + i < ns.length ∧ i < most := by
      split at hi <;> omega
    refine q_asgC (ec_state (c := ns[first + i]'hik.1) (k := (i : Int)) (ev_op (ev_var rfl) (ev_op (ev_var rfl) (ev_var rfl) rv_I0) (rv_ixL (i := ((first + i : Nat) : Int)) (ex_l xo hS) (atI_nat (by rw [List.getElem?_map, List.getElem?_eq_getElem hik.1]; rfl)))) (ev_var rfl)) fun ps Ha hps ea da => ?_
    refine q1_asgL (e1_lcE (n := wd) (ev_var rfl) (by omega) (fun _ => rfl) fun k => e1_value (ev_var rfl)) da fun pr Hb xs hP hpr eb db hb => ?_
    obtain ⟨hxl, hxd⟩ := hP
    have hprps : pr ≠ ps := fun z => by
      obtain ⟨ys, hy⟩ := da.at
      rw [← z, hpr] at hy
      cases hy
    have xb : Ex Ho Hb := wx_back hps ea eb
    have hpro : Ho pr = none := fresh_back ea hpr
    have hqb : Hb pR = some (.lst (qs.map V.ref)) := xb _ _ hqs
    have hpRpr : pr ≠ pR := fun z => by rw [← z, hpro] at hqs; cases hqs
    have hpRps : pR ≠ ps := fun z => by rw [z, hps] at hqs; cases hqs
    refine q_cut (M := fun σ' H' => ∃ ys, σ' = [some (.ref a), some (.int (first : Int)), some (.int (most : Int)), some (.int (wd : Int)), some (.ref pR), some (.int (i : Int)), some (.ref ps), some (.ref pr), jv] ∧ Ex Ho H' ∧ H' pr = some (.lst ys) ∧ ys.length = wd ∧ ∀ x ∈ ys, DV x) ?_ fun σ' Hc pw => ?_
    · refine (edt_test (ez_cmp (g := fun i j => decide (i > j)) (ez_digit (m := 3) (ev_var rfl) ev_c (by decide) (by decide)) (e1_int (PI := fun j => j = 0) ev_c rfl))) Hb (wo_le _ _) db _ fun b Hc _ ec dc => ?_
      have xc : Ex Ho Hc := wx_back hps xb ec
      have hc : Hc pr = some (.lst xs) := ec _ _ (by rw [wo_ne hprps]; exact hb)
      cases b with
      | false => exact ⟨xs, rfl, xc, hc, hxl, hxd⟩
      | true =>
        rw [if_pos rfl]
        refine (ez_digit (m := 4) (ev_var rfl) ev_c (by decide) (by decide)) Hc (wo_le _ _) dc _ fun v Hd ⟨n, ev, hn⟩ ed dd => ?_
        subst ev
        have hd : Hd pr = some (.lst xs) := ed _ _ (by rw [wo_ne hprps]; exact hc)
        refine ⟨.ref pr, rfl, pr, xs, 0, 0, rfl, rfl, hd, ixN_nat (j := 0) (by omega), xs.set 0 (.int n), rfl, Ex.mut (wx_back hps xc ed) hpro, upd_same, by rw [List.length_set]; exact hxl, fun x hx => ?_⟩
        rcases List.mem_or_eq_of_mem_set hx with h | h
        · exact hxd x h
        · rw [h]; exact .int n (by omega)
    · obtain ⟨ys, rfl, xc, hc, hyl, hyd⟩ := pw
      refine s_app (v := .ref pr) (xc _ _ hqs) (ev_var rfl) (ev_var rfl) (by rw [List.length_map, hA.1]; omega) fun Hd ed => ⟨_, _, _, _, L ++ [ys], rfl, Ex.mut ((xo.trans xc).trans ed) (by exact hpR), ⟨qs ++ [pr], by rw [upd_same, List.map_append]; rfl, ?_⟩, by rw [List.length_append, hl]; rfl, fun r hr => ?_⟩
      · rw [wo_upd]
        refine (hA.mono fun q l _ => RowAt.mn _ _ _ _ (wo_mono (xc.trans ed))).snoc ?_
        show wo pR Hd pr = _
        rw [wo_ne hpRpr]
        exact ed _ _ hc
      · rcases List.mem_append.mp hr with h | h
        · exact hL r h
        · rw [List.mem_singleton.mp h]; exact ⟨hyl, hyd⟩
  · obtain ⟨kv, sv, rv, jv, L, rfl, xo, hA, hl, hL⟩ := pv
    have hl63 : L.length ≤ 63 ∧ L.length ≤ most := by
      rw [hl]
      split <;> omega
    exact s_ret (ev_var rfl) fun H5 e5 => q pR H5 L hpR (xo.trans e5) (Lst2.mn RowAt.mn _ _ _ _ e5 (hA.two RowAt.mn)) hL hl63
end
def lamQ (x : Str) : Str := (x ++ ".<locals>.") ++ "<lambda>"
def LT (K : PySem.W.Frag) (H : Hp) : Prop := LamX.TabS H (tabOf K "_sorted_by") (lamQ "_sorted_by") ∧ LamX.TabS H (tabOf K "sorted_rows") (lamQ "sorted_rows") ∧ tabOf K "sorted_rows" ≠ tabOf K "_sorted_by"
noncomputable def ordBy (e : Cnd) (rev : Bool) (L : List (List V)) : List Nat := sortT (fun i => tkR (evE (L.getD i []) e)) rev (List.range L.length)
def sp__sorted_by (K : PySem.W.Frag) : Sp := fun vs H Q _ => ∃ (r kt : Addr) (ve : V) (d : Bool) (e : Cnd) (w : Nat) (qs : List Addr) (L : List (List V)), vs = [.ref r, .ref kt] ∧ SqT K H kt [ve, .bl d] ∧ Dp K H ve e.d ∧ e.ok w ∧ e.dep ≤ 8 ∧ SqL K H r (qs.map V.ref) ∧ Al2 RowAt H qs L ∧ L.length ≤ 60 ∧ (∀ r ∈ L, OkRB r) ∧ LT K H ∧
  ∀ p H', H p = none → Ex (noT H) H' → LT K H' → (∀ b, H b ≠ none → H' b ≠ none) → H' p = some (.lst ((ordBy e d L).map fun i => V.ref (qs.getD i 0))) → Q (.ref p) H'
theorem tabS_other {H H1 : Hp} {P P' : Addr} {q : Str} (h : LamX.TabS H P' q) (n : P' ≠ P) (hP : ∃ ps, H P = some (.tbl ps)) (e : ∀ b o, b ≠ P → H b = some o → H1 b = some o) : LamX.TabS H1 P' q := by
  obtain ⟨ps, h1, h2, h3⟩ := h
  obtain ⟨ps0, h0⟩ := hP
  refine ⟨ps, e _ _ n h1, h2, fun pos cv hc => ?_⟩
  obtain ⟨c, e1, e2⟩ := h3 pos cv hc
  exact ⟨c, e1, e c _ (fun z => by rw [z, h0] at e2; exact absurd (Option.some.inj e2).symm (LamX.codeO_ne ps0)) e2⟩
section
variable {K : PySem.W.Frag} {σ : L2.St} {H : Hp} {te ta tb : TE} {tu tw : TS} {t : TT} {D : Ends} {tz : TS}
theorem q_if2 {b : Bool} (h : EvT t σ H b) (h1 : b = true → ∀ H1, Ex H H1 → tu { D with nx := tz D } σ H1) (h2 : b = false → ∀ H1, Ex H H1 → tw { D with nx := tz D } σ H1) : tSeq (tIfS t tu tw) tz D σ H := s_if (D := { D with nx := tz D }) h h1 h2
/-- ranked = sorted(ranked, key=lambda pair: pair[0]) -/
theorem s_sortL {i : Nat} {a P : Addr} {q x : Str} {params : Arguments} {body : Expr} {scope : Scope} {β : Type} {bs : List β} {it : β → V} {k : β → List PyData} {tk : β → Tks} {fst : Bool} {Pr : β → Prop} (h : Ev te σ H (.ref a)) (hS : SqL K H a (bs.map it)) (hT : LamX.TabS H P q)
    (hit : ∀ b ∈ bs, ∃ tt rr z, it b = .ref tt ∧ H tt = some (.tup [.ref rr, z]) ∧ Dp K H (.ref rr) (.tuple (k b))) (F : KFam k tk fst Pr) (hp : ∀ x ∈ bs, Pr x)
    (kk : ∀ p H2, H p = none → (∀ b o, b ≠ P → H b = some o → H2 b = some o) → LamX.TabS H2 P q → H2 p = some (.lst ((sortT tk false bs).map it)) → D.nx (σ.set i (some (.ref p))) H2) :
    tAsg (tCKw (rSortedL K x params body scope false fun f => [.ref f]) (tCons te tNil) (tCons (tLamb P q params body scope) tNil)) (gName i) D σ H :=
  h H (Ex.refl H) _ fun H1 e1 => ⟨hT.ext fun b o e => e1 b _ e, fun f c' H2 hf ext oth tab hF hC => by
    have x2 : Ex (noT H) H2 := fun b o hb => ex_noT ext b o (noT_mono ((noT_le H).trans e1) b o hb)
    refine ⟨a, f, c', q, β, bs, it, k, tk, fst, Pr, rfl, rfl, ex_l x2 (sq_noT hS), hF, hC, fun b hb => ?_, F, hp, fun p H3 hp3 e3 h3 => kk p H3 (fresh_back e1 ?_) (fun b o n hb => e3 b _ (oth b o n (e1 b _ hb))) (tab.ext fun b o e => e3 b _ e) h3⟩
    · obtain ⟨tt, rr, z, g1, g2, g3⟩ := hit b hb
      exact ⟨tt, rr, z, g1, x2 _ _ (noT_at g2 fun ps z => nomatch z), ex_dp x2 (dp_noT g3)⟩
    · cases hq : H1 p with
      | none => rfl
      | some o =>
        by_cases z : p = P
        · obtain ⟨ps, h1, _⟩ := tab
          rw [← z, hp3] at h1
          cases h1
        · rw [oth p o z hq] at hp3
          cases hp3⟩
/-- .., reverse=True -/
theorem s_sortLR {i : Nat} {a P : Addr} {q x : Str} {params : Arguments} {body : Expr} {scope : Scope} {β : Type} {bs : List β} {it : β → V} {k : β → List PyData} {tk : β → Tks} {fst : Bool} {Pr : β → Prop} (h : Ev te σ H (.ref a)) (hS : SqL K H a (bs.map it)) (hT : LamX.TabS H P q)
    (hit : ∀ b ∈ bs, ∃ tt rr z, it b = .ref tt ∧ H tt = some (.tup [.ref rr, z]) ∧ Dp K H (.ref rr) (.tuple (k b))) (F : KFam k tk fst Pr) (hp : ∀ x ∈ bs, Pr x)
    (kk : ∀ p H2, H p = none → (∀ b o, b ≠ P → H b = some o → H2 b = some o) → LamX.TabS H2 P q → H2 p = some (.lst ((sortT tk true bs).map it)) → D.nx (σ.set i (some (.ref p))) H2) :
    tAsg (tCKw (rSortedL K x params body scope true fun f => [.ref f, .bl true]) (tCons te tNil) (tCons (tLamb P q params body scope) (tCons (tC (.bl true)) tNil))) (gName i) D σ H :=
  h H (Ex.refl H) _ fun H1 e1 => ⟨hT.ext fun b o e => e1 b _ e, fun f c' H2 hf ext oth tab hF hC => by
    have x2 : Ex (noT H) H2 := fun b o hb => ex_noT ext b o (noT_mono ((noT_le H).trans e1) b o hb)
    refine ⟨a, f, c', q, β, bs, it, k, tk, fst, Pr, rfl, rfl, ex_l x2 (sq_noT hS), hF, hC, fun b hb => ?_, F, hp, fun p H3 hp3 e3 h3 => kk p H3 (fresh_back e1 ?_) (fun b o n hb => e3 b _ (oth b o n (e1 b _ hb))) (tab.ext fun b o e => e3 b _ e) h3⟩
    · obtain ⟨tt, rr, z, g1, g2, g3⟩ := hit b hb
      exact ⟨tt, rr, z, g1, x2 _ _ (noT_at g2 fun ps z => nomatch z), ex_dp x2 (dp_noT g3)⟩
    · cases hq : H1 p with
      | none => rfl
      | some o =>
        by_cases z : p = P
        · obtain ⟨ps, h1, _⟩ := tab
          rw [← z, hp3] at h1
          cases h1
        · rw [oth p o z hq] at hp3
          cases hp3⟩
theorem en_pair {xs : List V} {y : V} (ha : EvU ta σ H xs) (hb : Ev tb σ H y) {H1 : Hp} (e : Ex H H1) (Q : VK) (k : ∀ t rr H2, H1 t = none → H1 rr = none → Ex H1 H2 → H2 t = some (.tup [.ref rr, y]) → H2 rr = some (.tup xs) → Q (.ref t) H2) : tTup (tCons ta (tCons tb tNil)) σ H1 Q :=
  ha H1 e (fun x Ha => tb σ Ha fun z Hb => [x, z].length ≤ sizeLine ∧ ∀ p, Hb p = none → Q (.ref p) (upd Hb p (.tup [x, z]))) fun rr H2 hrr e2 h2 => hb H2 (e.trans e2) _ fun H3 e3 => ⟨sz_of (by show 2 ≤ 100000; decide), fun t ht => k t rr _ (fresh_back (e2.trans e3) ht) hrr ((e2.trans e3).trans (Ex.new ht)) upd_same ((e3.trans (Ex.new ht)) _ _ h2)⟩
/-- [y for x, y in pairs] -/
theorem el_lcP {tl : TE} {a : Addr} {xs : List V} {i j : Nat} {vs : List Nat} (f : Nat → V) (h : Ev tl σ H (.ref a)) (hx : SqL K H a xs) (hz : xs.length ≤ 40000) (hw : ∀ u v, wipe (((wipe σ vs).set i (some u)).set j (some v)) vs = wipe σ vs) (hv : ∀ u v H1, Ev te (((wipe σ vs).set i (some u)).set j (some v)) H1 v)
    (he : ∀ (n : Nat) (x : V), xs[n]? = some x → ∃ tt u, x = .ref tt ∧ SqT K H tt [u, f n]) : EvL (tLc (iList K tl) (gTup K 2 (gCons (gName i) (gCons (gName j) gNil))) tYes te vs) σ H ((List.range xs.length).map f) := fun H0 e0 Q q => h H0 e0 _ fun H1 e1 => ⟨a, rfl, ⟨xs, ex_l (e0.trans e1) hx⟩, fun D hD =>
  lc_list (xs := xs) (fun i H' => H1 D = none ∧ Ex H1 H' ∧ H' D = some (.lst ((List.range i).map f))) ⟨hD, Ex.new hD, upd_same⟩ (fun i H' _ p => ex_l ((e0.trans e1).trans p.2.1) hx)
    (fun n x H' hi p => by
      obtain ⟨p1, p2, p3⟩ := p
      obtain ⟨tt, u, rfl, hT⟩ := he n x hi
      refine gt2 (ex_t ((e0.trans e1).trans p2) hT) ⟨hw _ _, ?_⟩
      show te (((wipe σ vs).set i (some u)).set j (some (f n))) H' fun y H4 => ∃ acc, H4 D = some (.lst acc) ∧ acc.length < sizeLine ∧ _
      refine hv _ _ H' H' (Ex.refl H') _ fun H4 e4 => ⟨_, e4 _ _ p3, sz_lt ?_, p1, Ex.mut (p2.trans e4) p1, by rw [upd_same, List.range_succ, List.map_append]; rfl⟩
      have := (List.getElem?_eq_some_iff.mp hi).1
      rw [List.length_map, List.length_range]
      omega)
    (fun H' p => q D H' (fresh_back e1 p.1) (e1.trans p.2.1) p.2.2)⟩
end
def PairAt (qs : List Addr) (L : List (List V)) (e : Cnd) (H : Hp) (t : Addr) (i : Nat) : Prop := ∃ rr, H t = some (.tup [.ref rr, .ref (qs.getD i 0)]) ∧ H rr = some (.tup (rkL (evE (L.getD i []) e)))
theorem PairAt.mn {qs : List Addr} {L : List (List V)} {e : Cnd} : Mn (PairAt qs L e) := fun H H' q l ex h => by
  obtain ⟨rr, h1, h2⟩ := h
  exact ⟨rr, ex _ _ h1, ex _ _ h2⟩
theorem range_mapA {α β : Type} (f : α → β) (d : α) : ∀ l : List α, (List.range l.length).map (fun i => f (l.getD i d)) = l.map f := fun l => by
  apply List.ext_getElem?
  intro i
  rw [List.getElem?_map, List.getElem?_map]
  by_cases h : i < l.length
  · rw [List.getElem?_range h, List.getElem?_eq_getElem h]
    show some (f (l.getD i d)) = some (f l[i])
    rw [List.getD_eq_getElem?_getD, List.getElem?_eq_getElem h]
    rfl
  · rw [List.getElem?_eq_none (by rw [List.length_range]; omega), List.getElem?_eq_none (by omega)]
    rfl
theorem KFam.comp {β γ : Type} {k : β → List PyData} {t : β → Tks} {fst : Bool} {Pr : β → Prop} (F : KFam k t fst Pr) (g : γ → β) : KFam (fun x => k (g x)) (fun x => t (g x)) fst (fun x => Pr (g x)) := ⟨fun x y hx hy => F.lt _ _ hx hy, fun x y hx hy => F.ord _ _ hx hy, fun x hx => F.lay _ hx, fun x hx => F.dep _ hx, fun x hx => F.nol _ hx, fun x hx => F.head _ hx⟩
section
variable {P : Program} {w : World} {K : PySem.W.Frag} {mg : Str → Option Value} {base : Heap}
theorem ok__sorted_by {lc : Addr} (D : DnC K mg "_sorted_by" s__sorted_by ["rows", "key"] (.ref lc)) (TB : LamX.TabB base mg lc (tabOf K "_sorted_by")) (c_evaluate : C8.Cal P w K mg base 15 "evaluate" (sp_evaluate K) []) (c_rank : C8.Cal P w K mg base 2 "rank" (sp_rank K) []) (z_sorted : mg "sorted" = none) :
    C8.Cal P w K mg base 20 "_sorted_by" (sp__sorted_by K) [] := by
  refine cal_cd D sc__sorted_by (fun vs H Q E h => ?_) (fun f A outer s H vs Q E hr h => ?_)
  · obtain ⟨_, _, _, _, _, _, _, _, rfl, _⟩ := h
    rfl
  refine ⟨_, (pss_cons (ps_asg (pv 1) (pg_tup rfl (pgs_cons (pg_name (i := 2) sc__sorted_by.nd rfl (.inr rfl)) (pgs_cons (pg_name (i := 3) sc__sorted_by.nd rfl (.inl rfl)) pgs_nil))))
    (pss_cons (ps_setLc (i := 4) (own := [("row", 5)]) (g := gName 5) (tt := tYes) rfl sc__sorted_by.nd rfl rfl (sw_true rfl rfl rfl (by decide +kernel)) (pi_list (pv 0)) (blkOk_by (N := n__sorted_by) (sc := C8.fnScope s__sorted_by) (by decide +kernel)) (fun _ _ _ _ _ => pg_name (i := 5) sc__sorted_by.nd rfl (Or.inl rfl)) (fun _ _ _ _ _ => pts_nil) (fun _ _ _ _ _ => (pe_tup (pa_cons (C8.pe_c c_rank hr (by decide) (by rfl) (pa_cons (C8.pe_c c_evaluate hr (by decide) (by rfl) (pa_cons (pv 2) (pa_cons (pv 5) pa_nil))) pa_nil)) (pa_cons (pv 5) pa_nil)))))
    (pss_cons (ps_if (pt_val (pv 3))
      (pss_one (ps_set (i := 4) sc__sorted_by.nd rfl (.inl rfl) (pe_sortedLamR (lv := 0) (x := "pair") (by refine ⟨C8.fnScope_by (by decide +kernel), fun _ _ _ _ _ => rfl, fun _ _ _ _ _ _ _ _ _ _ _ _ => ?_⟩; exact pe_ix ix_tup (pv 0) pe_int (fun _ _ => rfl)) TB rfl (by rfl) z_sorted (hr.mono (by omega)) (pv 4))))
      (pss_one (ps_set (i := 4) sc__sorted_by.nd rfl (.inl rfl) (pe_sortedLam (lv := 0) (x := "pair") (by refine ⟨C8.fnScope_by (by decide +kernel), fun _ _ _ _ _ => rfl, fun _ _ _ _ _ _ _ _ _ _ _ _ => ?_⟩; exact pe_ix ix_tup (pv 0) pe_int (fun _ _ => rfl)) TB rfl (by rfl) z_sorted (hr.mono (by omega)) (pv 4)))))
    (pss_one (ps_ret (pe_lc (own := [("_", 6), ("row", 5)]) (g := (gTup K 2 (gCons (gName 6) (gCons (gName 5) gNil)))) (tt := tYes) rfl sc__sorted_by.nd (pi_list (pv 4)) (blkOk_by (N := n__sorted_by) (sc := C8.fnScope s__sorted_by) (by decide +kernel)) (fun _ _ _ _ _ => (pg_tup rfl (pgs_cons (pg_name (i := 6) sc__sorted_by.nd rfl (Or.inl rfl)) (pgs_cons (pg_name (i := 5) sc__sorted_by.nd rfl (Or.inl rfl)) pgs_nil)))) (fun _ _ _ _ _ => pts_nil) (fun _ _ _ _ _ => (pv 5)))))))), ?_⟩
  obtain ⟨r, kt, ve, d, e, wd, qs, L, rfl, hkt, hd, he, hdep, hr', hA, hl, ho, hT, q⟩ := h
  have hql := hA.1
  have hn : (qs.map V.ref).length = L.length := by rw [List.length_map, hql]
  have oV : ∀ i, i < L.length → Ok (evE (L.getD i []) e) := fun i hi => by
    rw [List.getD_eq_getElem?_getD, List.getElem?_eq_getElem hi]
    exact ev_ok (fun x hx => ((ho _ (List.getElem_mem hi)).2 x hx).1) he
  refine q_asgV (ev_var rfl) fun H1 e1 => gt2 (ex_t e1 hkt) ?_
  refine q_asgR (er_lcN (R := PairAt qs L e) PairAt.mn (fun i => i) (ev_var rfl) (ex_l e1 hr') (by omega) (fun _ => rfl) fun i x H2 e2 hi => ?_) fun p H2 hp e2 hR => ?_
  · obtain ⟨b, xs, rfl, hb, hxs, hqb⟩ := al_getB hA hi
    have hlt := (List.getElem?_eq_some_iff.mp hxs).1
    have oR := ho xs (List.mem_of_getElem? hxs)
    have exs : L.getD i [] = xs := by rw [List.getD_eq_getElem?_getD, hxs]; rfl
    have eqb : qs.getD i 0 = b := by rw [List.getD_eq_getElem?_getD, hqb]; rfl
    have x2 := e1.trans e2
    have hoV := oV i hlt
    rw [exs] at hoV
    exact fun H3 e3 Q q => en_pair (ec_rank (ec_eval (ev_var rfl) (ev_var rfl) ⟨ex_dp x2 hd, hdep, wd, he⟩ (sq_of (x2 _ _ hb)) (fun x hx => (oR.2 x hx).1) oR.1) hoV) (ev_var rfl) e3 Q fun t rr H4 ht hrr e4 h4 h5 => q t H4 ht e4 ⟨rr, by rw [eqb]; exact nu_at ht h4, by rw [exs]; exact nu_at hrr h5⟩
  obtain ⟨ts, t1, t2⟩ := hR
  rw [hn] at t2
  have g1 := nu_le _ _ t1
  have g2 : Al2 (PairAt qs L e) H2 ts (List.range L.length) := by
    have := t2.mono fun q l _ h => PairAt.mn _ _ _ _ nu_le h
    rw [List.map_id'] at this
    exact this
  have htl : ts.length = L.length := by have := g2.1; rw [List.length_range] at this; exact this
  have hts : (List.range L.length).map (fun i => V.ref (ts.getD i 0)) = ts.map V.ref := by
    rw [← htl]
    exact range_mapA (fun t => V.ref t) 0 ts
  have x2 := e1.trans e2
  have hT2 : LT K H2 := ⟨hT.1.ext fun b o h => x2 b _ h, hT.2.1.ext fun b o h => x2 b _ h, hT.2.2⟩
  have pairs : ∀ i, i < L.length → ∃ rr, H2 (ts.getD i 0) = some (.tup [.ref rr, .ref (qs.getD i 0)]) ∧ H2 rr = some (.tup (rkL (evE (L.getD i []) e))) := fun i hi => by
    have h1 : ts[i]? = some (ts.getD i 0) := by rw [List.getD_eq_getElem?_getD, List.getElem?_eq_getElem (by omega)]; rfl
    exact g2.2 i _ i h1 (List.getElem?_range hi)
  have fin : ∀ (rev : Bool) (p3 : Addr) (H3 : Hp), rev = d → Ex (noT H2) H3 → LT K H3 → (∀ b, H2 b ≠ none → H3 b ≠ none) → H3 p3 = some (.lst ((ordBy e rev L).map fun i => V.ref (ts.getD i 0))) → tRet (tLc (iList K (tVar 4)) (gTup K 2 (gCons (gName 6) (gCons (gName 5) gNil))) tYes (tVar 5) [6, 5]) { nx := fun _ H' => Q .non H', rt := Q } [some (.ref r), some (.ref kt), some ve, some (.bl d), some (.ref p3), none, none] H3 := fun rev p3 H3 hrv x3 hT3 hkp h3 => by
    subst hrv
    have hol : ∀ i ∈ ordBy e rev L, i < L.length := fun i hi => List.mem_range.mp ((sortT_perm _ _ _).subset hi)
    refine s_retL (xs := (ordBy e rev L).map fun i => V.ref (qs.getD i 0)) ?_ fun p4 H4 hp4 e4 h4 => q p4 H4 ?_ ?_ ⟨hT3.1.ext fun b o h => e4 b _ h, hT3.2.1.ext fun b o h => e4 b _ h, hT3.2.2⟩ (fun b hb z => ?_) h4
    · have hlen : ((ordBy e rev L).map fun i => V.ref (ts.getD i 0)).length = (ordBy e rev L).length := List.length_map ..
      have ho60 : (ordBy e rev L).length ≤ 60 := by unfold ordBy; rw [(sortT_perm _ _ _).length_eq, List.length_range]; exact hl
      have qq := el_lcP (K := K) (σ := [some (.ref r), some (.ref kt), some ve, some (.bl rev), some (.ref p3), none, none]) (H := H3) (te := tVar 5) (tl := tVar 4) (i := 6) (j := 5) (vs := [6, 5]) (fun n => V.ref (qs.getD ((ordBy e rev L).getD n 0) 0)) (ev_var rfl) (sq_of h3) (by omega) (fun _ _ => rfl) (fun u v H1 => ev_var rfl) fun n x hx => by
        rw [List.getElem?_map] at hx
        cases h9 : (ordBy e rev L)[n]? with
        | none => rw [h9] at hx; cases hx
        | some i =>
          rw [h9] at hx
          obtain rfl := Option.some.inj hx
          obtain ⟨rr, a1, a2⟩ := pairs i (hol i (List.mem_of_getElem? h9))
          have ei : (ordBy e rev L).getD n 0 = i := by rw [List.getD_eq_getElem?_getD, h9]; rfl
          rw [ei]
          exact ⟨_, _, rfl, st_of (x3 _ _ (noT_at a1 fun ps z => nomatch z))⟩
      rw [hlen, range_mapA (fun i => V.ref (qs.getD i 0)) 0] at qq
      exact qq
    · cases hq : H p4 with
      | none => rfl
      | some o => exact absurd hp4 (hkp p4 fun z => by rw [x2 _ _ hq] at z; cases z)
    · exact ((noT_mono ((noT_le H).trans x2)).trans x3).trans e4
    · cases hq : H b with
      | none => exact hb hq
      | some o =>
        cases hq3 : H3 b with
        | none => exact hkp b (fun z => by rw [x2 _ _ hq] at z; cases z) hq3
        | some o3 => rw [e4 _ _ hq3] at z; cases z
  have its : ∀ {H3 : Hp}, Ex H2 H3 → ∀ i ∈ List.range L.length, ∃ tt rr z, V.ref (ts.getD i 0) = .ref tt ∧ H3 tt = some (.tup [.ref rr, z]) ∧ Dp K H3 (.ref rr) (.tuple (rkDs (evE (L.getD i []) e))) := fun e3 i hi => by
    have hi := List.mem_range.mp hi
    obtain ⟨rr, a1, a2⟩ := pairs i hi
    exact ⟨_, rr, _, rfl, e3 _ _ a1, dp_rk (oV i hi) (e3 _ _ a2)⟩
  have oks : ∀ i ∈ List.range L.length, Ok (evE (L.getD i []) e) := fun i hi => oV i (List.mem_range.mp hi)
  have close : ∀ {p3 : Addr} {H3 H4 : Hp}, Ex H2 H3 → (∀ b o, b ≠ tabOf K "_sorted_by" → H3 b = some o → H4 b = some o) → LamX.TabS H4 (tabOf K "_sorted_by") (lamQ "_sorted_by") → Ex (noT H2) H4 ∧ LT K H4 ∧ ∀ b, H2 b ≠ none → H4 b ≠ none := fun {p3 H3 H4} e3 oth tab => by
    obtain ⟨ps, hps, _⟩ := hT2.1
    have h3 := e3 _ _ hps
    refine ⟨fun b o hb => ?_, ⟨tab, tabS_other (hT2.2.1.ext fun b o h => e3 b _ h) hT2.2.2 ⟨ps, h3⟩ oth, hT2.2.2⟩, fun b hb z => ?_⟩
    · have h2 := noT_le _ _ _ hb
      exact oth b o (fun z => by rw [z, hps] at h2; exact noT_no (h2 ▸ hb)) (e3 _ _ h2)
    · by_cases hz : b = tabOf K "_sorted_by"
      · obtain ⟨ps2, h4, _⟩ := tab
        rw [hz, h4] at z
        cases z
      · cases hq : H2 b with
        | none => exact hb hq
        | some o => rw [oth b o hz (e3 _ _ hq)] at z; cases z
  refine q_if2 (b := d) (et_B (ev_var rfl)) (fun hb H3 e3 => ?_) fun hb H3 e3 => ?_
  · refine s_sortLR (P := tabOf K "_sorted_by") (q := lamQ "_sorted_by") (bs := List.range L.length) (it := fun i => .ref (ts.getD i 0)) (ev_var rfl) (by rw [hts]; exact sq_of (e3 _ _ g1)) (hT2.1.ext fun b o h => e3 b _ h) (its e3) (kf_rank.comp fun i => evE (L.getD i []) e) oks fun p3 H4 hp3 oth tab h4 => ?_
    obtain ⟨c1, c2, c3⟩ := close (p3 := p3) e3 oth tab
    exact fin true p3 H4 hb.symm c1 c2 c3 h4
  · refine s_sortL (P := tabOf K "_sorted_by") (q := lamQ "_sorted_by") (bs := List.range L.length) (it := fun i => .ref (ts.getD i 0)) (ev_var rfl) (by rw [hts]; exact sq_of (e3 _ _ g1)) (hT2.1.ext fun b o h => e3 b _ h) (its e3) (kf_rank.comp fun i => evE (L.getD i []) e) oks fun p3 H4 hp3 oth tab h4 => ?_
    obtain ⟨c1, c2, c3⟩ := close (p3 := p3) e3 oth tab
    exact fin false p3 H4 hb.symm c1 c2 c3 h4
end
structure SKey where
  e : Cnd
  d : Bool
def SKey.ok (k : SKey) : Prop := k.e.dep ≤ 8 ∧ ∃ w, k.e.ok w
def KeyAt (K : PySem.W.Frag) (H : Hp) (x : V) (k : SKey) : Prop := ∃ (t : Addr) (ve : V), x = .ref t ∧ SqT K H t [ve, .bl k.d] ∧ Dp K H ve k.e.d
def KeysAt (K : PySem.W.Frag) (H : Hp) (a : Addr) (ks : List SKey) : Prop := ∃ xs : List V, SqL K H a xs ∧ xs.length = ks.length ∧ ∀ (i : Nat) (x : V) (k : SKey), xs[i]? = some x → ks[i]? = some k → KeyAt K H x k
def KeysAtT (K : PySem.W.Frag) (H : Hp) (a : Addr) (ks : List SKey) : Prop := ∃ xs : List V, SqT K H a xs ∧ xs.length = ks.length ∧ ∀ (i : Nat) (x : V) (k : SKey), xs[i]? = some x → ks[i]? = some k → KeyAt K H x k
theorem KeysAt.ex {K : PySem.W.Frag} {H H1 : Hp} {a : Addr} {ks : List SKey} (h : KeysAt K H a ks) (e : Ex H H1) : KeysAt K H1 a ks := by
  obtain ⟨xs, h1, h2, h3⟩ := h
  refine ⟨xs, ex_l e h1, h2, fun i x k a b => ?_⟩
  obtain ⟨t, ve, q1, q2, q3⟩ := h3 i x k a b
  exact ⟨t, ve, q1, ex_t e q2, ex_dp e q3⟩
theorem KeysAtT.ex {K : PySem.W.Frag} {H H1 : Hp} {a : Addr} {ks : List SKey} (h : KeysAtT K H a ks) (e : Ex H H1) : KeysAtT K H1 a ks := by
  obtain ⟨xs, h1, h2, h3⟩ := h
  refine ⟨xs, ex_t e h1, h2, fun i x k a b => ?_⟩
  obtain ⟨t, ve, q1, q2, q3⟩ := h3 i x k a b
  exact ⟨t, ve, q1, ex_t e q2, ex_dp e q3⟩
section
variable {K : PySem.W.Frag} {σ : L2.St} {H : Hp} {te ta tb : TE} {tu tw : TS} {t : TT} {D : Ends} {tz : TS}
theorem take_at {α : Type} {l : List α} {n i : Nat} {x : α} (h : (l.take n)[i]? = some x) : l[i]? = some x := by
  rw [List.getElem?_take] at h
  split at h
  · exact h
  · cases h
def cutL (L : List (List V)) (skip : Nat) (count : Option Nat) : List (List V) := (L.take (match count with | none => L.length | some c => skip + c)).drop skip
def optV : Option Nat → V
  | none => .non
  | some c => .int c
def sp_cut_rows (K : PySem.W.Frag) : Sp := fun vs H Q _ => ∃ (a : Addr) (L : List (List V)) (skip : Nat) (count : Option Nat), vs = [.ref a, .int skip, optV count] ∧ Lst2 RowAt H a L ∧ L.length ≤ 60 ∧ skip ≤ 100 ∧ count.getD 0 ≤ 100 ∧ ∀ p H', H p = none → Ex H H' → Lst2 RowAt (nu H H') p (cutL L skip count) → Q (.ref p) H'
section
variable {tl : TE}
/-- [list(row) for row in rows] -/
theorem rn_copy {a : Addr} {L : List (List V)} {j : Nat} {vs : List Nat} (h : Ev tl σ H (.ref a)) (hx : Lst2 RowAt H a L) (hz : L.length ≤ 40000) (hw : ∀ x, wipe ((wipe σ vs).set j (some x)) vs = wipe σ vs) (hj : ∀ x, ((wipe σ vs).set j (some x))[j]? = some (some x)) :
    EvRn (fun H p => Lst2 RowAt H p L) (tLc (iList K tl) (gName j) tYes (tCB (rListS K) (tCons (tVar j) tNil)) vs) σ H := by
  obtain ⟨qs, h1, h2⟩ := hx
  have hl : (qs.map V.ref).length = L.length := by rw [List.length_map, h2.1]
  intro H1 e1 Q q
  refine er_lcN RowAt.mn (fun i => L.getD i []) h (sq_of h1) (by omega) hw (fun i x H2 e2 hi => ?_) H1 e1 Q fun p H2 hp e2 hR => q p H2 hp e2 ?_
  · obtain ⟨b, xs, rfl, hb, hxs, _⟩ := al_getB h2 hi
    rw [List.getD_eq_getElem?_getD, hxs]
    exact rn_list (ev_var (hj _)) (sq_of (e2 _ _ hb))
  · have := map_getD (fun r => r) L
    rw [List.map_id'] at this
    rw [hl, this] at hR
    exact hR
theorem lc_src {g : TG} {tt : TT} {vs : List Nat} {Q : VK} {G : Addr → Hp → Prop} (h : ∀ Q' : VK, (∀ p H2, G p H2 → Q' (.ref p) H2) → tl σ H Q') (k : ∀ p H2, G p H2 → tLc (iList K (tC (.ref p))) g tt te vs σ H2 Q) : tLc (iList K tl) g tt te vs σ H Q := h _ fun p H2 hp => k p H2 hp
theorem rn_copyN {L : List (List V)} {qs : List Addr} {j : Nat} {vs : List Nat} (h : EvL tl σ H (qs.map V.ref)) (hA : Al2 RowAt H qs L) (hz : L.length ≤ 40000) (hw : ∀ x, wipe ((wipe σ vs).set j (some x)) vs = wipe σ vs) (hj : ∀ x, ((wipe σ vs).set j (some x))[j]? = some (some x)) :
    EvRn (fun H p => Lst2 RowAt H p L) (tLc (iList K tl) (gName j) tYes (tCB (rListS K) (tCons (tVar j) tNil)) vs) σ H := fun H0 e0 Q q =>
  lc_src (G := fun p H2 => H2 p = some (.lst (qs.map V.ref)) ∧ Ex H0 H2) (fun Q' k => h H0 e0 Q' fun p H2 _ e2 h2 => k p H2 ⟨h2, e2⟩) fun p H2 ⟨h2, e2⟩ =>
    rn_copy (H := H2) ev_c (Lst2.mn RowAt.mn _ _ _ _ (Ex.refl _) ⟨qs, h2, hA.mono fun q l _ h => RowAt.mn _ _ _ _ (e0.trans e2) h⟩) hz hw hj H2 (Ex.refl _) Q fun r H3 hr e3 hR => q r H3 (fresh_back e2 hr) (e2.trans e3) (Lst2.mn RowAt.mn _ _ _ _ (nu_back e2) hR)
end
theorem ok_cut_rows (D : Dn K mg "cut_rows" s_cut_rows ["rows", "skip", "count"]) (z_len : mg "len" = none) (z_list : mg "list" = none) :
    C8.Cal P w K mg base 1 "cut_rows" (sp_cut_rows K) [] := by
  refine cal_of D sc_cut_rows (fun vs H Q E h => ?_) (fun f cdv A outer s H vs Q E hr h => ?_)
  · obtain ⟨_, _, _, _, rfl, _⟩ := h
    rfl
  refine ⟨_, (pss_cons (ps_set (i := 3) sc_cut_rows.nd rfl (.inl rfl) (pe_ifExp (pt_cmpR op_isN (pv 2) pe_non (nomark _)) (pe_callB call_len_seq (by rfl) z_len PySem.boot_len (pa_cons (pv 0) pa_nil)) (pe_op op_add (pv 1) (pv 2))))
    (pss_one (ps_ret (pe_lc (own := [("row", 4)]) (g := gName 4) (tt := tYes) rfl sc_cut_rows.nd (pi_list (pe_slice sl_list (pv 0) (po_some (pv 1)) (po_some (pv 3)))) (blkOk_by (N := n_cut_rows) (sc := C8.fnScope s_cut_rows) (by decide +kernel)) (fun _ _ _ _ _ => pg_name (i := 4) sc_cut_rows.nd rfl (Or.inl rfl)) (fun _ _ _ _ _ => pts_nil) (fun _ _ _ _ _ => (pe_callTy (call_list_ofK (K := K) rfl) (by rfl) z_list (by decide +kernel) (pa_cons (pv 4) pa_nil))))))), ?_⟩
  obtain ⟨a, L, skip, count, rfl, ⟨qs, h1, h2⟩, hl, hk, hc, q⟩ := h
  have hql : qs.length = L.length := h2.1
  generalize hb : (match count with | none => L.length | some c => skip + c) = behind
  have hcut : cutL L skip count = (L.take behind).drop skip := by unfold cutL; rw [hb]
  have hq2 : cutV (qs.map V.ref) (some (skip : Int)) (some (behind : Int)) = ((qs.take behind).drop skip).map V.ref := by rw [cutV_nat, List.map_drop, List.map_take]
  refine q_asgV (v := .int behind) (ev_if (b := decide (optV count = .non)) (et_test (ev_op (ev_var rfl) ev_c fun H1 _ Q q => ⟨rfl, q H1 (Ex.refl H1)⟩)) (fun hn => ?_) fun hn => ?_) fun H1 e1 => ?_
  · cases count with
    | none => exact ev_is (ev_len (ev_var rfl) (sq_of h1)) (by rw [List.length_map, hql, ← hb])
    | some c => cases (of_decide_eq_true hn)
  · cases count with
    | none => exact absurd hn (by decide)
    | some c => exact ev_is (ev_op (x := .int skip) (y := .int c) (ev_var rfl) (ev_var rfl) (rv_I0)) (by rw [← hb]; rfl)
  have hA : Al2 RowAt H1 ((qs.take behind).drop skip) (cutL L skip count) := by
    rw [hcut]
    refine ⟨by rw [List.length_drop, List.length_drop, List.length_take, List.length_take, hql], fun i q l a b => ?_⟩
    rw [List.getElem?_drop] at a b
    have a1 : qs[skip + i]? = some q := take_at a
    have b1 : L[skip + i]? = some l := take_at b
    exact e1 _ _ (h2.2 _ q l a1 b1)
  have hs := el_sl (K := K) (σ := [some (.ref a), some (.int skip), some (optV count), some (.int behind), none]) (te := tVar 0) (tl := tPart (tVar 1)) (th := tPart (tVar 3)) (ev_var rfl) (eo_some (ev_var rfl)) (eo_some (ev_var rfl)) (ex_l e1 (sq_of h1))
  rw [hq2] at hs
  exact s_retR (rn_copyN hs hA (by rw [hcut, List.length_drop, List.length_take]; omega) (fun _ => rfl) fun _ => rfl) fun p H2 hp e2 hR => q p H2 (fresh_back e1 hp) (e1.trans e2) (Lst2.mn RowAt.mn _ _ _ _ (nu_back e1) hR)
noncomputable def behindV (r s : List V) : List SKey → Bool
  | [] => false
  | k :: ks => if PyData.eqv (rkD (evE r k.e)) (rkD (evE s k.e)) then behindV r s ks else (vlt (evE s k.e) (evE r k.e) != k.d)
theorem q_asgU35 {i : Nat} {xs : List V} (h : EvU te σ H xs) (k : ∀ p H1, H p = none → Ex H H1 → H1 p = some (.tup xs) → tz D (σ.set i (some (.ref p))) H1) : tSeq (tAsg te (gName i)) tz D σ H := h H (Ex.refl H) _ k
theorem ok_rw {r : List V} (h : OkRB r) : OkRw r := ⟨h.1, fun x hx => (h.2 x hx).1⟩
theorem ords_row : ∀ {xs ys : List V}, (∀ x ∈ xs, Ok x) → (∀ y ∈ ys, Ok y) → ordDs (xs.map rkD) (ys.map rkD) = true
  | [], _, _, _ => by rw [List.map_nil, ordDs]
  | _ :: _, [], _, _ => by rw [List.map_cons, List.map_nil, ordDs]
  | x :: xs, y :: ys, h, g => by
    rw [List.map_cons, List.map_cons, ordDs]
    split
    · exact ords_row (fun z hz => h z (List.mem_cons_of_mem _ hz)) fun z hz => g z (List.mem_cons_of_mem _ hz)
    · exact ord_rk (h x List.mem_cons_self) (g y List.mem_cons_self)
theorem lays_row : ∀ {xs : List V}, (∀ x ∈ xs, Ok x) → PyData.canLayAll0 (xs.map rkD) = true
  | [], _ => rfl
  | x :: xs, h => by
    rw [List.map_cons, PyData.canLayAll0, lay_rk (h x List.mem_cons_self), lays_row fun z hz => h z (List.mem_cons_of_mem _ hz)]
    rfl
theorem deps_row : ∀ {xs : List V}, (∀ x ∈ xs, Ok x) → PyData.depthAll (xs.map rkD) ≤ 1
  | [], _ => Nat.zero_le _
  | x :: xs, h => by
    rw [List.map_cons, PyData.depthAll, dep_rk (h x List.mem_cons_self)]
    have := deps_row fun z hz => h z (List.mem_cons_of_mem _ hz)
    omega
def rowLt (r s : List V) : Bool := ltD (.tuple (r.map rkD)) (.tuple (s.map rkD))
noncomputable def lawLt (r s : List V) (ks : List SKey) : Bool := if behindV s r ks then true else if behindV r s ks then false else rowLt r s
end
mutual
def leD : PyData → PyData → Bool
  | .int a, .int b => decide (a ≤ b)
  | .str a, .str b => !decide (b.cps.toList < a.cps.toList)
  | .tuple xs, .tuple ys => leDs xs ys
  | _, _ => false
def leDs : List PyData → List PyData → Bool
  | [], _ => true
  | _ :: _, [] => false
  | x :: xs, y :: ys => if PyData.eqv x y then leDs xs ys else leD x y
end
section
open PySem.SeqAt PySem.MeetsSeq PySem.MeetsSeq2 PySem.MeetsSeq3
theorem le_listD {n : Nat} (IH : ∀ (d e : PyData) (A : Around) (s : Shared) (u v : Value) (as bs : List Addr), d.depth ≤ n → Reads s.heap u d as → Reads s.heap v e bs → d.canLay0 = true → e.canLay0 = true → ordD d e = true →
    A.units + d.depth < cLine → Ob.RcOp .LtE A s u v (leD d e)) (A : Around) (s : Shared) : ∀ (xs ys : List PyData) (us vs : List Value) (as bs : List Addr), PyData.depthAll xs ≤ n → ReadsAll s.heap us xs as → ReadsAll s.heap vs ys bs →
    PyData.canLayAll0 xs = true → PyData.canLayAll0 ys = true → ordDs xs ys = true → A.units + PyData.depthAll xs < cLine → Lxe A s (decide (xs.length ≤ ys.length)) (us.zip vs) (leDs xs ys) := by
  intro xs
  induction xs with
  | nil =>
    intro ys us vs as bs hn r1 r2 c1 c2 ho hu
    cases r1
    cases ys with
    | nil => exact .nil
    | cons y ys =>
      rw [show decide (([] : List PyData).length ≤ (y :: ys).length) = true from decide_eq_true (Nat.zero_le _)]
      show Lxe A s true [] true
      exact .nil
  | cons x xs ih =>
    intro ys us vs as bs hn r1 r2 c1 c2 ho hu
    cases ys with
    | nil =>
      cases r2
      rw [show decide ((x :: xs).length ≤ ([] : List PyData).length) = false from decide_eq_false (Nat.not_succ_le_zero _), List.zip_nil_right]
      exact .nil
    | cons y ys =>
      have a1 : x.canLay0 = true ∧ PyData.canLayAll0 xs = true := by simpa [PyData.canLayAll0] using c1
      have a2 : y.canLay0 = true ∧ PyData.canLayAll0 ys = true := by simpa [PyData.canLayAll0] using c2
      have hd : A.units + max x.depth (PyData.depthAll xs) < cLine := hu
      have hn' : max x.depth (PyData.depthAll xs) ≤ n := hn
      rw [show decide ((x :: xs).length ≤ (y :: ys).length) = decide (xs.length ≤ ys.length) by simp]
      cases r1 with
      | cons p1 q1 =>
        cases r2 with
        | cons p2 q2 =>
          have he := PySem.SeqAt.eqAt_reads x y A s _ _ _ _ p1 p2 a1.1 a2.1 (by omega)
          by_cases c : PyData.eqv x y = true
          · have o : ordDs xs ys = true := by rw [ordDs, if_pos c] at ho; exact ho
            rw [show leDs (x :: xs) (y :: ys) = leDs xs ys by rw [leDs, if_pos c]]
            rw [c] at he
            exact .eq he (ih ys _ _ _ _ (by omega) q1 q2 a1.2 a2.2 o (by omega))
          · have o : ordD x y = true := by rw [ordDs, if_neg c] at ho; exact ho
            rw [show leDs (x :: xs) (y :: ys) = leD x y by rw [leDs, if_neg c]]
            rw [Bool.not_eq_true] at c
            rw [c] at he
            exact .le he (IH x y A s _ _ _ _ (by omega) p1 p2 a1.1 a2.1 o (by omega))
theorem le_reads : ∀ (n : Nat) (d e : PyData) (A : Around) (s : Shared) (u v : Value) (as bs : List Addr), d.depth ≤ n → Reads s.heap u d as → Reads s.heap v e bs → d.canLay0 = true → e.canLay0 = true → ordD d e = true →
    A.units + d.depth < cLine → Ob.RcOp .LtE A s u v (leD d e) := by
  intro n
  induction n with
  | zero =>
    intro d e A s u v as bs hn r1 r2 c1 c2 ho hu
    cases r1 with
    | int a t =>
      cases r2 with
      | int b t' => rw [leD]; exact Ob.RcOp.le_int _ _ _ _
      | _ => simp [ordD] at ho
    | str a t =>
      cases r2 with
      | str b t' => rw [leD]; exact fun prog w E Q h => PySem.P.le_str h
      | _ => simp [ordD] at ho
    | tuple => simp [PyData.depth] at hn
    | _ => simp [ordD] at ho
  | succ n ih =>
    intro d e A s u v as bs hn r1 r2 c1 c2 ho hu
    cases r1 with
    | int a t =>
      cases r2 with
      | int b t' => rw [leD]; exact Ob.RcOp.le_int _ _ _ _
      | _ => simp [ordD] at ho
    | str a t =>
      cases r2 with
      | str b t' => rw [leD]; exact fun prog w E Q h => PySem.P.le_str h
      | _ => simp [ordD] at ho
    | tuple h1 h2 h3 h4 =>
      cases r2 with
      | tuple k1 k2 k3 k4 =>
        rename_i xs _ _ _ _ _ ys
        simp only [PyData.depth] at hn hu
        have l1 := reads_len h4
        have l2 := reads_len k4
        rw [leD]
        refine le_tuples ⟨_, h1, h2, _, h3⟩ ⟨_, k1, k2, _, k3⟩ (by omega) ?_
        rw [← Array.length_toList, ← Array.length_toList, l1, l2]
        exact le_listD ih A.in1 s _ _ _ _ _ _ (by omega) h4 k4 (by simpa [PyData.canLay0] using c1) (by simpa [PyData.canLay0] using c2) (by simpa [ordD] using ho) (by show A.units + 1 + _ < _; omega)
      | _ => simp [ordD] at ho
    | _ => simp [ordD] at ho
end
theorem le_two {x y : V} : leD (rkD x) (rkD y) = (if kr x = kr y then (if PyData.eqv (payD x) (payD y) = true then true else leD (payD x) (payD y)) else decide (kr x ≤ kr y)) := by
  show leD (.tuple [.int (kr x), payD x]) (.tuple [.int (kr y), payD y]) = _
  rw [leD, leDs]
  by_cases h : kr x = kr y
  · rw [if_pos (show PyData.eqv (.int (kr x)) (.int (kr y)) = true from beq_iff_eq.mpr h), if_pos h, leDs]
    rfl
  · rw [if_neg (show ¬ PyData.eqv (.int (kr x)) (.int (kr y)) = true from fun z => h (beq_iff_eq.mp z)), if_neg h, leD]
theorem leD_rk {x y : V} (hx : Ok x) (hy : Ok y) : leD (rkD x) (rkD y) = !ltD (rkD y) (rkD x) := by
  rw [le_two, show ltD (rkD y) (rkD x) = _ from vlt_two (x := y) (y := x)]
  by_cases h : kr x = kr y
  · rw [if_pos h, if_pos h.symm]
    have t := two_pay hx hy h
    generalize payV x = p at t ⊢
    generalize payV y = q at t ⊢
    generalize payD x = d at t ⊢
    generalize payD y = e at t ⊢
    cases t with
    | int a b =>
      show (if (a == b) = true then true else leD (.int a) (.int b)) = !(if (b == a) = true then false else ltD (.int b) (.int a))
      rw [ltD, leD]
      by_cases z : a = b
      · subst z; simp
      · have z' : ¬ b = a := fun w => z w.symm
        simp [z, z', dle a b]
    | str a b =>
      show (if (a == b) = true then true else leD (.str a) (.str b)) = !(if (b == a) = true then false else ltD (.str b) (.str a))
      rw [ltD, leD]
      by_cases z : a = b
      · subst z; simp
      · have z' : ¬ b = a := fun w => z w.symm
        simp [z, z']
  · have h' : ¬ kr y = kr x := fun z => h z.symm
    rw [if_neg h, if_neg h']
    exact dle _ _
theorem leDs_row : ∀ {xs ys : List V}, (∀ x ∈ xs, Ok x) → (∀ y ∈ ys, Ok y) → leDs (xs.map rkD) (ys.map rkD) = !ltDs (ys.map rkD) (xs.map rkD)
  | [], [], _, _ => by rw [List.map_nil, leDs, ltDs]; rfl
  | [], y :: ys, _, _ => by rw [List.map_nil, List.map_cons, leDs, ltDs]; rfl
  | x :: xs, [], _, _ => by rw [List.map_nil, List.map_cons, leDs, ltDs]; rfl
  | x :: xs, y :: ys, h, g => by
    rw [List.map_cons, List.map_cons, leDs, ltDs]
    have ih := leDs_row (fun z hz => h z (List.mem_cons_of_mem _ hz)) fun z hz => g z (List.mem_cons_of_mem _ hz)
    have sw : PyData.eqv (rkD y) (rkD x) = PyData.eqv (rkD x) (rkD y) := by
      rw [← rk_data (h x List.mem_cons_self), ← rk_data (g y List.mem_cons_self), eqv_key, eqv_key]
      exact decide_eq_decide.mpr ⟨fun z => z.symm, fun z => z.symm⟩
    rw [sw]
    by_cases c : PyData.eqv (rkD x) (rkD y) = true
    · rw [if_pos c, if_pos c, ih]
    · rw [if_neg c, if_neg c]
      exact leD_rk (h x List.mem_cons_self) (g y List.mem_cons_self)
theorem eqv_swap {x y : V} (hx : Ok x) (hy : Ok y) : PyData.eqv (rkD y) (rkD x) = PyData.eqv (rkD x) (rkD y) := by
  rw [← rk_data hx, ← rk_data hy, eqv_key, eqv_key]
  exact decide_eq_decide.mpr ⟨fun z => z.symm, fun z => z.symm⟩
theorem lt_swap {x y : V} (hx : Ok x) (hy : Ok y) (c : ¬ PyData.eqv (rkD x) (rkD y) = true) : ltD (rkD y) (rkD x) = !ltD (rkD x) (rkD y) := by
  have c0 : ¬ PyData.eqv (.tuple [.int (kr x), payD x]) (.tuple [.int (kr y), payD y]) = true := c
  have cc : kr x = kr y → ¬ PyData.eqv (payD x) (payD y) = true := fun h z => c0 (by
    show (PyData.eqv (.int (kr x)) (.int (kr y)) && (PyData.eqv (payD x) (payD y) && true)) = true
    rw [z, show PyData.eqv (.int (kr x)) (.int (kr y)) = true from beq_iff_eq.mpr h]
    rfl)
  rw [show ltD (rkD y) (rkD x) = _ from vlt_two (x := y) (y := x), show ltD (rkD x) (rkD y) = _ from vlt_two (x := x) (y := y)]
  by_cases h : kr x = kr y
  · have e := cc h
    rw [if_pos h, if_pos h.symm, if_neg e]
    have t := two_pay hx hy h
    generalize payV x = p at t e ⊢
    generalize payV y = q at t e ⊢
    generalize payD x = d at t e ⊢
    generalize payD y = g at t e ⊢
    cases t with
    | int a b =>
      have z : ¬ a = b := fun z => e (beq_iff_eq.mpr z)
      show (if (b == a) = true then false else ltD (.int b) (.int a)) = !ltD (.int a) (.int b)
      rw [ltD, ltD]
      have z' : ¬ b = a := fun w => z w.symm
      by_cases g : a < b
      · simp [z', g, show ¬ b < a by omega]
      · simp [z', g, show b < a by omega]
    | str a b =>
      have z : ¬ a = b := fun z => e (beq_iff_eq.mpr z)
      show (if (b == a) = true then false else ltD (.str b) (.str a)) = !ltD (.str a) (.str b)
      rw [ltD, ltD]
      have z' : ¬ b = a := fun w => z w.symm
      have z3 : ¬ b.cps.toList = a.cps.toList := fun w => z' (by
        cases a
        cases b
        exact congrArg PySem.Str.mk (Array.toList_inj.mp w))
      by_cases g : a.cps.toList < b.cps.toList
      · simp [z', g, List.lt_asymm g]
      · have g2 : b.cps.toList < a.cps.toList := (List.le_iff_lt_or_eq.mp (List.not_lt.mp g)).resolve_right z3
        simp [z', g, g2]
  · have h' : ¬ kr y = kr x := fun z => h z.symm
    rw [if_neg h, if_neg h']
    by_cases g : kr x < kr y
    · simp [g, show ¬ kr y < kr x by omega]
    · simp [g, show kr y < kr x by omega]
def tkRow (xs : List V) : Tks := xs.flatMap tkR
theorem tk_same (z : Int ⊕ List Nat) (a b : Tks) : tkLt (z :: a) (z :: b) = tkLt a b := PyProof.Rows.lex_self (O := PyProof.Rows.itemOrd) z a b
theorem tk_pair {m n : Int} {a b : Int ⊕ List Nat} (h : ¬ (m = n ∧ a = b)) (p q : Tks) : tkLt (.inl m :: a :: p) (.inl n :: b :: q) = tkLt [.inl m, a] [.inl n, b] := by
  by_cases e : m = n
  · subst e
    have d : ¬ a = b := fun z => h ⟨rfl, z⟩
    rw [tk_same, tk_same]
    rw [show tkLt (a :: p) (b :: q) = _ from PyProof.Rows.lex_diff (O := PyProof.Rows.itemOrd) d, show tkLt [a] [b] = _ from PyProof.Rows.lex_diff (O := PyProof.Rows.itemOrd) d]
  · have d : ¬ (Sum.inl m : Int ⊕ List Nat) = Sum.inl n := fun z => e (Sum.inl.inj z)
    rw [show tkLt (Sum.inl m :: a :: p) (Sum.inl n :: b :: q) = _ from PyProof.Rows.lex_diff (O := PyProof.Rows.itemOrd) d, show tkLt [Sum.inl m, a] [Sum.inl n, b] = _ from PyProof.Rows.lex_diff (O := PyProof.Rows.itemOrd) d]
theorem tk_of_eqv {x y : V} (hx : Ok x) (hy : Ok y) (c : PyData.eqv (rkD x) (rkD y) = true) : tkR x = tkR y := by
  rw [← rk_data hx, ← rk_data hy, eqv_key] at c
  have e := of_decide_eq_true c
  cases hx <;> cases hy <;> simp_all [rkN, payN, tkR, payT, kr]
theorem eqv_of_tk {x y : V} (hx : Ok x) (hy : Ok y) (e : tkR x = tkR y) : PyData.eqv (rkD x) (rkD y) = true := by
  rw [← rk_data hx, ← rk_data hy, eqv_key, decide_eq_true_eq]
  have e1 : kr x = kr y := Sum.inl.inj (List.cons.inj e).1
  have e2 : payT x = payT y := (List.cons.inj (List.cons.inj e).2).1
  have e3 : payN x = payN y := by
    cases hx <;> cases hy <;> first | rfl | (exact absurd e1 (by decide)) | (simp [kr] at e1; done) | (simp_all [payT, payN]; done) | skip
    all_goals
      rename_i a _ b _
      have w : a.cps.toList = b.cps.toList := Sum.inr.inj e2
      have : a = b := by
        cases a
        cases b
        exact congrArg PySem.Str.mk (Array.toList_inj.mp w)
      rw [this]
  unfold rkN
  rw [e1, e3]
theorem lts_row : ∀ {xs ys : List V}, (∀ x ∈ xs, Ok x) → (∀ y ∈ ys, Ok y) → ltDs (xs.map rkD) (ys.map rkD) = tkLt (tkRow xs) (tkRow ys)
  | [], [], _, _ => by rw [List.map_nil, ltDs]; rfl
  | [], y :: ys, _, _ => by rw [List.map_nil, List.map_cons, ltDs]; rfl
  | x :: xs, [], _, _ => by rw [List.map_nil, List.map_cons, ltDs]; rfl
  | x :: xs, y :: ys, h, g => by
    have ox := h x List.mem_cons_self
    have oy := g y List.mem_cons_self
    rw [List.map_cons, List.map_cons, ltDs]
    by_cases c : PyData.eqv (rkD x) (rkD y) = true
    · rw [if_pos c, lts_row (fun z hz => h z (List.mem_cons_of_mem _ hz)) fun z hz => g z (List.mem_cons_of_mem _ hz)]
      show _ = tkLt (tkR x ++ tkRow xs) (tkR y ++ tkRow ys)
      rw [tk_of_eqv ox oy c]
      exact ((tk_same _ _ _).trans (tk_same _ _ _)).symm
    · rw [if_neg c]
      have f := kf_rank.lt x y ox oy
      have e : ltD (rkD x) (rkD y) = ltDs (rkDs x) (rkDs y) := by
        show ltD (.tuple (rkDs x)) (.tuple (rkDs y)) = _
        rw [ltD]
      rw [e, f]
      refine (tk_pair (fun z => c (eqv_of_tk ox oy ?_)) (tkRow xs) (tkRow ys)).symm
      show [Sum.inl (kr x), payT x] = [Sum.inl (kr y), payT y]
      rw [z.1, z.2]
def RowK (xs : List V) : Prop := xs ≠ [] ∧ ∀ x ∈ xs, Ok x
theorem nols_row : ∀ {xs : List V}, (∀ x ∈ xs, Ok x) → noLs (xs.map rkD) = true
  | [], _ => rfl
  | x :: xs, h => by
    rw [List.map_cons, noLs, noL_rk (h x List.mem_cons_self), nols_row fun z hz => h z (List.mem_cons_of_mem _ hz)]
    rfl
theorem kf_row : KFam (fun xs : List V => xs.map rkD) tkRow false RowK where
  lt x y hx hy := lts_row hx.2 hy.2
  ord x y hx hy := ords_row hx.2 hy.2
  lay x hx := lays_row hx.2
  dep x hx := by
    have := deps_row hx.2
    omega
  nol x hx := nols_row hx.2
  head x hx := by
    cases x with
    | nil => exact absurd rfl hx.1
    | cons a r => exact ⟨_, _, rfl, by rw [if_neg (by decide)]; exact ⟨_, rfl⟩⟩
section
variable {α : Type} {r s : α → α → Bool}
def lexLe (s r : α → α → Bool) (a b : α) : Bool := s a b && (!s b a || r a b)
theorem lexLe_total (hs : PySem.W.TotalLe s) (hr : PySem.W.TotalLe r) : PySem.W.TotalLe (lexLe s r) where
  trans a b c h1 h2 := by
    unfold lexLe at h1 h2 ⊢
    simp only [Bool.and_eq_true, Bool.or_eq_true, Bool.not_eq_true'] at h1 h2 ⊢
    refine ⟨hs.trans _ _ _ h1.1 h2.1, ?_⟩
    cases hca : s c a with
    | false => exact .inl rfl
    | true =>
      have hcb := hs.trans _ _ _ hca h1.1
      have hba := hs.trans _ _ _ h2.1 hca
      refine .inr (hr.trans a b c ?_ ?_)
      · rcases h1.2 with z | z
        · rw [z] at hba; cases hba
        · exact z
      · rcases h2.2 with z | z
        · rw [z] at hcb; cases hcb
        · exact z
  total a b := by
    unfold lexLe
    rcases hs.total a b with h | h
    · cases h2 : s b a with
      | false => rw [h]; exact .inl rfl
      | true =>
        rw [h]
        rcases hr.total a b with z | z
        · rw [z]; exact .inl rfl
        · rw [z]; exact .inr rfl
    · cases h2 : s a b with
      | false => rw [h]; exact .inr rfl
      | true =>
        rw [h]
        rcases hr.total a b with z | z
        · rw [z]; exact .inl rfl
        · rw [z]; exact .inr rfl
theorem same_lex (c a : α) : PySem.W.sameRank (lexLe s r) c a = (PySem.W.sameRank s c a && PySem.W.sameRank r c a) := by
  unfold PySem.W.sameRank lexLe
  cases s c a <;> cases s a c <;> cases r c a <;> cases r a c <;> rfl
theorem pair_lex (hs : PySem.W.TotalLe s) : ∀ {m : List α}, m.Pairwise (fun a b => s a b = true) → (∀ c, (m.filter (PySem.W.sameRank s c)).Pairwise fun a b => r a b = true) → m.Pairwise fun a b => lexLe s r a b = true
  | [], _, _ => .nil
  | a :: m, h1, h2 => by
    obtain ⟨p1, p2⟩ := List.pairwise_cons.mp h1
    refine List.pairwise_cons.mpr ⟨fun b hb => ?_, pair_lex hs p2 fun c => ?_⟩
    · unfold lexLe
      rw [p1 b hb]
      cases h : s b a with
      | false => rfl
      | true =>
        have q := h2 a
        rw [List.filter_cons_of_pos (PySem.W.sameRank_self hs a)] at q
        rw [(List.pairwise_cons.mp q).1 b (List.mem_filter.mpr ⟨hb, by unfold PySem.W.sameRank; rw [p1 b hb, h]; rfl⟩)]
        rfl
    · exact (h2 c).sublist ((List.sublist_cons_self a m).filter _)
theorem sort_lex (hs : PySem.W.TotalLe s) (hr : PySem.W.TotalLe r) (l : List α) : (l.mergeSort r).mergeSort s = l.mergeSort (lexLe s r) := by
  refine PySem.W.sort_unique (lexLe_total hs hr) (pair_lex hs (PySem.W.sort_pairwise hs _) fun c => ?_) fun c => ?_
  · rw [PySem.W.sort_stable hs]
    exact (PySem.W.sort_pairwise hr l).sublist List.filter_sublist
  · have e : PySem.W.sameRank (lexLe s r) c = fun a => PySem.W.sameRank r c a && PySem.W.sameRank s c a := by
      funext a
      rw [same_lex, Bool.and_comm]
    have e2 : PySem.W.sameRank (lexLe s r) c = fun a => PySem.W.sameRank s c a && PySem.W.sameRank r c a := by
      funext a
      rw [same_lex]
    rw [e]
    have f1 : ∀ m : List α, m.filter (fun a => PySem.W.sameRank r c a && PySem.W.sameRank s c a) = (m.filter (PySem.W.sameRank s c)).filter (PySem.W.sameRank r c) := fun m => by rw [List.filter_filter]
    have f2 : ∀ m : List α, m.filter (fun a => PySem.W.sameRank r c a && PySem.W.sameRank s c a) = (m.filter (PySem.W.sameRank r c)).filter (PySem.W.sameRank s c) := fun m => by
      rw [List.filter_filter]
      congr 1
      funext a
      exact Bool.and_comm _ _
    rw [f1, PySem.W.sort_stable hs, ← f1, f2, PySem.W.sort_stable hr, ← f2]
/-- one that is put behind all that do not come behind it -/
def insLe (le : α → α → Bool) (x : α) (l : List α) : List α := l.take (l.filter fun o => le o x).length ++ [x] ++ l.drop (l.filter fun o => le o x).length
theorem split_le (h : PySem.W.TotalLe r) (x : α) : ∀ {l : List α}, l.Pairwise (fun a b => r a b = true) → ∃ A B, l = A ++ B ∧ (∀ a ∈ A, r a x = true) ∧ (∀ b ∈ B, r b x = false) ∧ (l.filter fun o => r o x) = A
  | [], _ => ⟨[], [], rfl, (fun _ h => nomatch h), (fun _ h => nomatch h), rfl⟩
  | a :: l, hp => by
    obtain ⟨p1, p2⟩ := List.pairwise_cons.mp hp
    cases ha : r a x with
    | true =>
      obtain ⟨A, B, e, h1, h2, h3⟩ := split_le h x p2
      refine ⟨a :: A, B, by rw [e]; rfl, fun z hz => ?_, h2, by rw [List.filter_cons_of_pos (p := fun o => r o x) ha, h3]⟩
      rcases List.mem_cons.mp hz with z' | z'
      · rw [z']; exact ha
      · exact h1 z z'
    | false =>
      refine ⟨[], a :: l, rfl, (fun _ h => nomatch h), fun b hb => ?_, ?_⟩
      · rcases List.mem_cons.mp hb with z | z
        · rw [z]; exact ha
        · cases hbx : r b x with
          | false => rfl
          | true => rw [h.trans _ _ _ (p1 b z) hbx] at ha; cases ha
      · refine List.filter_eq_nil_iff.mpr fun b hb => ?_
        rcases List.mem_cons.mp hb with z | z
        · rw [z, ha]; decide
        · intro hbx
          rw [h.trans _ _ _ (p1 b z) hbx] at ha
          cases ha
theorem ins_pair (h : PySem.W.TotalLe r) (x : α) {l : List α} (hp : l.Pairwise fun a b => r a b = true) : (insLe r x l).Pairwise (fun a b => r a b = true) ∧ (insLe r x l).Perm (x :: l) := by
  obtain ⟨A, B, e, h1, h2, h3⟩ := split_le h x hp
  have hi : insLe r x l = A ++ x :: B := by
    unfold insLe
    rw [h3, e, List.take_left' rfl, List.drop_left' rfl, List.append_assoc]
    rfl
  rw [hi]
  rw [e, List.pairwise_append] at hp
  obtain ⟨pA, pB, pAB⟩ := hp
  have hB : ∀ b ∈ B, r x b = true := fun b hb => by
    rcases h.total x b with z | z
    · exact z
    · rw [h2 b hb] at z; cases z
  refine ⟨List.pairwise_append.mpr ⟨pA, List.pairwise_cons.mpr ⟨hB, pB⟩, fun a ha b hb => ?_⟩, by rw [e]; exact List.perm_middle⟩
  rcases List.mem_cons.mp hb with z | z
  · rw [z]; exact h1 a ha
  · exact pAB a ha b z
def insAll (le : α → α → Bool) : List α → List α → List α
  | [], acc => acc
  | x :: l, acc => insAll le l (insLe le x acc)
theorem insAll_pair (h : PySem.W.TotalLe r) : ∀ {l acc : List α}, acc.Pairwise (fun a b => r a b = true) → (insAll r l acc).Pairwise (fun a b => r a b = true) ∧ (insAll r l acc).Perm (l ++ acc)
  | [], _, hp => ⟨hp, .refl _⟩
  | x :: l, acc, hp => by
    obtain ⟨h1, h2⟩ := ins_pair h x hp
    obtain ⟨k1, k2⟩ := insAll_pair h (l := l) h1
    exact ⟨k1, k2.trans ((h2.append_left l).trans List.perm_middle)⟩
theorem insAll_snoc {le : α → α → Bool} : ∀ {l acc : List α} {x : α}, insAll le (l ++ [x]) acc = insLe le x (insAll le l acc)
  | [], _, _ => rfl
  | _ :: l, _, _ => insAll_snoc (l := l)
theorem insAll_perm {le : α → α → Bool} : ∀ {l acc : List α}, (insAll le l acc).Perm (l ++ acc)
  | [], _ => .refl _
  | x :: l, acc => by
    refine (insAll_perm (l := l)).trans ?_
    have h : (insLe le x acc).Perm (x :: acc) := by
      unfold insLe
      rw [List.append_assoc]
      show (List.take _ acc ++ x :: List.drop _ acc).Perm _
      refine List.perm_middle.trans (.cons _ ?_)
      rw [List.take_append_drop]
    exact (h.append_left l).trans List.perm_middle
end
noncomputable def leK (k : SKey) : List V → List V → Bool := PySem.W.sortLe (PyProof.Rows.listOrd PyProof.Rows.itemOrd) k.d fun r => tkR (evE r k.e)
noncomputable def leAll : List SKey → List V → List V → Bool
  | [] => PySem.W.sortLe (PyProof.Rows.listOrd PyProof.Rows.itemOrd) false tkRow
  | k :: ks => lexLe (leK k) (leAll ks)
theorem leAll_total : ∀ ks : List SKey, PySem.W.TotalLe (leAll ks)
  | [] => PySem.W.sortLe_total _ _ _
  | k :: ks => lexLe_total (PySem.W.sortLe_total _ _ _) (leAll_total ks)
noncomputable def sortRows (L : List (List V)) : List SKey → List (List V)
  | [] => L.mergeSort (leAll [])
  | k :: ks => (sortRows L ks).mergeSort (leK k)
theorem sortRows_eq (L : List (List V)) : ∀ ks, sortRows L ks = L.mergeSort (leAll ks)
  | [] => rfl
  | k :: ks => by
    rw [sortRows, sortRows_eq L ks]
    exact sort_lex (s := leK k) (r := leAll ks) (PySem.W.sortLe_total _ _ _) (leAll_total ks) L
theorem map_sortIdx {le : List V → List V → Bool} (L : List (List V)) : ((List.range L.length).mergeSort fun i j => le (L.getD i []) (L.getD j [])).map (fun i => L.getD i []) = L.mergeSort le := by
  have h := PySem.W.sort_maps (r := fun i j => le (L.getD i []) (L.getD j [])) (s := le) (fun i => L.getD i []) (l := List.range L.length) fun _ _ _ _ => rfl
  rw [h, map_getD (fun r => r) L, List.map_id']
theorem ordBy_map (k : SKey) (L : List (List V)) : (ordBy k.e k.d L).map (fun i => L.getD i []) = L.mergeSort (leK k) := by
  unfold ordBy sortT
  exact map_sortIdx (le := leK k) L
theorem eqv_tk {x y : V} (hx : Ok x) (hy : Ok y) : PyData.eqv (rkD x) (rkD y) = true ↔ tkR x = tkR y := ⟨tk_of_eqv hx hy, eqv_of_tk hx hy⟩
theorem vlt_tk {x y : V} (hx : Ok x) (hy : Ok y) : ltD (rkD x) (rkD y) = tkLt (tkR x) (tkR y) := by
  show ltD (.tuple (rkDs x)) (.tuple (rkDs y)) = _
  rw [ltD]
  exact kf_rank.lt x y hx hy
theorem rowLt_tk {r s : List V} (hr : ∀ x ∈ r, Ok x) (hs : ∀ x ∈ s, Ok x) : rowLt r s = tkLt (tkRow r) (tkRow s) := by
  unfold rowLt
  rw [ltD]
  exact lts_row hr hs
theorem law_le {r s : List V} (hr : ∀ x ∈ r, Ok x) (hs : ∀ x ∈ s, Ok x) : ∀ {ks : List SKey}, (∀ k ∈ ks, Ok (evE r k.e) ∧ Ok (evE s k.e)) → lawLt r s ks = !leAll ks s r
  | [], _ => by
    show rowLt r s = !(!tkLt (tkRow r) (tkRow s))
    rw [rowLt_tk hr hs, Bool.not_not]
  | k :: ks, h => by
    obtain ⟨o1, o2⟩ := h k List.mem_cons_self
    have ih := law_le hr hs fun z hz => h z (List.mem_cons_of_mem _ hz)
    unfold lawLt at ih ⊢
    show _ = !(leK k s r && (!leK k r s || leAll ks s r))
    rw [behindV, behindV, eqv_swap o1 o2]
    by_cases c : PyData.eqv (rkD (evE r k.e)) (rkD (evE s k.e)) = true
    · have e := (eqv_tk o1 o2).mp c
      have l1 : leK k s r = true := by
        show cond k.d (!tkLt (tkR (evE s k.e)) (tkR (evE r k.e))) (!tkLt (tkR (evE r k.e)) (tkR (evE s k.e))) = true
        rw [e, show tkLt (tkR (evE s k.e)) (tkR (evE s k.e)) = false from PyProof.Rows.lex_irrefl _]
        cases k.d <;> rfl
      have l2 : leK k r s = true := by
        show cond k.d (!tkLt (tkR (evE r k.e)) (tkR (evE s k.e))) (!tkLt (tkR (evE s k.e)) (tkR (evE r k.e))) = true
        rw [e, show tkLt (tkR (evE s k.e)) (tkR (evE s k.e)) = false from PyProof.Rows.lex_irrefl _]
        cases k.d <;> rfl
      rw [if_pos c, if_pos c, ih, l1, l2]
      rfl
    · have w := lt_swap o1 o2 c
      rw [if_neg c, if_neg c]
      have v1 : vlt (evE r k.e) (evE s k.e) = tkLt (tkR (evE r k.e)) (tkR (evE s k.e)) := vlt_tk o1 o2
      have v2 : vlt (evE s k.e) (evE r k.e) = tkLt (tkR (evE s k.e)) (tkR (evE r k.e)) := vlt_tk o2 o1
      have w' : vlt (evE s k.e) (evE r k.e) = !vlt (evE r k.e) (evE s k.e) := w
      have l1 : leK k s r = cond k.d (!tkLt (tkR (evE s k.e)) (tkR (evE r k.e))) (!tkLt (tkR (evE r k.e)) (tkR (evE s k.e))) := rfl
      have l2 : leK k r s = cond k.d (!tkLt (tkR (evE r k.e)) (tkR (evE s k.e))) (!tkLt (tkR (evE s k.e)) (tkR (evE r k.e))) := rfl
      rw [l1, l2, ← v1, ← v2, w']
      cases vlt (evE r k.e) (evE s k.e) <;> cases k.d <;> rfl
theorem tkRow_inj : ∀ {r s : List V}, (∀ x ∈ r, Ok x) → (∀ x ∈ s, Ok x) → tkRow r = tkRow s → r = s
  | [], [], _, _, _ => rfl
  | [], y :: s, _, _, e => by cases e
  | x :: r, [], _, _, e => by cases e
  | x :: r, y :: s, hr, hs, e => by
    have e1 : tkR x ++ tkRow r = tkR y ++ tkRow s := e
    have e2 : tkR x = tkR y ∧ tkRow r = tkRow s := List.append_inj e1 rfl
    have ox := hr x List.mem_cons_self
    have oy := hs y List.mem_cons_self
    have q := eqv_of_tk ox oy e2.1
    rw [← rk_data ox, ← rk_data oy, eqv_key, decide_eq_true_eq] at q
    have hxy : x = y := by
      have q2 : kr x = kr y ∧ payN x = payN y := by
        unfold rkN at q
        have := NestedKey.tup.inj q
        have a := List.cons.inj this
        exact ⟨NestedKey.num.inj a.1, (List.cons.inj a.2).1⟩
      cases ox <;> cases oy <;> simp_all [kr, payN]
      rename_i a b
      cases a <;> cases b <;> simp_all
    rw [hxy, tkRow_inj (fun z hz => hr z (List.mem_cons_of_mem _ hz)) (fun z hz => hs z (List.mem_cons_of_mem _ hz)) e2.2]
theorem leAll_row {r s : List V} : ∀ {ks : List SKey}, leAll ks r s = true → leAll ks s r = true → tkRow r = tkRow s
  | [], h1, h2 => by
    have a : (!tkLt (tkRow s) (tkRow r)) = true := h1
    have b : (!tkLt (tkRow r) (tkRow s)) = true := h2
    exact (PyProof.Rows.listOrd PyProof.Rows.itemOrd).total _ _ (by simpa using b) (by simpa using a)
  | k :: ks, h1, h2 => by
    have a : (leK k r s && (!leK k s r || leAll ks r s)) = true := h1
    have b : (leK k s r && (!leK k r s || leAll ks s r)) = true := h2
    simp only [Bool.and_eq_true, Bool.or_eq_true, Bool.not_eq_true'] at a b
    exact leAll_row (ks := ks) (a.2.elim (fun z => by rw [b.1] at z; cases z) id) (b.2.elim (fun z => by rw [a.1] at z; cases z) id)
def OkR35 (ks : List SKey) (r : List V) : Prop := (∀ x ∈ r, Ok x) ∧ ∀ k ∈ ks, Ok (evE r k.e)
def KeysSq (K : PySem.W.Frag) (H : Hp) (a : Addr) (ks : List SKey) : Prop := ∃ xs : List V, (SqL K H a xs ∨ SqT K H a xs) ∧ xs.length = ks.length ∧ ∀ (i : Nat) (x : V) (k : SKey), xs[i]? = some x → ks[i]? = some k → KeyAt K H x k
theorem KeyAt.noT {K : PySem.W.Frag} {H : Hp} {x : V} {k : SKey} (h : KeyAt K H x k) : KeyAt K (noT H) x k := by
  obtain ⟨t, ve, h1, h2, h3⟩ := h
  exact ⟨t, ve, h1, st_noT h2, dp_noT h3⟩
theorem KeysSq.noT {K : PySem.W.Frag} {H : Hp} {a : Addr} {ks : List SKey} (h : KeysSq K H a ks) : KeysSq K (noT H) a ks := by
  obtain ⟨xs, h1, h2, h3⟩ := h
  exact ⟨xs, h1.imp sq_noT st_noT, h2, fun i x k a b => (h3 i x k a b).noT⟩
theorem KeysSq.ex {K : PySem.W.Frag} {H H1 : Hp} {a : Addr} {ks : List SKey} (h : KeysSq K H a ks) (e : Ex H H1) : KeysSq K H1 a ks := by
  obtain ⟨xs, h1, h2, h3⟩ := h
  refine ⟨xs, h1.imp (ex_l e) (ex_t e), h2, fun i x k a b => ?_⟩
  obtain ⟨t, ve, q1, q2, q3⟩ := h3 i x k a b
  exact ⟨t, ve, q1, ex_t e q2, ex_dp e q3⟩
theorem KeysAt.sq {K : PySem.W.Frag} {H : Hp} {a : Addr} {ks : List SKey} (h : KeysAt K H a ks) : KeysSq K H a ks := let ⟨xs, h1, h2, h3⟩ := h; ⟨xs, .inl h1, h2, h3⟩
theorem KeysAtT.sq {K : PySem.W.Frag} {H : Hp} {a : Addr} {ks : List SKey} (h : KeysAtT K H a ks) : KeysSq K H a ks := let ⟨xs, h1, h2, h3⟩ := h; ⟨xs, .inr h1, h2, h3⟩
/-- a row of its own, told by what stood before -/
def NewRow (H0 : Hp) (H : Hp) (q : Addr) (r : List V) : Prop := H0 q = none ∧ H q = some (.lst r)
theorem NewRow.mn {H0 : Hp} : Mn (NewRow H0) := fun H H' q l e h => ⟨h.1, e _ _ h.2⟩
theorem NewRow.noT {H0 H H' : Hp} {q : Addr} {r : List V} (e : Ex (noT H) H') (h : NewRow H0 H q r) : NewRow H0 H' q r := ⟨h.1, e _ _ (noT_at h.2 fun ps z => nomatch z)⟩
def RkPair (H0 : Hp) (H : Hp) (t : Addr) (r : List V) : Prop := ∃ rr c, H t = some (.tup [.ref rr, .ref c]) ∧ NKey H (rowN r) (.ref rr) ∧ NewRow H0 H c r
theorem nkey_ex {H H' : Hp} {k : NK} {v : V} (e : Ex H H') (h : NKey H k v) : NKey H' k v := NKey.mono (fun b xs q => e b _ q) h
theorem RkPair.mn {H0 : Hp} : Mn (RkPair H0) := fun H H' q l e h => by
  obtain ⟨rr, c, h1, h2, h3⟩ := h
  exact ⟨rr, c, e _ _ h1, nkey_ex e h2, NewRow.mn _ _ _ _ e h3⟩
def sp_sorted_rows (K : PySem.W.Frag) : Sp := fun vs H Q _ => ∃ (r kt : Addr) (L : List (List V)) (ks : List SKey), vs = [.ref r, .ref kt] ∧ Lst2 RowAt H r L ∧ KeysSq K H kt ks ∧ L.length ≤ 60 ∧ ks.length ≤ 60 ∧ (∀ r ∈ L, r ≠ [] ∧ OkRB r) ∧ (∀ k ∈ ks, k.ok) ∧ LT K H ∧
  ∀ p H', H p = none → Ex (noT H) H' → LT K H' → (∀ b, H b ≠ none → H' b ≠ none) → Lst2 (NewRow H) H' p (sortRows L ks) → Q (.ref p) H'
theorem sortRows_perm (L : List (List V)) (ks : List SKey) : (sortRows L ks).Perm L := by
  rw [sortRows_eq]
  exact List.mergeSort_perm _ _
section
variable {K : PySem.W.Frag} {σ : L2.St} {H : Hp} {te ta tb : TE} {tu tw : TS} {t : TT} {D : Ends} {tz : TS}
/-- (row_rank(row), list(row)) -/
theorem ro_pair {R1 R2 : Hp → Addr → Prop} (m1 : ∀ H H' q, Ex H H' → R1 H q → R1 H' q) (m2 : ∀ H H' q, Ex H H' → R2 H q → R2 H' q) (ha : EvRo R1 ta σ H) (hb : EvRo R2 tb σ H) : EvRo (fun H t => ∃ rr c, H t = some (.tup [.ref rr, .ref c]) ∧ R1 H rr ∧ R2 H c) (tTup (tCons ta (tCons tb tNil))) σ H := fun H1 e Q q =>
  ha H1 e _ fun p H2 hp e2 h2 => hb H2 (e.trans e2) _ fun c H3 hc e3 h3 => ⟨sz_of (by show 2 ≤ 100000; decide), fun t ht => q t _ (fresh_back (e2.trans e3) ht) ((e2.trans e3).trans (Ex.new ht)) ⟨p, c, upd_same, m1 _ _ _ (e3.trans (Ex.new ht)) h2, m2 _ _ _ (Ex.new ht) h3⟩⟩
end
section
variable {K : PySem.W.Frag} {σ : L2.St} {H : Hp} {te ta tb : TE} {tu tw : TS} {t : TT} {D : Ends} {tz : TS}
theorem q_sortN {i : Nat} {r : List V → List V → Hp → VK → Prop} {tk : TA} {G : Addr → Hp → Prop} (h : ∀ Q' : VK, (∀ p H2, G p H2 → Q' (.ref p) H2) → te σ H Q') (k : ∀ p H2, G p H2 → tSeq (tAsg (tCKw r (tCons (tC (.ref p)) tNil) tk) (gName i)) tz D σ H2) : tSeq (tAsg (tCKw r (tCons te tNil) tk) (gName i)) tz D σ H := h _ fun p H2 hp => k p H2 hp
theorem q_sortL {i : Nat} {a P : Addr} {q x : Str} {params : Arguments} {body : Expr} {scope : Scope} {β : Type} {bs : List β} {it : β → V} {k : β → List PyData} {tk : β → Tks} {fst : Bool} {Pr : β → Prop} (h : Ev te σ H (.ref a)) (hS : SqL K H a (bs.map it)) (hT : LamX.TabS H P q)
    (hit : ∀ b ∈ bs, ∃ tt rr z, it b = .ref tt ∧ H tt = some (.tup [.ref rr, z]) ∧ Dp K H (.ref rr) (.tuple (k b))) (F : KFam k tk fst Pr) (hp : ∀ x ∈ bs, Pr x)
    (kk : ∀ p H2, H p = none → (∀ b o, b ≠ P → H b = some o → H2 b = some o) → LamX.TabS H2 P q → H2 p = some (.lst ((sortT tk false bs).map it)) → tz D (σ.set i (some (.ref p))) H2) :
    tSeq (tAsg (tCKw (rSortedL K x params body scope false fun f => [.ref f]) (tCons te tNil) (tCons (tLamb P q params body scope) tNil)) (gName i)) tz D σ H := s_sortL (D := { D with nx := tz D }) h hS hT hit F hp kk
theorem s_asgC2 {sp : Sp} {i : Nat} {E : XK} {x y : V} (ha : Ev ta σ H x) (hb : Ev tb σ H y) (k : ∀ H1, Ex H H1 → sp [x, y] H1 (fun v H2 => D.nx (σ.set i (some v)) H2) E) : tAsg (tCall sp [] E (tCons ta (tCons tb tNil))) (gName i) D σ H := ha H (Ex.refl H) _ fun H1 e1 => hb H1 e1 _ fun H2 e2 => k H2 (e1.trans e2)
theorem ev_lenQ {p : Addr} {xs : List V} (ha : Ev ta σ H (.ref p)) (h : SqL K H p xs ∨ SqT K H p xs) : Ev (tCB (rLenS K) (tCons ta tNil)) σ H (.int (xs.length : Int)) := fun H1 e Q q =>
  ha H1 e _ fun H2 e2 => ⟨p, xs, rfl, h.imp (ex_l (e.trans e2)) (ex_t (e.trans e2)), q H2 e2⟩
theorem rv_ixQ {p : Addr} {xs : List V} {i : Int} {v : V} (h : SqL K H p xs ∨ SqT K H p xs) (ha : atI xs i = some v) : RV (rIx K) (.ref p) (.int i) H v := fun H1 e _ q => h.elim (fun h => .inl ⟨p, xs, i, v, rfl, rfl, ex_l e h, ha, q H1 (Ex.refl H1)⟩) fun h => .inr (.inl ⟨p, xs, i, v, rfl, rfl, ex_t e h, ha, q H1 (Ex.refl H1)⟩)
/-- keep of what is there -/
def Kp (H H' : Hp) : Prop := ∀ b, H b ≠ none → H' b ≠ none
theorem Kp.of {H H' : Hp} (e : Ex H H') : Kp H H' := fun b hb z => by
  cases hq : H b with
  | none => exact hb hq
  | some o => rw [e _ _ hq] at z; cases z
theorem Kp.trans {H H1 H2 : Hp} (a : Kp H H1) (b : Kp H1 H2) : Kp H H2 := fun x hx => b x (a x hx)
theorem Kp.back {H H' : Hp} {p : Addr} (a : Kp H H') (h : H' p = none) : H p = none := by
  cases hq : H p with
  | none => rfl
  | some o => exact absurd h (a p fun z => by rw [hq] at z; cases z)
theorem Al2.pick {α : Type} {R : Hp → Addr → α → Prop} {H : Hp} {qs : List Addr} {L : List α} {d : α} (h : Al2 R H qs L) {is : List Nat} (hi : ∀ i ∈ is, i < L.length) : Al2 R H (is.map fun i => qs.getD i 0) (is.map fun i => L.getD i d) := by
  refine ⟨by rw [List.length_map, List.length_map], fun n q l a b => ?_⟩
  rw [List.getElem?_map] at a b
  cases e : is[n]? with
  | none => rw [e] at a; cases a
  | some i =>
    rw [e] at a b
    obtain rfl := Option.some.inj a
    obtain rfl := Option.some.inj b
    have hl := hi i (List.mem_of_getElem? e)
    have hq : i < qs.length := by rw [h.1]; exact hl
    show R H (qs.getD i 0) (L.getD i d)
    rw [List.getD_eq_getElem?_getD, List.getD_eq_getElem?_getD, List.getElem?_eq_getElem hl, List.getElem?_eq_getElem hq]
    exact h.2 i _ _ (List.getElem?_eq_getElem hq) (List.getElem?_eq_getElem hl)
end
section
variable {P : Program} {w : World} {K : PySem.W.Frag} {mg : Str → Option Value} {base : Heap}
theorem ok_sorted_rows {lc : Addr} (D : DnC K mg "sorted_rows" s_sorted_rows ["rows", "keys"] (.ref lc)) (TB : LamX.TabB base mg lc (tabOf K "sorted_rows")) (c__sorted_by : C8.Cal P w K mg base 20 "_sorted_by" (sp__sorted_by K) []) (c_row_rank : C8.Cal P w K mg base 3 "row_rank" (sp_row_rank K) []) (z_len : mg "len" = none) (z_list : mg "list" = none) (z_range : mg "range" = none) (z_sorted : mg "sorted" = none) :
    C8.Cal P w K mg base 22 "sorted_rows" (sp_sorted_rows K) [] := by
  refine cal_cd D sc_sorted_rows (fun vs H Q E h => ?_) (fun f A outer s H vs Q E hr h => ?_)
  · obtain ⟨_, _, _, _, rfl, _⟩ := h
    rfl
  refine ⟨_, (pss_cons (ps_set (i := 2) sc_sorted_rows.nd rfl (.inl rfl) (pe_sortedLam (lv := 0) (x := "pair") (by refine ⟨C8.fnScope_by (by decide +kernel), fun _ _ _ _ _ => rfl, fun _ _ _ _ _ _ _ _ _ _ _ _ => ?_⟩; exact pe_ix ix_tup (pv 0) pe_int (fun _ _ => rfl)) TB rfl (by rfl) z_sorted (hr.mono (by omega)) (pe_lc (own := [("row", 6)]) (g := gName 6) (tt := tYes) rfl sc_sorted_rows.nd (pi_list (pv 0)) (blkOk_by (N := n_sorted_rows) (sc := C8.fnScope s_sorted_rows) (by decide +kernel)) (fun _ _ _ _ _ => pg_name (i := 6) sc_sorted_rows.nd rfl (Or.inl rfl)) (fun _ _ _ _ _ => pts_nil) (fun _ _ _ _ _ => (pe_tup (pa_cons (C8.pe_c c_row_rank hr (by decide) (by rfl) (pa_cons (pv 6) pa_nil)) (pa_cons (pe_callTy (call_list_ofK (K := K) rfl) (by rfl) z_list (by decide +kernel) (pa_cons (pv 6) pa_nil)) pa_nil)))))))
    (pss_cons (ps_setLc (i := 3) (own := [("_", 5), ("row", 6)]) (g := (gTup K 2 (gCons (gName 5) (gCons (gName 6) gNil)))) (tt := tYes) rfl sc_sorted_rows.nd rfl rfl (sw_true rfl rfl rfl (by decide +kernel)) (pi_list (pv 2)) (blkOk_by (N := n_sorted_rows) (sc := C8.fnScope s_sorted_rows) (by decide +kernel)) (fun _ _ _ _ _ => (pg_tup rfl (pgs_cons (pg_name (i := 5) sc_sorted_rows.nd rfl (Or.inl rfl)) (pgs_cons (pg_name (i := 6) sc_sorted_rows.nd rfl (Or.inl rfl)) pgs_nil)))) (fun _ _ _ _ _ => pts_nil) (fun _ _ _ _ _ => (pv 6)))
    (pss_cons (ps_for PassesOwn.never rfl (pi_range1 rfl z_range (pa_cons (pe_callB call_len_seq (by rfl) z_len PySem.boot_len (pa_cons (pv 1) pa_nil)) pa_nil)) (pg_name (i := 4) sc_sorted_rows.nd rfl (.inl rfl))
      (pss_one (ps_set (i := 3) sc_sorted_rows.nd rfl (.inl rfl) (C8.pe_c c__sorted_by hr (by decide) (by rfl) (pa_cons (pv 3) (pa_cons (pe_ix ix_seq (pv 1) (pe_op op_sub (pe_op op_sub (pe_callB call_len_seq (by rfl) z_len PySem.boot_len (pa_cons (pv 1) pa_nil)) pe_int) (pv 4)) (fun _ _ => rfl)) pa_nil))))))
    (pss_one (ps_ret (pv 3)))))), ?_⟩
  obtain ⟨r, kt, L, ks, rfl, ⟨qs, hr', hA⟩, hk, hl, hkl, hL, ho, hT, q⟩ := h
  have hn : (qs.map V.ref).length = L.length := by rw [List.length_map, hA.1]
  refine q_sortN (G := fun p H2 => H p = none ∧ Ex H H2 ∧ Lst2 (RkPair H) H2 p L) (fun Q' k => er_lcD (R := RkPair H) RkPair.mn (fun i => L.getD i []) (ev_var rfl) (sq_of hr') (by omega) (fun _ => rfl) (fun i x H1 Dl e1 hD hys hi Q1 q1 => ?_) H (Ex.refl H) Q' fun p H2 hp e2 hR => k p H2 ⟨hp, e2, ?_⟩) fun p H2 ⟨hp, x2, ⟨ts, g1, g2⟩⟩ => ?_
  · obtain ⟨b, xs, rfl, hb, hxs, hqb⟩ := al_getB hA hi
    obtain ⟨hne, oR⟩ := hL xs (List.mem_of_getElem? hxs)
    have exs : L.getD i [] = xs := by rw [List.getD_eq_getElem?_getD, hxs]; rfl
    rw [exs] at q1
    obtain ⟨ys, hys⟩ := hys
    refine ro_pair (R1 := fun H p => NKey H (rowN xs) (.ref p)) (R2 := fun H c => NewRow H1 H c xs) (fun _ _ _ e h => nkey_ex e h) (fun _ _ _ e h => NewRow.mn _ _ _ _ e h) (fun H3 e3 Q3 q3 => ek_row (ev_var rfl) (sq_of (e1 _ _ hb)) (ok_rw oR) H3 e3 Q3 q3) (fun H3 e3 Q3 q3 => el_list (ev_var rfl) (sq_of (e1 _ _ hb)) H3 e3 Q3 fun p H4 hp e4 h4 => q3 p H4 hp e4 ⟨fresh_back e3 hp, h4⟩) H1 (Ex.refl H1) Q1 fun t H2 ht e2 ⟨rr, c, a1, a2, a3⟩ => q1 t H2 ht e2 ⟨rr, c, ?_, ?_, ?_, ?_⟩
    · rw [wo_ne (fun z => by rw [z, hys] at ht; cases ht)]
      exact a1
    · refine NKey.mono (fun b xs hb => ?_) a2
      rw [wo_ne (fun z => by rw [z, e2 _ _ hys] at hb; cases hb)]
      exact hb
    · exact fresh_back e1 a3.1
    · rw [wo_ne (fun z => by rw [z] at a3; rw [a3.1] at hys; cases hys)]
      exact a3.2
  · have h2 := Lst3.two RkPair.mn hR
    rw [hn] at h2
    have := map_getD (fun r => r) L
    rw [List.map_id'] at this
    rw [this] at h2
    exact h2
  have htl : ts.length = L.length := g2.1
  have hts : (List.range L.length).map (fun i => V.ref (ts.getD i 0)) = ts.map V.ref := by
    rw [← htl]
    exact range_mapA (fun t => V.ref t) 0 ts
  have pairs : ∀ i, i < L.length → RkPair H H2 (ts.getD i 0) (L.getD i []) := fun i hi => by
    have h1 : ts[i]? = some (ts.getD i 0) := by rw [List.getD_eq_getElem?_getD, List.getElem?_eq_getElem (by omega)]; rfl
    have h2 : L[i]? = some (L.getD i []) := by rw [List.getD_eq_getElem?_getD, List.getElem?_eq_getElem hi]; rfl
    exact g2.2 i _ _ h1 h2
  have rowOk : ∀ i, i < L.length → RowK (L.getD i []) := fun i hi => by
    rw [List.getD_eq_getElem?_getD, List.getElem?_eq_getElem hi]
    have := hL _ (List.getElem_mem hi)
    exact ⟨this.1, (ok_rw this.2).2⟩
  have hT2 : LT K H2 := ⟨hT.1.ext fun b o h => x2 b _ h, hT.2.1.ext fun b o h => x2 b _ h, hT.2.2⟩
  refine q_sortL (P := tabOf K "sorted_rows") (q := lamQ "sorted_rows") (bs := List.range L.length) (it := fun i => .ref (ts.getD i 0)) ev_c (by rw [hts]; exact sq_of g1) hT2.2.1 (fun i hi => ?_) (kf_row.comp fun i => L.getD i []) (fun i hi => rowOk i (List.mem_range.mp hi)) fun p3 H3 hp3 oth tab h3 => ?_
  · have hi := List.mem_range.mp hi
    obtain ⟨rr, c, a1, a2, a3⟩ := pairs i hi
    have a4 := dp_key (K := K) a2
    rw [row_data (rowOk i hi).2] at a4
    exact ⟨_, rr, _, rfl, a1, a4⟩
  have x3 : Ex (noT H2) H3 := fun b o hb => by
    have h2 := noT_le _ _ _ hb
    obtain ⟨ps, hps, _⟩ := hT2.2.1
    exact oth b o (fun z => by rw [z, hps] at h2; exact noT_no (h2 ▸ hb)) h2
  have k3 : Kp H2 H3 := fun b hb z => by
    by_cases hz : b = tabOf K "sorted_rows"
    · obtain ⟨ps2, h4, _⟩ := tab
      rw [hz, h4] at z
      cases z
    · cases hq : H2 b with
      | none => exact hb hq
      | some o => rw [oth b o hz hq] at z; cases z
  have hT3 : LT K H3 := by
    obtain ⟨ps, hps, _⟩ := hT2.2.1
    exact ⟨tabS_other hT2.1 (Ne.symm hT2.2.2) ⟨ps, hps⟩ oth, tab, hT2.2.2⟩
  generalize hI : sortT (fun i => tkRow (L.getD i [])) false (List.range L.length) = I0 at h3
  have hI0 : ∀ i ∈ I0, i < L.length := fun i hi => by rw [← hI] at hi; exact List.mem_range.mp ((sortT_perm _ _ _).subset hi)
  have hIl : I0.length ≤ 60 := by rw [← hI, (sortT_perm _ _ _).length_eq, List.length_range]; exact hl
  have hIm : I0.map (fun i => L.getD i []) = sortRows L [] := by
    rw [← hI]
    exact map_sortIdx (le := leAll []) L
  have x03 : Ex (noT H) H3 := (noT_mono ((noT_le H).trans x2)).trans x3
  have k03 : Kp H H3 := (Kp.of x2).trans k3
  -- the rows behind the ranks
  let cs : List Addr := ts.map fun t => match H2 t with
    | some (.tup [_, .ref c]) => c
    | _ => 0
  have hcs : Al2 (NewRow H) H3 cs L := by
    refine ⟨by rw [List.length_map, htl], fun i c l a b => ?_⟩
    have hi := (List.getElem?_eq_some_iff.mp b).1
    obtain ⟨rr, c', a1, a2, a3⟩ := pairs i hi
    have ht : ts[i]? = some (ts.getD i 0) := by rw [List.getD_eq_getElem?_getD, List.getElem?_eq_getElem (by omega)]; rfl
    rw [List.getElem?_map, ht] at a
    have ec : c' = c := by
      have this : (match H2 (ts.getD i 0) with | some (.tup [_, .ref c]) => c | _ => 0) = c := Option.some.inj a
      rw [a1] at this
      exact this
    rw [← ec]
    have el : L.getD i [] = l := by rw [List.getD_eq_getElem?_getD, b]; rfl
    rw [el] at a3
    exact a3.noT x3
  have pick : ∀ i, i < L.length → ∃ rr, H3 (ts.getD i 0) = some (.tup [.ref rr, .ref (cs.getD i 0)]) := fun i hi => by
    obtain ⟨rr, c', a1, a2, a3⟩ := pairs i hi
    have ht : ts[i]? = some (ts.getD i 0) := by rw [List.getD_eq_getElem?_getD, List.getElem?_eq_getElem (by omega)]; rfl
    have hc : cs.getD i 0 = c' := by
      rw [List.getD_eq_getElem?_getD, List.getElem?_map, ht]
      show (match H2 (ts.getD i 0) with | some (.tup [_, .ref c]) => c | _ => 0) = c'
      rw [a1]
    exact ⟨rr, by rw [hc]; exact x3 _ _ (noT_at a1 fun ps z => nomatch z)⟩
  clear_value cs
  have hlenI : (I0.map fun i => V.ref (ts.getD i 0)).length = I0.length := List.length_map ..
  refine q_asgL (xs := (I0.map fun i => cs.getD i 0).map V.ref) ?_ fun p4 H4 hp4 e4 h4 => ?_
  · have qq := el_lcP (K := K) (σ := [some (.ref r), some (.ref kt), some (.ref p3), none, none, none, none]) (H := H3) (te := tVar 6) (tl := tVar 2) (i := 5) (j := 6) (vs := [5, 6]) (fun n => V.ref (cs.getD (I0.getD n 0) 0)) (ev_var rfl) (sq_of h3) (by omega) (fun _ _ => rfl) (fun u v H1 => ev_var rfl) fun n x hx => by
      rw [List.getElem?_map] at hx
      cases h9 : I0[n]? with
      | none => rw [h9] at hx; cases hx
      | some i =>
        rw [h9] at hx
        obtain rfl := Option.some.inj hx
        obtain ⟨rr, a1⟩ := pick i (hI0 i (List.mem_of_getElem? h9))
        have ei : I0.getD n 0 = i := by rw [List.getD_eq_getElem?_getD, h9]; rfl
        rw [ei]
        exact ⟨_, _, rfl, st_of a1⟩
    rw [hlenI, range_mapA (fun i => V.ref (cs.getD i 0)) 0] at qq
    rw [List.map_map]
    exact qq
  obtain ⟨xs, hkx, hkn, hkA⟩ := hk
  have hkx3 : ∀ {H' : Hp}, Ex (noT H) H' → SqL K H' kt xs ∨ SqT K H' kt xs := fun e => hkx.imp (fun h => ex_l e (sq_noT h)) fun h => ex_t e (st_noT h)
  refine q_forR1 (n := (ks.length : Int)) (ea_cons (ev_is (ev_lenQ (ev_var rfl) (hkx3 (x03.trans e4))) (by rw [hkn])) ea_nil) ⟨by omega, by omega⟩ (fun i σ' H' => ∃ p qs' av, σ' = [some (.ref r), some (.ref kt), some (.ref p3), some (.ref p), av, none, none] ∧ Ex (noT H) H' ∧ LT K H' ∧ Kp H H' ∧ H p = none ∧ H' p = some (.lst (qs'.map V.ref)) ∧ Al2 (NewRow H) H' qs' (sortRows L (ks.drop (ks.length - i))))
    (fun H5 e5 => ⟨p4, I0.map fun i => cs.getD i 0, none, rfl, (x03.trans e4).trans e5, ⟨hT3.1.ext fun b o h => e5 b _ (e4 b _ h), hT3.2.1.ext fun b o h => e5 b _ (e4 b _ h), hT3.2.2⟩, (k03.trans (Kp.of e4)).trans (Kp.of e5), k03.back hp4, e5 _ _ h4, ?_⟩) (fun i σ' H' hi pv => ?_) fun σ' H' pv => ?_
  · rw [Nat.sub_zero, List.drop_length, ← hIm]
    exact (hcs.pick hI0).mono fun q l _ h => NewRow.mn _ _ _ _ (e4.trans e5) h
  · obtain ⟨p, qs', av, rfl, x, hTT, kp, hp0, hp', hA'⟩ := pv
    have hi2 : i < ks.length := by omega
    have hat : ks.length - 1 - i < ks.length := by omega
    have hdrop : ks.drop (ks.length - (i + 1)) = ks[ks.length - 1 - i] :: ks.drop (ks.length - i) := by
      rw [show ks.length - (i + 1) = ks.length - 1 - i by omega, show ks.length - i = ks.length - 1 - i + 1 by omega]
      exact List.drop_eq_getElem_cons hat
    have hxx : xs[ks.length - 1 - i]? = some xs[ks.length - 1 - i] := List.getElem?_eq_getElem (by omega)
    obtain ⟨t, ve, hxe, ht, hd⟩ := hkA _ _ _ hxx (List.getElem?_eq_getElem hat)
    have ⟨hdep, wd, hw⟩ := ho ks[ks.length - 1 - i] (List.getElem_mem hat)
    generalize ks[ks.length - 1 - i] = k at hdrop hd hdep hw ht
    rw [hxe] at hxx
    have hM := sortRows_perm L (ks.drop (ks.length - i))
    rw [hdrop, sortRows]
    generalize sortRows L (ks.drop (ks.length - i)) = M at hA' hM
    refine s_asgC2 (x := .ref p) (y := .ref t) (ev_var rfl) (ev_op (ev_var rfl) (ev_is (v := .int ((xs.length : Int) - 1 - (i : Int))) (w := .int ((ks.length - 1 - i : Nat) : Int)) (ev_op (ev_op (ev_lenQ (ev_var rfl) (hkx3 x)) ev_c rv_I0) (ev_var rfl) rv_I0) (by rw [hkn]; congr 1; omega)) (rv_ixQ (hkx3 x) (atI_nat hxx))) fun H6 g6 => ?_
    have x6 : Ex (noT H) H6 := x.trans g6
    refine ⟨p, t, ve, k.d, k.e, wd, qs', M, rfl, ex_t x6 (st_noT ht), ex_dp x6 (dp_noT hd), hw, hdep, sq_of (g6 _ _ hp'), hA'.mono fun q l _ h => g6 _ _ h.2, by rw [hM.length_eq]; exact hl, fun r hr => (hL r (hM.subset hr)).2, ⟨hTT.1.ext fun b o h => g6 b _ h, hTT.2.1.ext fun b o h => g6 b _ h, hTT.2.2⟩, fun p7 H7 hp7 x7 hT7 k7 h7 => ?_⟩
    have x07 : Ex (noT H) H7 := (noT_mono x6).trans x7
    have kk7 : Kp H H7 := (kp.trans (Kp.of g6)).trans k7
    refine ⟨p7, (ordBy k.e k.d M).map fun i => qs'.getD i 0, _, rfl, x07, hT7, kk7, (kp.trans (Kp.of g6)).back hp7, by rw [h7, List.map_map]; rfl, ?_⟩
    rw [← ordBy_map]
    have hol : ∀ j ∈ ordBy k.e k.d M, j < M.length := fun j hj => List.mem_range.mp ((sortT_perm _ _ _).subset hj)
    exact (hA'.pick hol).mono fun q l _ h => NewRow.noT x7 (NewRow.mn _ _ _ _ g6 h)
  · obtain ⟨p, qs', av, rfl, x, hTT, kp, hp0, hp', hA'⟩ := pv
    rw [show ((ks.length : Nat) : Int).toNat = ks.length from Int.toNat_natCast _, Nat.sub_self, List.drop_zero] at hA'
    exact s_ret (ev_var rfl) fun H5 e5 => q p H5 hp0 (x.trans e5) ⟨hTT.1.ext fun b o h => e5 b _ h, hTT.2.1.ext fun b o h => e5 b _ h, hTT.2.2⟩ (kp.trans (Kp.of e5)) ⟨qs', e5 _ _ hp', hA'.mono fun q l _ h => NewRow.mn _ _ _ _ e5 h⟩
end
mutual
def gtD : PyData → PyData → Bool
  | .int a, .int b => decide (b < a)
  | .str a, .str b => decide (b.cps.toList < a.cps.toList)
  | .tuple xs, .tuple ys => gtDs xs ys
  | _, _ => false
def gtDs : List PyData → List PyData → Bool
  | [], _ => false
  | _ :: _, [] => true
  | x :: xs, y :: ys => if PyData.eqv x y then gtDs xs ys else gtD x y
end
section
open PySem.SeqAt PySem.MeetsSeq PySem.MeetsSeq2 PySem.MeetsSeq3
theorem gt_listD {n : Nat} (IH : ∀ (d e : PyData) (A : Around) (s : Shared) (u v : Value) (as bs : List Addr), d.depth ≤ n → Reads s.heap u d as → Reads s.heap v e bs → d.canLay0 = true → e.canLay0 = true → ordD d e = true →
    A.units + d.depth < cLine → Ob.RcOp .Gt A s u v (gtD d e)) (A : Around) (s : Shared) : ∀ (xs ys : List PyData) (us vs : List Value) (as bs : List Addr), PyData.depthAll xs ≤ n → ReadsAll s.heap us xs as → ReadsAll s.heap vs ys bs →
    PyData.canLayAll0 xs = true → PyData.canLayAll0 ys = true → ordDs xs ys = true → A.units + PyData.depthAll xs < cLine → Lxg A s (decide (xs.length > ys.length)) (us.zip vs) (gtDs xs ys) := by
  intro xs
  induction xs with
  | nil =>
    intro ys us vs as bs hn r1 r2 c1 c2 ho hu
    cases r1
    cases ys with
    | nil => exact .nil
    | cons y ys =>
      rw [show decide (([] : List PyData).length > (y :: ys).length) = false from decide_eq_false (Nat.not_lt_zero _)]
      show Lxg A s false [] false
      exact .nil
  | cons x xs ih =>
    intro ys us vs as bs hn r1 r2 c1 c2 ho hu
    cases ys with
    | nil =>
      cases r2
      rw [show decide ((x :: xs).length > ([] : List PyData).length) = true from decide_eq_true (Nat.zero_lt_succ _), List.zip_nil_right]
      exact .nil
    | cons y ys =>
      have a1 : x.canLay0 = true ∧ PyData.canLayAll0 xs = true := by simpa [PyData.canLayAll0] using c1
      have a2 : y.canLay0 = true ∧ PyData.canLayAll0 ys = true := by simpa [PyData.canLayAll0] using c2
      have hd : A.units + max x.depth (PyData.depthAll xs) < cLine := hu
      have hn' : max x.depth (PyData.depthAll xs) ≤ n := hn
      rw [show decide ((x :: xs).length > (y :: ys).length) = decide (xs.length > ys.length) by simp]
      cases r1 with
      | cons p1 q1 =>
        cases r2 with
        | cons p2 q2 =>
          have he := PySem.SeqAt.eqAt_reads x y A s _ _ _ _ p1 p2 a1.1 a2.1 (by omega)
          by_cases c : PyData.eqv x y = true
          · have o : ordDs xs ys = true := by rw [ordDs, if_pos c] at ho; exact ho
            rw [show gtDs (x :: xs) (y :: ys) = gtDs xs ys by rw [gtDs, if_pos c]]
            rw [c] at he
            exact .eq he (ih ys _ _ _ _ (by omega) q1 q2 a1.2 a2.2 o (by omega))
          · have o : ordD x y = true := by rw [ordDs, if_neg c] at ho; exact ho
            rw [show gtDs (x :: xs) (y :: ys) = gtD x y by rw [gtDs, if_neg c]]
            rw [Bool.not_eq_true] at c
            rw [c] at he
            exact .gt he (IH x y A s _ _ _ _ (by omega) p1 p2 a1.1 a2.1 o (by omega))
theorem gt_reads : ∀ (n : Nat) (d e : PyData) (A : Around) (s : Shared) (u v : Value) (as bs : List Addr), d.depth ≤ n → Reads s.heap u d as → Reads s.heap v e bs → d.canLay0 = true → e.canLay0 = true → ordD d e = true →
    A.units + d.depth < cLine → Ob.RcOp .Gt A s u v (gtD d e) := by
  intro n
  induction n with
  | zero =>
    intro d e A s u v as bs hn r1 r2 c1 c2 ho hu
    cases r1 with
    | int a t =>
      cases r2 with
      | int b t' => rw [gtD]; exact Ob.RcOp.gt_int _ _ _ _
      | _ => simp [ordD] at ho
    | str a t =>
      cases r2 with
      | str b t' => rw [gtD]; exact fun prog w E Q h => PySem.P.gt_str h
      | _ => simp [ordD] at ho
    | tuple => simp [PyData.depth] at hn
    | _ => simp [ordD] at ho
  | succ n ih =>
    intro d e A s u v as bs hn r1 r2 c1 c2 ho hu
    cases r1 with
    | int a t =>
      cases r2 with
      | int b t' => rw [gtD]; exact Ob.RcOp.gt_int _ _ _ _
      | _ => simp [ordD] at ho
    | str a t =>
      cases r2 with
      | str b t' => rw [gtD]; exact fun prog w E Q h => PySem.P.gt_str h
      | _ => simp [ordD] at ho
    | tuple h1 h2 h3 h4 =>
      cases r2 with
      | tuple k1 k2 k3 k4 =>
        rename_i xs _ _ _ _ _ ys
        simp only [PyData.depth] at hn hu
        have l1 := reads_len h4
        have l2 := reads_len k4
        rw [gtD]
        refine gt_tuples ⟨_, h1, h2, _, h3⟩ ⟨_, k1, k2, _, k3⟩ (by omega) ?_
        rw [← Array.length_toList, ← Array.length_toList, l1, l2]
        exact gt_listD ih A.in1 s _ _ _ _ _ _ (by omega) h4 k4 (by simpa [PyData.canLay0] using c1) (by simpa [PyData.canLay0] using c2) (by simpa [ordD] using ho) (by show A.units + 1 + _ < _; omega)
      | _ => simp [ordD] at ho
    | _ => simp [ordD] at ho
def rGtD (K : PySem.W.Frag) : R2 := fun x y H Q => ∃ d e, Dp K H x d ∧ Dp K H y e ∧ d.canLay0 = true ∧ e.canLay0 = true ∧ ordD d e = true ∧ d.depth ≤ 60 ∧ Q (.bl (gtD d e)) H
theorem op_gtD {X : Cx} (hu : X.A.units + 64 < cLine) : OpR X (compareOp .Gt) (rGtD X.K) := by
  intro pins s σ H x y v u Q I rx ry h
  obtain ⟨d, e, hd, he, c1, c2, o, dp, q⟩ := h
  obtain ⟨as, r1⟩ := Dp.reads I d x v hd rx
  obtain ⟨bs, r2⟩ := Dp.reads I e y u he ry
  exact gt_reads _ d e X.A s v u as bs (Nat.le_refl _) r1 r2 c1 c2 o (by omega) X.prog X.w _ _ ⟨.bl _, H, I, rfl, q⟩
theorem firstLt_le : ∀ (ds es : List PyData), firstLt (fun j => PyData.eqv (ds.getD j .none) (es.getD j .none)) (fun j => leD (ds.getD j .none) (es.getD j .none)) (decide (ds.length ≤ es.length)) (List.range (min ds.length es.length)) = leDs ds es
  | [], es => by
    rw [List.length_nil, Nat.zero_min, leDs, decide_eq_true (Nat.zero_le _)]
    rfl
  | d :: ds, [] => by
    rw [List.length_nil, Nat.min_zero, leDs, show decide ((d :: ds).length ≤ 0) = false from decide_eq_false (Nat.not_succ_le_zero _)]
    rfl
  | d :: ds, e :: es => by
    rw [show min (d :: ds).length (e :: es).length = min ds.length es.length + 1 by simp [Nat.succ_min_succ], List.range_succ_eq_map, leDs]
    have ih := firstLt_le ds es
    show (if PyData.eqv d e = true then firstLt _ _ _ ((List.range _).map Nat.succ) else leD d e) = _
    rw [PySem.W.firstLt_map]
    show (if PyData.eqv d e = true then firstLt (fun j => PyData.eqv (ds.getD j .none) (es.getD j .none)) (fun j => leD (ds.getD j .none) (es.getD j .none)) (decide (ds.length + 1 ≤ es.length + 1)) (List.range (min ds.length es.length)) else leD d e) = _
    rw [show decide (ds.length + 1 ≤ es.length + 1) = decide (ds.length ≤ es.length) by simp, ih]
theorem rdsAt : ∀ {ds : List PyData} {h : Heap} {us : List Value} {as : List Addr} {j : Nat} {u : Value}, ReadsAll h us ds as → us[j]? = some u → ∃ d bs, ds[j]? = some d ∧ Reads h u d bs
  | _, _, _, _, _, _, .nil, e => by simp at e
  | _, _, _, _, 0, _, .cons p _, e => by
    cases e
    exact ⟨_, _, rfl, p⟩
  | _, _, _, _, j + 1, _, .cons _ q, e => by
    obtain ⟨d, bs, h1, h2⟩ := rdsAt (j := j) q (by simpa using e)
    exact ⟨d, bs, by simpa using h1, h2⟩
theorem layAt : ∀ {ds : List PyData} {j : Nat} {d : PyData}, PyData.canLayAll0 ds = true → ds[j]? = some d → d.canLay0 = true ∧ d.depth ≤ PyData.depthAll ds
  | x :: xs, 0, d, h, e => by
    cases e
    have : x.canLay0 = true ∧ PyData.canLayAll0 xs = true := by simpa [PyData.canLayAll0] using h
    exact ⟨this.1, by show x.depth ≤ max x.depth _; omega⟩
  | x :: xs, j + 1, d, h, e => by
    have hh : x.canLay0 = true ∧ PyData.canLayAll0 xs = true := by simpa [PyData.canLayAll0] using h
    obtain ⟨a, b⟩ := layAt (j := j) hh.2 (by simpa using e)
    exact ⟨a, by show d.depth ≤ max x.depth _; omega⟩
def rLeLD (K : PySem.W.Frag) : R2 := fun x y H Q => ∃ ds es, Dp K H x (.list ds) ∧ Dp K H y (.list es) ∧ PyData.canLayAll0 ds = true ∧ PyData.canLayAll0 es = true ∧ (∀ d ∈ ds, ∀ e ∈ es, ordD d e = true) ∧ PyData.depthAll ds ≤ 50 ∧ Q (.bl (leDs ds es)) H
theorem op_leLD {X : Cx} (hu : X.A.units + 64 < cLine) : OpR X (compareOp .LtE) (rLeLD X.K) := by
  intro pins s σ H x y v u Q I rx ry h
  obtain ⟨ds, es, hd, he, c1, c2, o, dp, q⟩ := h
  obtain ⟨as, r1⟩ := Dp.reads I (.list ds) x v hd rx
  obtain ⟨bs, r2⟩ := Dp.reads I (.list es) y u he ry
  cases r1 with
  | @list l _ vs n _ as₁ h1 h2 h3 h4 =>
    cases r2 with
    | @list l' _ vs' n' _ bs₁ k1 k2 k3 k4 =>
      have n1 : vs.size = ds.length := by rw [← Array.length_toList]; exact reads_len h4
      have n2 : vs'.size = es.length := by rw [← Array.length_toList]; exact reads_len k4
      have both : ∀ j (j1 : j < vs.size) (j2 : j < vs'.size), ∃ d e as bs, ds.getD j .none = d ∧ es.getD j .none = e ∧ Reads s.heap vs[j] d as ∧ Reads s.heap vs'[j] e bs ∧ d.canLay0 = true ∧ e.canLay0 = true ∧ d.depth ≤ 50 ∧ ordD d e = true := fun j j1 j2 => by
        obtain ⟨d, as, hd1, hr1⟩ := rdsAt (j := j) (u := vs[j]) h4 (by simp [j1])
        obtain ⟨e, bs, he1, hr2⟩ := rdsAt (j := j) (u := vs'[j]) k4 (by simp [j2])
        obtain ⟨g1, g2⟩ := layAt c1 hd1
        exact ⟨d, e, as, bs, by rw [List.getD_eq_getElem?_getD, hd1]; rfl, by rw [List.getD_eq_getElem?_getD, he1]; rfl, hr1, hr2, g1, (layAt c2 he1).1, by omega, o d (List.mem_of_getElem? hd1) e (List.mem_of_getElem? he1)⟩
      have key := RcOp.lists_le (A := X.A) (s := s) (l := l) (b := l') (items := vs) (items2 := vs') (e := fun j => PyData.eqv (ds.getD j .none) (es.getD j .none)) (r := fun j => leD (ds.getD j .none) (es.getD j .none)) ⟨_, h1, h2, _, h3⟩ ⟨_, k1, k2, _, k3⟩ (by omega) (fun j j1 j2 => by
        obtain ⟨d, e, as, bs, e1, e2, hr1, hr2, g1, g2, g3, g4⟩ := both j j1 j2
        show EqAt _ _ _ _ (PyData.eqv (ds.getD j .none) (es.getD j .none))
        rw [e1, e2]
        exact PySem.SeqAt.eqAt_reads d e X.A.in1 s _ _ _ _ hr1 hr2 g1 g2 (by show X.A.units + 1 + _ < _; omega)) fun j j1 j2 hj => by
        obtain ⟨d, e, as, bs, e1, e2, hr1, hr2, g1, g2, g3, g4⟩ := both j j1 j2
        show PySem.SeqAt.RcOp _ _ _ _ _ (leD (ds.getD j .none) (es.getD j .none))
        rw [e1, e2]
        exact le_reads _ d e X.A.in1 s _ _ _ _ (Nat.le_refl _) hr1 hr2 g1 g2 g4 (by show X.A.units + 1 + _ < _; omega)
      rw [n1, n2, firstLt_le] at key
      exact key X.prog X.w _ _ ⟨.bl _, H, I, rfl, q⟩
end
theorem gt_two {x y : V} : gtD (rkD x) (rkD y) = (if kr x = kr y then (if PyData.eqv (payD x) (payD y) = true then false else gtD (payD x) (payD y)) else decide (kr y < kr x)) := by
  show gtD (.tuple [.int (kr x), payD x]) (.tuple [.int (kr y), payD y]) = _
  rw [gtD, gtDs]
  by_cases h : kr x = kr y
  · rw [if_pos (show PyData.eqv (.int (kr x)) (.int (kr y)) = true from beq_iff_eq.mpr h), if_pos h, gtDs]
    rfl
  · rw [if_neg (show ¬ PyData.eqv (.int (kr x)) (.int (kr y)) = true from fun z => h (beq_iff_eq.mp z)), if_neg h, gtD]
theorem gtD_rk {x y : V} (hx : Ok x) (hy : Ok y) : gtD (rkD x) (rkD y) = ltD (rkD y) (rkD x) := by
  rw [gt_two, show ltD (rkD y) (rkD x) = _ from vlt_two (x := y) (y := x)]
  by_cases h : kr x = kr y
  · rw [if_pos h, if_pos h.symm]
    have t := two_pay hx hy h
    generalize payV x = p at t ⊢
    generalize payV y = q at t ⊢
    generalize payD x = d at t ⊢
    generalize payD y = e at t ⊢
    cases t with
    | int a b =>
      show (if (a == b) = true then false else gtD (.int a) (.int b)) = (if (b == a) = true then false else ltD (.int b) (.int a))
      rw [ltD, gtD]
      by_cases z : a = b
      · subst z; simp
      · have z' : ¬ b = a := fun w => z w.symm
        simp [z, z']
    | str a b =>
      show (if (a == b) = true then false else gtD (.str a) (.str b)) = (if (b == a) = true then false else ltD (.str b) (.str a))
      rw [ltD, gtD]
      by_cases z : a = b
      · subst z; simp
      · have z' : ¬ b = a := fun w => z w.symm
        simp [z, z']
  · have h' : ¬ kr y = kr x := fun z => h z.symm
    rw [if_neg h, if_neg h']
theorem gtDs_row : ∀ {xs ys : List V}, (∀ x ∈ xs, Ok x) → (∀ y ∈ ys, Ok y) → gtDs (xs.map rkD) (ys.map rkD) = ltDs (ys.map rkD) (xs.map rkD)
  | [], [], _, _ => by rw [List.map_nil, gtDs, ltDs]
  | [], y :: ys, _, _ => by rw [List.map_nil, List.map_cons, gtDs, ltDs]
  | x :: xs, [], _, _ => by rw [List.map_nil, List.map_cons, gtDs, ltDs]
  | x :: xs, y :: ys, h, g => by
    rw [List.map_cons, List.map_cons, gtDs, ltDs]
    have ih := gtDs_row (fun z hz => h z (List.mem_cons_of_mem _ hz)) fun z hz => g z (List.mem_cons_of_mem _ hz)
    have sw : PyData.eqv (rkD y) (rkD x) = PyData.eqv (rkD x) (rkD y) := by
      rw [← rk_data (h x List.mem_cons_self), ← rk_data (g y List.mem_cons_self), eqv_key, eqv_key]
      exact decide_eq_decide.mpr ⟨fun z => z.symm, fun z => z.symm⟩
    rw [sw]
    by_cases c : PyData.eqv (rkD x) (rkD y) = true
    · rw [if_pos c, if_pos c, ih]
    · rw [if_neg c, if_neg c]
      exact gtD_rk (h x List.mem_cons_self) (g y List.mem_cons_self)
section
variable {K : PySem.W.Frag} {σ : L2.St} {H : Hp} {te ta tb : TE} {tu tw : TS} {t : TT} {D : Ends} {tz : TS}
theorem rv_rowGt {a b : Addr} {r s : List V} (ha : Dp K H (.ref a) (rowN r).data) (hb : Dp K H (.ref b) (rowN s).data) (hr : OkRw r) (hs : OkRw s) : RV (rGtD K) (.ref a) (.ref b) H (.bl (rowLt s r)) := fun H1 e Q q => by
  rw [row_data hr.2] at ha
  rw [row_data hs.2] at hb
  have hv : gtD (.tuple (r.map rkD)) (.tuple (s.map rkD)) = rowLt s r := by
    unfold rowLt
    rw [gtD, ltD, gtDs_row hr.2 hs.2]
  refine ⟨_, _, ex_dp e ha, ex_dp e hb, ?_, ?_, ?_, ?_, by rw [hv]; exact q H1 (Ex.refl H1)⟩
  · exact lays_row hr.2
  · exact lays_row hs.2
  · rw [ordD]
    exact ords_row hr.2 hs.2
  · rw [PyData.depth]
    have := deps_row hr.2
    omega
/-- of two lists of ranks -/
theorem ev_rowsLe {r s : List V} (ha : EvLD K ta σ H (r.map rkD)) (hb : ∀ H1, Ex H H1 → EvLD K tb σ H1 (s.map rkD)) (hr : OkRw r) (hs : OkRw s) : Ev (tOp (rLeLD K) ta tb) σ H (.bl (!rowLt s r)) := fun H1 e Q q =>
  ha H1 e _ fun p H2 ys hp e2 h2 hd => hb H2 (e.trans e2) H2 (Ex.refl _) _ fun p' H3 ys' hp' e3 h3 hd' => by
  have hv : leDs (r.map rkD) (s.map rkD) = !rowLt s r := by
    unfold rowLt
    rw [ltD, leDs_row hr.2 hs.2]
  refine ⟨r.map rkD, s.map rkD, .lst (sq_of (e3 _ _ h2)) (ex_dps e3 hd), .lst (sq_of h3) hd', lays_row hr.2, lays_row hs.2, fun d hd e he => ?_, ?_, by rw [hv]; exact q H3 (e2.trans e3)⟩
  · obtain ⟨x, hx, rfl⟩ := List.mem_map.mp hd
    obtain ⟨y, hy, rfl⟩ := List.mem_map.mp he
    exact ord_rk (hr.2 x hx) (hs.2 y hy)
  · have := deps_row hr.2
    omega
end
/-- without the lists that stood before -/
def nl (H0 H : Hp) : Hp := fun a => match H0 a with
  | some (.lst _) => none
  | _ => H a
theorem nl_le {H0 H : Hp} : Ex (nl H0 H) H := fun a o h => by
  unfold nl at h
  split at h
  · cases h
  · exact h
theorem nl_tup {H0 H : Hp} {a : Addr} {xs : List V} (e : Ex H0 H) (h : H a = some (.tup xs)) : nl H0 H a = some (.tup xs) := by
  unfold nl
  split
  · rename_i ys hy
    rw [e _ _ hy] at h
    cases h
  · exact h
theorem nl_new {H0 H : Hp} {a : Addr} {o : HO} (h0 : H0 a = none) (h : H a = some o) : nl H0 H a = some o := by
  unfold nl
  rw [h0]
  exact h
theorem nl_wo {H0 H : Hp} {D : Addr} {ys : List V} (h : H0 D = some (.lst ys)) : Ex (nl H0 H) (wo D H) := fun a o ha => by
  have hn : a ≠ D := fun z => by
    unfold nl at ha
    rw [z, h] at ha
    cases ha
  rw [wo_ne hn]
  exact nl_le a o ha
theorem nl_wo2 {H0 H : Hp} {D E : Addr} {ys zs : List V} (h : H0 D = some (.lst ys)) (g : H0 E = some (.lst zs)) : Ex (nl H0 H) (wo D (wo E H)) := fun a o ha => by
  have hn : a ≠ D := fun z => by
    unfold nl at ha
    rw [z, h] at ha
    cases ha
  rw [wo_ne hn]
  exact nl_wo g a o ha
def RkAt (r : List V) (H : Hp) (q : Addr) (k : SKey) : Prop := H q = some (.tup (rkL (evE r k.e)))
theorem RkAt.mn {r : List V} : Mn (RkAt r) := fun H H' q l e h => e _ _ h
def RkdAt (ks : List SKey) (H : Hp) (t : Addr) (r : List V) : Prop := ∃ l b c ts, H t = some (.tup [.ref l, .ref b, .ref c]) ∧ H l = some (.lst (ts.map V.ref)) ∧ Al2 (RkAt r) H ts ks ∧ NKey H (rowN r) (.ref b) ∧ H c = some (.lst r)
theorem RkdAt.mn {ks : List SKey} : Mn (RkdAt ks) := fun H H' q r e h => by
  obtain ⟨l, b, c, ts, h1, h2, h3, h4, h5⟩ := h
  exact ⟨l, b, c, ts, e _ _ h1, e _ _ h2, h3.mono fun q l _ => RkAt.mn _ _ _ _ e, nkey_ex e h4, e _ _ h5⟩
def OkKs (ks : List SKey) : Prop := ks.length ≤ 60 ∧ ∀ k ∈ ks, k.ok
def RowG (r : List V) : Prop := r ≠ [] ∧ OkRB r
theorem RowG.ok {r : List V} {ks : List SKey} (h : RowG r) (ho : OkKs ks) : OkR35 ks r := ⟨fun x hx => (h.2.2 x hx).1, fun k hk => by
  obtain ⟨_, w, hw⟩ := ho.2 k hk
  exact ev_ok (fun x hx => (h.2.2 x hx).1) hw⟩
def sp__ranked (K : PySem.W.Frag) : Sp := fun vs H Q _ => ∃ (a kt : Addr) (r : List V) (ks : List SKey), vs = [.ref a, .ref kt] ∧ SqL K H a r ∧ KeysAt K H kt ks ∧ RowG r ∧ OkKs ks ∧ ∀ p H', H p = none → Ex H H' → RkdAt ks (nl H H') p r → Q (.ref p) H'
section
variable {K : PySem.W.Frag} {σ : L2.St} {H : Hp} {ta tb te tl : TE} {α : Type} {R : Hp → Addr → α → Prop} {D : Ends} {tz : TS}
/-- [a new object for (..) in xs] -/
theorem er_lcG (hm : Mn R) {a : Addr} {xs : List V} {g : TG} {vs : List Nat} (f : Nat → α) (h : Ev tl σ H (.ref a)) (hx : SqL K H a xs) (hz : xs.length ≤ 40000)
    (he : ∀ (i : Nat) (x : V) (H1 : Hp) (D : Addr), Ex H H1 → H D = none → (∃ ys, H1 D = some (.lst ys)) → xs[i]? = some x → ∀ Q : VK, (∀ p H2, H1 p = none → Ex H1 H2 → R (wo D H2) p (f i) → Q (.ref p) H2) → g x (wipe σ vs) H1 fun σ2 H2 => wipe σ2 vs = wipe σ vs ∧ te σ2 H2 Q) :
    EvRo (fun H p => Lst3 R H p ((List.range xs.length).map f)) (tLc (iList K tl) g tYes te vs) σ H := fun H0 e0 Q q => h H0 e0 _ fun H1 e1 => ⟨a, rfl, ⟨xs, ex_l (e0.trans e1) hx⟩, fun D hD =>
  lc_list (xs := xs) (fun i H' => H1 D = none ∧ Ex H1 H' ∧ ∃ qs, H' D = some (.lst (qs.map V.ref)) ∧ Al2 R (wo D H') qs ((List.range i).map f)) ⟨hD, Ex.new hD, [], upd_same, Al2.nil⟩ (fun i H' _ p => ex_l ((e0.trans e1).trans p.2.1) hx)
    (fun i x H' hi p => by
      obtain ⟨p1, p2, qs, p3, p4⟩ := p
      refine he i x H' D ((e0.trans e1).trans p2) (fresh_back (e0.trans e1) hD) ⟨_, p3⟩ hi (fun y H4 => ∃ acc, H4 D = some (.lst acc) ∧ acc.length < sizeLine ∧ _) fun r H4 hr e4 hR => ⟨_, e4 _ _ p3, sz_lt ?_, p1, Ex.mut (p2.trans e4) p1, qs ++ [r], by rw [upd_same, List.map_append]; rfl, ?_⟩
      · have := p4.1
        rw [List.length_map, List.length_range] at this
        have := (List.getElem?_eq_some_iff.mp hi).1
        rw [List.length_map]
        omega
      · rw [wo_upd, List.range_succ, List.map_append]
        exact (p4.mono fun q l _ => hm _ _ _ _ (wo_mono e4)).snoc hR)
    (fun H' p => by
      obtain ⟨p1, p2, qs, p3, p4⟩ := p
      exact q D H' (fresh_back e1 p1) (e1.trans p2) ⟨qs, p3, p4⟩)⟩
theorem s_ret3 {tc : TE} (h : ta σ H fun x H1 => tb σ H1 fun y H2 => tc σ H2 fun z H3 => 3 ≤ sizeLine ∧ ∀ p, H3 p = none → D.rt (.ref p) (upd H3 p (.tup [x, y, z]))) : tRet (tTup (tCons ta (tCons tb (tCons tc tNil)))) D σ H := h
theorem range_getA {α : Type} (d : α) (l : List α) : (List.range l.length).map (fun i => l.getD i d) = l := by
  have := range_mapA (fun x : α => x) d l
  rw [List.map_id'] at this
  exact this
end
section
variable {P : Program} {w : World} {K : PySem.W.Frag} {mg : Str → Option Value} {base : Heap}
theorem ok__ranked (D : Dn K mg "_ranked" s__ranked ["row", "keys"]) (c_evaluate : C8.Cal P w K mg base 15 "evaluate" (sp_evaluate K) []) (c_rank : C8.Cal P w K mg base 2 "rank" (sp_rank K) []) (c_row_rank : C8.Cal P w K mg base 3 "row_rank" (sp_row_rank K) []) (z_list : mg "list" = none) :
    C8.Cal P w K mg base 20 "_ranked" (sp__ranked K) [] := by
  refine cal_of D sc__ranked (fun vs H Q E h => ?_) (fun f cdv A outer s H vs Q E hr h => ?_)
  · obtain ⟨_, _, _, _, rfl, _⟩ := h
    rfl
  refine ⟨_, (pss_one (ps_ret (pe_tup (pa_cons (pe_lc (own := [("expression", 2), ("_", 3)]) (g := (gTup K 2 (gCons (gName 2) (gCons (gName 3) gNil)))) (tt := tYes) rfl sc__ranked.nd (pi_list (pv 1)) (blkOk_by (N := n__ranked) (sc := C8.fnScope s__ranked) (by decide +kernel)) (fun _ _ _ _ _ => (pg_tup rfl (pgs_cons (pg_name (i := 2) sc__ranked.nd rfl (Or.inl rfl)) (pgs_cons (pg_name (i := 3) sc__ranked.nd rfl (Or.inl rfl)) pgs_nil)))) (fun _ _ _ _ _ => pts_nil) (fun _ _ _ _ _ => (C8.pe_c c_rank hr (by decide) (by rfl) (pa_cons (C8.pe_c c_evaluate hr (by decide) (by rfl) (pa_cons (pv 2) (pa_cons (pv 0) pa_nil))) pa_nil)))) (pa_cons (C8.pe_c c_row_rank hr (by decide) (by rfl) (pa_cons (pv 0) pa_nil)) (pa_cons (pe_callTy call_list_of (by rfl) z_list (by decide +kernel) (pa_cons (pv 0) pa_nil)) pa_nil)))))), ?_⟩
  obtain ⟨a, kt, r, ks, rfl, ha, ⟨xs, hS, hlen, hA⟩, hr, ho, q⟩ := h
  have hl60 := ho.1
  have okR := hr.ok ho
  refine s_ret3 ?_
  refine (er_lcG (R := RkAt r) (α := SKey) (σ := [some (.ref a), some (.ref kt), none, none]) (tl := tVar 1) RkAt.mn (fun i => ks.getD i ⟨.col 0, false⟩) (ev_var rfl) hS (by omega) fun i x H1 D e1 hD hys hi Q1 q1 => ?_) H (Ex.refl H) _ fun l H1 hl e1 hR => ?_
  · have hi2 : i < ks.length := by have := (List.getElem?_eq_some_iff.mp hi).1; omega
    obtain ⟨t, ve, rfl, ht, hd⟩ := hA i x ks[i] hi (List.getElem?_eq_getElem hi2)
    have ⟨hdep, wd, hw⟩ := ho.2 ks[i] (List.getElem_mem hi2)
    have eks : ks.getD i ⟨.col 0, false⟩ = ks[i] := by rw [List.getD_eq_getElem?_getD, List.getElem?_eq_getElem hi2]; rfl
    rw [eks] at q1
    obtain ⟨ys, hys⟩ := hys
    refine gt2 (ex_t e1 ht) ⟨rfl, ?_⟩
    refine (ec_rank (ec_eval (ev_var rfl) (ev_var rfl) ⟨ex_dp e1 hd, hdep, wd, hw⟩ (ex_l e1 ha) okR.1 hr.2.1) (okR.2 _ (List.getElem_mem hi2))) H1 (Ex.refl H1) Q1 fun p H2 hp e2 h2 => q1 p H2 hp e2 ?_
    show wo D H2 p = _
    rw [wo_ne (fun z => by rw [z, hys] at hp; cases hp)]
    exact h2
  obtain ⟨ts, g1, g2⟩ := hR
  rw [hlen] at g2
  rw [range_getA] at g2
  refine (ek_row (ev_var rfl) ha (ok_rw hr.2)) H1 e1 _ fun b H2 hb e2 kb => ?_
  refine (el_list (ev_var rfl) ha) H2 (e1.trans e2) _ fun c H3 hc e3 h3 => ⟨sz_of (by show 3 ≤ 100000; decide), fun p hp => ?_⟩
  have x2 := e1.trans e2
  have x3 := x2.trans e3
  have ep : Ex H3 (upd H3 p (.tup [.ref l, .ref b, .ref c])) := Ex.new hp
  have gl : H1 l = some (.lst (ts.map V.ref)) := g1
  have hc0 : H c = none := fresh_back x2 hc
  refine q p _ (fresh_back x3 hp) (x3.trans ep) ⟨l, b, c, ts, nl_new (fresh_back x3 hp) upd_same, nl_new hl (((e2.trans e3).trans ep) _ _ gl), g2.mono fun q k _ h => nl_tup (x3.trans ep) (((((wo_le l H1).trans e2).trans e3).trans ep) _ _ h), NKey.mono (fun x xs hx => nl_tup (x3.trans ep) hx) (nkey_ex (e3.trans ep) kb), nl_new hc0 (ep _ _ h3)⟩
end
noncomputable def behK (r s : List V) : List SKey → Bool
  | [] => rowLt s r
  | k :: ks => if PyData.eqv (rkD (evE r k.e)) (rkD (evE s k.e)) then behK r s ks else (vlt (evE r k.e) (evE s k.e) == k.d)
def sp__is_behind (K : PySem.W.Frag) : Sp := fun vs H Q _ => ∃ (a b kt : Addr) (r s : List V) (ks : List SKey), vs = [.ref a, .ref b, .ref kt] ∧ RkdAt ks H a r ∧ RkdAt ks H b s ∧ KeysAt K H kt ks ∧ RowG r ∧ RowG s ∧ OkKs ks ∧ ∀ H', Ex H H' → Q (.bl (!leAll ks r s)) H'
theorem beh_lt {r s : List V} : ∀ {ks : List SKey}, (∀ k ∈ ks, Ok (evE r k.e) ∧ Ok (evE s k.e)) → behK r s ks = lawLt s r ks
  | [], _ => rfl
  | k :: ks, h => by
    obtain ⟨o1, o2⟩ := h k List.mem_cons_self
    have ih := beh_lt fun z hz => h z (List.mem_cons_of_mem _ hz)
    unfold lawLt at ih ⊢
    rw [behK, behindV, behindV, eqv_swap o1 o2]
    by_cases c : PyData.eqv (rkD (evE r k.e)) (rkD (evE s k.e)) = true
    · rw [if_pos c, if_pos c, if_pos c]
      exact ih
    · have w : vlt (evE s k.e) (evE r k.e) = !vlt (evE r k.e) (evE s k.e) := lt_swap o1 o2 c
      rw [if_neg c, if_neg c, if_neg c, w]
      cases vlt (evE r k.e) (evE s k.e) <;> cases k.d <;> rfl
theorem beh_le {r s : List V} {ks : List SKey} (hr : OkR35 ks r) (hs : OkR35 ks s) : behK r s ks = !leAll ks r s := by
  rw [beh_lt fun k hk => ⟨hr.2 k hk, hs.2 k hk⟩, law_le hs.1 hr.1 fun k hk => ⟨hs.2 k hk, hr.2 k hk⟩]
section
variable {K : PySem.W.Frag} {σ : L2.St} {H : Hp} {p : Addr} {x y z : V} {D : Ends} {tz : TS}
theorem s_forE {g : TG} {tu : TS} {a : Addr} {xs : List V} {tr : TA} (h : EvA tr σ H [.ref a]) (Pv : Nat → L2.St → Hp → Prop) (h0 : ∀ H1, Ex H H1 → Pv 0 σ H1) (hS : SqL K H a xs)
    (hl : ∀ i σ' H', Pv i σ' H' → SqL K H' a xs)
    (hs : ∀ (i : Nat) (x : V) (T : Addr) σ' H', xs[i]? = some x → Pv i σ' H' → H' T = none → g (.ref T) σ' (upd H' T (.tup [.int (i : Int), x])) fun σ2 H2 => tu { nx := Pv (i + 1), rt := D.rt, bk := D.nx, ct := Pv (i + 1) } σ2 H2)
    (hd : ∀ σ' H', Pv xs.length σ' H' → D.nx σ' H') : tFor (iEnum K tr) g tu D σ H := by
  refine h H (Ex.refl H) _ fun H1 e1 => ⟨a, xs, rfl, ex_l e1 hS, fun i m σ' H' => Pv i σ' H' ∧ i ≤ xs.length ∧ xs.length - i ≤ m, ⟨_, h0 H1 e1, Nat.zero_le _, Nat.le_refl _⟩, fun i m σ' H' p => ?_⟩
  obtain ⟨p, hi, hm⟩ := p
  by_cases hlt : i < xs.length
  · refine .inr ⟨⟨xs, xs[i], hl _ _ _ p, List.getElem?_eq_getElem hlt⟩, fun σ2 H2 => Pv (i + 1) σ2 H2, fun σ2 H2 q => ⟨m - 1, by omega, q, hlt, by omega⟩, ?_⟩
    rintro x H2 ⟨T, y, rfl, hT, rfl, hx⟩
    exact hs i y T σ' H' (hx xs (hl _ _ _ p)) p hT
  · refine .inl ⟨⟨xs, hl _ _ _ p, by omega⟩, ?_⟩
    rw [show i = xs.length by omega] at p
    exact hd _ _ p
theorem q_forE {g : TG} {tu : TS} {a : Addr} {xs : List V} {tr : TA} (h : EvA tr σ H [.ref a]) (Pv : Nat → L2.St → Hp → Prop) (h0 : ∀ H1, Ex H H1 → Pv 0 σ H1) (hS : SqL K H a xs)
    (hl : ∀ i σ' H', Pv i σ' H' → SqL K H' a xs)
    (hs : ∀ (i : Nat) (x : V) (T : Addr) σ' H', xs[i]? = some x → Pv i σ' H' → H' T = none → g (.ref T) σ' (upd H' T (.tup [.int (i : Int), x])) fun σ2 H2 => tu { nx := Pv (i + 1), rt := D.rt, bk := tz D, ct := Pv (i + 1) } σ2 H2)
    (hd : ∀ σ' H', Pv xs.length σ' H' → tz D σ' H') : tSeq (tFor (iEnum K tr) g tu) tz D σ H := s_forE (D := { D with nx := tz D }) h Pv h0 hS hl hs hd
theorem gt12 {p s : Addr} {i j l : Nat} (h : SqT K H p [x, .ref s]) (h2 : SqT K H s [y, z]) {Q : L2.St → Hp → Prop} (k : Q (((σ.set i (some x)).set j (some y)).set l (some z)) H) : gTup K 2 (gCons (gName i) (gCons (gTup K 2 (gCons (gName j) (gCons (gName l) gNil))) gNil)) (.ref p) σ H Q :=
  ⟨p, [x, .ref s], rfl, h, rfl, x, [.ref s], rfl, .ref s, [], rfl, ⟨s, [y, z], rfl, h2, rfl, y, [z], rfl, z, [], rfl, rfl, rfl, k⟩⟩
end
section
variable {P : Program} {w : World} {K : PySem.W.Frag} {mg : Str → Option Value} {base : Heap}
theorem ok__is_behind (D : Dn K mg "_is_behind" s__is_behind ["first", "second", "keys"]) (z_enumerate : mg "enumerate" = none) :
    C8.Cal P w K mg base 4 "_is_behind" (sp__is_behind K) [] := by
  refine cal_of D sc__is_behind (fun vs H Q E h => ?_) (fun f cdv A outer s H vs Q E hr h => ?_)
  · obtain ⟨_, _, _, _, _, _, rfl, _⟩ := h
    rfl
  refine ⟨_, (pss_cons (ps_for PassesOwn.never rfl (pi_enum (by rfl) z_enumerate (pa_cons (pv 2) pa_nil)) (pg_tup rfl (pgs_cons (pg_name (i := 3) sc__is_behind.nd rfl (.inl rfl)) (pgs_cons (pg_tup rfl (pgs_cons (pg_name (i := 4) sc__is_behind.nd rfl (.inl rfl)) (pgs_cons (pg_name (i := 5) sc__is_behind.nd rfl (.inl rfl)) pgs_nil))) pgs_nil)))
      (pss_one (ps_if (pt_cmpR (op_neD (hu64 hr)) (pe_ix ix_list (pe_ix ix_tup (pv 0) pe_int (fun _ _ => rfl)) (pv 3) (fun _ _ => rfl)) (pe_ix ix_list (pe_ix ix_tup (pv 1) pe_int (fun _ _ => rfl)) (pv 3) (fun _ _ => rfl)) (nomark _))
      (pss_one (ps_ret (pe_cmpR op_eq (pe_cmpR (op_ltD (hu64 hr)) (pe_ix ix_list (pe_ix ix_tup (pv 0) pe_int (fun _ _ => rfl)) (pv 3) (fun _ _ => rfl)) (pe_ix ix_list (pe_ix ix_tup (pv 1) pe_int (fun _ _ => rfl)) (pv 3) (fun _ _ => rfl)) (nomark _)) (pv 5) (nomark _))))
      pss_nil)))
    (pss_one (ps_ret (pe_cmpR (op_gtD (hu64 hr)) (pe_ix ix_tup (pv 0) pe_int (fun _ _ => rfl)) (pe_ix ix_tup (pv 1) pe_int (fun _ _ => rfl)) (nomark _))))), ?_⟩
  obtain ⟨a, b, kt, r, s, ks, rfl, ha, hb, ⟨xs, hS, hlen, hA⟩, hr, hs, ho, q⟩ := h
  have okR := hr.ok ho
  have okS := hs.ok ho
  rw [← beh_le okR okS] at q
  obtain ⟨l1, b1, c1, ts1, a1, a2, a3, a4, a5⟩ := ha
  obtain ⟨l2, b2, c2, ts2, d1, d2, d3, d4, d5⟩ := hb
  refine q_forE (ea_cons (ev_var rfl) ea_nil) (fun i σ' H' => ∃ v3 v4 v5, σ' = [some (.ref a), some (.ref b), some (.ref kt), v3, v4, v5] ∧ Ex H H' ∧ behK r s ks = behK r s (ks.drop i)) (fun H1 e => ⟨none, none, none, rfl, e, rfl⟩) hS (fun i σ' H' pv => ?_) (fun i x T σ' H' hi pv hT => ?_) fun σ' H' pv => ?_
  · obtain ⟨_, _, _, _, e, _⟩ := pv
    exact ex_l e hS
  · obtain ⟨v3, v4, v5, rfl, e, hq⟩ := pv
    have hi2 : i < ks.length := by have := (List.getElem?_eq_some_iff.mp hi).1; omega
    obtain ⟨t, ve, rfl, ht, hd⟩ := hA i x ks[i] hi (List.getElem?_eq_getElem hi2)
    have e1 : Ex H (upd H' T (.tup [.int (i : Int), .ref t])) := e.trans (Ex.new hT)
    have o1 := okR.2 ks[i] (List.getElem_mem hi2)
    have o2 := okS.2 ks[i] (List.getElem_mem hi2)
    have hrow : ks.drop i = ks[i] :: ks.drop (i + 1) := List.drop_eq_getElem_cons hi2
    rw [hrow] at hq
    obtain ⟨q1, hq1, hk1⟩ := a3.get hi2
    obtain ⟨q2, hq2, hk2⟩ := d3.get hi2
    refine gt12 (st_of upd_same) (ex_t e1 ht) ?_
    have one : ∀ {σ : L2.St} {H0 : Hp}, σ[0]? = some (some (.ref a)) → σ[3]? = some (some (.int (i : Int))) → Ex H H0 → Ev (tOp (rIxL K) (tOp (rIxT K) (tVar 0) (tC (.int 0))) (tVar 3)) σ H0 (.ref q1) := fun h0 h3 e0 => ev_op (ev_op (ev_var h0) ev_c (rv_ixT (st_of (e0 _ _ a1)) rfl)) (ev_var h3) (rv_ixL (sq_of (e0 _ _ a2)) (atI_nat (by rw [List.getElem?_map, hq1]; rfl)))
    have two : ∀ {σ : L2.St} {H0 : Hp}, σ[1]? = some (some (.ref b)) → σ[3]? = some (some (.int (i : Int))) → Ex H H0 → Ev (tOp (rIxL K) (tOp (rIxT K) (tVar 1) (tC (.int 0))) (tVar 3)) σ H0 (.ref q2) := fun h0 h3 e0 => ev_op (ev_op (ev_var h0) ev_c (rv_ixT (st_of (e0 _ _ d1)) rfl)) (ev_var h3) (rv_ixL (sq_of (e0 _ _ d2)) (atI_nat (by rw [List.getElem?_map, hq2]; rfl)))
    refine s_when (b := !PyData.eqv (rkD (evE r ks[i].e)) (rkD (evE s ks[i].e))) (et_test (ev_op (one rfl rfl e1) (two rfl rfl e1) fun H3 e3 Q q => ⟨_, _, dp_rk o1 ((e1.trans e3) _ _ hk1), dp_rk o2 ((e1.trans e3) _ _ hk2), shaped_rk o1, shaped_rk o2, q H3 (Ex.refl H3)⟩)) (fun hb H3 e3 => ?_) fun hb H3 e3 => ?_
    · have hne : ¬ PyData.eqv (rkD (evE r ks[i].e)) (rkD (evE s ks[i].e)) = true := by simpa using hb
      have x3 := e1.trans e3
      refine s_ret (v := .bl (behK r s ks)) (ev_is (ev_op (ev_op (one rfl rfl x3) (two rfl rfl x3) (rv_ltR (x3 _ _ hk1) (x3 _ _ hk2) o1 o2)) (ev_var rfl) (rv_eq rfl)) ?_) fun H4 e4 => q H4 (x3.trans e4)
      rw [hq, behK, if_neg hne]
      cases vlt (evE r ks[i].e) (evE s ks[i].e) <;> cases ks[i].d <;> decide
    · have heq : PyData.eqv (rkD (evE r ks[i].e)) (rkD (evE s ks[i].e)) = true := by simpa using hb
      exact ⟨_, _, _, rfl, e1.trans e3, by rw [hq, behK, if_pos heq]⟩
  · obtain ⟨v3, v4, v5, rfl, e, hq⟩ := pv
    rw [hq, hlen, List.drop_length] at q
    exact s_ret (v := .bl (rowLt s r)) (ev_op (ev_op (ev_var rfl) ev_c (rv_ixT (st_of (e _ _ a1)) rfl)) (ev_op (ev_var rfl) ev_c (rv_ixT (st_of (e _ _ d1)) rfl)) (rv_rowGt (ex_dp e (dp_key a4)) (ex_dp e (dp_key d4)) (ok_rw hr.2) (ok_rw hs.2))) fun H2 e2 => q H2 (e.trans e2)
end
section
variable {α : Type} {le : α → α → Bool}
def mergeW (bh : α → α → Bool) : List α → List α → List α
  | [], ys => ys
  | x :: xs, ys => ys.takeWhile (bh x) ++ x :: mergeW bh xs (ys.dropWhile (bh x))
theorem mergeW_take {bh : α → α → Bool} {x y : α} {xs ys : List α} (h : bh x y = true) : mergeW bh (x :: xs) (y :: ys) = y :: mergeW bh (x :: xs) ys := by
  rw [mergeW, mergeW, List.takeWhile_cons_of_pos h, List.dropWhile_cons_of_pos h]
  rfl
theorem mergeW_put {bh : α → α → Bool} {x : α} {xs ys : List α} (h : ∀ y ∈ ys.head?, bh x y = false) : mergeW bh (x :: xs) ys = x :: mergeW bh xs ys := by
  cases ys with
  | nil => rfl
  | cons y ys =>
    have hy : ¬ bh x y = true := by rw [h y rfl]; decide
    rw [mergeW, List.takeWhile_cons_of_neg hy, List.dropWhile_cons_of_neg hy]
    rfl
theorem mergeW_perm {bh : α → α → Bool} : ∀ {xs ys : List α}, (mergeW bh xs ys).Perm (xs ++ ys)
  | [], _ => .refl _
  | x :: xs, ys => by
    rw [mergeW]
    refine List.perm_middle.trans (.cons x ?_)
    refine ((mergeW_perm (xs := xs)).append_left _).trans ?_
    refine List.perm_append_comm_assoc _ _ _ |>.trans ?_
    rw [List.takeWhile_append_dropWhile]
    exact .refl _
theorem mergeW_len {bh : α → α → Bool} {xs ys : List α} : (mergeW bh xs ys).length = xs.length + ys.length := by rw [mergeW_perm.length_eq, List.length_append]
theorem mergeW_pair (h : PySem.W.TotalLe le) : ∀ {xs ys : List α}, xs.Pairwise (fun a b => le a b = true) → ys.Pairwise (fun a b => le a b = true) → (mergeW (fun a b => !le a b) xs ys).Pairwise fun a b => le a b = true
  | [], _, _, h2 => h2
  | x :: xs, ys, h1, h2 => by
    obtain ⟨p1, p2⟩ := List.pairwise_cons.mp h1
    rw [mergeW]
    have hT : ∀ t ∈ ys.takeWhile (fun b => !le x b), le t x = true := fun t ht => by
      have : (!le x t) = true := List.all_eq_true.mp (List.all_takeWhile (p := fun b => !le x b) (l := ys)) t ht
      rcases h.total t x with z | z
      · exact z
      · rw [z] at this; cases this
    have hd : (ys.dropWhile (fun b => !le x b)).Pairwise fun a b => le a b = true := h2.sublist (List.dropWhile_sublist _)
    have hR : ∀ r ∈ ys.dropWhile (fun b => !le x b), le x r = true := by
      intro r hr
      cases hz : ys.dropWhile (fun b => !le x b) with
      | nil => rw [hz] at hr; cases hr
      | cons y l =>
        have hy : le x y = true := by
          have := List.head?_dropWhile_not (fun b => !le x b) ys
          rw [hz] at this
          simpa using this
        rw [hz] at hr hd
        rcases List.mem_cons.mp hr with e | e
        · rw [e]; exact hy
        · exact h.trans _ _ _ hy ((List.pairwise_cons.mp hd).1 r e)
    have hM : ∀ m ∈ mergeW (fun a b => !le a b) xs (ys.dropWhile (fun b => !le x b)), le x m = true := fun m hm => by
      rcases List.mem_append.mp (mergeW_perm.subset hm) with e | e
      · exact p1 m e
      · exact hR m e
    refine List.pairwise_append.mpr ⟨h2.sublist (List.takeWhile_sublist _), List.pairwise_cons.mpr ⟨hM, mergeW_pair h p2 hd⟩, fun t ht m hm => ?_⟩
    rcases List.mem_cons.mp hm with e | e
    · rw [e]; exact hT t ht
    · exact h.trans _ _ _ (hT t ht) (hM m e)
end
theorem cutV_drop {xs : List V} {k : Nat} : cutV xs (some (k : Int)) none = xs.drop k := by
  unfold cutV
  rw [HT.sIx_nat, HT.sIx_none]
  by_cases h : k ≤ xs.length
  · rw [Nat.min_eq_left h, List.take_of_length_le (by rw [List.length_drop]; omega)]
  · rw [Nat.min_eq_right (by omega), List.drop_eq_nil_of_le (Nat.le_refl _), List.drop_eq_nil_of_le (show xs.length ≤ k by omega)]
    simp
abbrev PRow := Addr × List V
def refP (ps : List PRow) : List V := ps.map fun p => V.ref p.1
def RkdP (ks : List SKey) (H : Hp) (ps : List PRow) : Prop := ∀ p ∈ ps, RkdAt ks H p.1 p.2 ∧ RowG p.2
theorem RkdP.mn {ks : List SKey} {H H' : Hp} {ps : List PRow} (e : Ex H H') (h : RkdP ks H ps) : RkdP ks H' ps := fun p hp => ⟨RkdAt.mn _ _ _ _ e (h p hp).1, (h p hp).2⟩
noncomputable def bhP (ks : List SKey) (p q : PRow) : Bool := !leAll ks p.2 q.2
def sp__merged (K : PySem.W.Frag) : Sp := fun vs H Q _ => ∃ (a b kt : Addr) (ks : List SKey) (ps rs : List PRow), vs = [.ref a, .ref b, .ref kt] ∧ H a = some (.lst (refP ps)) ∧ H b = some (.lst (refP rs)) ∧ RkdP ks H ps ∧ RkdP ks H rs ∧ KeysAt K H kt ks ∧ OkKs ks ∧ ps.length + rs.length ≤ 1000 ∧ ∀ p H', H p = none → Ex H H' → H' p = some (.lst (refP (mergeW (bhP ks) ps rs))) → Q (.ref p) H'
section
variable {K : PySem.W.Frag} {σ : L2.St} {H : Hp} {te ta tb tc tl : TE} {D : Ends} {tz : TS} {E : XK}
theorem s_extL {l : Addr} {xs zs : List V} (hl : H l = some (.lst xs)) (ha : Ev ta σ H (.ref l)) (h : EvL te σ H zs) (hz : xs.length + zs.length ≤ 100000) (k : ∀ H1, Ex H H1 → D.nx σ (upd H1 l (.lst (xs ++ zs)))) : tDrop (tBM K "list" rExtend ta (tCons te tNil)) D σ H := ha H (Ex.refl H) _ fun H1 e1 =>
  ⟨Or.inl ⟨rfl, _, sq_of (e1 l _ hl)⟩, h H1 e1 _ fun p H2 hp e2 h2 => ⟨l, p, xs, zs, rfl, rfl, e2 l _ (e1 l _ hl), h2, sz_of hz, k H2 (e1.trans e2)⟩⟩
theorem q_extL {l : Addr} {xs zs : List V} (hl : H l = some (.lst xs)) (ha : Ev ta σ H (.ref l)) (h : EvL te σ H zs) (hz : xs.length + zs.length ≤ 100000) (k : ∀ H1, Ex H H1 → tz D σ (upd H1 l (.lst (xs ++ zs)))) : tSeq (tDrop (tBM K "list" rExtend ta (tCons te tNil))) tz D σ H := s_extL (D := { D with nx := tz D }) hl ha h hz k
theorem ec_behind {a b kt : Addr} {ks : List SKey} {r s : List V} (ja : Ev ta σ H (.ref a)) (jb : Ev tb σ H (.ref b)) (jc : Ev tc σ H (.ref kt)) (ha : RkdAt ks H a r) (hb : RkdAt ks H b s) (hk : KeysAt K H kt ks) (hr : RowG r) (hs : RowG s) (ho : OkKs ks) : Ev (tCall (sp__is_behind K) [] E (tCons ta (tCons tb (tCons tc tNil)))) σ H (.bl (!leAll ks r s)) :=
  ev_call (ea_cons ja (ea_cons jb (ea_cons jc ea_nil))) fun H1 e1 Q q E => ⟨a, b, kt, r, s, ks, rfl, RkdAt.mn _ _ _ _ e1 ha, RkdAt.mn _ _ _ _ e1 hb, hk.ex e1, hr, hs, ho, q⟩
theorem refP_at {ps : List PRow} {i : Nat} {x : V} (h : (refP ps)[i]? = some x) : ∃ p, ps[i]? = some p ∧ x = .ref p.1 := by
  unfold refP at h
  rw [List.getElem?_map] at h
  obtain ⟨p, hp, e⟩ := Option.map_eq_some_iff.mp h
  exact ⟨p, hp, e.symm⟩
end
section
variable {P : Program} {w : World} {K : PySem.W.Frag} {mg : Str → Option Value} {base : Heap}
theorem ok__merged (D : Dn K mg "_merged" s__merged ["one", "other", "keys"]) (c__is_behind : C8.Cal P w K mg base 4 "_is_behind" (sp__is_behind K) []) (z_len : mg "len" = none) :
    C8.Cal P w K mg base 5 "_merged" (sp__merged K) [] := by
  refine cal_of D sc__merged (fun vs H Q E h => ?_) (fun f cdv A outer s H vs Q E hr h => ?_)
  · obtain ⟨_, _, _, _, _, _, rfl, _⟩ := h
    rfl
  refine ⟨_, (pss_cons (ps_set (i := 3) sc__merged.nd rfl (.inl rfl) (pe_lst pa_nil))
    (pss_cons (ps_set (i := 4) sc__merged.nd rfl (.inl rfl) pe_int)
    (pss_cons (ps_for PassesOwn.never rfl (pi_list (pv 0)) (pg_name (i := 5) sc__merged.nd rfl (.inl rfl))
      (pss_cons (ps_while PassesOwn.never (PW.pt (pw_and (pt_cmpR op_lt (pv 4) (pe_callB call_len_seq (by rfl) z_len PySem.boot_len (pa_cons (pv 1) pa_nil)) (nomark _)) (pw_and1 (pt_val (C8.pe_c c__is_behind hr (by decide) (by rfl) (pa_cons (pv 5) (pa_cons (pe_ix ix_list (pv 1) (pv 4) (fun _ _ => rfl)) (pa_cons (pv 2) pa_nil))))))))
      (pss_cons (ps_expr (pe_bm PySem.F.plainAttrs_list PySem.F.slot_list_append PySem.F.type_list_append mt_append (pv 3) (pa_cons (pe_ix ix_list (pv 1) (pv 4) (fun _ _ => rfl)) pa_nil)))
    (pss_one (ps_aug (i := 4) sc__merged.nd rfl (.inl rfl) pe_int ip_add))))
    (pss_one (ps_expr (pe_bm PySem.F.plainAttrs_list PySem.F.slot_list_append PySem.F.type_list_append mt_append (pv 3) (pa_cons (pv 5) pa_nil))))))
    (pss_cons (ps_expr (pe_bm PySem.F.plainAttrs_list PySem.F.slot_list_extend PySem.F.type_list_extend mt_extend (pv 3) (pa_cons (pe_slice sl_list (pv 1) (po_some (pv 4)) po_none) pa_nil)))
    (pss_one (ps_ret (pv 3))))))), ?_⟩
  obtain ⟨a, b, kt, ks, ps, rs, rfl, ha, hb, hA, hB, hk, ho, hz, q⟩ := h
  have lA : (refP ps).length = ps.length := List.length_map ..
  have lB : (refP rs).length = rs.length := List.length_map ..
  have lM : (mergeW (bhP ks) ps rs).length = ps.length + rs.length := mergeW_len
  refine q_asgL (el_lst ea_nil (by decide)) fun pf H1 hpf e1 h1 => ?_
  refine q_asg (v := .int ((0 : Nat) : Int)) ev_c fun H2 e2 => ?_
  refine q_forLn (xs := refP ps) (ev_var rfl) (sq_of ((e1.trans e2) _ _ ha)) (fun i σ' H' => ∃ (at_ : Nat) (rv : Option V) (fs : List PRow), σ' = [some (.ref a), some (.ref b), some (.ref kt), some (.ref pf), some (.int (at_ : Int)), rv] ∧ Ex H H' ∧ H' pf = some (.lst (refP fs)) ∧ at_ ≤ rs.length ∧ fs ++ mergeW (bhP ks) (ps.drop i) (rs.drop at_) = mergeW (bhP ks) ps rs)
    (fun H3 e3 => ⟨0, none, [], rfl, (e1.trans e2).trans e3, (e2.trans e3) _ _ h1, Nat.zero_le _, rfl⟩) (fun i σ' H' _ pv => ?_) (fun i x σ' H' hi pv => ?_) fun σ' H' pv => ?_
  · obtain ⟨_, _, _, _, e, _⟩ := pv
    exact sq_of (e _ _ ha)
  · obtain ⟨at0, rv, fs0, rfl, x0, hf0, hat0, hm0⟩ := pv
    obtain ⟨p, hp, rfl⟩ := refP_at hi
    have hi2 : i < ps.length := (List.getElem?_eq_some_iff.mp hp).1
    have hpm := List.mem_of_getElem? hp
    have hdp : ps.drop i = p :: ps.drop (i + 1) := by rw [List.drop_eq_getElem_cons hi2, (List.getElem?_eq_some_iff.mp hp).2]
    rw [hdp] at hm0
    refine q_while (fun m σ' H' => ∃ (at_ : Nat) (fs : List PRow), σ' = [some (.ref a), some (.ref b), some (.ref kt), some (.ref pf), some (.int (at_ : Int)), some (.ref p.1)] ∧ Ex H H' ∧ H' pf = some (.lst (refP fs)) ∧ at_ ≤ rs.length ∧ m = rs.length - at_ ∧ fs ++ mergeW (bhP ks) (p :: ps.drop (i + 1)) (rs.drop at_) = mergeW (bhP ks) ps rs) (rs.length - at0) ⟨at0, fs0, rfl, x0, hf0, hat0, rfl, hm0⟩ fun m σ' H' pv => ?_
    obtain ⟨at_, fs, rfl, x, hf, hat, rfl, hm⟩ := pv
    have lens := congrArg List.length hm
    rw [lM, List.length_append, mergeW_len] at lens
    have nth : ∀ {σ : L2.St} {H0 : Hp} {y : PRow}, σ[1]? = some (some (.ref b)) → σ[4]? = some (some (.int (at_ : Int))) → Ex H H0 → rs[at_]? = some y → Ev (tOp (rIxL K) (tVar 1) (tVar 4)) σ H0 (.ref y.1) := fun h1 h4 e0 hy => ev_op (ev_var h1) (ev_var h4) (rv_ixL (sq_of (e0 _ _ hb)) (atI_nat (by unfold refP; rw [List.getElem?_map, hy]; rfl)))
    refine ⟨decide (at_ < rs.length) && (match rs[at_]? with | some y => bhP ks p y | none => false), et_and (et_test (ev_is (ev_op (ev_var rfl) (ev_len (ev_var rfl) (sq_of (x _ _ hb))) rv_I0) (by rw [lB]; congr 1; exact decide_eq_decide.mpr (by omega)))) (fun hlt => ?_), fun hb1 H4 e4 => ?_, fun hb1 H4 e4 => ?_⟩
    · have hlt := of_decide_eq_true hlt
      have hy : rs[at_]? = some rs[at_] := List.getElem?_eq_getElem hlt
      rw [hy]
      obtain ⟨g1, g2⟩ := hB _ (List.getElem_mem hlt)
      obtain ⟨g3, g4⟩ := hA _ hpm
      exact et_B (ec_behind (ev_var rfl) (nth rfl rfl x hy) (ev_var rfl) (RkdAt.mn _ _ _ _ x g3) (RkdAt.mn _ _ _ _ x g1) (hk.ex x) g4 g2 ho)
    · rw [Bool.and_eq_true] at hb1
      have hlt := of_decide_eq_true hb1.1
      have hy : rs[at_]? = some rs[at_] := List.getElem?_eq_getElem hlt
      have hbh : bhP ks p rs[at_] = true := by
        have h9 := hb1.2
        rw [hy] at h9
        exact h9
      have hdr : rs.drop at_ = rs[at_] :: rs.drop (at_ + 1) := List.drop_eq_getElem_cons hlt
      refine ⟨fun σ2 H2 => ∃ m', m' < rs.length - at_ ∧ ∃ (at_ : Nat) (fs : List PRow), σ2 = [some (.ref a), some (.ref b), some (.ref kt), some (.ref pf), some (.int (at_ : Int)), some (.ref p.1)] ∧ Ex H H2 ∧ H2 pf = some (.lst (refP fs)) ∧ at_ ≤ rs.length ∧ m' = rs.length - at_ ∧ fs ++ mergeW (bhP ks) (p :: ps.drop (i + 1)) (rs.drop at_) = mergeW (bhP ks) ps rs, fun σ2 H2 h => h, ?_⟩
      have x4 := x.trans e4
      refine q_app (v := .ref rs[at_].1) (e4 _ _ hf) (ev_var rfl) (nth rfl rfl x4 hy) (by unfold refP; rw [List.length_map]; omega) fun H5 e5 => ?_
      refine s_aug (a := (at_ : Int)) (b := 1) rfl ev_c fun H6 e6 => ⟨rs.length - (at_ + 1), by omega, at_ + 1, fs ++ [rs[at_]], rfl, (Ex.mut (x4.trans e5) hpf).trans e6, ?_, hlt, rfl, ?_⟩
      · rw [e6 _ _ upd_same]
        unfold refP
        rw [List.map_append]
        rfl
      · rw [← hm, hdr, mergeW_take hbh, List.append_assoc]
        rfl
    · have hput : mergeW (bhP ks) (p :: ps.drop (i + 1)) (rs.drop at_) = p :: mergeW (bhP ks) (ps.drop (i + 1)) (rs.drop at_) := mergeW_put fun y hy => by
        rw [List.head?_drop] at hy
        have hlt := (List.getElem?_eq_some_iff.mp hy).1
        rw [hy, decide_eq_true hlt, Bool.true_and] at hb1
        exact hb1
      rw [hput] at hm
      refine s_app (v := .ref p.1) (e4 _ _ hf) (ev_var rfl) (ev_var rfl) (by unfold refP; rw [List.length_map]; omega) fun H5 e5 => ⟨at_, _, fs ++ [p], rfl, Ex.mut ((x.trans e4).trans e5) hpf, ?_, hat, ?_⟩
      · rw [upd_same]
        unfold refP
        rw [List.map_append]
        rfl
      · rw [← hm, List.append_assoc]
        rfl
  · obtain ⟨at_, rv, fs, rfl, x, hf, hat, hm⟩ := pv
    rw [lA, List.drop_length] at hm
    have hm2 : fs ++ rs.drop at_ = mergeW (bhP ks) ps rs := hm
    have lens := congrArg List.length hm2
    rw [lM, List.length_append, List.length_drop] at lens
    have hs := el_sl (K := K) (σ := [some (.ref a), some (.ref b), some (.ref kt), some (.ref pf), some (.int (at_ : Int)), rv]) (H := H') (te := tVar 1) (tl := tPart (tVar 4)) (ev_var rfl) (eo_some (ev_var rfl)) (hi := none) (th := tNoPart) eo_none (sq_of (x _ _ hb))
    have hc : cutV (refP rs) (some (at_ : Int)) none = refP (rs.drop at_) := by
      unfold refP
      rw [List.map_drop, cutV_drop]
    rw [hc] at hs
    refine q_extL hf (ev_var rfl) hs (by unfold refP; rw [List.length_map, List.length_map, List.length_drop]; omega) fun H5 e5 => ?_
    refine s_ret (ev_var rfl) fun H6 e6 => q pf H6 hpf ((Ex.mut (x.trans e5) hpf).trans e6) ?_
    rw [e6 _ _ upd_same, ← hm2]
    unfold refP
    rw [List.map_append]
end
noncomputable def bhR (ks : List SKey) (r s : List V) : Bool := !leAll ks r s
theorem mergeW_map {α β : Type} (f : α → β) {bh : β → β → Bool} : ∀ {xs ys : List α}, (mergeW (fun a b => bh (f a) (f b)) xs ys).map f = mergeW bh (xs.map f) (ys.map f)
  | [], ys => rfl
  | x :: xs, ys => by
    rw [mergeW, List.map_cons, mergeW, List.map_append, List.map_cons, mergeW_map f, List.takeWhile_map, List.dropWhile_map]
    rfl
noncomputable def mrg2 (ks : List SKey) : List (List (List V)) → List (List V)
  | [A, B] => mergeW (bhR ks) A B
  | [A] => A
  | _ => []
noncomputable def pairUp (ks : List SKey) (W : List (List (List V))) : List (List (List V)) := (List.range (stepsN W.length 2)).map fun i => mrg2 ks (chunk W 2 i)
def SortedR (ks : List SKey) (L : List (List V)) : Prop := L.Pairwise fun a b => leAll ks a b = true
theorem chunk_two {α : Type} {W : List α} {i : Nat} (h : i < stepsN W.length 2) : (∃ A B, W[i * 2]? = some A ∧ W[i * 2 + 1]? = some B ∧ chunk W 2 i = [A, B]) ∨ ∃ A, W[i * 2]? = some A ∧ W[i * 2 + 1]? = none ∧ chunk W 2 i = [A] := by
  have hi : i * 2 < W.length := stepsN_at (by decide) h
  have hA : W[i * 2]? = some W[i * 2] := List.getElem?_eq_getElem hi
  have e : chunk W 2 i = (W.drop (i * 2)).take 2 := by
    unfold chunk
    rw [List.drop_take, show i * 2 + 2 - i * 2 = 2 by omega]
  rw [e, List.drop_eq_getElem_cons hi]
  by_cases h2 : i * 2 + 1 < W.length
  · exact .inl ⟨_, _, hA, List.getElem?_eq_getElem h2, by rw [List.drop_eq_getElem_cons h2]; rfl⟩
  · refine .inr ⟨_, hA, List.getElem?_eq_none (by omega), ?_⟩
    rw [List.drop_eq_nil_of_le (by omega)]
    rfl
theorem pairUp_len (ks : List SKey) (W : List (List (List V))) (h : 1 < W.length) : (pairUp ks W).length < W.length := by
  unfold pairUp
  rw [List.length_map, List.length_range]
  unfold stepsN
  rw [if_pos (by omega)]
  omega
theorem flat_perm {α : Type} : ∀ {n : Nat} {f g : Nat → List α}, (∀ i, i < n → (f i).Perm (g i)) → (((List.range n).map f).flatten).Perm ((List.range n).map g).flatten
  | 0, _, _, _ => .refl _
  | n + 1, f, g, h => by
    rw [List.range_succ, List.map_append, List.map_append, List.flatten_append, List.flatten_append]
    refine (flat_perm fun i hi => h i (by omega)).append ?_
    have := h n (by omega)
    simpa using this
theorem pairUp_perm (ks : List SKey) (W : List (List (List V))) : (pairUp ks W).flatten.Perm W.flatten := by
  unfold pairUp
  have e1 : (((List.range (stepsN W.length 2)).map fun i => mrg2 ks (chunk W 2 i)).flatten).Perm ((List.range (stepsN W.length 2)).map fun i => (chunk W 2 i).flatten).flatten := flat_perm fun i hi => by
    rcases chunk_two hi with ⟨A, B, _, _, e⟩ | ⟨A, _, _, e⟩
    · rw [e]
      show (mergeW (bhR ks) A B).Perm (A ++ (B ++ []))
      rw [List.append_nil]
      exact mergeW_perm
    · rw [e]
      show A.Perm (A ++ [])
      rw [List.append_nil]
  refine e1.trans ?_
  have e2 : ((List.range (stepsN W.length 2)).map fun i => (chunk W 2 i).flatten).flatten = (((List.range (stepsN W.length 2)).map (chunk W 2)).flatten).flatten := by
    rw [List.flatten_flatten, List.map_map]
    rfl
  rw [e2, chunk_flat, List.take_of_length_le (stepsN_all (by decide))]
theorem pairUp_sorted {ks : List SKey} {W : List (List (List V))} (h : ∀ A ∈ W, SortedR ks A) : ∀ A ∈ pairUp ks W, SortedR ks A := fun A hA => by
  obtain ⟨i, hi, rfl⟩ := List.mem_map.mp hA
  rcases chunk_two (List.mem_range.mp hi) with ⟨A, B, hA, hB, e⟩ | ⟨A, hA, _, e⟩
  · rw [e]
    exact mergeW_pair (leAll_total ks) (h A (List.mem_of_getElem? hA)) (h B (List.mem_of_getElem? hB))
  · rw [e]
    exact h A (List.mem_of_getElem? hA)
/-- a list of rows with their ranks -/
def WtR (ks : List SKey) (H : Hp) (p : Addr) (L : List (List V)) : Prop := ∃ ps : List PRow, H p = some (.lst (refP ps)) ∧ RkdP ks H ps ∧ ps.map (·.2) = L
theorem WtR.mn {ks : List SKey} : Mn (WtR ks) := fun H H' q L e h => by
  obtain ⟨ps, h1, h2, h3⟩ := h
  exact ⟨ps, e _ _ h1, h2.mn e, h3⟩
def SortsTo (ks : List SKey) (L M : List (List V)) : Prop := M.Perm L ∧ SortedR ks M
def sp_merge_runs (K : PySem.W.Frag) : Sp := fun vs H Q _ => ∃ (a kt : Addr) (ks : List SKey) (W : List (List (List V))), vs = [.ref a, .ref kt] ∧ Lst2 (Lst2 RowAt) H a W ∧ KeysAt K H kt ks ∧ OkKs ks ∧ (∀ A ∈ W, SortedR ks A) ∧ (∀ A ∈ W, ∀ r ∈ A, RowG r) ∧ W.length ≤ 100 ∧ W.flatten.length ≤ 100 ∧ ∀ p H' M, H p = none → Ex H H' → SortsTo ks W.flatten M → Lst2 RowAt H' p M → Q (.ref p) H'
section
variable {K : PySem.W.Frag} {σ : L2.St} {H : Hp} {te ta tb tc tl : TE} {t : TT} {D : Ends} {tz : TS} {E : XK} {α : Type} {R : Hp → Addr → α → Prop}
theorem Al2.zip {qs : List Addr} {L : List α} (h : Al2 R H qs L) : (qs.zip L).map (·.1) = qs ∧ (qs.zip L).map (·.2) = L ∧ ∀ p ∈ qs.zip L, R H p.1 p.2 := by
  refine ⟨List.map_fst_zip (by rw [h.1]; exact Nat.le_refl _), List.map_snd_zip (by rw [h.1]; exact Nat.le_refl _), fun p hp => ?_⟩
  obtain ⟨i, hi⟩ := List.mem_iff_getElem?.mp hp
  rw [List.getElem?_zip_eq_some] at hi
  exact h.2 i _ _ hi.1 hi.2
/-- [an object, new or old, for x in xs] -/
theorem er_lcV (hm : Mn R) {a : Addr} {xs : List V} {j : Nat} {vs : List Nat} (f : Nat → α) (h : Ev tl σ H (.ref a)) (hx : SqL K H a xs) (hz : xs.length ≤ 40000) (hw : ∀ x, wipe ((wipe σ vs).set j (some x)) vs = wipe σ vs)
    (he : ∀ (i : Nat) (x : V) (H1 : Hp) (D : Addr), Ex H H1 → H D = none → (∃ ys, H1 D = some (.lst ys)) → xs[i]? = some x → ∀ Q : VK, (∀ p H2, Ex H1 H2 → R (wo D H2) p (f i) → Q (.ref p) H2) → te ((wipe σ vs).set j (some x)) H1 Q) :
    EvRo (fun H p => Lst3 R H p ((List.range xs.length).map f)) (tLc (iList K tl) (gName j) tYes te vs) σ H := fun H0 e0 Q q => h H0 e0 _ fun H1 e1 => ⟨a, rfl, ⟨xs, ex_l (e0.trans e1) hx⟩, fun D hD =>
  lc_list (xs := xs) (fun i H' => H1 D = none ∧ Ex H1 H' ∧ ∃ qs, H' D = some (.lst (qs.map V.ref)) ∧ Al2 R (wo D H') qs ((List.range i).map f)) ⟨hD, Ex.new hD, [], upd_same, Al2.nil⟩ (fun i H' _ p => ex_l ((e0.trans e1).trans p.2.1) hx)
    (fun i x H' hi p => by
      obtain ⟨p1, p2, qs, p3, p4⟩ := p
      refine ⟨hw x, ?_⟩
      show te ((wipe σ vs).set j (some x)) H' fun y H4 => ∃ acc, H4 D = some (.lst acc) ∧ acc.length < sizeLine ∧ _
      refine he i x H' D ((e0.trans e1).trans p2) (fresh_back (e0.trans e1) hD) ⟨_, p3⟩ hi _ fun r H4 e4 hR => ⟨_, e4 _ _ p3, sz_lt ?_, p1, Ex.mut (p2.trans e4) p1, qs ++ [r], by rw [upd_same, List.map_append]; rfl, ?_⟩
      · have := p4.1
        rw [List.length_map, List.length_range] at this
        have := (List.getElem?_eq_some_iff.mp hi).1
        rw [List.length_map]
        omega
      · rw [wo_upd, List.range_succ, List.map_append]
        exact (p4.mono fun q l _ => hm _ _ _ _ (wo_mono e4)).snoc hR)
    (fun H' p => by
      obtain ⟨p1, p2, qs, p3, p4⟩ := p
      exact q D H' (fresh_back e1 p1) (e1.trans p2) ⟨qs, p3, p4⟩)⟩
/-- [row for run in runs for _, _, row in run] -/
theorem el_lc2R {a : Addr} {wps : List (Addr × List PRow)} {c : PRow → Addr} {j u v : Nat} {vs vs1 : List Nat} (h : Ev tl σ H (.ref a)) (ha : H a = some (.lst (wps.map fun w => V.ref w.1))) (hw : ∀ w ∈ wps, H w.1 = some (.lst (refP w.2))) (hp : ∀ w ∈ wps, ∀ p ∈ w.2, ∃ x y, H p.1 = some (.tup [x, y, .ref (c p)]))
    (hz : (wps.flatMap fun w => w.2.map fun p => V.ref (c p)).length ≤ 40000) (h1 : ∀ x, wipe ((wipe σ vs).set j (some x)) vs = wipe σ vs) (h2 : ∀ x, ((wipe σ vs).set j (some x))[j]? = some (some x))
    (h3 : ∀ x y y' z, wipe ((((wipe ((wipe σ vs).set j (some x)) vs1).set u (some y)).set u (some y')).set v (some z)) vs1 = wipe ((wipe σ vs).set j (some x)) vs1) (h4 : ∀ x y y' z, ((((wipe ((wipe σ vs).set j (some x)) vs1).set u (some y)).set u (some y')).set v (some z))[v]? = some (some z)) :
    EvL (tLc2 (iList K tl) (gName j) tYes (iList K (tVar j)) (gTup K 3 (gCons (gName u) (gCons (gName u) (gCons (gName v) gNil)))) tYes (tVar v) vs vs1) σ H (wps.flatMap fun w => w.2.map fun p => V.ref (c p)) := fun H0 e0 Q q => h H0 e0 _ fun H1 e1 => ⟨a, rfl, ⟨_, ex_l (e0.trans e1) (sq_of ha)⟩, fun D hD => by
  generalize hG : (fun w : Addr × List PRow => w.2.map fun p => V.ref (c p)) = G at *
  have x01 := e0.trans e1
  have pre : ∀ i, ((wps.take i).flatMap G).length ≤ (wps.flatMap G).length := fun i => by
    conv => rhs; rw [← List.take_append_drop i wps, List.flatMap_append, List.length_append]
    omega
  refine ⟨fun i m H' => m = wps.length - i ∧ i ≤ wps.length ∧ Ex H1 H' ∧ H' D = some (.lst ((wps.take i).flatMap G)), ⟨_, rfl, Nat.zero_le _, Ex.new hD, upd_same⟩, ?_⟩
  rintro i m H' ⟨rfl, hi, x, hd⟩
  have hs := ex_l (x01.trans x) (sq_of (K := K) ha)
  by_cases hlt : i < wps.length
  · have hwi : wps[i]? = some wps[i] := List.getElem?_eq_getElem hlt
    have hmem := List.getElem_mem hlt
    have htk : wps.take (i + 1) = wps.take i ++ [wps[i]] := by rw [List.take_add_one, hwi]; rfl
    have hpre := pre (i + 1)
    rw [htk, List.flatMap_append, List.length_append] at hpre
    generalize wps[i] = w at hwi hmem htk hpre
    have hGw : [w].flatMap G = G w := by simp
    rw [hGw] at hpre
    refine .inr ⟨⟨_, _, hs, by rw [List.getElem?_map, hwi]; rfl⟩, fun H2 => Ex H1 H2 ∧ H2 D = some (.lst ((wps.take (i + 1)).flatMap G)), fun H2 p => ⟨wps.length - (i + 1), by omega, rfl, hlt, p.1, p.2⟩, fun z H2 y => ?_⟩
    obtain ⟨e, y⟩ := y
    subst e
    have ez := y _ hs
    rw [List.getElem?_map, hwi] at ez
    obtain rfl := Option.some.inj ez
    have hsw := ex_l (x01.trans x) (sq_of (K := K) (hw w hmem))
    have lw : (refP w.2).length = w.2.length := List.length_map ..
    have lG : (G w).length = w.2.length := by rw [← hG]; exact List.length_map ..
    refine ⟨h1 _, ?_⟩
    unfold tYes
    simp only [↓reduceIte]
    unfold iList
    unfold tVar
    refine ⟨_, h2 _, w.1, rfl, ⟨_, hsw⟩, fun k m' H3 => m' = w.2.length - k ∧ k ≤ w.2.length ∧ Ex H1 H3 ∧ H3 D = some (.lst ((wps.take i).flatMap G ++ (G w).take k)), ⟨_, rfl, Nat.zero_le _, x, by rw [List.take_zero, List.append_nil]; exact hd⟩, ?_⟩
    rintro k m' H3 ⟨rfl, hk, x3, hd3⟩
    have hs3 := ex_l (x01.trans x3) (sq_of (K := K) (hw w hmem))
    by_cases hkl : k < w.2.length
    · have hpk : w.2[k]? = some w.2[k] := List.getElem?_eq_getElem hkl
      have hpm := List.getElem_mem hkl
      generalize w.2[k] = p at hpk hpm
      obtain ⟨t1, t2, ht⟩ := hp w hmem p hpm
      refine .inr ⟨⟨_, _, hs3, by unfold refP; rw [List.getElem?_map, hpk]; rfl⟩, fun H4 => Ex H1 H4 ∧ H4 D = some (.lst ((wps.take i).flatMap G ++ (G w).take (k + 1))), fun H4 p => ⟨w.2.length - (k + 1), by omega, rfl, hkl, p.1, p.2⟩, fun z H4 y => ?_⟩
      obtain ⟨e, y⟩ := y
      subst e
      have ez := y _ hs3
      unfold refP at ez
      rw [List.getElem?_map, hpk] at ez
      obtain rfl := Option.some.inj ez
      refine gt3 (st_of ((x01.trans x3) _ _ ht)) ⟨h3 _ _ _ _, ?_⟩
      refine ⟨_, h4 _ _ _ _, _, hd3, sz_lt ?_, Ex.mut x3 hD, ?_⟩
      · rw [List.length_append, List.length_take]
        omega
      · rw [upd_same, List.append_assoc]
        have : (G w).take (k + 1) = (G w).take k ++ [V.ref (c p)] := by
          rw [List.take_add_one, ← hG, List.getElem?_map, hpk]
          rfl
        rw [this]
    · refine .inl ⟨⟨refP w.2, hs3, by rw [lw]; omega⟩, x3, ?_⟩
      rw [hd3, List.take_of_length_le (show (G w).length ≤ k by omega), htk, List.flatMap_append, hGw]
  · have e : i = wps.length := by omega
    subst e
    rw [List.take_length] at hd
    exact .inl ⟨⟨_, hs, by rw [List.length_map]; exact Nat.le_refl _⟩, q D H' (fresh_back e1 hD) (e1.trans x) hd⟩⟩
theorem al2_inX {qs : List Addr} {L : List α} (h : Al2 R H qs L) {i : Nat} {x : V} (hi : (qs.map V.ref)[i]? = some x) : ∃ q l, x = .ref q ∧ qs[i]? = some q ∧ L[i]? = some l ∧ R H q l := by
  rw [List.getElem?_map] at hi
  obtain ⟨q, hq, rfl⟩ := Option.map_eq_some_iff.mp hi
  have hlt : i < L.length := by rw [← h.1]; exact (List.getElem?_eq_some_iff.mp hq).1
  exact ⟨q, L[i], rfl, hq, List.getElem?_eq_getElem hlt, h.2 i q _ hq (List.getElem?_eq_getElem hlt)⟩
theorem Al2.appX {qs rs : List Addr} {L M : List α} (h : Al2 R H qs L) (h2 : Al2 R H rs M) : Al2 R H (qs ++ rs) (L ++ M) := by
  refine ⟨by rw [List.length_append, List.length_append, h.1, h2.1], fun i q l a b => ?_⟩
  by_cases hi : i < qs.length
  · rw [List.getElem?_append_left hi] at a
    rw [List.getElem?_append_left (by rw [← h.1]; exact hi)] at b
    exact h.2 i q l a b
  · rw [List.getElem?_append_right (by omega)] at a
    rw [List.getElem?_append_right (by rw [← h.1]; omega)] at b
    rw [← h.1] at b
    exact h2.2 _ q l a b
theorem t_if {b : Bool} {Q : VK} (h : EvT t σ H b) (h1 : b = true → ∀ H1, Ex H H1 → ta σ H1 Q) (h2 : b = false → ∀ H1, Ex H H1 → tb σ H1 Q) : tIf t ta tb σ H Q := h H (Ex.refl H) _ fun H1 e1 => by
  cases b with
  | true => exact h1 rfl H1 e1
  | false => exact h2 rfl H1 e1
theorem s_asgO {i : Nat} {R : Hp → Addr → Prop} (h : EvRo R te σ H) (k : ∀ p H1, H p = none → Ex H H1 → R H1 p → D.nx (σ.set i (some (.ref p))) H1) : tAsg te (gName i) D σ H := h H (Ex.refl H) _ k
theorem q_asgX {i : Nat} {G : Addr → Hp → Prop} (h : ∀ Q' : VK, (∀ p H2, G p H2 → Q' (.ref p) H2) → te σ H Q') (k : ∀ p H2, G p H2 → tz D (σ.set i (some (.ref p))) H2) : tSeq (tAsg te (gName i)) tz D σ H := h _ fun p H2 hp => k p H2 hp
theorem s_retX (h : te σ H D.rt) : tRet te D σ H := h
theorem lc_src3 {tr : TA} {g : TG} {tt : TT} {vs : List Nat} {n c m : Nat} {Q : VK} (h : EvA tr σ H [.int 0, .int (n : Int), .int (c : Int)]) (hr : RgC 0 (n : Int) (c : Int) m)
    (k : ∀ H1, Ex H H1 → ∀ D, H1 D = none → ∃ W : Nat → Nat → Hp → Prop, (∃ m0, W 0 m0 (upd H1 D (.lst []))) ∧ ∀ i m0 H, W i m0 H → ((Itc 0 (c : Int) m).stop i H ∧ Q (.ref D) H) ∨ ((Itc 0 (c : Int) m).go i H ∧ ∃ Nx : Hp → Prop, (∀ H', Nx H' → ∃ m', m' < m0 ∧ W (i + 1) m' H') ∧ ∀ x H', (Itc 0 (c : Int) m).yld i H x H' → g x (wipe σ vs) H' fun σ2 H2 => wipe σ2 vs = wipe σ vs ∧ tt σ2 H2 fun b H3 => if b = true then te σ2 H3 fun y H4 => ∃ acc, H4 D = some (.lst acc) ∧ acc.length < sizeLine ∧ Nx (upd H4 D (.lst (acc ++ [y]))) else Nx H3)) : tLc (iRng3 tr) g tt te vs σ H Q := h H (Ex.refl H) _ fun H1 e1 => ⟨0, n, c, m, rfl, hr, k H1 e1⟩
end
section
variable {P : Program} {w : World} {K : PySem.W.Frag} {mg : Str → Option Value} {base : Heap}
theorem WtR.of {ks : List SKey} {H : Hp} {p : Addr} {qs : List Addr} {L : List (List V)} (h : H p = some (.lst (qs.map V.ref))) (hA : Al2 (fun H q r => RkdAt ks H q r ∧ RowG r) H qs L) : WtR ks H p L := by
  obtain ⟨z1, z2, z3⟩ := hA.zip
  have e : refP (qs.zip L) = ((qs.zip L).map (·.1)).map V.ref := by
    unfold refP
    rw [List.map_map]
    rfl
  exact ⟨qs.zip L, by rw [h, e, z1], z3, z2⟩
def cOf (H : Hp) (p : PRow) : Addr := match H p.1 with
  | some (.tup [_, _, .ref c]) => c
  | _ => 0
theorem cOf_at {ks : List SKey} {H : Hp} {p : PRow} (h : RkdAt ks H p.1 p.2) : ∃ x y, H p.1 = some (.tup [x, y, .ref (cOf H p)]) ∧ H (cOf H p) = some (.lst p.2) := by
  obtain ⟨l, b, c, ts, h1, h2, h3, h4, h5⟩ := h
  have e : cOf H p = c := by unfold cOf; rw [h1]
  rw [e]
  exact ⟨_, _, h1, h5⟩
theorem rows_al {ks : List SKey} {H H' : Hp} : ∀ {ps : List PRow}, RkdP ks H ps → Ex H H' → Al2 RowAt H' (ps.map (cOf H)) (ps.map (·.2))
  | ps, h, e => ⟨by rw [List.length_map, List.length_map], fun i q l a b => by
    rw [List.getElem?_map] at a b
    cases hp : ps[i]? with
    | none => rw [hp] at a; cases a
    | some p =>
      rw [hp] at a b
      obtain rfl := Option.some.inj a
      obtain rfl := Option.some.inj b
      obtain ⟨x, y, _, h2⟩ := cOf_at (h p (List.mem_of_getElem? hp)).1
      exact e _ _ h2⟩
theorem ok_merge_runs (D : Dn K mg "merge_runs" s_merge_runs ["runs", "keys"]) (c__merged : C8.Cal P w K mg base 5 "_merged" (sp__merged K) []) (c__ranked : C8.Cal P w K mg base 20 "_ranked" (sp__ranked K) []) (z_len : mg "len" = none) (z_range : mg "range" = none) :
    C8.Cal P w K mg base 21 "merge_runs" (sp_merge_runs K) [] := by
  refine cal_of D sc_merge_runs (fun vs H Q E h => ?_) (fun f cdv A outer s H vs Q E hr h => ?_)
  · obtain ⟨_, _, _, _, rfl, _⟩ := h
    rfl
  refine ⟨_, (pss_cons (ps_set (i := 2) sc_merge_runs.nd rfl (.inr rfl) (pe_lc (own := [("run", 4)]) (g := gName 4) (tt := tYes) rfl sc_merge_runs.nd (pi_list (pv 0)) (blkOk_by (N := n_merge_runs) (sc := C8.fnScope s_merge_runs) (by decide +kernel)) (fun _ _ _ _ _ => pg_name (i := 4) sc_merge_runs.nd rfl (Or.inl rfl)) (fun _ _ _ _ _ => pts_nil) (fun _ _ _ _ _ => (pe_lc (own := [("row", 6)]) (g := gName 6) (tt := tYes) rfl sc_merge_runs.nd (pi_listK (K := K) rfl (pv 4)) (blkOk_by (N := n_merge_runs) (sc := _) (by kernel_rfl)) (fun _ _ _ _ _ => pg_name (i := 6) sc_merge_runs.nd rfl (Or.inl rfl)) (fun _ _ _ _ _ => pts_nil) (fun _ _ _ _ _ => (C8.pe_c c__ranked hr (by decide) (by rfl) (pa_cons (pv 6) (pa_cons (pv 1) pa_nil))))))))
    (pss_cons (ps_while PassesOwn.never (pt_cmpR op_gt (pe_callB call_len_seq (by rfl) z_len PySem.boot_len (pa_cons (pv 2) pa_nil)) pe_int (nomark _))
      (pss_cons (ps_setLc (i := 3) (own := [("at", 7)]) (g := gName 7) (tt := tYes) rfl sc_merge_runs.nd rfl rfl (sw_true rfl rfl rfl (by decide +kernel)) (pi_range3 rfl z_range (pa_cons pe_int (pa_cons (pe_callB call_len_seq (by rfl) z_len PySem.boot_len (pa_cons (pv 2) pa_nil)) (pa_cons pe_int pa_nil)))) (blkOk_by (N := n_merge_runs) (sc := C8.fnScope s_merge_runs) (by decide +kernel)) (fun _ _ _ _ _ => pg_name (i := 7) sc_merge_runs.nd rfl (Or.inl rfl)) (fun _ _ _ _ _ => pts_nil) (fun _ _ _ _ _ => (pe_slice (sl_listK (K := K) rfl) (pv 2) (po_some (pv 7)) (po_some (pe_op op_add (pv 7) pe_int)))))
    (pss_one (ps_set (i := 2) sc_merge_runs.nd rfl (.inr rfl) (pe_lc (own := [("pair", 8)]) (g := gName 8) (tt := tYes) rfl sc_merge_runs.nd (pi_list (pv 3)) (blkOk_by (N := n_merge_runs) (sc := C8.fnScope s_merge_runs) (by decide +kernel)) (fun _ _ _ _ _ => pg_name (i := 8) sc_merge_runs.nd rfl (Or.inl rfl)) (fun _ _ _ _ _ => pts_nil) (fun _ _ _ _ _ => (pe_ifExp (pt_cmpR op_eq (pe_callB (call_len_seqK (K := K) rfl) (by rfl) z_len PySem.boot_len (pa_cons (pv 8) pa_nil)) pe_int (nomark _)) (C8.pe_c c__merged hr (by decide) (by rfl) (pa_cons (pe_ix (ix_listK (K := K) rfl) (pv 8) pe_int (fun _ _ => rfl)) (pa_cons (pe_ix (ix_listK (K := K) rfl) (pv 8) pe_int (fun _ _ => rfl)) (pa_cons (pv 1) pa_nil)))) (pe_ix (ix_listK (K := K) rfl) (pv 8) pe_int (fun _ _ => rfl)))))))))
    (pss_one (ps_ret (pe_lc2 (own := [("run", 4), ("_", 5), ("row", 6)]) (vs1 := [5, 6]) (g := (gName 4)) (g1 := (gTup K 3 (gCons (gName 5) (gCons (gName 5) (gCons (gName 6) gNil))))) (tt := tYes) (tt1 := tYes) rfl sc_merge_runs.nd (pi_list (pv 2)) (blkOk_by (N := n_merge_runs) (sc := C8.fnScope s_merge_runs) (by decide +kernel)) (by decide) (fun _ _ _ _ _ => (pg_name (i := 4) sc_merge_runs.nd rfl (Or.inl rfl))) (fun _ _ _ _ _ => pts_nil) (fun _ _ _ _ _ => (pi_listK (K := K) rfl (pv 4))) (fun _ _ _ _ _ => (pg_tup rfl (pgs_cons (pg_name (i := 5) sc_merge_runs.nd rfl (Or.inl rfl)) (pgs_cons (pg_name (i := 5) sc_merge_runs.nd rfl (Or.inl rfl)) (pgs_cons (pg_name (i := 6) sc_merge_runs.nd rfl (Or.inl rfl)) pgs_nil))))) (fun _ _ _ _ _ => pts_nil) (fun _ _ _ _ _ => (pv 6))))))), ?_⟩
  obtain ⟨a, kt, ks, W, rfl, ⟨qa, hqa, hAa⟩, hk, ho, hso, hrow, hW, hF, q⟩ := h
  have la : (qa.map V.ref).length = W.length := by rw [List.length_map, hAa.1]
  have big : ∀ A ∈ W, A.length ≤ 100 := fun A hA => by
    have : A.length ≤ W.flatten.length := by
      obtain ⟨s, t, rfl⟩ := List.append_of_mem hA
      rw [List.flatten_append, List.flatten_cons, List.length_append, List.length_append]
      omega
    omega
  refine q_asgO (R := fun H p => Lst3 (WtR ks) H p W) (fun H0 e0 Q k => ?_) fun wv H1 hwv e1 h1 => ?_
  · refine er_lcD (K := K) (tl := tVar 0) (σ := [some (.ref a), some (.ref kt), none, none, none, none, none, none, none]) (R := WtR ks) WtR.mn (fun i => W.getD i []) (ev_var rfl) (ex_l e0 (sq_of hqa)) (by omega) (fun _ => rfl) (fun i x H1 D x1 hD hys hi Q1 q1 => ?_) H0 (Ex.refl H0) Q fun p H1 hp x1 hR => k p H1 hp x1 ?_
    · have x01 := e0.trans x1
      obtain ⟨b, A, rfl, hb, hA, hrun⟩ := al2_inX hAa hi
      have hmA := List.mem_of_getElem? hA
      have eA : W.getD i [] = A := by rw [List.getD_eq_getElem?_getD, hA]; rfl
      obtain ⟨qb, hqb, hAb⟩ := Lst2.mn RowAt.mn _ _ _ _ x01 hrun
      have lb : (qb.map V.ref).length = A.length := by rw [List.length_map, hAb.1]
      have hbig := big A hmA
      obtain ⟨ys, hys⟩ := hys
      refine er_lcD (K := K) (tl := tVar 4) (σ := (wipe [some (.ref a), some (.ref kt), none, none, none, none, none, none, none] [4]).set 4 (some (.ref b))) (R := fun H q r => RkdAt ks (wo D H) q r ∧ RowG r) (fun H H' q r e h => ⟨RkdAt.mn _ _ _ _ (wo_mono e) h.1, h.2⟩) (fun i => A.getD i []) (ev_var rfl) (sq_of hqb) (by omega) (fun _ => rfl) (fun i2 x2 H2 D2 x2e hD2 hys2 hi2 Q2 q2 => ?_) H1 (Ex.refl H1) Q1 fun p H2 hp x2 hR => q1 p H2 hp x2 ?_
      · obtain ⟨c, r, rfl, hc, hr, hrr⟩ := al2_inX hAb hi2
        have er : A.getD i2 [] = r := by rw [List.getD_eq_getElem?_getD, hr]; rfl
        obtain ⟨zs, hzs⟩ := hys2
        have hmr := List.mem_of_getElem? hr
        refine ⟨.ref c, rfl, .ref kt, rfl, c, kt, r, ks, rfl, sq_of (x2e _ _ hrr), hk.ex (x01.trans x2e), hrow A hmA r hmr, ho, fun p H3 hp x3 hR => q2 p H3 hp x3 ?_⟩
        rw [er]
        exact ⟨RkdAt.mn _ _ _ _ (nl_wo2 (x2e _ _ hys) hzs) hR, hrow A hmA r hmr⟩
      · rw [lb, range_getA] at hR
        obtain ⟨qs, g1, g2⟩ := hR
        have hpD : p ≠ D := fun z => by rw [z, hys] at hp; cases hp
        rw [eA]
        refine WtR.of (qs := qs) (by rw [wo_ne hpD]; exact g1) (g2.mono fun q l _ h => ⟨RkdAt.mn _ _ _ _ (wo_mono (wo_le p H2)) h.1, h.2⟩)
    · rw [la, range_getA] at hR
      exact hR
  obtain ⟨ws1, g1, g2⟩ := h1
  refine q_while (fun m σ' H' => ∃ (wv : Addr) (W' : List (List (List V))) (v3 : Option V), σ' = [some (.ref a), some (.ref kt), some (.ref wv), v3, none, none, none, none, none] ∧ Ex H H' ∧ Lst2 (WtR ks) H' wv W' ∧ W'.flatten.Perm W.flatten ∧ (∀ A ∈ W', SortedR ks A) ∧ W'.length ≤ 100 ∧ m = W'.length) W.length ⟨wv, W, none, rfl, e1, ⟨ws1, g1, g2.mono fun q l _ h => WtR.mn _ _ _ _ (wo_le _ _) h⟩, .refl _, hso, hW, rfl⟩ fun m σ' H' pv => ?_
  obtain ⟨wv', W', v3, rfl, x, ⟨ws, hws, hAw⟩, hpm, hsd, hl, rfl⟩ := pv
  have lw : (ws.map V.ref).length = W'.length := by rw [List.length_map, hAw.1]
  refine ⟨decide (1 < W'.length), et_test (ev_is (ev_op (ev_len (ev_var rfl) (sq_of hws)) ev_c rv_I0) (by rw [lw]; congr 1; exact decide_eq_decide.mpr (by omega))), fun hb H2 e2 => ?_, fun hb H2 e2 => ?_⟩
  · have h1 := of_decide_eq_true hb
    refine ⟨fun σ2 H2 => ∃ m', m' < W'.length ∧ ∃ (wv : Addr) (W' : List (List (List V))) (v3 : Option V), σ2 = [some (.ref a), some (.ref kt), some (.ref wv), v3, none, none, none, none, none] ∧ Ex H H2 ∧ Lst2 (WtR ks) H2 wv W' ∧ W'.flatten.Perm W.flatten ∧ (∀ A ∈ W', SortedR ks A) ∧ W'.length ≤ 100 ∧ m' = W'.length, fun σ2 H2 h => h, ?_⟩
    have x2 := x.trans e2
    refine q_asgO (R := fun H p => Lst3 (fun H p (c : List Addr) => H p = some (.lst (c.map V.ref))) H p ((List.range (stepsN W'.length 2)).map (chunk ws 2))) (fun H0 e0 Q k => ?_) fun pv H3 hpv e3 h3 => ?_
    · refine er_lcC (α := List Addr) (R := fun H p (c : List Addr) => H p = some (.lst (c.map V.ref))) (σ := [some (.ref a), some (.ref kt), some (.ref wv'), v3, none, none, none, none, none]) (H := H0) (tr := tCons (tC (.int 0)) (tCons (tCB (rLenS K) (tCons (tVar 2) tNil)) (tCons (tC (.int 2)) tNil))) (n := W'.length) (c := 2) (j := 7) (vs := [7]) (te := tSl (rSlL K) (tVar 2) (tPart (tVar 7)) (tPart (tOp (rI0 fun i j => .int (i + j)) (tVar 7) (tC (.int 2))))) (fun H H' q c e h => e _ _ h) (chunk ws 2) (ea_cons ev_c (ea_cons (ev_is (ev_len (ev_var rfl) (sq_of ((e2.trans e0) _ _ hws))) (by rw [lw])) (ea_cons ev_c ea_nil))) (by omega) (by decide) (by decide) (fun _ => rfl) (fun i H4 D x4 hD hys hi Q4 q4 => ?_) H0 (Ex.refl H0) Q k
      have hs := el_sl (K := K) (σ := (wipe [some (.ref a), some (.ref kt), some (.ref wv'), v3, none, none, none, none, none] [7]).set 7 (some (.int ((i * 2 : Nat) : Int)))) (H := H4) (te := tVar 2) (tl := tPart (tVar 7)) (th := tPart (tOp (rI0 fun i j => .int (i + j)) (tVar 7) (tC (.int 2)))) (lo := some ((i * 2 : Nat) : Int)) (hi := some ((i * 2 + 2 : Nat) : Int)) (ev_var rfl) (eo_some (ev_var rfl)) (eo_some (ev_is (ev_op (ev_var rfl) ev_c rv_I0) rfl)) (sq_of (((e2.trans e0).trans x4) _ _ hws))
      rw [cutV_nat] at hs
      obtain ⟨ys, hys⟩ := hys
      refine hs H4 (Ex.refl H4) Q4 fun p H5 hp e5 h5 => q4 p H5 hp e5 ?_
      show wo D H5 p = _
      rw [wo_ne (fun z => by rw [z, hys] at hp; cases hp), h5]
      unfold chunk
      rw [List.map_drop, List.map_take]
    obtain ⟨ps3, k1, k2⟩ := h3
    have x3 := x2.trans e3
    have hln : ((ps3.map V.ref)).length = stepsN W'.length 2 := by rw [List.length_map, k2.1, List.length_map, List.length_range]
    have hst : stepsN W'.length 2 ≤ W'.length := stepsN_le (by decide)
    refine s_asgO (R := fun H p => Lst3 (WtR ks) H p (pairUp ks W')) (fun H0 e0 Q k => ?_) fun wv2 H4 hwv2 e4 h4 => ?_
    · refine er_lcV (K := K) (R := WtR ks) (tl := tVar 3) (σ := [some (.ref a), some (.ref kt), some (.ref wv'), some (.ref pv), none, none, none, none, none]) (H := H0) (j := 8) (vs := [8]) WtR.mn (fun i => mrg2 ks (chunk W' 2 i)) (ev_var rfl) (sq_of (e0 _ _ k1)) (by omega) (fun _ => rfl) (fun i v H4 D x4 hD hys hi Q4 q4 => ?_) H0 (Ex.refl H0) Q fun p H5 hp e5 hR => k p H5 hp e5 ?_
      · have hilt : i < stepsN W'.length 2 := by have := (List.getElem?_eq_some_iff.mp hi).1; omega
        obtain ⟨c, hc, rfl⟩ : ∃ c, ps3[i]? = some c ∧ V.ref c = v := by
          rw [List.getElem?_map] at hi
          exact Option.map_eq_some_iff.mp hi
        have hcl := k2.2 i c (chunk ws 2 i) hc (by rw [List.getElem?_map, List.getElem?_range hilt]; rfl)
        have y4 : Ex H3 H4 := e0.trans x4
        have hcl4 : H4 c = some (.lst ((chunk ws 2 i).map V.ref)) := y4 _ _ (wo_le _ _ _ _ hcl)
        obtain ⟨ys, hys⟩ := hys
        have hD3 : H3 D = none := fresh_back e0 hD
        have w4 : Ex H' H4 := (e2.trans e3).trans y4
        rcases chunk_two hilt with ⟨A, B, hA, hB, eC⟩ | ⟨A, hA, hN, eC⟩
        · have hA2 : i * 2 < W'.length := (List.getElem?_eq_some_iff.mp hA).1
          have hB2 : i * 2 + 1 < W'.length := (List.getElem?_eq_some_iff.mp hB).1
          obtain ⟨qA, hqA, hwA⟩ := hAw.get hA2
          obtain ⟨qB, hqB, hwB⟩ := hAw.get hB2
          rw [(List.getElem?_eq_some_iff.mp hA).2] at hwA
          rw [(List.getElem?_eq_some_iff.mp hB).2] at hwB
          have ec : chunk ws 2 i = [qA, qB] := by
            rcases chunk_two (W := ws) (by rw [hAw.1]; exact hilt) with ⟨A', B', a1, a2, a3⟩ | ⟨A', a1, a2, a3⟩
            · rw [hqA] at a1
              rw [hqB] at a2
              rw [a3, Option.some.inj a1, Option.some.inj a2]
            · rw [hqB] at a2
              cases a2
          rw [ec] at hcl4
          obtain ⟨pA, f1, f2, f3⟩ := hwA
          obtain ⟨pB, f4, f5, f6⟩ := hwB
          have sA : (A.length ≤ 100) ∧ (B.length ≤ 100) := by
            have hlen : ∀ C, W'[i * 2]? = some C ∨ W'[i * 2 + 1]? = some C → C.length ≤ 100 := fun C hC => by
              have hm : C ∈ W' := hC.elim List.mem_of_getElem? List.mem_of_getElem?
              have : C.length ≤ W'.flatten.length := by
                obtain ⟨s, t, rfl⟩ := List.append_of_mem hm
                rw [List.flatten_append, List.flatten_cons, List.length_append, List.length_append]
                omega
              rw [hpm.length_eq] at this
              omega
            exact ⟨hlen A (.inl hA), hlen B (.inr hB)⟩
          have lpA : pA.length = A.length := by rw [← f3, List.length_map]
          have lpB : pB.length = B.length := by rw [← f6, List.length_map]
          have at0 : ∀ {H0 : Hp}, Ex H4 H0 → Ev (tOp (rIxL K) (tVar 8) (tC (.int 0))) ((wipe [some (.ref a), some (.ref kt), some (.ref wv'), some (.ref pv), none, none, none, none, none] [8]).set 8 (some (.ref c))) H0 (.ref qA) := fun e => ev_op (ev_var rfl) ev_c (rv_ixL (sq_of (e _ _ hcl4)) rfl)
          have at1 : ∀ {H0 : Hp}, Ex H4 H0 → Ev (tOp (rIxL K) (tVar 8) (tC (.int 1))) ((wipe [some (.ref a), some (.ref kt), some (.ref wv'), some (.ref pv), none, none, none, none, none] [8]).set 8 (some (.ref c))) H0 (.ref qB) := fun e => ev_op (ev_var rfl) ev_c (rv_ixL (sq_of (e _ _ hcl4)) rfl)
          refine t_if (b := true) (et_is (et_test (ev_op (ev_is (ev_len (ev_var rfl) (sq_of hcl4)) rfl) ev_c (rv_eq rfl))) rfl) (fun _ H5 e5 => ?_) (fun h => nomatch h)
          refine at0 e5 H5 (Ex.refl H5) _ fun H6 e6 => at1 (e5.trans e6) H6 (Ex.refl H6) _ fun H7 e7 => ⟨.ref kt, rfl, qA, qB, kt, ks, pA, pB, rfl, ?_, ?_, f2.mn (w4.trans ((e5.trans e6).trans e7)), f5.mn (w4.trans ((e5.trans e6).trans e7)), hk.ex ((x.trans w4).trans ((e5.trans e6).trans e7)), ho, by omega, fun p H8 hp e8 h8 => q4 p H8 (((e5.trans e6).trans e7).trans e8) ?_⟩
          · exact (w4.trans ((e5.trans e6).trans e7)) _ _ f1
          · exact (w4.trans ((e5.trans e6).trans e7)) _ _ f4
          have y8 := ((e5.trans e6).trans e7)
          have hpD : p ≠ D := fun z => by rw [z, y8 _ _ hys] at hp; cases hp
          have wD : Ex H' (wo D H8) := wx_to (fresh_back (e2.trans e3) hD3) ((w4.trans y8).trans e8)
          show WtR ks (wo D H8) p (mrg2 ks (chunk W' 2 i))
          rw [eC]
          refine ⟨mergeW (bhP ks) pA pB, by rw [wo_ne hpD]; exact h8, fun z hz => ?_, ?_⟩
          · rcases List.mem_append.mp (mergeW_perm.subset hz) with h | h
            · exact ⟨RkdAt.mn _ _ _ _ wD (f2 z h).1, (f2 z h).2⟩
            · exact ⟨RkdAt.mn _ _ _ _ wD (f5 z h).1, (f5 z h).2⟩
          · show (mergeW (fun p q => bhR ks p.2 q.2) pA pB).map (·.2) = mergeW (bhR ks) A B
            rw [mergeW_map (fun p : PRow => p.2), f3, f6]
        · have hA2 : i * 2 < W'.length := (List.getElem?_eq_some_iff.mp hA).1
          obtain ⟨qA, hqA, hwA⟩ := hAw.get hA2
          rw [(List.getElem?_eq_some_iff.mp hA).2] at hwA
          have ec : chunk ws 2 i = [qA] := by
            rcases chunk_two (W := ws) (by rw [hAw.1]; exact hilt) with ⟨A', B', a1, a2, a3⟩ | ⟨A', a1, a2, a3⟩
            · have h9 := (List.getElem?_eq_some_iff.mp a2).1
              rw [hAw.1] at h9
              have := List.getElem?_eq_none_iff.mp hN
              omega
            · rw [hqA] at a1
              rw [a3, Option.some.inj a1]
          rw [ec] at hcl4
          refine t_if (b := false) (et_is (et_test (ev_op (ev_is (ev_len (ev_var rfl) (sq_of hcl4)) rfl) ev_c (rv_eq rfl))) rfl) (fun h => nomatch h) fun _ H5 e5 => ?_
          refine (show Ev (tOp (rIxL K) (tVar 8) (tC (.int 0))) _ H5 (.ref qA) from ev_op (ev_var rfl) ev_c (rv_ixL (sq_of (e5 _ _ hcl4)) rfl)) H5 (Ex.refl H5) _ fun H6 e6 => q4 qA H6 (e5.trans e6) ?_
          have wD : Ex H' (wo D H6) := wx_to (fresh_back (e2.trans e3) hD3) (w4.trans (e5.trans e6))
          show WtR ks (wo D H6) qA (mrg2 ks (chunk W' 2 i))
          rw [eC]
          exact WtR.mn _ _ _ _ wD hwA
      · rw [hln] at hR
        exact hR
    obtain ⟨ws4, m1, m2⟩ := h4
    have hpl := pairUp_len ks W' h1
    exact ⟨(pairUp ks W').length, hpl, wv2, pairUp ks W', some (.ref pv), rfl, x3.trans e4, ⟨ws4, m1, m2.mono fun q l _ h => WtR.mn _ _ _ _ (wo_le _ _) h⟩, (pairUp_perm ks W').trans hpm, pairUp_sorted hsd, by omega, rfl⟩
  · have h1 : ¬ 1 < W'.length := of_decide_eq_false hb
    have hfl : W'.flatten.length ≤ 100 := by rw [hpm.length_eq]; exact hF
    have one : SortedR ks W'.flatten := by
      cases W' with
      | nil => exact .nil
      | cons A r =>
        cases r with
        | nil =>
          have : [A].flatten = A := by simp
          rw [this]
          exact hsd A List.mem_cons_self
        | cons B r => exact absurd (show 1 < (A :: B :: r).length by simp) h1
    have x2 := x.trans e2
    have hws2 := e2 _ _ hws
    have hAw2 : Al2 (WtR ks) H2 ws W' := hAw.mono fun q l _ h => WtR.mn _ _ _ _ e2 h
    obtain ⟨wps, u1, u2, u3⟩ : ∃ wps : List (Addr × List PRow), wps.map (·.1) = ws ∧ wps.map (fun w => w.2.map (·.2)) = W' ∧ ∀ w ∈ wps, H2 w.1 = some (.lst (refP w.2)) ∧ RkdP ks H2 w.2 := by
      clear hpm hsd lw h1 hfl one hAw hws hws2 hb
      induction W' generalizing ws with
      | nil =>
        have : ws = [] := List.eq_nil_of_length_eq_zero hAw2.1
        exact ⟨[], by rw [this]; rfl, rfl, fun w h => nomatch h⟩
      | cons A r ih =>
        cases ws with
        | nil => exact nomatch hAw2.1
        | cons q ws =>
          obtain ⟨ps, p1, p2, p3⟩ := hAw2.2 0 q A rfl rfl
          obtain ⟨wps, i1, i2, i3⟩ := ih (by rw [List.length_cons] at hl; omega) (ws := ws) ⟨Nat.succ.inj hAw2.1, fun i q l a b => hAw2.2 (i + 1) q l a b⟩
          refine ⟨(q, ps) :: wps, by rw [List.map_cons, i1], by rw [List.map_cons, i2]; show ps.map (·.2) :: r = _; rw [p3], fun w hw => ?_⟩
          rcases List.mem_cons.mp hw with z | z
          · rw [z]; exact ⟨p1, p2⟩
          · exact i3 w z
    have hfm : (wps.flatMap fun w => w.2.map fun p => p.2) = W'.flatten := by rw [← u2, List.flatMap_def]
    have hlen : (wps.flatMap fun w => w.2.map fun p => V.ref (cOf H2 p)).length = W'.flatten.length := by
      rw [← hfm]
      clear u1 u2 u3 hfm
      induction wps with
      | nil => rfl
      | cons w r ih => rw [List.flatMap_cons, List.flatMap_cons, List.length_append, List.length_append, ih, List.length_map, List.length_map]
    refine s_retL (el_lc2R (K := K) (wps := wps) (c := cOf H2) (a := wv') (ev_var rfl) (by rw [hws2, ← u1, List.map_map]; rfl) (fun w hw => (u3 w hw).1) (fun w hw p hp => ?_) (by omega) (fun _ => rfl) (fun _ => rfl) (fun _ _ _ _ => rfl) fun _ _ _ _ => rfl) fun p H3 hp e3 h3 => q p H3 W'.flatten (fresh_back x2 hp) (x2.trans e3) ⟨hpm, one⟩ ⟨wps.flatMap fun w => w.2.map (cOf H2), ?_, ?_⟩
    · obtain ⟨t1, t2, ht, _⟩ := cOf_at ((u3 w hw).2 p hp).1
      exact ⟨t1, t2, ht⟩
    · rw [h3, List.map_flatMap]
      congr 2
      congr 1
      funext w
      rw [List.map_map]
      rfl
    · rw [← hfm]
      clear u1 u2 hfm hlen h3
      induction wps with
      | nil => exact Al2.nil
      | cons w r ih =>
        rw [List.flatMap_cons, List.flatMap_cons]
        exact (rows_al (u3 w List.mem_cons_self).2 e3).appX (ih fun z hz => u3 z (List.mem_cons_of_mem _ hz))
end
theorem KeysAt.noT {K : PySem.W.Frag} {H : Hp} {a : Addr} {ks : List SKey} (h : KeysAt K H a ks) : KeysAt K (noT H) a ks := by
  obtain ⟨xs, h1, h2, h3⟩ := h
  exact ⟨xs, sq_noT h1, h2, fun i x k a b => (h3 i x k a b).noT⟩
theorem rows_noT {H H' : Hp} {p : Addr} {L : List (List V)} (e : Ex (noT H) H') (h : Lst2 RowAt H p L) : Lst2 RowAt H' p L := by
  obtain ⟨qs, h1, h2⟩ := h
  exact ⟨qs, e _ _ (noT_at h1 fun ps z => nomatch z), h2.mono fun q l _ h => e _ _ (noT_at h fun ps z => nomatch z)⟩
theorem tabS_lst {H : Hp} {P D : Addr} {q : Str} {acc acc' : List V} (h : LamX.TabS H P q) (hD : H D = some (.lst acc)) : LamX.TabS (upd H D (.lst acc')) P q := by
  obtain ⟨ps, h1, h2, h3⟩ := h
  refine ⟨ps, by rw [upd_ne (fun z => by rw [z, hD] at h1; cases h1)]; exact h1, h2, fun pos cv hc => ?_⟩
  obtain ⟨c, e1, e2⟩ := h3 pos cv hc
  refine ⟨c, e1, ?_⟩
  rw [upd_ne (fun z => by
    rw [z, hD] at e2
    have e3 := Option.some.inj e2
    unfold LamX.CodeO at e3
    cases e3)]
  exact e2
theorem LT.lst {K : PySem.W.Frag} {H : Hp} {D : Addr} {acc acc' : List V} (h : LT K H) (hD : H D = some (.lst acc)) : LT K (upd H D (.lst acc')) := ⟨tabS_lst h.1 hD, tabS_lst h.2.1 hD, h.2.2⟩
theorem LT.ex {K : PySem.W.Frag} {H H' : Hp} (h : LT K H) (e : Ex H H') : LT K H' := ⟨h.1.ext fun b o g => e b _ g, h.2.1.ext fun b o g => e b _ g, h.2.2⟩
theorem Kp.upd {H H' : Hp} {D : Addr} {o : HO} (h : Kp H H') : Kp H (upd H' D o) := fun b hb z => by
  by_cases e : b = D
  · rw [e, upd_same] at z; cases z
  · rw [upd_ne e] at z; exact h b hb z
theorem chunk_perm {α : Type} (L : List α) {c : Nat} (hc : 0 < c) : ((List.range (stepsN L.length c)).map (chunk L c)).flatten = L := by rw [chunk_flat, List.take_of_length_le (stepsN_all hc)]
theorem sorted_rows_ok (L : List (List V)) (ks : List SKey) : SortedR ks (sortRows L ks) := by
  rw [sortRows_eq]
  exact PySem.W.sort_pairwise (leAll_total ks) L
theorem sorts_uniq {L M : List (List V)} {ks : List SKey} (h : ∀ r ∈ L, OkR35 ks r) (p : M.Perm L) (s : SortedR ks M) : M = sortRows L ks :=
  List.Perm.eq_of_pairwise (le := fun a b => leAll ks a b = true) (fun a b ha hb h1 h2 => tkRow_inj (h a (p.subset ha)).1 (h b ((sortRows_perm L ks).subset hb)).1 (leAll_row h1 h2)) s (sorted_rows_ok L ks) (p.trans (sortRows_perm L ks).symm)
def sp_sort_rows (K : PySem.W.Frag) : Sp := fun vs H Q _ => ∃ (a kt : Addr) (ks : List SKey) (L : List (List V)) (mem : Nat), vs = [.ref a, .ref kt, .int (mem : Int)] ∧ Lst2 RowAt H a L ∧ KeysAt K H kt ks ∧ OkKs ks ∧ (∀ r ∈ L, RowG r) ∧ L.length ≤ 60 ∧ 0 < mem ∧ mem ≤ 1000 ∧ LT K H ∧
  ∀ p H', Ex (noT H) H' → LT K H' → Kp H H' → Lst2 RowAt H' p (sortRows L ks) → Q (.ref p) H'
def sp_sort_written (K : PySem.W.Frag) : Sp := fun vs H Q _ => ∃ (a : Addr) (xs : List V) (m : Int), vs = [.ref a, .int m] ∧ SqL K H a xs ∧ ∀ H', Ex H H' → Q (.int (if (xs.length : Int) > m then (xs.length : Int) else 0)) H'
section
variable {P : Program} {w : World} {K : PySem.W.Frag} {mg : Str → Option Value} {base : Heap}
theorem ok_sort_rows (D : Dn K mg "sort_rows" s_sort_rows ["rows", "keys", "memory"]) (c_merge_runs : C8.Cal P w K mg base 21 "merge_runs" (sp_merge_runs K) []) (c_sorted_rows : C8.Cal P w K mg base 22 "sorted_rows" (sp_sorted_rows K) []) (z_len : mg "len" = none) (z_range : mg "range" = none) :
    C8.Cal P w K mg base 24 "sort_rows" (sp_sort_rows K) [] := by
  refine cal_of D sc_sort_rows (fun vs H Q E h => ?_) (fun f cdv A outer s H vs Q E hr h => ?_)
  · obtain ⟨_, _, _, _, _, rfl, _⟩ := h
    rfl
  refine ⟨_, (pss_cons (ps_setLc (i := 3) (own := [("at", 4)]) (g := gName 4) (tt := tYes) rfl sc_sort_rows.nd rfl rfl (sw_true rfl rfl rfl (by decide +kernel)) (pi_range3 rfl z_range (pa_cons pe_int (pa_cons (pe_callB call_len_seq (by rfl) z_len PySem.boot_len (pa_cons (pv 0) pa_nil)) (pa_cons (pv 2) pa_nil)))) (blkOk_by (N := n_sort_rows) (sc := C8.fnScope s_sort_rows) (by decide +kernel)) (fun _ _ _ _ _ => pg_name (i := 4) sc_sort_rows.nd rfl (Or.inl rfl)) (fun _ _ _ _ _ => pts_nil) (fun _ _ _ _ _ => (C8.pe_c c_sorted_rows hr (by decide) (by rfl) (pa_cons (pe_slice (sl_listK (K := K) rfl) (pv 0) (po_some (pv 4)) (po_some (pe_op op_add (pv 4) (pv 2)))) (pa_cons (pv 1) pa_nil)))))
    (pss_one (ps_ret (pe_ifExp (pt_cmpR op_eq (pe_callB call_len_seq (by rfl) z_len PySem.boot_len (pa_cons (pv 3) pa_nil)) pe_int (nomark _)) (pe_ix ix_list (pv 3) pe_int (fun _ _ => rfl)) (C8.pe_c c_merge_runs hr (by decide) (by rfl) (pa_cons (pv 3) (pa_cons (pv 1) pa_nil))))))), ?_⟩
  obtain ⟨a, kt, ks, L, mem, rfl, ⟨qa, hqa, hAa⟩, hk, ho, hg, hl, h0, h1k, hT, q⟩ := h
  have la : (qa.map V.ref).length = L.length := by rw [List.length_map, hAa.1]
  have okR : ∀ r ∈ L, OkR35 ks r := fun r hr => (hg r hr).ok ho
  have hmc : ∀ i, ∀ r ∈ chunk L mem i, r ∈ L := fun i r hr => List.mem_of_mem_take (List.mem_of_mem_drop hr)
  have hcl : ∀ i, (chunk L mem i).length ≤ L.length := fun i => by
    unfold chunk
    rw [List.length_drop, List.length_take]
    omega
  refine q_asgX (te := tLc (iRng3 (tCons (tC (.int 0)) (tCons (tCB (rLenS K) (tCons (tVar 0) tNil)) (tCons (tVar 2) tNil)))) (gName 4) tYes (tCall (sp_sorted_rows K) [] C8.E0 (tCons (tSl (rSlL K) (tVar 0) (tPart (tVar 4)) (tPart (tOp (rI0 fun i j => .int (i + j)) (tVar 4) (tVar 2)))) (tCons (tVar 1) tNil))) [4]) (G := fun D H' => Ex (noT H) H' ∧ LT K H' ∧ Kp H H' ∧ ∃ qs, H' D = some (.lst (qs.map V.ref)) ∧ Al2 (Lst2 RowAt) H' qs ((List.range (stepsN L.length mem)).map fun i => sortRows (chunk L mem i) ks)) (fun Q' k => ?_) fun D H1 hG => ?_
  · have hE : EvA (tCons (tC (.int 0)) (tCons (tCB (rLenS K) (tCons (tVar 0) tNil)) (tCons (tVar 2) tNil))) [some (.ref a), some (.ref kt), some (.int (mem : Int)), none, none] H [.int 0, .int (L.length : Int), .int (mem : Int)] := ea_cons ev_c (ea_cons (ev_is (ev_len (ev_var rfl) (sq_of hqa)) (by rw [la])) (ea_cons (ev_var rfl) ea_nil))
    refine lc_src3 hE (RgC.up (by omega) h0 (by omega)) fun H1 e1 D hD => ?_
    have hD0 : H D = none := fresh_back e1 hD
    refine lc_rangeC (lo := 0) (c := (mem : Int)) (n := stepsN L.length mem) (fun i H' => Ex (noT H) H' ∧ LT K H' ∧ Kp H H' ∧ ∃ qs, H' D = some (.lst (qs.map V.ref)) ∧ Al2 (Lst2 RowAt) (wo D H') qs ((List.range i).map fun i => sortRows (chunk L mem i) ks)) ⟨Ex.mut ((noT_le H).trans e1) (by unfold noT; rw [hD0]), (hT.ex e1).ex (Ex.new hD), (Kp.of e1).trans (Kp.of (Ex.new hD)), [], upd_same, Al2.nil⟩ (fun i H' hi p => ?_) fun H' p => ?_
    · obtain ⟨x, hT', kp, qs, hqs, hA⟩ := p
      have e9 : (0 : Int) + ((i : Nat) : Int) * (mem : Int) = ((i * mem : Nat) : Int) := by rw [Int.natCast_mul, Int.zero_add]
      refine ⟨rfl, ?_⟩
      unfold tYes
      simp only [↓reduceIte]
      have hs := el_sl (K := K) (σ := (wipe [some (.ref a), some (.ref kt), some (.int (mem : Int)), none, none] [4]).set 4 (some (.int ((0 : Int) + ((i : Nat) : Int) * (mem : Int))))) (H := H') (te := tVar 0) (tl := tPart (tVar 4)) (th := tPart (tOp (rI0 fun i j => .int (i + j)) (tVar 4) (tVar 2))) (lo := some ((i * mem : Nat) : Int)) (hi := some ((i * mem + mem : Nat) : Int)) (ev_var rfl) (eo_some (ev_is (ev_var rfl) (by rw [e9]))) (eo_some (ev_is (ev_op (ev_var rfl) (ev_var rfl) rv_I0) (by rw [e9, Int.natCast_add]))) (ex_l x (sq_noT (sq_of hqa)))
      rw [cutV_nat] at hs
      refine hs H' (Ex.refl H') (fun x Ha => tCons (tVar 1) tNil _ Ha fun xs Hb => _) fun pS H4 hpS e4 h4 => ⟨.ref kt, rfl, ?_⟩
      have x4 : Ex (noT H) H4 := x.trans e4
      have ch : Lst2 RowAt H4 pS (chunk L mem i) := ⟨chunk qa mem i, by rw [h4]; unfold chunk; rw [List.map_drop, List.map_take], (hAa.cut mem i).mono fun q l _ h => x4 _ _ (noT_at h fun ps z => nomatch z)⟩
      refine ⟨pS, kt, chunk L mem i, ks, rfl, ch, (hk.noT.ex x4).sq, Nat.le_trans (hcl i) hl, ho.1, fun r hr => hg r (hmc i r hr), ho.2, hT'.ex e4, fun p H5 hp x5 hT5 k5 h5 => ?_⟩
      have hqs4 := e4 _ _ hqs
      have hqs5 := x5 _ _ (noT_at hqs4 fun ps z => nomatch z)
      have x45 : Ex (noT H') H5 := (noT_mono ((noT_le H').trans e4)).trans x5
      have lq : qs.length = i := by have := hA.1; rw [List.length_map, List.length_range] at this; exact this
      have hsl := stepsN_le (n := L.length) h0
      refine ⟨_, hqs5, sz_lt (by rw [List.length_map]; omega), Ex.mut ((noT_mono x).trans x45) (by unfold noT; rw [hD0]), hT5.lst hqs5, (((kp.trans (Kp.of e4)).trans k5)).upd, qs ++ [p], by rw [upd_same, List.map_append]; rfl, ?_⟩
      rw [wo_upd, List.range_succ, List.map_append]
      have hpD : p ≠ D := fun z => by rw [z, hqs4] at hp; cases hp
      refine (hA.mono fun q M _ hM => ?_).snoc ?_
      · refine rows_noT (H := wo D H') (fun b o hb => ?_) hM
        have hbD : b ≠ D := fun z => by
          have := noT_le _ _ _ hb
          rw [z, wo_self] at this
          cases this
        rw [wo_ne hbD]
        refine x45 b o ?_
        unfold noT at hb ⊢
        rw [wo_ne hbD] at hb
        exact hb
      · obtain ⟨us, u1, u2⟩ := h5
        refine ⟨us, by rw [wo_ne hpD]; exact u1, u2.mono fun q l _ h => ?_⟩
        show wo D H5 q = _
        rw [wo_ne (fun z => by have h9 := h.1; rw [z, hqs4] at h9; cases h9)]
        exact h.2
    · obtain ⟨x, hT', kp, qs, hqs, hA⟩ := p
      exact k D H' ⟨x, hT', kp, qs, hqs, hA.mono fun q M _ hM => Lst2.mn RowAt.mn _ _ _ _ (wo_le _ _) hM⟩
  obtain ⟨x1, hT1, kp1, qs, hqs, hA⟩ := hG
  have hn : (qs.map V.ref).length = stepsN L.length mem := by rw [List.length_map, hA.1, List.length_map, List.length_range]
  have hsl := stepsN_le (n := L.length) h0
  have hcp := chunk_perm L h0
  refine s_retX (t_if (b := decide (V.int ((stepsN L.length mem : Nat) : Int) = V.int 1)) (et_test (ev_op (ev_is (ev_len (ev_var rfl) (sq_of hqs)) (by rw [hn])) ev_c (rv_eq rfl))) (fun hb H2 e2 => ?_) fun hb H2 e2 => ?_)
  · have h1 : stepsN L.length mem = 1 := by
      have := V.int.inj (of_decide_eq_true hb)
      omega
    rw [h1] at hA hcp
    have hch : chunk L mem 0 = L := by simpa using hcp
    obtain ⟨q0, hq0, hm⟩ := hA.get (i := 0) (by simp)
    have hm2 : Lst2 RowAt H1 q0 (sortRows L ks) := by
      have : ((List.range 1).map fun i => sortRows (chunk L mem i) ks)[0] = sortRows L ks := by simp [hch]
      rw [this] at hm
      exact hm
    refine (show Ev (tOp (rIxL K) (tVar 3) (tC (.int 0))) _ H2 (.ref q0) from ev_op (ev_var rfl) ev_c (rv_ixL (sq_of (e2 _ _ hqs)) (show atI (qs.map V.ref) ((0 : Nat) : Int) = some (V.ref q0) from atI_nat (by rw [List.getElem?_map, hq0]; rfl)))) H2 (Ex.refl H2) _ fun H3 e3 => q q0 H3 (x1.trans (e2.trans e3)) (hT1.ex (e2.trans e3)) (kp1.trans (Kp.of (e2.trans e3))) (Lst2.mn RowAt.mn _ _ _ _ (e2.trans e3) hm2)
  · have hperm : ((List.range (stepsN L.length mem)).map fun i => sortRows (chunk L mem i) ks).flatten.Perm L := by
      refine (flat_perm fun i _ => sortRows_perm (chunk L mem i) ks).trans ?_
      rw [hcp]
    refine ⟨.ref D, rfl, .ref kt, rfl, D, kt, ks, (List.range (stepsN L.length mem)).map fun i => sortRows (chunk L mem i) ks, rfl, ⟨qs, e2 _ _ hqs, hA.mono fun q l _ h => Lst2.mn RowAt.mn _ _ _ _ e2 h⟩, hk.noT.ex (x1.trans e2), ho, fun A hA => ?_, fun A hA r hr => ?_, by rw [List.length_map, List.length_range]; omega, by rw [hperm.length_eq]; omega, fun p H3 M hp e3 hM hR => ?_⟩
    · obtain ⟨i, _, rfl⟩ := List.mem_map.mp hA
      exact sorted_rows_ok _ _
    · obtain ⟨i, _, rfl⟩ := List.mem_map.mp hA
      exact hg r (hmc i r ((sortRows_perm _ _).subset hr))
    · rw [sorts_uniq okR (hM.1.trans hperm) hM.2] at hR
      exact q p H3 (x1.trans (e2.trans e3)) (hT1.ex (e2.trans e3)) (kp1.trans (Kp.of (e2.trans e3))) hR
theorem ok_sort_written (D : Dn K mg "sort_written" s_sort_written ["rows", "memory"]) (z_len : mg "len" = none) :
    C8.Cal P w K mg base 1 "sort_written" (sp_sort_written K) [] := by
  refine cal_of D sc_sort_written (fun vs H Q E h => ?_) (fun f cdv A outer s H vs Q E hr h => ?_)
  · obtain ⟨_, _, _, rfl, _⟩ := h
    rfl
  refine ⟨_, (pss_one (ps_ret (pe_ifExp (pt_cmpR op_gt (pe_callB call_len_seq (by rfl) z_len PySem.boot_len (pa_cons (pv 0) pa_nil)) (pv 1) (nomark _)) (pe_callB call_len_seq (by rfl) z_len PySem.boot_len (pa_cons (pv 0) pa_nil)) pe_int))), ?_⟩
  obtain ⟨a, xs, m, rfl, hS, q⟩ := h
  refine s_ret (ev_if (b := decide ((xs.length : Int) > m)) (et_test (ev_op (ev_len (ev_var rfl) hS) (ev_var rfl) rv_I0)) (fun hb => ev_is (ev_len (ev_var rfl) hS) (by rw [if_pos (of_decide_eq_true hb)])) fun hb => ev_is ev_c (by rw [if_neg (of_decide_eq_false hb)])) fun H1 e1 => q H1 e1
end
section
variable {α : Type} {le : α → α → Bool}
def uptoN (le : α → α → Bool) (x : α) (l : List α) : Nat := (l.filter fun o => le o x).length
theorem dlt (B : List α) (k : Nat) (h : k ≤ B.length) : (B.take k).dropLast = B.take (k - 1) := by
  rw [List.dropLast_eq_take, List.length_take, List.take_take]
  congr 1
  omega
theorem upto_split (h : PySem.W.TotalLe le) (x : α) {l : List α} (hp : l.Pairwise fun a b => le a b = true) : uptoN le x l ≤ l.length ∧ (∀ i y, l[i]? = some y → (i < uptoN le x l → le y x = true) ∧ (uptoN le x l ≤ i → le y x = false)) := by
  obtain ⟨A, B, e, h1, h2, h3⟩ := split_le h x hp
  have hu : uptoN le x l = A.length := by unfold uptoN; rw [h3]
  rw [hu]
  subst e
  refine ⟨by rw [List.length_append]; omega, fun i y hy => ⟨fun hi => ?_, fun hi => ?_⟩⟩
  · rw [List.getElem?_append_left hi] at hy
    exact h1 y (List.mem_of_getElem? hy)
  · rw [List.getElem?_append_right hi] at hy
    exact h2 y (List.mem_of_getElem? hy)
theorem ins_take (h : PySem.W.TotalLe le) (x : α) {S : List α} (hp : S.Pairwise fun a b => le a b = true) (m : Nat) :
    (insLe le x S).take m = if uptoN le x (S.take m) < m then (if (S.take m).length = m then (S.take m).dropLast else S.take m).take (uptoN le x (S.take m)) ++ [x] ++ (if (S.take m).length = m then (S.take m).dropLast else S.take m).drop (uptoN le x (S.take m)) else S.take m := by
  obtain ⟨A, B, e, h1, h2, h3⟩ := split_le h x hp
  have hi : insLe le x S = A ++ x :: B := by
    unfold insLe
    rw [h3, e, List.take_left' rfl, List.drop_left' rfl, List.append_assoc]
    rfl
  have fA : ∀ l : List α, (∀ a ∈ l, le a x = true) → l.filter (fun o => le o x) = l := fun l hl => List.filter_eq_self.mpr hl
  have fB : ∀ l : List α, (∀ b ∈ l, le b x = false) → l.filter (fun o => le o x) = [] := fun l hl => List.filter_eq_nil_iff.mpr fun b hb z => by rw [hl b hb] at z; cases z
  have ht : S.take m = A.take m ++ B.take (m - A.length) := by rw [e, List.take_append]
  have hu : uptoN le x (S.take m) = min m A.length := by
    unfold uptoN
    rw [ht, List.filter_append, fA _ fun a ha => h1 a (List.mem_of_mem_take ha), fB _ fun b hb => h2 b (List.mem_of_mem_take hb), List.append_nil, List.length_take]
  rw [hi, hu, ht]
  by_cases hm : A.length < m
  · rw [Nat.min_eq_right (by omega), if_pos hm, List.take_of_length_le (show A.length ≤ m by omega), List.take_append, List.take_of_length_le (show A.length ≤ m by omega)]
    have hx : (x :: B).take (m - A.length) = x :: B.take (m - A.length - 1) := by
      obtain ⟨k, hk⟩ : ∃ k, m - A.length = k + 1 := ⟨m - A.length - 1, by omega⟩
      rw [hk, List.take_succ_cons, Nat.add_sub_cancel]
    rw [hx]
    by_cases hB : m - A.length ≤ B.length
    · rw [if_pos (by rw [List.length_append, List.length_take]; omega)]
      have hd : (A ++ B.take (m - A.length)).dropLast = A ++ B.take (m - A.length - 1) := by
        rw [List.dropLast_append_of_ne_nil (by
          intro z
          have h9 := congrArg List.length z
          rw [List.length_take, List.length_nil] at h9
          omega), dlt B _ hB]
      rw [hd, List.take_left' rfl, List.drop_left' rfl, List.append_assoc]
      rfl
    · rw [if_neg (by rw [List.length_append, List.length_take]; omega), List.take_of_length_le (show B.length ≤ m - A.length by omega), List.take_of_length_le (show B.length ≤ m - A.length - 1 by omega), List.take_left' rfl, List.drop_left' rfl, List.append_assoc]
      rfl
  · rw [Nat.min_eq_left (by omega), if_neg (by omega), List.take_append, show m - A.length = 0 by omega]
    rfl
end
def sp__place_of (K : PySem.W.Frag) : Sp := fun vs H Q _ => ∃ (t l kt : Addr) (r : List V) (ks : List SKey) (ps : List PRow), vs = [.ref t, .ref l, .ref kt] ∧ RkdAt ks H t r ∧ RowG r ∧ H l = some (.lst (refP ps)) ∧ RkdP ks H ps ∧ SortedR ks (ps.map (·.2)) ∧ KeysAt K H kt ks ∧ OkKs ks ∧ ps.length ≤ 1000 ∧ ∀ H', Ex H H' → Q (.int (uptoN (leAll ks) r (ps.map (·.2)) : Nat)) H'
def sp__first_rows (K : PySem.W.Frag) : Sp := fun vs H Q _ => ∃ (a kt : Addr) (ks : List SKey) (L : List (List V)) (m : Nat), vs = [.ref a, .ref kt, .int (m : Int)] ∧ Lst2 RowAt H a L ∧ KeysAt K H kt ks ∧ OkKs ks ∧ (∀ r ∈ L, RowG r) ∧ L.length ≤ 60 ∧ ∀ p H', H p = none → Ex H H' → Lst2 RowAt H' p ((sortRows L ks).take m) → Q (.ref p) H'
def keptB (skip : Nat) (count : Option Nat) (mem : Nat) : Bool := match count with
  | none => false
  | some c => decide (skip + c ≤ mem)
def sp__is_kept (K : PySem.W.Frag) : Sp := fun vs H Q _ => ∃ (skip : Nat) (count : Option Nat) (mem : Nat), vs = [.int (skip : Int), optV count, .int (mem : Int)] ∧ ∀ H', Ex H H' → Q (.bl (keptB skip count mem)) H'
section
variable {K : PySem.W.Frag} {σ : L2.St} {H : Hp} {te ta tb tc tl : TE} {t : TT} {D : Ends} {tz : TS} {E : XK}
/-- [row for _, _, row in rows] -/
theorem el_lcR {a : Addr} {ps : List PRow} {c : PRow → Addr} {u v : Nat} {vs : List Nat} (h : Ev tl σ H (.ref a)) (ha : H a = some (.lst (refP ps))) (hp : ∀ p ∈ ps, ∃ x y, H p.1 = some (.tup [x, y, .ref (c p)])) (hz : ps.length ≤ 40000)
    (h3 : ∀ y y' z, wipe ((((wipe σ vs).set u (some y)).set u (some y')).set v (some z)) vs = wipe σ vs) (h4 : ∀ y y' z, ((((wipe σ vs).set u (some y)).set u (some y')).set v (some z))[v]? = some (some z)) :
    EvL (tLc (iList K tl) (gTup K 3 (gCons (gName u) (gCons (gName u) (gCons (gName v) gNil)))) tYes (tVar v) vs) σ H (ps.map fun p => V.ref (c p)) := fun H0 e0 Q q => h H0 e0 _ fun H1 e1 => ⟨a, rfl, ⟨_, ex_l (e0.trans e1) (sq_of ha)⟩, fun D hD =>
  lc_list (xs := refP ps) (fun i H' => H1 D = none ∧ Ex H1 H' ∧ H' D = some (.lst ((ps.map fun p => V.ref (c p)).take i))) ⟨hD, Ex.new hD, upd_same⟩ (fun i H' _ p => ex_l ((e0.trans e1).trans p.2.1) (sq_of ha))
    (fun n x H' hi p => by
      obtain ⟨p1, p2, p3⟩ := p
      obtain ⟨z, hz2, rfl⟩ := refP_at hi
      obtain ⟨t1, t2, ht⟩ := hp z (List.mem_of_getElem? hz2)
      refine gt3 (st_of (((e0.trans e1).trans p2) _ _ ht)) ⟨h3 _ _ _, ?_⟩
      unfold tYes
      simp only [↓reduceIte]
      have hlt := (List.getElem?_eq_some_iff.mp hz2).1
      refine ⟨_, h4 _ _ _, _, p3, sz_lt ?_, p1, Ex.mut p2 p1, ?_⟩
      · rw [List.length_take, List.length_map]
        omega
      · rw [upd_same, List.take_add_one, List.getElem?_map, hz2]
        rfl)
    (fun H' p => by
      obtain ⟨p1, p2, p3⟩ := p
      rw [show (refP ps).length = (ps.map fun p => V.ref (c p)).length by unfold refP; rw [List.length_map, List.length_map], List.take_length] at p3
      exact q D H' (fresh_back e1 p1) (e1.trans p2) p3)⟩
theorem q_popD {l : Addr} {xs : List V} {y : V} (hl : H l = some (.lst (xs ++ [y]))) (ha : Ev ta σ H (.ref l)) (k : ∀ H1, Ex H H1 → D.nx σ (upd H1 l (.lst xs))) : tDrop (tBM0 K "list" rPop ta) D σ H := ha H (Ex.refl H) _ fun H1 e1 =>
  ⟨Or.inl ⟨rfl, _, sq_of (e1 l _ hl)⟩, l, xs ++ [y], y, rfl, rfl, e1 l _ hl, by rw [List.length_append, List.length_singleton, Nat.add_sub_cancel, List.getElem?_append_right (Nat.le_refl _), Nat.sub_self]; rfl, by
    rw [List.dropLast_concat]
    exact k H1 e1⟩
theorem s_insD {l : Addr} {xs : List V} {i : Nat} {y : V} (hl : H l = some (.lst xs)) (ha : Ev ta σ H (.ref l)) (hb : Ev tb σ H (.int (i : Int))) (hc : Ev tc σ H y) (hz : xs.length < 100000) (hi : i < 100000) (k : ∀ H1, Ex H H1 → D.nx σ (upd H1 l (.lst (xs.take i ++ [y] ++ xs.drop i)))) :
    tDrop (tBM K "list" (fun x vs H Q => ∃ (l : Addr) (xs : List V) (i : Int) (y : V), x = .ref l ∧ vs = [.int i, y] ∧ H l = some (.lst xs) ∧ xs.length < sizeLine ∧ 0 ≤ i ∧ i < 2 ^ 63 ∧ Q .non (upd H l (.lst (xs.take i.toNat ++ [y] ++ xs.drop i.toNat)))) ta (tCons tb (tCons tc tNil))) D σ H := ha H (Ex.refl H) _ fun H1 e1 =>
  ⟨Or.inl ⟨rfl, _, sq_of (e1 l _ hl)⟩, hb H1 e1 _ fun H2 e2 => hc H2 (e1.trans e2) _ fun H3 e3 => ⟨l, xs, (i : Int), y, rfl, rfl, (e1.trans (e2.trans e3)) _ _ hl, sz_lt hz, by omega, by omega, by
    rw [Int.toNat_natCast]
    exact k H3 (e1.trans (e2.trans e3))⟩⟩
theorem ec_place {t l kt : Addr} {r : List V} {ks : List SKey} {ps : List PRow} (ja : Ev ta σ H (.ref t)) (jb : Ev tb σ H (.ref l)) (jc : Ev tc σ H (.ref kt)) (h1 : RkdAt ks H t r) (h2 : RowG r) (h3 : H l = some (.lst (refP ps))) (h4 : RkdP ks H ps) (h5 : SortedR ks (ps.map (·.2))) (h6 : KeysAt K H kt ks) (ho : OkKs ks) (hz : ps.length ≤ 1000) : Ev (tCall (sp__place_of K) [] E (tCons ta (tCons tb (tCons tc tNil)))) σ H (.int (uptoN (leAll ks) r (ps.map (·.2)) : Nat)) :=
  ev_call (ea_cons ja (ea_cons jb (ea_cons jc ea_nil))) fun H1 e1 Q q E => ⟨t, l, kt, r, ks, ps, rfl, RkdAt.mn _ _ _ _ e1 h1, h2, e1 _ _ h3, h4.mn e1, h5, h6.ex e1, ho, hz, q⟩
end
section
variable {P : Program} {w : World} {K : PySem.W.Frag} {mg : Str → Option Value} {base : Heap}
theorem ok__place_of (D : Dn K mg "_place_of" s__place_of ["ranked", "kept", "keys"]) (c__is_behind : C8.Cal P w K mg base 4 "_is_behind" (sp__is_behind K) []) (z_len : mg "len" = none) :
    C8.Cal P w K mg base 5 "_place_of" (sp__place_of K) [] := by
  refine cal_of D sc__place_of (fun vs H Q E h => ?_) (fun f cdv A outer s H vs Q E hr h => ?_)
  · obtain ⟨_, _, _, _, _, _, rfl, _⟩ := h
    rfl
  refine ⟨_, (pss_cons (ps_set (i := 3) sc__place_of.nd rfl (.inl rfl) pe_int)
    (pss_cons (ps_set (i := 4) sc__place_of.nd rfl (.inl rfl) (pe_callB call_len_seq (by rfl) z_len PySem.boot_len (pa_cons (pv 1) pa_nil)))
    (pss_cons (ps_while PassesOwn.never (pt_cmpR op_lt (pv 3) (pv 4) (nomark _))
      (pss_cons (ps_set (i := 5) sc__place_of.nd rfl (.inl rfl) (pe_op op_fdiv (pe_op op_add (pv 3) (pv 4)) pe_int))
    (pss_one (ps_if (pt_val (C8.pe_c c__is_behind hr (by decide) (by rfl) (pa_cons (pe_ix ix_list (pv 1) (pv 5) (fun _ _ => rfl)) (pa_cons (pv 0) (pa_cons (pv 2) pa_nil)))))
      (pss_one (ps_set (i := 4) sc__place_of.nd rfl (.inl rfl) (pv 5)))
      (pss_one (ps_set (i := 3) sc__place_of.nd rfl (.inl rfl) (pe_op op_add (pv 5) pe_int)))))))
    (pss_one (ps_ret (pv 3)))))), ?_⟩
  obtain ⟨t, l, kt, r, ks, ps, rfl, ht, hr, hl, hP, hs, hk, ho, hz, q⟩ := h
  have ll : (refP ps).length = ps.length := List.length_map ..
  obtain ⟨u1, u2⟩ := upto_split (leAll_total ks) r hs
  rw [List.length_map] at u1
  generalize uptoN (leAll ks) r (ps.map (·.2)) = n0 at u1 u2 q
  refine q_asg (v := .int ((0 : Nat) : Int)) ev_c fun H1 e1 => ?_
  refine q_asg (v := .int (ps.length : Int)) (ev_is (ev_len (ev_var rfl) (sq_of (e1 _ _ hl))) (by rw [ll])) fun H2 e2 => ?_
  refine q_while (fun m σ' H' => ∃ (lo hi : Nat) (v5 : Option V), σ' = [some (.ref t), some (.ref l), some (.ref kt), some (.int (lo : Int)), some (.int (hi : Int)), v5] ∧ Ex H H' ∧ lo ≤ n0 ∧ n0 ≤ hi ∧ hi ≤ ps.length ∧ m = hi - lo) ps.length ⟨0, ps.length, none, rfl, e1.trans e2, Nat.zero_le _, u1, Nat.le_refl _, rfl⟩ fun m σ' H' pv => ?_
  obtain ⟨lo, hi, v5, rfl, x, h1, h2, h3, rfl⟩ := pv
  refine ⟨decide (lo < hi), et_test (ev_is (ev_op (ev_var rfl) (ev_var rfl) rv_I0) (by congr 1; exact decide_eq_decide.mpr (by omega))), fun hb H3 e3 => ?_, fun hb H3 e3 => ?_⟩
  · have hlt := of_decide_eq_true hb
    refine ⟨fun σ2 H2 => ∃ m', m' < hi - lo ∧ ∃ (lo hi : Nat) (v5 : Option V), σ2 = [some (.ref t), some (.ref l), some (.ref kt), some (.int (lo : Int)), some (.int (hi : Int)), v5] ∧ Ex H H2 ∧ lo ≤ n0 ∧ n0 ≤ hi ∧ hi ≤ ps.length ∧ m' = hi - lo, fun σ2 H2 h => h, ?_⟩
    refine q_asg (v := .int (((lo + hi) / 2 : Nat) : Int)) (ev_is (ev_op (ev_op (ev_var rfl) (ev_var rfl) rv_I0) ev_c (rv_I ⟨by decide, by decide⟩)) (by rw [Int.natCast_ediv, Int.natCast_add]; rfl)) fun H4 e4 => ?_
    have hm1 : lo ≤ (lo + hi) / 2 := by omega
    have hm2 : (lo + hi) / 2 < hi := by omega
    generalize (lo + hi) / 2 = mid at hm1 hm2
    have hml : mid < ps.length := by omega
    have hy : ps[mid]? = some ps[mid] := List.getElem?_eq_getElem hml
    obtain ⟨g1, g2⟩ := hP _ (List.getElem_mem hml)
    obtain ⟨w1, w2⟩ := u2 mid ps[mid].2 (by rw [List.getElem?_map, hy]; rfl)
    have x4 := (x.trans e3).trans e4
    refine s_if (b := !leAll ks ps[mid].2 r) (et_B (ec_behind (ev_op (ev_var rfl) (ev_var rfl) (rv_ixL (sq_of (x4 _ _ hl)) (atI_nat (by unfold refP; rw [List.getElem?_map, hy]; rfl)))) (ev_var rfl) (ev_var rfl) (RkdAt.mn _ _ _ _ x4 g1) (RkdAt.mn _ _ _ _ x4 ht) (hk.ex x4) g2 hr ho)) (fun hb H5 e5 => ?_) fun hb H5 e5 => ?_
    · have hge : n0 ≤ mid := by
        rcases Nat.lt_or_ge mid n0 with z | z
        · rw [w1 z] at hb; cases hb
        · exact z
      exact s_asg (v := .int (mid : Int)) (ev_var rfl) fun H6 e6 => ⟨mid - lo, by omega, lo, mid, _, rfl, x4.trans (e5.trans e6), h1, hge, by omega, rfl⟩
    · have hlt2 : mid < n0 := by
        rcases Nat.lt_or_ge mid n0 with z | z
        · exact z
        · rw [w2 z] at hb; cases hb
      exact s_asg (v := .int ((mid + 1 : Nat) : Int)) (ev_op (ev_var rfl) ev_c rv_I0) fun H6 e6 => ⟨hi - (mid + 1), by omega, mid + 1, hi, _, rfl, x4.trans (e5.trans e6), hlt2, h2, h3, rfl⟩
  · have hge := of_decide_eq_false hb
    have : lo = n0 := by omega
    subst this
    exact s_ret (ev_var rfl) fun H4 e4 => q H4 (x.trans (e3.trans e4))
theorem ok__first_rows (D : Dn K mg "_first_rows" s__first_rows ["rows", "keys", "many"]) (c__place_of : C8.Cal P w K mg base 5 "_place_of" (sp__place_of K) []) (c__ranked : C8.Cal P w K mg base 20 "_ranked" (sp__ranked K) []) (z_len : mg "len" = none) :
    C8.Cal P w K mg base 21 "_first_rows" (sp__first_rows K) [] := by
  refine cal_of D sc__first_rows (fun vs H Q E h => ?_) (fun f cdv A outer s H vs Q E hr h => ?_)
  · obtain ⟨_, _, _, _, _, rfl, _⟩ := h
    rfl
  refine ⟨_, (pss_cons (ps_set (i := 3) sc__first_rows.nd rfl (.inl rfl) (pe_lst pa_nil))
    (pss_cons (ps_for PassesOwn.never rfl (pi_list (pv 0)) (pg_name (i := 4) sc__first_rows.nd rfl (.inl rfl))
      (pss_cons (ps_set (i := 5) sc__first_rows.nd rfl (.inl rfl) (C8.pe_c c__ranked hr (by decide) (by rfl) (pa_cons (pv 4) (pa_cons (pv 1) pa_nil))))
    (pss_cons (ps_set (i := 6) sc__first_rows.nd rfl (.inl rfl) (C8.pe_c c__place_of hr (by decide) (by rfl) (pa_cons (pv 5) (pa_cons (pv 3) (pa_cons (pv 1) pa_nil)))))
    (pss_one (ps_if (pt_cmpR op_lt (pv 6) (pv 2) (nomark _))
      (Evl.pss_cut (ps_if (pt_cmpR op_eq (pe_callB call_len_seq (by rfl) z_len PySem.boot_len (pa_cons (pv 3) pa_nil)) (pv 2) (nomark _))
      (pss_one (ps_expr (pe_bm0 PySem.F.plainAttrs_list PySem.F.slot_list_pop PySem.F.type_list_pop mt_pop (pv 3))))
      pss_nil)
    (pss_one (ps_expr (pe_bm PySem.F.plainAttrs_list PySem.F.slot_list_insert PySem.F.type_list_insert mt_insert (pv 3) (pa_cons (pv 6) (pa_cons (pv 5) pa_nil))))))
      pss_nil)))))
    (pss_one (ps_ret (pe_lc (own := [("_", 7), ("row", 4)]) (g := (gTup K 3 (gCons (gName 7) (gCons (gName 7) (gCons (gName 4) gNil))))) (tt := tYes) rfl sc__first_rows.nd (pi_list (pv 3)) (blkOk_by (N := n__first_rows) (sc := C8.fnScope s__first_rows) (by decide +kernel)) (fun _ _ _ _ _ => (pg_tup rfl (pgs_cons (pg_name (i := 7) sc__first_rows.nd rfl (Or.inl rfl)) (pgs_cons (pg_name (i := 7) sc__first_rows.nd rfl (Or.inl rfl)) (pgs_cons (pg_name (i := 4) sc__first_rows.nd rfl (Or.inl rfl)) pgs_nil))))) (fun _ _ _ _ _ => pts_nil) (fun _ _ _ _ _ => (pv 4))))))), ?_⟩
  obtain ⟨a, kt, ks, L, m, rfl, ⟨qa, hqa, hAa⟩, hk, ho, hg, hl, q⟩ := h
  have okR : ∀ r ∈ L, OkR35 ks r := fun r hr => (hg r hr).ok ho
  have tot := leAll_total ks
  refine q_asgL (el_lst ea_nil (by decide)) fun pk H1 hpk e1 h1 => ?_
  refine q_forLn (xs := qa.map V.ref) (ev_var rfl) (sq_of (e1 _ _ hqa)) (fun i σ' H' => ∃ (v4 v5 v6 : Option V) (ps : List PRow), σ' = [some (.ref a), some (.ref kt), some (.int (m : Int)), some (.ref pk), v4, v5, v6, none] ∧ Ex H H' ∧ H' pk = some (.lst (refP ps)) ∧ RkdP ks (wo pk H') ps ∧ ps.map (·.2) = (insAll (leAll ks) (L.take i) []).take m)
    (fun H2 e2 => ⟨none, none, none, [], rfl, e1.trans e2, e2 _ _ h1, (fun p h => nomatch h), by simp [insAll]⟩) (fun i σ' H' _ pv => ?_) (fun i x σ' H' hi pv => ?_) fun σ' H' pv => ?_
  · obtain ⟨_, _, _, _, _, e, _⟩ := pv
    exact sq_of (e _ _ hqa)
  · obtain ⟨v4, v5, v6, ps, rfl, x, hps, hP, hrows⟩ := pv
    obtain ⟨b, r, rfl, hb, hr, hrow⟩ := al2_inX hAa hi
    have hmr := List.mem_of_getElem? hr
    have hgr := hg r hmr
    have hi2 : i < L.length := (List.getElem?_eq_some_iff.mp hr).1
    have htk : L.take (i + 1) = L.take i ++ [r] := by rw [List.take_add_one, hr]; rfl
    obtain ⟨sp1, sp2⟩ := insAll_pair tot (l := L.take i) (acc := []) .nil
    have hnx := ins_take tot r sp1 m
    rw [← insAll_snoc, ← htk] at hnx
    rw [← hrows] at hnx
    have lS : (insAll (leAll ks) (L.take i) []).length ≤ 60 := by
      rw [sp2.length_eq, List.append_nil, List.length_take]
      omega
    have lps : ps.length ≤ 60 := by
      have := congrArg List.length hrows
      rw [List.length_map, List.length_take] at this
      omega
    have hsr : SortedR ks (ps.map (·.2)) := by rw [hrows]; exact sp1.sublist (List.take_sublist _ _)
    rw [List.length_map] at hnx
    have hpm : ps.length ≤ m := by
      have := congrArg List.length hrows
      rw [List.length_map, List.length_take] at this
      omega
    refine q_asgX (G := fun p H2 => H' p = none ∧ Ex H' H2 ∧ RkdAt ks (nl H' H2) p r) (fun Q' k => ⟨.ref b, rfl, .ref kt, rfl, b, kt, r, ks, rfl, sq_of (x _ _ hrow), hk.ex x, hgr, ho, fun p H2 hp e2 hR => k p H2 ⟨hp, e2, hR⟩⟩) fun tr H2 ⟨htr, e2, hR⟩ => ?_
    have hps2 := e2 _ _ hps
    have hPw : RkdP ks (wo pk H2) ps := hP.mn (wo_mono e2)
    have hRw : RkdAt ks (wo pk H2) tr r := RkdAt.mn _ _ _ _ (nl_wo hps) hR
    refine q_asg (v := .int ((uptoN (leAll ks) r (ps.map (·.2)) : Nat) : Int)) (ec_place (ev_var rfl) (ev_var rfl) (ev_var rfl) (RkdAt.mn _ _ _ _ (wo_le _ _) hRw) hgr hps2 (hPw.mn (wo_le _ _)) hsr (hk.ex (x.trans e2)) ho (by omega)) fun H3 e3 => ?_
    generalize hn0 : uptoN (leAll ks) r (ps.map (·.2)) = n0 at hnx
    have hn0l : n0 ≤ 60 := by
      rw [← hn0]
      unfold uptoN
      exact Nat.le_trans (List.length_filter_le _ _) (by rw [List.length_map]; exact lps)
    have x3 := x.trans (e2.trans e3)
    have hps3 := e3 _ _ hps2
    have hPw3 : RkdP ks (wo pk H3) ps := hPw.mn (wo_mono e3)
    have hRw3 : RkdAt ks (wo pk H3) tr r := RkdAt.mn _ _ _ _ (wo_mono e3) hRw
    refine s_when (b := decide (n0 < m)) (et_test (ev_is (ev_op (ev_var rfl) (ev_var rfl) rv_I0) (by congr 1; exact decide_eq_decide.mpr (by omega)))) (fun hb H4 e4 => ?_) fun hb H4 e4 => ?_
    · have hlt := of_decide_eq_true hb
      rw [if_pos hlt] at hnx
      refine q_cut (M := fun σ2 H5 => σ2 = [some (.ref a), some (.ref kt), some (.int (m : Int)), some (.ref pk), some (.ref b), some (.ref tr), some (.int (n0 : Int)), none] ∧ Ex H H5 ∧ ∃ qs : List PRow, H5 pk = some (.lst (refP qs)) ∧ RkdP ks (wo pk H5) qs ∧ RkdAt ks (wo pk H5) tr r ∧ qs.length ≤ 60 ∧ qs.map (·.2) = (if ps.length = m then (ps.map (·.2)).dropLast else ps.map (·.2))) ?_ fun σ2 H5 pw => ?_
      · refine s_when (b := decide (V.int (ps.length : Int) = V.int (m : Int))) (et_test (ev_op (ev_is (ev_len (ev_var rfl) (sq_of (e4 _ _ hps3))) (by unfold refP; rw [List.length_map])) (ev_var rfl) (rv_eq rfl))) (fun hb H5 e5 => ?_) fun hb H5 e5 => ?_
        · have he : ps.length = m := by
            have := V.int.inj (of_decide_eq_true hb)
            omega
          have hne : ps ≠ [] := fun z => by rw [z] at he; rw [List.length_nil] at he; omega
          have hsp : ps = ps.dropLast ++ [ps.getLast hne] := (List.dropLast_concat_getLast hne).symm
          have hf : refP ps = refP ps.dropLast ++ [V.ref (ps.getLast hne).1] := by
            conv => lhs; rw [hsp]
            unfold refP
            rw [List.map_append]
            rfl
          refine q_popD (xs := refP ps.dropLast) (y := V.ref (ps.getLast hne).1) (by rw [← hf]; exact (e4.trans e5) _ _ hps3) (ev_var rfl) fun H6 e6 => ⟨rfl, Ex.mut ((x3.trans e4).trans (e5.trans e6)) hpk, ps.dropLast, upd_same, ?_, ?_, by rw [List.length_dropLast]; omega, by rw [if_pos he, List.map_dropLast]⟩
          · rw [wo_upd]
            exact fun p hp => (hPw3.mn (wo_mono ((e4.trans e5).trans e6))) p (List.dropLast_subset _ hp)
          · rw [wo_upd]
            exact RkdAt.mn _ _ _ _ (wo_mono ((e4.trans e5).trans e6)) hRw3
        · have he : ¬ ps.length = m := fun z => by rw [z] at hb; simp at hb
          exact ⟨rfl, (x3.trans e4).trans e5, ps, (e4.trans e5) _ _ hps3, hPw3.mn (wo_mono (e4.trans e5)), RkdAt.mn _ _ _ _ (wo_mono (e4.trans e5)) hRw3, lps, by rw [if_neg he]⟩
      · obtain ⟨rfl, x5, qs, hq5, hQ5, hR5, lqs, hqr⟩ := pw
        rw [← hqr] at hnx
        have hnew : (refP qs).take n0 ++ [V.ref tr] ++ (refP qs).drop n0 = refP (qs.take n0 ++ [(tr, r)] ++ qs.drop n0) := by
          unfold refP
          rw [List.map_append, List.map_append, List.map_take, List.map_drop]
          rfl
        refine s_insD (y := .ref tr) (i := n0) hq5 (ev_var rfl) (ev_var rfl) (ev_var rfl) (by unfold refP; rw [List.length_map]; omega) (by omega) fun H6 e6 => ⟨_, _, _, qs.take n0 ++ [(tr, r)] ++ qs.drop n0, rfl, Ex.mut (x5.trans e6) hpk, by rw [upd_same, hnew], ?_, ?_⟩
        · rw [wo_upd]
          intro p hp
          have hQ6 := hQ5.mn (wo_mono e6)
          rcases List.mem_append.mp hp with h | h
          · rcases List.mem_append.mp h with h | h
            · exact hQ6 p (List.mem_of_mem_take h)
            · rw [List.mem_singleton.mp h]
              exact ⟨RkdAt.mn _ _ _ _ (wo_mono e6) hR5, hgr⟩
          · exact hQ6 p (List.mem_of_mem_drop h)
        · rw [hnx, List.map_append, List.map_append, List.map_take, List.map_drop]
          rfl
    · have hge := of_decide_eq_false hb
      rw [if_neg hge] at hnx
      exact ⟨_, _, _, ps, rfl, x3.trans e4, e4 _ _ hps3, hPw3.mn (wo_mono e4), by rw [hnx]⟩
  · obtain ⟨v4, v5, v6, ps, rfl, x, hps, hP, hrows⟩ := pv
    rw [List.length_map, hAa.1, List.take_length] at hrows
    obtain ⟨sp1, sp2⟩ := insAll_pair tot (l := L) (acc := []) .nil
    rw [List.append_nil] at sp2
    rw [sorts_uniq okR sp2 sp1] at hrows
    have hP' : RkdP ks H' ps := hP.mn (wo_le _ _)
    have lps : ps.length ≤ 60 := by
      have := congrArg List.length hrows
      rw [List.length_map, List.length_take, (sortRows_perm L ks).length_eq] at this
      omega
    refine s_retL (el_lcR (K := K) (c := cOf H') (ev_var rfl) hps (fun p hp => ?_) (by omega) (fun _ _ _ => rfl) fun _ _ _ => rfl) fun p H2 hp e2 h2 => q p H2 (fresh_back x hp) (x.trans e2) ⟨ps.map (cOf H'), by rw [h2, List.map_map]; rfl, ?_⟩
    · obtain ⟨t1, t2, ht, _⟩ := cOf_at (hP' p hp).1
      exact ⟨t1, t2, ht⟩
    · rw [← hrows]
      exact rows_al hP' e2
theorem ok__is_kept (D : Dn K mg "_is_kept" s__is_kept ["skip", "count", "memory"]) :
    C8.Cal P w K mg base 1 "_is_kept" (sp__is_kept K) [] := by
  refine cal_of D sc__is_kept (fun vs H Q E h => ?_) (fun f cdv A outer s H vs Q E hr h => ?_)
  · obtain ⟨_, _, _, rfl, _⟩ := h
    rfl
  refine ⟨_, (pss_one (ps_ret (pe_and (pe_cmpR op_notN (pv 1) pe_non (nomark _)) (pe_one (pe_cmpR op_le (pe_op op_add (pv 0) (pv 1)) (pv 2) (nomark _)))))), ?_⟩
  obtain ⟨skip, count, mem, rfl, q⟩ := h
  cases count with
  | none => exact s_ret (ev_is (ev_andV (a := false) (ev_is (ev_op (ev_var rfl) ev_c rv_notN) rfl) fun h => nomatch h) (show V.bl (false && true) = _ from rfl)) fun H1 e1 => q H1 e1
  | some c => exact s_ret (ev_is (ev_andV (a := true) (ev_is (ev_op (ev_var rfl) ev_c rv_notN) rfl) fun _ => ev_op (ev_op (x := .int (skip : Int)) (y := .int (c : Int)) (ev_var rfl) (ev_var rfl) rv_I0) (ev_var rfl) rv_I0) (by
      show V.bl (true && decide ((skip : Int) + (c : Int) ≤ (mem : Int))) = V.bl (keptB skip (some c) mem)
      rw [Bool.true_and]
      congr 1
      exact decide_eq_decide.mpr (by omega))) fun H1 e1 => q H1 e1
end
def sp_top_rows (K : PySem.W.Frag) : Sp := fun vs H Q _ => ∃ (a kt : Addr) (ks : List SKey) (L : List (List V)) (skip mem : Nat) (count : Option Nat), vs = [.ref a, .ref kt, .int (skip : Int), optV count, .int (mem : Int)] ∧ Lst2 RowAt H a L ∧ KeysAt K H kt ks ∧ OkKs ks ∧ (∀ r ∈ L, RowG r) ∧ L.length ≤ 60 ∧ 0 < mem ∧ mem ≤ 1000 ∧ skip ≤ 100 ∧ count.getD 0 ≤ 100 ∧ LT K H ∧
  ∀ p H', Ex (noT H) H' → LT K H' → Kp H H' → Lst2 RowAt H' p (cutL (sortRows L ks) skip count) → Q (.ref p) H'
def sp_top_written (K : PySem.W.Frag) : Sp := fun vs H Q _ => ∃ (a : Addr) (xs : List V) (skip mem : Nat) (count : Option Nat), vs = [.ref a, .int (skip : Int), optV count, .int (mem : Int)] ∧ SqL K H a xs ∧ ∀ H', Ex H H' → Q (.int (if keptB skip count mem = true then 0 else if (xs.length : Int) > (mem : Int) then (xs.length : Int) else 0)) H'
theorem cutL_take {S : List (List V)} {skip c : Nat} : cutL (S.take (skip + c)) skip (some c) = cutL S skip (some c) := by
  show ((S.take (skip + c)).take (skip + c)).drop skip = (S.take (skip + c)).drop skip
  rw [List.take_take, Nat.min_self]
section
variable {K : PySem.W.Frag} {σ : L2.St} {H : Hp} {te ta tb tc tl : TE} {t : TT} {D : Ends} {tz : TS} {E : XK}
theorem ec_kept {skip mem : Nat} {count : Option Nat} (ja : Ev ta σ H (.int (skip : Int))) (jb : Ev tb σ H (optV count)) (jc : Ev tc σ H (.int (mem : Int))) : Ev (tCall (sp__is_kept K) [] E (tCons ta (tCons tb (tCons tc tNil)))) σ H (.bl (keptB skip count mem)) :=
  ev_call (ea_cons ja (ea_cons jb (ea_cons jc ea_nil))) fun H1 e1 Q q E => ⟨skip, count, mem, rfl, q⟩
end
section
variable {P : Program} {w : World} {K : PySem.W.Frag} {mg : Str → Option Value} {base : Heap}
theorem ok_top_rows (D : Dn K mg "top_rows" s_top_rows ["rows", "keys", "skip", "count", "memory"]) (c__first_rows : C8.Cal P w K mg base 21 "_first_rows" (sp__first_rows K) []) (c__is_kept : C8.Cal P w K mg base 1 "_is_kept" (sp__is_kept K) []) (c_cut_rows : C8.Cal P w K mg base 1 "cut_rows" (sp_cut_rows K) []) (c_sort_rows : C8.Cal P w K mg base 24 "sort_rows" (sp_sort_rows K) []) :
    C8.Cal P w K mg base 25 "top_rows" (sp_top_rows K) [] := by
  refine cal_of D sc_top_rows (fun vs H Q E h => ?_) (fun f cdv A outer s H vs Q E hr h => ?_)
  · obtain ⟨_, _, _, _, _, _, _, rfl, _⟩ := h
    rfl
  refine ⟨_, (pss_cons (ps_if (pt_val (C8.pe_c c__is_kept hr (by decide) (by rfl) (pa_cons (pv 2) (pa_cons (pv 3) (pa_cons (pv 4) pa_nil)))))
      (pss_one (ps_ret (C8.pe_c c_cut_rows hr (by decide) (by rfl) (pa_cons (C8.pe_c c__first_rows hr (by decide) (by rfl) (pa_cons (pv 0) (pa_cons (pv 1) (pa_cons (pe_op op_add (pv 2) (pv 3)) pa_nil)))) (pa_cons (pv 2) (pa_cons (pv 3) pa_nil))))))
      pss_nil)
    (pss_one (ps_ret (C8.pe_c c_cut_rows hr (by decide) (by rfl) (pa_cons (C8.pe_c c_sort_rows hr (by decide) (by rfl) (pa_cons (pv 0) (pa_cons (pv 1) (pa_cons (pv 4) pa_nil)))) (pa_cons (pv 2) (pa_cons (pv 3) pa_nil))))))), ?_⟩
  obtain ⟨a, kt, ks, L, skip, mem, count, rfl, hL, hk, ho, hg, hl, h0, h1k, hs, hc, hT, q⟩ := h
  refine q_when (b := keptB skip count mem) (et_B (ec_kept (ev_var rfl) (ev_var rfl) (ev_var rfl))) (fun hb H1 e1 => ?_) fun hb H1 e1 => ?_
  · cases count with
    | none => exact nomatch hb
    | some c =>
      have hc' : c ≤ 100 := hc
      refine s_retX ?_
      refine ⟨.ref a, rfl, .ref kt, rfl, .int (skip : Int), rfl, .int (c : Int), rfl, (skip : Int), (c : Int), rfl, rfl, a, kt, ks, L, skip + c, rfl, Lst2.mn RowAt.mn _ _ _ _ e1 hL, hk.ex e1, ho, hg, hl, fun p H5 hp e5 h5 => ⟨.int (skip : Int), rfl, .int (c : Int), rfl, p, (sortRows L ks).take (skip + c), skip, some c, rfl, h5, by rw [List.length_take, (sortRows_perm L ks).length_eq]; omega, hs, hc, fun r H6 hr e6 h6 => ?_⟩⟩
      rw [cutL_take] at h6
      have x6 := (e1.trans e5).trans e6
      exact q r H6 ((noT_le H).trans x6) (hT.ex x6) (Kp.of x6) (Lst2.mn RowAt.mn _ _ _ _ nu_le h6)
  · refine s_retX ⟨.ref a, rfl, .ref kt, rfl, .int (mem : Int), rfl, a, kt, ks, L, mem, rfl, Lst2.mn RowAt.mn _ _ _ _ e1 hL, hk.ex e1, ho, hg, hl, h0, h1k, hT.ex e1, fun p H5 x5 hT5 k5 h5 => ⟨.int (skip : Int), rfl, optV count, rfl, p, sortRows L ks, skip, count, rfl, h5, by rw [(sortRows_perm L ks).length_eq]; omega, hs, hc, fun r H6 hr e6 h6 => ?_⟩⟩
    exact q r H6 (((noT_mono ((noT_le H).trans e1)).trans x5).trans e6) (hT5.ex e6) (((Kp.of e1).trans k5).trans (Kp.of e6)) (Lst2.mn RowAt.mn _ _ _ _ nu_le h6)
theorem ok_top_written (D : Dn K mg "top_written" s_top_written ["rows", "skip", "count", "memory"]) (c__is_kept : C8.Cal P w K mg base 1 "_is_kept" (sp__is_kept K) []) (c_sort_written : C8.Cal P w K mg base 1 "sort_written" (sp_sort_written K) []) :
    C8.Cal P w K mg base 2 "top_written" (sp_top_written K) [] := by
  refine cal_of D sc_top_written (fun vs H Q E h => ?_) (fun f cdv A outer s H vs Q E hr h => ?_)
  · obtain ⟨_, _, _, _, _, rfl, _⟩ := h
    rfl
  refine ⟨_, (pss_one (ps_ret (pe_ifExp (pt_val (C8.pe_c c__is_kept hr (by decide) (by rfl) (pa_cons (pv 1) (pa_cons (pv 2) (pa_cons (pv 3) pa_nil))))) pe_int (C8.pe_c c_sort_written hr (by decide) (by rfl) (pa_cons (pv 0) (pa_cons (pv 3) pa_nil)))))), ?_⟩
  obtain ⟨a, xs, skip, mem, count, rfl, hS, q⟩ := h
  refine s_ret (ev_if (b := keptB skip count mem) (et_B (ec_kept (ev_var rfl) (ev_var rfl) (ev_var rfl))) (fun hb => ev_is ev_c (by rw [if_pos hb])) fun hb => ev_is (v := .int (if (xs.length : Int) > (mem : Int) then (xs.length : Int) else 0)) (ev_call (ea_cons (ev_var rfl) (ea_cons (ev_var rfl) ea_nil)) fun H1 e Q q E => ⟨a, xs, (mem : Int), rfl, ex_l e hS, q⟩) (by rw [if_neg (show ¬ keptB skip count mem = true by rw [hb]; decide)])) fun H1 e1 => q H1 e1
end
theorem cutV_take {xs : List V} {k : Nat} : cutV xs none (some (k : Int)) = xs.take k := by
  unfold cutV
  rw [HT.sIx_nat, HT.sIx_none, List.drop_zero, Nat.sub_zero]
  by_cases h : k ≤ xs.length
  · rw [Nat.min_eq_left h]
  · rw [Nat.min_eq_right (by omega), List.take_of_length_le (Nat.le_refl _), List.take_of_length_le (by omega)]
section
variable {K : PySem.W.Frag} {σ : L2.St} {H : Hp} {p : Addr} {ta tb te tn : TE} {P : V → Prop} {D : Ends} {tz tu : TS}
/-- for j in range(a number that is drawn) -/
theorem s1_forR1 {j : Nat} {m : Int} (hn : EvD1 tn σ p H (ZP fun n => 0 ≤ n ∧ n ≤ m)) (hm : m ≤ 100000) (d : Dr p H) (Pv : Nat → L2.St → Hp → Prop) (h0 : ∀ H1, Ex (wo p H) H1 → Dr p H1 → Pv 0 σ H1)
    (hs : ∀ (i : Nat) σ' H', (i : Int) < m → Pv i σ' H' → tu { D with nx := Pv (i + 1), ct := Pv (i + 1), bk := D.nx } (σ'.set j (some (.int (i : Int)))) H') (hd : ∀ (n : Nat) σ' H', (n : Int) ≤ m → Pv n σ' H' → D.nx σ' H') : tFor (iRng1 (tCons tn tNil)) (gName j) tu D σ H :=
  hn H (wo_le p H) d _ fun v H1 ⟨n, ev, hn0, hn1⟩ e1 d1 => by
    subst ev
    refine ⟨n, rfl, by omega, by omega, for_range (lo := 0) (n := n.toNat) Pv (h0 H1 e1 d1) (fun i σ' H' hi pv => ?_) (fun σ' H' pv => hd n.toNat σ' H' (by omega) pv)⟩
    have e0 : (0 : Int) + (i : Int) = (i : Int) := Int.zero_add _
    show tu { D with nx := Pv (i + 1), ct := Pv (i + 1), bk := D.nx } (σ'.set j (some (.int ((0 : Int) + (i : Int))))) H'
    rw [e0]
    exact hs i σ' H' (by omega) pv
theorem q1_forR1 {j : Nat} {m : Int} (hn : EvD1 tn σ p H (ZP fun n => 0 ≤ n ∧ n ≤ m)) (hm : m ≤ 100000) (d : Dr p H) (Pv : Nat → L2.St → Hp → Prop) (h0 : ∀ H1, Ex (wo p H) H1 → Dr p H1 → Pv 0 σ H1)
    (hs : ∀ (i : Nat) σ' H', (i : Int) < m → Pv i σ' H' → tu { D with nx := Pv (i + 1), ct := Pv (i + 1), bk := tz D } (σ'.set j (some (.int (i : Int)))) H') (hd : ∀ (n : Nat) σ' H', (n : Int) ≤ m → Pv n σ' H' → tz D σ' H') : tSeq (tFor (iRng1 (tCons tn tNil)) (gName j) tu) tz D σ H :=
  s1_forR1 (D := { D with nx := tz D }) hn hm d Pv h0 hs hd
end
section
variable {K : PySem.W.Frag}
theorem dps_atI : ∀ {ys : List V} {ds : List PyData} {H : Hp} {i : Nat} {d : PyData}, DpAll K H ys ds → ds[i]? = some d → ∃ x, ys[i]? = some x ∧ Dp K H x d
  | _, _, _, _, _, .nil, h => by simp at h
  | _, _, _, 0, _, .cons h _, e => by
    cases e
    exact ⟨_, rfl, h⟩
  | _, _, _, i + 1, _, .cons _ t, e => by
    obtain ⟨d, h1, h2⟩ := dps_atI (i := i) t (by simpa using e)
    exact ⟨d, by simpa using h1, h2⟩
end
theorem noL_of : ∀ {ds : List PyData} {d : PyData}, noLs ds = true → d ∈ ds → noL d = true
  | x :: xs, d, n, h => by
    have n' : (noL x && noLs xs) = true := n
    rw [Bool.and_eq_true] at n'
    rcases List.mem_cons.mp h with z | z
    · rw [z]; exact n'.1
    · exact noL_of n'.2 z
def KeyC (e : Cnd) : Prop := (∃ n, n < 2 ∧ e = .col n) ∨ e = .un "is null" (.col 1)
section
variable {K : PySem.W.Frag} {σ : L2.St} {H : Hp} {p : Addr} {ta tb te tl : TE} {PL : List PyData → Prop} {R : PyData → Prop} {D : Ends} {tz : TS}
/-- (a, b, c)[i]: data -/
theorem x_ix {m : Int} (h : EvX K te σ p H (fun d => ∃ ds, d = .tuple ds ∧ PL ds)) (hi : EvD1 tb σ p H (ZP fun j => 0 ≤ j ∧ j < m)) (k : ∀ ds (j : Nat), PL ds → (j : Int) < m → ∃ d, ds[j]? = some d ∧ R d) : EvX K (tOp (rIxT K) te tb) σ p H R := fun H1 e dr Q q =>
  h H1 e dr _ fun v H2 d ⟨ds, ed, hP⟩ n hv e2 d2 => hi H2 (wx_trans e e2) d2 _ fun y H3 ⟨j, ey, hj⟩ e3 d3 => by
    subst ed ey
    obtain ⟨jn, rfl⟩ := Int.eq_ofNat_of_zero_le hj.1
    obtain ⟨b, ys, rfl, hS, hds⟩ := dp_tupD (dp_wx hv n d2 e3)
    obtain ⟨d, hi2, hR⟩ := k ds jn hP hj.2
    obtain ⟨x, hx, hd⟩ := dps_atI hds hi2
    have hn : noL d = true := noL_of n (List.mem_of_getElem? hi2)
    exact rv_ixT hS (atI_nat hx) H3 (Ex.refl H3) Q fun H4 e4 => q x H4 d hR hn (ex_dp e4 hd) (wx_trans e2 (wx_trans e3 (wx_of e4))) (d3.ex e4)
/-- xs.append(what is drawn) -/
theorem s_appX {l : Addr} {xs : List V} (hl : H l = some (.lst xs)) (hne : l ≠ p) (ha : ∀ H1, Ev tl σ H1 (.ref l)) (h : EvX K te σ p H R) (d : Dr p H) (hz : xs.length < 100000) (k : ∀ v H1 d, R d → noL d = true → Dp K H1 v d → Ex (wo p H) H1 → Dr p H1 → D.nx σ (upd H1 l (.lst (xs ++ [v])))) :
    tDrop (tBM K "list" rAppend tl (tCons te tNil)) D σ H := ha H H (Ex.refl H) _ fun H1 e1 =>
  ⟨Or.inl ⟨rfl, xs, sq_of (e1 l _ hl)⟩, h H1 (wx_of e1) (d.ex e1) _ fun v H2 d' hd hn hv e2 d2 => ⟨l, xs, v, rfl, rfl, e2 l _ (by rw [wo_ne hne]; exact e1 l _ hl), sz_lt hz, k v H2 d' hd hn hv (wx_trans (wx_of e1) e2) d2⟩⟩
theorem x_bl (h : EvD1 te σ p H (fun v => ∃ b, v = .bl b)) : EvX K te σ p H (fun d => ∃ b, d = .bool b) := fun H1 e dr Q q => h H1 e dr Q fun v H2 ⟨b, ev⟩ e2 d2 => by
  subst ev
  exact q _ H2 (.bool b) ⟨b, rfl⟩ rfl (.bl b) e2 d2
theorem s_asgLX {i : Nat} {xs : List V} (h : EvL te σ H xs) (k : ∀ p H1, H p = none → Ex H H1 → H1 p = some (.lst xs) → D.nx (σ.set i (some (.ref p))) H1) : tAsg te (gName i) D σ H := h H (Ex.refl H) _ k
end
noncomputable def firstV (r s : List V) : List SKey → Bool
  | [] => !rowLt s r
  | k :: ks => if PyData.eqv (rkD (evE r k.e)) (rkD (evE s k.e)) then firstV r s ks else (vlt (evE r k.e) (evE s k.e) != k.d)
theorem first_beh {r s : List V} : ∀ ks : List SKey, firstV r s ks = !behK r s ks
  | [] => rfl
  | k :: ks => by
    rw [firstV, behK, first_beh ks]
    by_cases c : PyData.eqv (rkD (evE r k.e)) (rkD (evE s k.e)) = true
    · rw [if_pos c, if_pos c]
    · rw [if_neg c, if_neg c]
      rfl
def sp__law_first (K : PySem.W.Frag) : Sp := fun vs H Q _ => ∃ (a b kt : Addr) (r s : List V) (ks : List SKey), vs = [.ref a, .ref b, .ref kt] ∧ SqL K H a r ∧ SqL K H b s ∧ KeysAt K H kt ks ∧ RowG r ∧ RowG s ∧ OkKs ks ∧ ∀ H', Ex H H' → Q (.bl (leAll ks r s)) H'
def RowP (H : Hp) (ps : List PRow) : Prop := ∀ p ∈ ps, H p.1 = some (.lst p.2) ∧ RowG p.2
theorem RowP.mn {H H' : Hp} {ps : List PRow} (e : Ex H H') (h : RowP H ps) : RowP H' ps := fun p hp => ⟨e _ _ (h p hp).1, (h p hp).2⟩
theorem RowP.al {H : Hp} {ps : List PRow} (h : RowP H ps) : Al2 RowAt H (ps.map (·.1)) (ps.map (·.2)) := ⟨by rw [List.length_map, List.length_map], fun i q l a b => by
  rw [List.getElem?_map] at a b
  cases hp : ps[i]? with
  | none => rw [hp] at a; cases a
  | some p =>
    rw [hp] at a b
    obtain rfl := Option.some.inj a
    obtain rfl := Option.some.inj b
    exact (h p (List.mem_of_getElem? hp)).1⟩
def sp__law_sorted (K : PySem.W.Frag) : Sp := fun vs H Q _ => ∃ (a kt : Addr) (ks : List SKey) (L : List (List V)), vs = [.ref a, .ref kt] ∧ Lst2 RowAt H a L ∧ KeysAt K H kt ks ∧ OkKs ks ∧ (∀ r ∈ L, RowG r) ∧ L.length ≤ 60 ∧ ∀ p H' qs, H p = none → Ex H H' → H' p = some (.lst (qs.map V.ref)) → Al2 RowAt H qs (sortRows L ks) → Q (.ref p) H'
def sp__law_keys (K : PySem.W.Frag) : Sp := fun vs H Q _ => ∃ p : Addr, vs = [.ref p] ∧ Dr p H ∧ ∀ l H' (ks : List SKey), (∀ k ∈ ks, KeyC k.e) → ks.length ≤ 2 → KeysAt K H' l ks → H l = none → Ex (wo p H) H' → Dr p H' → Q (.ref l) H'
def keyD (k : SKey) : PyData := .tuple [k.e.d, .bool k.d]
theorem noL_key (k : SKey) : noL (keyD k) = true := by
  show (noL k.e.d && (true && true)) = true
  rw [noL_cx]
  rfl
theorem noLs_key : ∀ ks : List SKey, noLs (ks.map keyD) = true
  | [] => rfl
  | k :: ks => by
    show (noL (keyD k) && noLs (ks.map keyD)) = true
    rw [noL_key, noLs_key ks]
    rfl
theorem keyAt_of {K : PySem.W.Frag} {H : Hp} {x : V} {k : SKey} (h : Dp K H x (keyD k)) : KeyAt K H x k := by
  cases h with
  | tup h hs =>
    cases hs with
    | cons a hs => cases hs with
      | cons b hs => cases hs with
        | nil => cases b; exact ⟨_, _, rfl, h, a⟩
theorem dps_atK {K : PySem.W.Frag} {H : Hp} : ∀ {ys : List V} {ks : List SKey} {i : Nat} {x : V} {k : SKey}, DpAll K H ys (ks.map keyD) → ys[i]? = some x → ks[i]? = some k → Dp K H x (keyD k)
  | _, [], i, _, _, h, a, b => by simp at b
  | _, k :: ks, 0, _, _, .cons h _, a, b => by
    cases a
    cases b
    exact h
  | _, _ :: ks, i + 1, _, _, .cons _ t, a, b => dps_atK (i := i) t (by simpa using a) (by simpa using b)
theorem keysL_of {K : PySem.W.Frag} {H : Hp} {a : Addr} {ys : List V} {ks : List SKey} (h : SqL K H a ys) (hd : DpAll K H ys (ks.map keyD)) : KeysAt K H a ks := ⟨ys, h, by have := dps_len hd; rw [List.length_map] at this; exact this, fun i x k a b => keyAt_of (dps_atK hd a b)⟩
section
variable {K : PySem.W.Frag} {σ : L2.St} {H : Hp} {te ta tb tc tl : TE} {t : TT} {D : Ends} {tz : TS} {E : XK}
theorem ec_first {a b kt : Addr} {ks : List SKey} {r s : List V} (ja : Ev ta σ H (.ref a)) (jb : Ev tb σ H (.ref b)) (jc : Ev tc σ H (.ref kt)) (ha : SqL K H a r) (hb : SqL K H b s) (hk : KeysAt K H kt ks) (hr : RowG r) (hs : RowG s) (ho : OkKs ks) : Ev (tCall (sp__law_first K) [] E (tCons ta (tCons tb (tCons tc tNil)))) σ H (.bl (leAll ks r s)) :=
  ev_call (ea_cons ja (ea_cons jb (ea_cons jc ea_nil))) fun H1 e1 Q q E => ⟨a, b, kt, r, s, ks, rfl, ex_l e1 ha, ex_l e1 hb, hk.ex e1, hr, hs, ho, q⟩
end
section
variable {P : Program} {w : World} {K : PySem.W.Frag} {mg : Str → Option Value} {base : Heap}
theorem ok__law_first (D : Dn K mg "_law_first" s__law_first ["row", "other", "keys"]) (c__law_rank : C8.Cal P w K mg base 1 "_law_rank" (sp__law_rank K) []) (c__law_ranks : C8.Cal P w K mg base 2 "_law_ranks" (sp__law_ranks K) []) (c_evaluate : C8.Cal P w K mg base 15 "evaluate" (sp_evaluate K) []) :
    C8.Cal P w K mg base 20 "_law_first" (sp__law_first K) [] := by
  refine cal_of D sc__law_first (fun vs H Q E h => ?_) (fun f cdv A outer s H vs Q E hr h => ?_)
  · obtain ⟨_, _, _, _, _, _, rfl, _⟩ := h
    rfl
  refine ⟨_, (pss_cons (ps_for PassesOwn.never rfl (pi_list (pv 2)) (pg_tup rfl (pgs_cons (pg_name (i := 3) sc__law_first.nd rfl (.inl rfl)) (pgs_cons (pg_name (i := 4) sc__law_first.nd rfl (.inl rfl)) pgs_nil)))
      (pss_cons (ps_set (i := 5) sc__law_first.nd rfl (.inl rfl) (C8.pe_c c__law_rank hr (by decide) (by rfl) (pa_cons (C8.pe_c c_evaluate hr (by decide) (by rfl) (pa_cons (pv 3) (pa_cons (pv 0) pa_nil))) pa_nil)))
    (pss_cons (ps_set (i := 6) sc__law_first.nd rfl (.inl rfl) (C8.pe_c c__law_rank hr (by decide) (by rfl) (pa_cons (C8.pe_c c_evaluate hr (by decide) (by rfl) (pa_cons (pv 3) (pa_cons (pv 1) pa_nil))) pa_nil)))
    (pss_one (ps_if (pt_cmpR (op_neD (hu64 hr)) (pv 5) (pv 6) (nomark _))
      (pss_one (ps_ret (pe_cmpR op_ne (pe_cmpR (op_ltD (hu64 hr)) (pv 5) (pv 6) (nomark _)) (pv 4) (nomark _))))
      pss_nil)))))
    (pss_one (ps_ret (pe_cmpR (op_leLD (hu64 hr)) (C8.pe_c c__law_ranks hr (by decide) (by rfl) (pa_cons (pv 0) pa_nil)) (C8.pe_c c__law_ranks hr (by decide) (by rfl) (pa_cons (pv 1) pa_nil)) (nomark _))))), ?_⟩
  obtain ⟨a, b, kt, r, s, ks, rfl, ha, hb, ⟨xs, hS, hlen, hA⟩, hr, hs, ho, q⟩ := h
  have okR := hr.ok ho
  have okS := hs.ok ho
  have hq0 : leAll ks r s = firstV r s ks := by rw [first_beh, beh_le okR okS, Bool.not_not]
  rw [hq0] at q
  refine Evl.q_forL (ev_var rfl) hS (fun i σ' H' => ∃ v3 v4 v5 v6, σ' = [some (.ref a), some (.ref b), some (.ref kt), v3, v4, v5, v6] ∧ Ex H H' ∧ firstV r s ks = firstV r s (ks.drop i)) (fun H1 e => ⟨none, none, none, none, rfl, e, rfl⟩) (fun i σ' H' _ pv => ?_) (fun i x σ' H' hx pv => ?_) fun σ' H' pv => ?_
  · obtain ⟨_, _, _, _, _, e, _⟩ := pv
    exact ex_l e hS
  · obtain ⟨v3, v4, v5, v6, rfl, e, hq⟩ := pv
    have hi : i < ks.length := by have := (List.getElem?_eq_some_iff.mp hx).1; omega
    obtain ⟨t, ve, rfl, ht, hd⟩ := hA i x ks[i] hx (List.getElem?_eq_getElem hi)
    have ⟨hdep, wd, hw⟩ := ho.2 ks[i] (List.getElem_mem hi)
    have hrow : ks.drop i = ks[i] :: ks.drop (i + 1) := List.drop_eq_getElem_cons hi
    have o1 := okR.2 ks[i] (List.getElem_mem hi)
    have o2 := okS.2 ks[i] (List.getElem_mem hi)
    rw [hrow] at hq
    refine gt2 (ex_t e ht) ?_
    refine q_asgU35 (ec_lrank (ec_eval (ev_var rfl) (ev_var rfl) ⟨ex_dp e hd, hdep, wd, hw⟩ (ex_l e ha) okR.1 hr.2.1) o1) fun p1 H1 hp1 e1 h1 => ?_
    have x1 := e.trans e1
    refine q_asgU35 (ec_lrank (ec_eval (ev_var rfl) (ev_var rfl) ⟨ex_dp x1 hd, hdep, wd, hw⟩ (ex_l x1 hb) okS.1 hs.2.1) o2) fun p2 H2 hp2 e2 h2 => ?_
    have x2 := x1.trans e2
    have h1' := e2 _ _ h1
    refine s_when (b := !PyData.eqv (rkD (evE r ks[i].e)) (rkD (evE s ks[i].e))) (et_test (ev_op (ev_var rfl) (ev_var rfl) fun H3 e3 Q q => ⟨_, _, dp_rk o1 (e3 _ _ h1'), dp_rk o2 (e3 _ _ h2), shaped_rk o1, shaped_rk o2, q H3 (Ex.refl H3)⟩)) (fun hb H3 e3 => ?_) fun hb H3 e3 => ?_
    · have hne : ¬ PyData.eqv (rkD (evE r ks[i].e)) (rkD (evE s ks[i].e)) = true := by simpa using hb
      refine s_ret (v := .bl (firstV r s ks)) (ev_is (ev_op (ev_op (ev_var rfl) (ev_var rfl) (rv_ltR (e3 _ _ h1') (e3 _ _ h2) o1 o2)) (ev_var rfl) (rv_ne rfl)) ?_) fun H4 e4 => q H4 ((x2.trans e3).trans e4)
      rw [hq, firstV, if_neg hne]
      cases vlt (evE r ks[i].e) (evE s ks[i].e) <;> cases ks[i].d <;> decide
    · have heq : PyData.eqv (rkD (evE r ks[i].e)) (rkD (evE s ks[i].e)) = true := by simpa using hb
      exact ⟨_, _, _, _, rfl, x2.trans e3, by rw [hq, firstV, if_pos heq]⟩
  · obtain ⟨v3, v4, v5, v6, rfl, e, hq⟩ := pv
    rw [hq, hlen, List.drop_length] at q
    exact s_ret (v := .bl (!rowLt s r)) (ev_rowsLe (ld_ranks (ev_var rfl) (ex_l e ha) ⟨okR.1, hr.2.1⟩) (fun H1 e1 => ld_ranks (ev_var rfl) (ex_l (e.trans e1) hb) ⟨okS.1, hs.2.1⟩) (ok_rw hr.2) (ok_rw hs.2)) fun H2 e2 => q H2 (e.trans e2)
theorem ok__law_sorted (D : Dn K mg "_law_sorted" s__law_sorted ["rows", "keys"]) (c__law_first : C8.Cal P w K mg base 20 "_law_first" (sp__law_first K) []) (z_len : mg "len" = none) :
    C8.Cal P w K mg base 21 "_law_sorted" (sp__law_sorted K) [] := by
  refine cal_of D sc__law_sorted (fun vs H Q E h => ?_) (fun f cdv A outer s H vs Q E hr h => ?_)
  · obtain ⟨_, _, _, _, rfl, _⟩ := h
    rfl
  refine ⟨_, (pss_cons (ps_set (i := 2) sc__law_sorted.nd rfl (.inl rfl) (pe_lst pa_nil))
    (pss_cons (ps_for PassesOwn.never rfl (pi_list (pv 0)) (pg_name (i := 3) sc__law_sorted.nd rfl (.inl rfl))
      (pss_cons (ps_set (i := 4) sc__law_sorted.nd rfl (.inl rfl) (pe_callB call_len_seq (by rfl) z_len PySem.boot_len (pa_cons (pv 2) pa_nil)))
    (pss_cons (ps_while PassesOwn.never (PW.pt (pw_and (pt_cmpR op_gt (pv 4) pe_int (nomark _)) (pw_and1 (pt_not (pt_val (C8.pe_c c__law_first hr (by decide) (by rfl) (pa_cons (pe_ix ix_list (pv 2) (pe_op op_sub (pv 4) pe_int) (fun _ _ => rfl)) (pa_cons (pv 3) (pa_cons (pv 1) pa_nil)))))))))
      (pss_one (ps_set (i := 4) sc__law_sorted.nd rfl (.inl rfl) (pe_op op_sub (pv 4) pe_int))))
    (pss_one (ps_set (i := 2) sc__law_sorted.nd rfl (.inl rfl) (pe_op op_cat (pe_op op_cat (pe_slice sl_list (pv 2) po_none (po_some (pv 4))) (pe_lst (pa_cons (pv 3) pa_nil))) (pe_slice sl_list (pv 2) (po_some (pv 4)) po_none)))))))
    (pss_one (ps_ret (pv 2))))), ?_⟩
  obtain ⟨a, kt, ks, L, rfl, ⟨qa, hqa, hAa⟩, hk, ho, hg, hl, q⟩ := h
  have okR : ∀ r ∈ L, OkR35 ks r := fun r hr => (hg r hr).ok ho
  have tot := leAll_total ks
  refine q_asgL (el_lst ea_nil (by decide)) fun pf0 H1 hpf0 e1 h1 => ?_
  refine q_forLn (xs := qa.map V.ref) (ev_var rfl) (sq_of (e1 _ _ hqa)) (fun i σ' H' => ∃ (pf : Addr) (v3 v4 : Option V) (fs : List PRow), σ' = [some (.ref a), some (.ref kt), some (.ref pf), v3, v4] ∧ Ex H H' ∧ H pf = none ∧ H' pf = some (.lst (refP fs)) ∧ RowP H fs ∧ fs.map (·.2) = insAll (leAll ks) (L.take i) [])
    (fun H2 e2 => ⟨pf0, none, none, [], rfl, e1.trans e2, hpf0, e2 _ _ h1, (fun p h => nomatch h), rfl⟩) (fun i σ' H' _ pv => ?_) (fun i x σ' H' hi pv => ?_) fun σ' H' pv => ?_
  · obtain ⟨_, _, _, _, _, e, _⟩ := pv
    exact sq_of (e _ _ hqa)
  · obtain ⟨pf, v3, v4, fs, rfl, x, hpf, hfs, hP, hrows⟩ := pv
    obtain ⟨b, r, rfl, hb, hr, hrow⟩ := al2_inX hAa hi
    have hgr := hg r (List.mem_of_getElem? hr)
    have htk : L.take (i + 1) = L.take i ++ [r] := by rw [List.take_add_one, hr]; rfl
    obtain ⟨sp1, sp2⟩ := insAll_pair tot (l := L.take i) (acc := []) .nil
    rw [← hrows] at sp1
    obtain ⟨u1, u2⟩ := upto_split tot r sp1
    have hnx : insAll (leAll ks) (L.take (i + 1)) [] = insLe (leAll ks) r (fs.map (·.2)) := by rw [htk, insAll_snoc, hrows]
    have hil : insLe (leAll ks) r (fs.map (·.2)) = (fs.map (·.2)).take (uptoN (leAll ks) r (fs.map (·.2))) ++ [r] ++ (fs.map (·.2)).drop (uptoN (leAll ks) r (fs.map (·.2))) := rfl
    rw [hil] at hnx
    have lfs : fs.length ≤ 60 := by
      have h9 := congrArg List.length hrows
      rw [List.length_map, (insAll_perm (le := leAll ks) (l := L.take i) (acc := [])).length_eq, List.append_nil, List.length_take] at h9
      omega
    rw [List.length_map] at u1
    generalize uptoN (leAll ks) r (fs.map (·.2)) = n0 at hnx u1 u2
    have lf : (refP fs).length = fs.length := List.length_map ..
    refine q_asg (v := .int (fs.length : Int)) (ev_is (ev_len (ev_var rfl) (sq_of hfs)) (by rw [lf])) fun H2 e2 => ?_
    refine q_while (fun m σ' H3 => ∃ at_ : Nat, σ' = [some (.ref a), some (.ref kt), some (.ref pf), some (.ref b), some (.int (at_ : Int))] ∧ Ex H' H3 ∧ n0 ≤ at_ ∧ at_ ≤ fs.length ∧ m = at_) fs.length ⟨fs.length, rfl, e2, u1, Nat.le_refl _, rfl⟩ fun at_ σ' H3 pv => ?_
    obtain ⟨_, rfl, y, hat1, hat2, rfl⟩ := pv
    have x3 := x.trans y
    refine ⟨decide (0 < at_) && (match fs[at_ - 1]? with | some z => !leAll ks z.2 r | none => false), et_and (et_test (ev_is (ev_op (ev_var rfl) ev_c rv_I0) (by congr 1; exact decide_eq_decide.mpr (by omega)))) (fun hlt => ?_), fun hb1 H4 e4 => ?_, fun hb1 H4 e4 => ?_⟩
    · have hlt := of_decide_eq_true hlt
      have hix : at_ - 1 < fs.length := by omega
      have hz : fs[at_ - 1]? = some fs[at_ - 1] := List.getElem?_eq_getElem hix
      rw [hz]
      obtain ⟨g1, g2⟩ := hP _ (List.getElem_mem hix)
      exact et_not (et_B (ec_first (ev_op (ev_var rfl) (ev_is (w := .int ((at_ - 1 : Nat) : Int)) (ev_op (ev_var rfl) ev_c rv_I0) (by congr 1; omega)) (rv_ixL (sq_of (y _ _ hfs)) (atI_nat (by unfold refP; rw [List.getElem?_map, hz]; rfl)))) (ev_var rfl) (ev_var rfl) (sq_of (x3 _ _ g1)) (sq_of (x3 _ _ hrow)) (hk.ex x3) g2 hgr ho))
    · rw [Bool.and_eq_true] at hb1
      have hlt := of_decide_eq_true hb1.1
      have hix : at_ - 1 < fs.length := by omega
      have hz : fs[at_ - 1]? = some fs[at_ - 1] := List.getElem?_eq_getElem hix
      have hnl : (!leAll ks fs[at_ - 1].2 r) = true := by
        have h9 := hb1.2
        rw [hz] at h9
        exact h9
      have hge : n0 ≤ at_ - 1 := by
        rcases Nat.lt_or_ge (at_ - 1) n0 with z | z
        · rw [(u2 (at_ - 1) fs[at_ - 1].2 (by rw [List.getElem?_map, hz]; rfl)).1 z] at hnl; cases hnl
        · exact z
      exact ⟨fun σ2 H5 => ∃ m', m' < at_ ∧ ∃ at_ : Nat, σ2 = [some (.ref a), some (.ref kt), some (.ref pf), some (.ref b), some (.int (at_ : Int))] ∧ Ex H' H5 ∧ n0 ≤ at_ ∧ at_ ≤ fs.length ∧ m' = at_, fun σ2 H2 h => h, s_asg (v := .int ((at_ - 1 : Nat) : Int)) (ev_is (ev_op (ev_var rfl) ev_c rv_I0) (by congr 1; omega)) fun H5 e5 => ⟨at_ - 1, by omega, at_ - 1, rfl, (y.trans e4).trans e5, hge, by omega, rfl⟩⟩
    · have heq : at_ = n0 := by
        by_cases h0 : 0 < at_
        · have hix : at_ - 1 < fs.length := by omega
          have hz : fs[at_ - 1]? = some fs[at_ - 1] := List.getElem?_eq_getElem hix
          rw [hz, decide_eq_true h0, Bool.true_and] at hb1
          have hle : leAll ks fs[at_ - 1].2 r = true := by
            have h9 : (!leAll ks fs[at_ - 1].2 r) = false := hb1
            simpa using h9
          rcases Nat.lt_or_ge (at_ - 1) n0 with z | z
          · omega
          · rw [(u2 (at_ - 1) fs[at_ - 1].2 (by rw [List.getElem?_map, hz]; rfl)).2 z] at hle; cases hle
        · omega
      subst heq
      have hfs4 := (y.trans e4) _ _ hfs
      have s1 := el_sl (K := K) (σ := [some (.ref a), some (.ref kt), some (.ref pf), some (.ref b), some (.int (at_ : Int))]) (H := H4) (te := tVar 2) (tl := tNoPart) (th := tPart (tVar 4)) (ev_var rfl) eo_none (eo_some (ev_var rfl)) (sq_of hfs4)
      have s2 := el_sl (K := K) (σ := [some (.ref a), some (.ref kt), some (.ref pf), some (.ref b), some (.int (at_ : Int))]) (H := H4) (te := tVar 2) (tl := tPart (tVar 4)) (th := tNoPart) (ev_var rfl) (eo_some (ev_var rfl)) eo_none (sq_of hfs4)
      rw [cutV_take] at s1
      rw [cutV_drop] at s2
      have l1 : ((refP fs).take at_).length ≤ 60 := by rw [List.length_take]; omega
      have l2 : ((refP fs).drop at_).length ≤ 60 := by rw [List.length_drop]; omega
      refine s_asgLX (el_catNN (el_catNN s1 (el_lst (ea_cons (ev_var rfl) ea_nil) (by show 1 ≤ 100000; decide)) (by show _ + 1 ≤ _; omega)) s2 (by rw [List.length_append]; show _ + 1 + _ ≤ _; omega)) fun p H5 hp e5 h5 => ⟨p, _, _, fs.take at_ ++ [(b, r)] ++ fs.drop at_, rfl, (x3.trans e4).trans e5, fresh_back (x3.trans e4) hp, by
        rw [h5]
        unfold refP
        rw [List.map_append, List.map_append, List.map_take, List.map_drop]
        rfl, ?_, ?_⟩
      · intro z hz
        rcases List.mem_append.mp hz with h | h
        · rcases List.mem_append.mp h with h | h
          · exact hP z (List.mem_of_mem_take h)
          · rw [List.mem_singleton.mp h]
            exact ⟨hrow, hgr⟩
        · exact hP z (List.mem_of_mem_drop h)
      · rw [hnx, List.map_append, List.map_append, List.map_take, List.map_drop]
        rfl
  · obtain ⟨pf, v3, v4, fs, rfl, x, hpf, hfs, hP, hrows⟩ := pv
    rw [List.length_map, hAa.1, List.take_length] at hrows
    obtain ⟨sp1, sp2⟩ := insAll_pair tot (l := L) (acc := []) .nil
    rw [List.append_nil] at sp2
    rw [sorts_uniq okR sp2 sp1] at hrows
    exact s_ret (ev_var rfl) fun H2 e2 => q pf H2 (fs.map (·.1)) hpf (x.trans e2) (by rw [e2 _ _ hfs]; unfold refP; rw [List.map_map]; rfl) (by rw [← hrows]; exact hP.al)
theorem ok__law_keys (D : Dn K mg "_law_keys" s__law_keys ["state"]) (c__law_digit : C8.Cal P w K mg base 1 "_law_digit" (sp__law_digit K) []) (z_range : mg "range" = none) :
    C8.Cal P w K mg base 2 "_law_keys" (sp__law_keys K) [] := by
  refine cal_of D sc__law_keys (fun vs H Q E h => ?_) (fun f cdv A outer s H vs Q E hr h => ?_)
  · obtain ⟨_, rfl, _⟩ := h
    rfl
  refine ⟨_, (pss_cons (ps_set (i := 1) sc__law_keys.nd rfl (.inl rfl) (pe_lst pa_nil))
    (pss_cons (ps_for PassesOwn.never rfl (pi_range1 rfl z_range (pa_cons (C8.pe_c c__law_digit hr (by decide) (by rfl) (pa_cons (pv 0) (pa_cons pe_int pa_nil))) pa_nil)) (pg_name (i := 2) sc__law_keys.nd rfl (.inl rfl))
      (pss_cons (ps_set (i := 3) sc__law_keys.nd rfl (.inl rfl) (pe_ix ix_tup (pe_tup (pa_cons (pe_tup (pa_cons pe_str (pa_cons (C8.pe_c c__law_digit hr (by decide) (by rfl) (pa_cons (pv 0) (pa_cons pe_int pa_nil))) pa_nil))) (pa_cons (pe_tup (pa_cons pe_str (pa_cons pe_str (pa_cons (pe_tup (pa_cons pe_str (pa_cons pe_int pa_nil))) pa_nil)))) pa_nil))) (pe_op op_fdiv (C8.pe_c c__law_digit hr (by decide) (by rfl) (pa_cons (pv 0) (pa_cons pe_int pa_nil))) pe_int) (fun _ _ => rfl)))
    (pss_one (ps_expr (pe_bm PySem.F.plainAttrs_list PySem.F.slot_list_append PySem.F.type_list_append mt_append (pv 1) (pa_cons (pe_tup (pa_cons (pv 3) (pa_cons (pe_cmpR op_eq (C8.pe_c c__law_digit hr (by decide) (by rfl) (pa_cons (pv 0) (pa_cons pe_int pa_nil))) pe_int (nomark _)) pa_nil))) pa_nil))))))
    (pss_one (ps_ret (pv 1))))), ?_⟩
  obtain ⟨p, rfl, d, q⟩ := h
  refine q_asgL (el_lst ea_nil (by decide)) fun l H1 hl e1 h1 => ?_
  have hlp : l ≠ p := fun z => by
    obtain ⟨s, _, h⟩ := d
    rw [← z, hl] at h
    cases h
  have d1 := d.ex e1
  refine q1_forR1 (m := 2) (ez_mono (ez_digit (ev_var rfl) ev_c (by decide) (by decide)) fun i hi => by omega) (by decide) d1 (fun j σ' H' => ∃ (v2 v3 : Option V) (xs : List V) (ks : List SKey), σ' = [some (.ref p), some (.ref l), v2, v3] ∧ Ex (wo p H) H' ∧ Dr p H' ∧ H' l = some (.lst xs) ∧ DpAll K H' xs (ks.map keyD) ∧ ks.length = j ∧ ∀ k ∈ ks, KeyC k.e)
    (fun H3 e3 d3 => ⟨none, none, [], [], rfl, wx_trans (wx_of e1) e3, d3, e3 _ _ (by rw [wo_ne hlp]; exact h1), .nil, rfl, fun x hx => nomatch hx⟩) (fun j σ' H3 hj pv => ?_) fun n σ' H3 hn pv => ?_
  · obtain ⟨v2, v3, xs, ks, rfl, e3, d3, h3, hD, hlen, hk⟩ := pv
    have hxl := dps_len hD
    rw [List.length_map] at hxl
    refine qx_asg (P := fun d => ∃ e, KeyC e ∧ d = e.d) (x_ix (m := 2) (PL := fun ds => ∃ n : Nat, n < 2 ∧ ds = [Cnd.d (.col n), Cnd.d (.un "is null" (.col 1))]) (x_mono (x_tup (xa_cons (x_tup (xa_cons (x_pure ev_c (fun _ => .str _) rfl) (xa_cons (x_int (PI := fun j => 0 ≤ j ∧ j < 2) (ez_digit (ev_var rfl) ev_c (by decide) (by decide))) xa_nil)) ?_) (xa_cons (x_tup (xa_cons (x_pure ev_c (fun _ => .str _) rfl) (xa_cons (x_pure ev_c (fun _ => .str _) rfl) (xa_cons (x_tup (xa_cons (x_pure ev_c (fun _ => .str _) rfl) (xa_cons (x_pure ev_c (fun _ => .int _) rfl) xa_nil)) ?_) xa_nil))) ?_) xa_nil)) ?_) ?_) (ez_op (ez_digit (m := 4) (ev_var rfl) ev_c (by decide) (by decide)) (e1_int (PI := fun j => j = 3) ev_c rfl) fun i j hi hj => ⟨by subst hj; exact ⟨by decide, by decide⟩, by subst hj; omega⟩) ?_) d3 fun v H4 d' ⟨e, he, hd'⟩ hn hv e4 d4 => ?_
    · rintro ds ⟨_, _, rfl, _, _, _, rfl, _, rfl⟩
      show 2 ≤ 100000
      decide
    · rintro ds ⟨_, _, rfl, _, _, _, rfl, _, rfl⟩
      show 2 ≤ 100000
      decide
    · rintro ds ⟨_, _, rfl, _, _, _, rfl, _, _, _, rfl, _, rfl⟩
      show 3 ≤ 100000
      decide
    · rintro ds ⟨_, _, rfl, _, _, _, rfl, _, rfl⟩
      show 2 ≤ 100000
      decide
    · rintro d ⟨ds, rfl, _, _, rfl, ⟨_, rfl, _, _, rfl, rfl, _, _, rfl, ⟨j, hj, rfl⟩, rfl⟩, _, _, rfl, ⟨_, rfl, _, _, rfl, rfl, _, _, rfl, rfl, _, _, rfl, ⟨_, rfl, _, _, rfl, rfl, _, _, rfl, rfl, rfl⟩, rfl⟩, rfl⟩
      obtain ⟨jn, rfl⟩ := Int.eq_ofNat_of_zero_le hj.1
      exact ⟨_, rfl, jn, by omega, rfl⟩
    · rintro ds j ⟨n, hn, rfl⟩ hj
      rcases (show j = 0 ∨ j = 1 by omega) with z | z <;> subst z
      · exact ⟨_, rfl, _, .inl ⟨n, hn, rfl⟩, rfl⟩
      · exact ⟨_, rfl, _, .inr rfl, rfl⟩
    subst hd'
    have hl4 : H4 l = some (.lst xs) := e4 _ _ (by rw [wo_ne hlp]; exact h3)
    have hnl : noLs (ks.map keyD) = true := noLs_key ks
    have hD4 := dps_wx hD hnl d3 e4
    refine s_appX (R := fun d => ∃ b, d = .tuple [e.d, .bool b]) hl4 hlp (fun _ => ev_var rfl) (x_mono (x_tup (xa_cons (x_var rfl hv hn d4) (xa_cons (x_bl (ez_eq (ez_digit (m := 2) (ev_var rfl) ev_c (by decide) (by decide)) (e1_int (PI := fun j => j = 1) ev_c rfl))) xa_nil)) ?_) ?_) d4 (by omega) fun v5 H5 d' ⟨b, hd5⟩ hn5 hv5 e5 d5 => ?_
    · rintro ds ⟨_, _, rfl, _, _, _, rfl, _, rfl⟩
      show 2 ≤ 100000
      decide
    · rintro d ⟨ds, rfl, _, _, rfl, rfl, _, _, rfl, ⟨b, rfl⟩, rfl⟩
      exact ⟨b, rfl⟩
    subst hd5
    have hl5 : H5 l = some (.lst xs) := e5 _ _ (by rw [wo_ne hlp]; exact hl4)
    refine ⟨_, _, xs ++ [v5], ks ++ [⟨e, b⟩], rfl, Ex.mut (wx_trans (wx_trans e3 e4) e5) (by rw [wo_ne hlp]; exact hl), d5.upd (Ne.symm hlp), upd_same, ?_, by rw [List.length_append, hlen]; rfl, fun x hx => ?_⟩
    · rw [List.map_append]
      exact dps_snoc (dps_upd hl5 hnl (dps_wx hD4 hnl d4 e5)) (dp_upd hl5 hn5 hv5)
    · rcases List.mem_append.mp hx with h | h
      · exact hk x h
      · rw [List.mem_singleton.mp h]; exact he
  · obtain ⟨v2, v3, xs, ks, rfl, e3, d3, h3, hD, hlen, hk⟩ := pv
    exact s_ret (ev_var rfl) fun H4 e4 => q l H4 ks hk (by omega) (keysL_of (sq_of (e4 _ _ h3)) (ex_dps e4 hD)) hl (wx_trans e3 (wx_of e4)) (d3.ex e4)
end
theorem lt_mk {K : PySem.W.Frag} {H : Hp} {P1 P2 : Addr} (e1 : tabOf K "_sorted_by" = P1) (e2 : tabOf K "sorted_rows" = P2) (h1 : H P1 = some (.tbl #[])) (h2 : H P2 = some (.tbl #[])) (n : P1 ≠ P2) : LT K H := by
  unfold LT
  rw [e1, e2]
  exact ⟨LamX.TabS.nil h1, LamX.TabS.nil h2, fun z => n z.symm⟩
theorem dv_okb {x : V} (h : DV x) : Ok x ∧ bdV x := by
  cases h with
  | non => exact ⟨.non, trivial⟩
  | bl b => exact ⟨.bl b, trivial⟩
  | int i h => exact ⟨.int i, by show _ ∧ _; omega⟩
  | str l h hc => exact ⟨.str _ ⟨strOk_S fun c h => signs_ok c (hc c h), by rw [SX.S_len]; omega⟩, trivial⟩
theorem rows_wo {H : Hp} {ps pr : Addr} {L : List (List V)} (d : Dr ps H) (h : Lst2 RowAt H pr L) (n : pr ≠ ps) (h2 : ∀ r ∈ L, r.length = 2) : Lst2 RowAt (wo ps H) pr L := by
  obtain ⟨s, _, hs⟩ := d
  obtain ⟨qs, h1, hA⟩ := h
  refine ⟨qs, by rw [wo_ne n]; exact h1, hA.mono fun q r hr h => ?_⟩
  show wo ps H q = _
  rw [wo_ne (fun z => by
    have h' : H q = some (.lst r) := h
    rw [z, hs] at h'
    have e := HO.lst.inj (Option.some.inj h')
    have := h2 r hr
    rw [← e] at this
    exact absurd (show (1 : Nat) = 2 from this) (by decide))]
  exact h
theorem wx_wo {p : Addr} {H1 H2 : Hp} (e : Ex (wo p H1) H2) : Ex (wo p H1) (wo p H2) := fun a o h => by
  have hn : a ≠ p := fun z => by rw [z, wo_self] at h; cases h
  rw [wo_ne hn]
  exact e a o h
theorem sqL_wo {K : PySem.W.Frag} {H : Hp} {a p : Addr} {xs : List V} (n : a ≠ p) (h : SqL K H a xs) : SqL K (wo p H) a xs := by
  rcases h with (h | ⟨o, h⟩) | h
  · exact .inl (.inl (by rw [wo_ne n]; exact h))
  · exact .inl (.inr ⟨o, by rw [wo_ne n]; exact h⟩)
  · exact .inr h
theorem sqT_wo {K : PySem.W.Frag} {H : Hp} {a p : Addr} {xs ys : List V} (hp : H p = some (.lst ys)) (h : SqT K H a xs) : SqT K (wo p H) a xs := by
  rcases h with (h | ⟨o, h⟩) | h
  · exact .inl (.inl (by rw [wo_ne (by intro z; rw [z, hp] at h; cases h)]; exact h))
  · exact .inl (.inr ⟨o, by rw [wo_ne (by intro z; rw [z, hp] at h; cases h)]; exact h⟩)
  · exact .inr h
theorem keys_wo {K : PySem.W.Frag} {H : Hp} {a p : Addr} {ks : List SKey} (d : Dr p H) (n : a ≠ p) (h : KeysAt K H a ks) : KeysAt K (wo p H) a ks := by
  obtain ⟨s, _, hs⟩ := d
  obtain ⟨xs, h1, h2, h3⟩ := h
  refine ⟨xs, sqL_wo n h1, h2, fun i x k a b => ?_⟩
  obtain ⟨t, ve, q1, q2, q3⟩ := h3 i x k a b
  exact ⟨t, ve, q1, sqT_wo hs q2, dp_wo hs (noL_cx k.e) q3⟩
theorem tabS_wo {H : Hp} {P D : Addr} {q : Str} {acc : List V} (h : LamX.TabS H P q) (hD : H D = some (.lst acc)) : LamX.TabS (wo D H) P q := by
  obtain ⟨ps, h1, h2, h3⟩ := h
  refine ⟨ps, by rw [wo_ne (fun z => by rw [z, hD] at h1; cases h1)]; exact h1, h2, fun pos cv hc => ?_⟩
  obtain ⟨c, e1, e2⟩ := h3 pos cv hc
  refine ⟨c, e1, ?_⟩
  rw [wo_ne (fun z => by
    rw [z, hD] at e2
    have e3 := Option.some.inj e2
    unfold LamX.CodeO at e3
    cases e3)]
  exact e2
theorem lt_wo {K : PySem.W.Frag} {H : Hp} {p : Addr} (h : LT K H) (d : Dr p H) : LT K (wo p H) := by
  obtain ⟨s, _, hs⟩ := d
  exact ⟨tabS_wo h.1 hs, tabS_wo h.2.1 hs, h.2.2⟩
theorem lt_wx {K : PySem.W.Frag} {H H' : Hp} {p : Addr} (h : LT K H) (d : Dr p H) (e : Ex (wo p H) H') : LT K H' := (lt_wo h d).ex e
section
variable {K : PySem.W.Frag} {σ : L2.St} {H : Hp} {te ta tb tc tl : TE} {t : TT} {D : Ends} {tz tu : TS} {E : XK} {R : Hp → Addr → List (List V) → Prop}
theorem q_asgE {i : Nat} (h : te σ H fun v H1 => tz D (σ.set i (some v)) H1) : tSeq (tAsg te (gName i)) tz D σ H := h
theorem q_whenG {G : Hp → Prop} (h : ∀ Q : VK, (∀ H2, G H2 → Q (.bl true) H2) → te σ H Q) (k : ∀ H2, G H2 → tz D σ H2) : tSeq (tIfS (tNot (tB te)) tu tNext) tz D σ H := h _ fun H2 hg => ⟨true, rfl, by
  show tz D σ H2
  exact k H2 hg⟩
theorem q_orG {G : Hp → Prop} (h : ∀ Q : VK, (∀ H2, G H2 → Q (.bl true) H2) → te σ H Q) (h2 : ∀ H2, G H2 → Ev ta σ H2 (.bl true)) (k : ∀ H2 H3, G H2 → Ex H2 H3 → tz D σ H3) : tSeq (tIfS (tOr (tNot (tB te)) (tNot (tB ta))) tu tNext) tz D σ H := h _ fun H2 hg => ⟨true, rfl, by
  show tNot (tB ta) σ H2 fun b H1 => if b = true then tu { D with nx := tz D } σ H1 else tNext { D with nx := tz D } σ H1
  exact h2 H2 hg H2 (Ex.refl H2) _ fun H3 e3 => ⟨true, rfl, by
    show tz D σ H3
    exact k H2 H3 hg e3⟩⟩
/-- [a new list for at in range(0, n, c)], the growing list told -/
theorem er_lcC2 (hm : Mn R) {n c : Nat} {tr : TA} {j : Nat} {vs : List Nat} (f : Nat → List (List V)) (h : EvA tr σ H [.int 0, .int (n : Int), .int (c : Int)]) (hn : n ≤ 40000) (hc : 0 < c) (hc2 : c ≤ 100000) (hw : ∀ x, wipe ((wipe σ vs).set j (some x)) vs = wipe σ vs)
    (he : ∀ (i : Nat) (H1 : Hp) (D : Addr), Ex H H1 → H D = none → (∃ qs : List Addr, H1 D = some (.lst (qs.map V.ref))) → i < stepsN n c → ∀ Q : VK, (∀ p H2, H1 p = none → Ex H1 H2 → R (wo D H2) p (f i) → Q (.ref p) H2) → te ((wipe σ vs).set j (some (.int ((i * c : Nat) : Int)))) H1 Q) :
    EvRo (fun H p => Lst3 R H p ((List.range (stepsN n c)).map f)) (tLc (iRng3 tr) (gName j) tYes te vs) σ H := fun H0 e0 Q q => h H0 e0 _ fun H1 e1 => ⟨0, (n : Int), (c : Int), stepsN n c, rfl, RgC.up (by omega) hc hc2, fun D hD =>
  lc_rangeC (lo := 0) (c := (c : Int)) (n := stepsN n c) (fun i H' => H1 D = none ∧ Ex H1 H' ∧ ∃ qs, H' D = some (.lst (qs.map V.ref)) ∧ Al2 R (wo D H') qs ((List.range i).map f)) ⟨hD, Ex.new hD, [], upd_same, Al2.nil⟩
    (fun i H' hi p => by
      obtain ⟨p1, p2, qs, p3, p4⟩ := p
      have e9 : (0 : Int) + ((i : Nat) : Int) * (c : Int) = ((i * c : Nat) : Int) := by rw [Int.natCast_mul, Int.zero_add]
      refine ⟨hw _, ?_⟩
      show te ((wipe σ vs).set j (some (.int ((0 : Int) + ((i : Nat) : Int) * (c : Int))))) H' fun y H4 => ∃ acc, H4 D = some (.lst acc) ∧ acc.length < sizeLine ∧ _
      rw [e9]
      refine he i H' D ((e0.trans e1).trans p2) (fresh_back (e0.trans e1) hD) ⟨_, p3⟩ hi _ fun r H4 hr e4 hR => ⟨_, e4 _ _ p3, sz_lt ?_, p1, Ex.mut (p2.trans e4) p1, qs ++ [r], by rw [upd_same, List.map_append]; rfl, ?_⟩
      · have := p4.1
        rw [List.length_map, List.length_range] at this
        have h9 := stepsN_le (n := n) hc
        rw [List.length_map]
        omega
      · rw [wo_upd, List.range_succ, List.map_append]
        exact (p4.mono fun q l _ => hm _ _ _ _ (wo_mono e4)).snoc hR)
    (fun H' p => by
      obtain ⟨p1, p2, qs, p3, p4⟩ := p
      exact q D H' (fresh_back e1 p1) (e1.trans p2) ⟨qs, p3, p4⟩)⟩
end
theorem okrows_of {L : List (List V)} (hl : L.length ≤ 60) (hg : ∀ r ∈ L, RowG r) : OkRows L := ⟨by omega, fun r hr => ⟨fun x hx => ((hg r hr).2.2 x hx).1, (hg r hr).2.1⟩⟩
theorem row_ne {H : Hp} {q D : Addr} {r : List V} {qs : List Addr} (h : H q = some (.lst r)) (hg : RowG r) (hD : H D = some (.lst (qs.map V.ref))) : q ≠ D := fun z => by
  rw [z, hD] at h
  have e := HO.lst.inj (Option.some.inj h)
  cases qs with
  | nil => exact hg.1 e.symm
  | cons a r' =>
    rw [← e] at hg
    cases (hg.2.2 (.ref a) List.mem_cons_self).1
theorem cut_drop {S : List (List V)} {skip c : Nat} : cutL S skip (some c) = (S.drop skip).take c := by
  show (S.take (skip + c)).drop skip = _
  rw [List.drop_take, show skip + c - skip = c by omega]
theorem cut_non {S : List (List V)} {skip : Nat} : cutL S skip none = S.drop skip := by
  show (S.take S.length).drop skip = _
  rw [List.take_length]
theorem keyc_ok {e : Cnd} (h : KeyC e) : e.dep ≤ 8 ∧ e.ok 2 := by
  rcases h with ⟨n, hn, rfl⟩ | rfl
  · exact ⟨by show 1 ≤ 8; decide, .col n hn⟩
  · exact ⟨by show 2 ≤ 8; decide, .un _ _ (by decide +kernel) (.col 1 (by decide))⟩
section
variable {P : Program} {w : World} {K : PySem.W.Frag} {mg : Str → Option Value} {base : Heap}
theorem ok_law {fa : Addr} {s : Shared} {H : Hp} {a : Addr} {ns : List Int} {cdv : Value} (c__law_cell : C8.Cal P w K mg base 1 "_law_cell" (sp__law_cell K) []) (c__law_digit : C8.Cal P w K mg base 1 "_law_digit" (sp__law_digit K) []) (c__law_is_integer : C8.Cal P w K mg base 1 "_law_is_integer" (sp__law_is_integer K) []) (c__law_keys : C8.Cal P w K mg base 2 "_law_keys" (sp__law_keys K) []) (c__law_rows : C8.Cal P w K mg base 4 "_law_rows" (sp__law_rows K) []) (c__law_same_rows : C8.Cal P w K mg base 3 "_law_same_rows" (sp__law_same_rows K) []) (c__law_sorted : C8.Cal P w K mg base 21 "_law_sorted" (sp__law_sorted K) []) (c__law_state : C8.Cal P w K mg base 1 "_law_state" (sp__law_state K) []) (c_merge_runs : C8.Cal P w K mg base 21 "merge_runs" (sp_merge_runs K) []) (c_sort_rows : C8.Cal P w K mg base 24 "sort_rows" (sp_sort_rows K) []) (c_sort_written : C8.Cal P w K mg base 1 "sort_written" (sp_sort_written K) []) (c_top_rows : C8.Cal P w K mg base 25 "top_rows" (sp_top_rows K) []) (c_top_written : C8.Cal P w K mg base 2 "top_written" (sp_top_written K) []) (z_int : mg "int" = none) (z_len : mg "len" = none) (z_list : mg "list" = none) (z_max : mg "max" = none) (z_range : mg "range" = none) (hT : LT K H) (h63 : ns.length ≤ 63) (hS : SqL K H a (ns.map V.int))
    (hr : Room 25 (callerA.deeper (envOfC "law" (C8.fnScope s_law) s.heap.objs.size fa cdv))) :
    ∃ t, PSs (cxOf C8.CX0 P w K mg base n_law "law" (C8.fnScope s_law) fa cdv callerA [] s H C8.E0).nox (C8.fnBody s_law) t ∧ t { nx := fun _ _ => V.non = .bl true, rt := fun v _ => v = .bl true } (start n_law [.ref a]) H := by
  refine ⟨_, (pss_cons (ps_set (i := 1) sc_law.nd rfl (.inl rfl) (C8.pe_c c__law_state hr (by decide) (by rfl) (pa_cons (C8.pe_c c__law_cell hr (by decide) (by rfl) (pa_cons (pv 0) (pa_cons pe_int pa_nil))) (pa_cons pe_int pa_nil))))
    (pss_cons (ps_set (i := 2) sc_law.nd rfl (.inr rfl) (C8.pe_c c__law_rows hr (by decide) (by rfl) (pa_cons (pv 0) (pa_cons pe_int (pa_cons pe_int (pa_cons pe_int pa_nil))))))
    (pss_cons (ps_set (i := 3) sc_law.nd rfl (.inr rfl) (C8.pe_c c__law_keys hr (by decide) (by rfl) (pa_cons (pv 1) pa_nil)))
    (pss_cons (ps_set (i := 4) sc_law.nd rfl (.inl rfl) (pe_ix ix_tup (pe_tup (pa_cons (pe_op op_add pe_int (C8.pe_c c__law_digit hr (by decide) (by rfl) (pa_cons (pv 1) (pa_cons pe_int pa_nil)))) (pa_cons (pe_callB call_len_seq (by rfl) z_len PySem.boot_len (pa_cons (pv 2) pa_nil)) (pa_cons (pe_callB (call_max2 rfl) (by rfl) z_max (by decide +kernel) (pa_cons pe_int (pa_cons (pe_op op_sub (pe_callB call_len_seq (by rfl) z_len PySem.boot_len (pa_cons (pv 2) pa_nil)) pe_int) pa_nil))) (pa_cons (pe_op op_add (pe_callB call_len_seq (by rfl) z_len PySem.boot_len (pa_cons (pv 2) pa_nil)) pe_int) pa_nil))))) (C8.pe_c c__law_digit hr (by decide) (by rfl) (pa_cons (pv 1) (pa_cons pe_int pa_nil))) (fun _ _ => rfl)))
    (pss_cons (ps_set (i := 4) sc_law.nd rfl (.inl rfl) (pe_callB (call_max2 rfl) (by rfl) z_max (by decide +kernel) (pa_cons pe_int (pa_cons (pv 4) pa_nil))))
    (pss_cons (ps_set (i := 5) sc_law.nd rfl (.inl rfl) (C8.pe_c c__law_sorted hr (by decide) (by rfl) (pa_cons (pv 2) (pa_cons (pv 3) pa_nil))))
    (pss_cons (ps_setLc (i := 6) (own := [("row", 15)]) (g := gName 15) (tt := tYes) rfl sc_law.nd rfl rfl (sw_true rfl rfl rfl (by decide +kernel)) (pi_list (pv 2)) (blkOk_by (N := n_law) (sc := C8.fnScope s_law) (by decide +kernel)) (fun _ _ _ _ _ => pg_name (i := 15) sc_law.nd rfl (Or.inl rfl)) (fun _ _ _ _ _ => pts_nil) (fun _ _ _ _ _ => (pe_callTy (call_list_ofK (K := K) rfl) (by rfl) z_list (by decide +kernel) (pa_cons (pv 15) pa_nil))))
    (pss_cons (ps_if (PW.pt (pw_or (pt_not (pt_val (C8.pe_c c__law_same_rows hr (by decide) (by rfl) (pa_cons (C8.pe_c c_sort_rows hr (by decide) (by rfl) (pa_cons (pv 6) (pa_cons (pv 3) (pa_cons (pv 4) pa_nil)))) (pa_cons (pv 5) pa_nil))))) (pw_or1 (pt_not (pt_val (C8.pe_c c__law_same_rows hr (by decide) (by rfl) (pa_cons (pv 6) (pa_cons (pv 2) pa_nil))))))))
      (pss_one (ps_ret pe_bl))
      pss_nil)
    (pss_cons (ps_set (i := 7) sc_law.nd rfl (.inl rfl) (pe_op op_mul (pe_callB call_len_seq (by rfl) z_len PySem.boot_len (pa_cons (pv 2) pa_nil)) (pe_callTy call_int1 (by rfl) z_int (by decide +kernel) (pa_cons (pe_cmpR op_gt (pe_callB call_len_seq (by rfl) z_len PySem.boot_len (pa_cons (pv 2) pa_nil)) (pv 4) (nomark _)) pa_nil))))
    (pss_cons (ps_set (i := 8) sc_law.nd rfl (.inl rfl) (C8.pe_c c_sort_written hr (by decide) (by rfl) (pa_cons (pv 6) (pa_cons (pv 4) pa_nil))))
    (pss_cons (ps_if (PW.pt (pw_or (pt_not (pt_val (C8.pe_c c__law_is_integer hr (by decide) (by rfl) (pa_cons (pv 8) pa_nil)))) (pw_or1 (pt_cmpR op_ne (pv 8) (pv 7) (nomark _)))))
      (pss_one (ps_ret pe_bl))
      pss_nil)
    (pss_cons (ps_setLc (i := 9) (own := [("at", 16)]) (g := gName 16) (tt := tYes) rfl sc_law.nd rfl rfl (sw_true rfl rfl rfl (by decide +kernel)) (pi_range3 rfl z_range (pa_cons pe_int (pa_cons (pe_callB call_len_seq (by rfl) z_len PySem.boot_len (pa_cons (pv 2) pa_nil)) (pa_cons pe_int pa_nil)))) (blkOk_by (N := n_law) (sc := C8.fnScope s_law) (by decide +kernel)) (fun _ _ _ _ _ => pg_name (i := 16) sc_law.nd rfl (Or.inl rfl)) (fun _ _ _ _ _ => pts_nil) (fun _ _ _ _ _ => (C8.pe_c c__law_sorted hr (by decide) (by rfl) (pa_cons (pe_slice (sl_listK (K := K) rfl) (pv 2) (po_some (pv 16)) (po_some (pe_op op_add (pv 16) pe_int))) (pa_cons (pv 3) pa_nil)))))
    (pss_cons (ps_if (pt_not (pt_val (C8.pe_c c__law_same_rows hr (by decide) (by rfl) (pa_cons (C8.pe_c c_merge_runs hr (by decide) (by rfl) (pa_cons (pv 9) (pa_cons (pv 3) pa_nil))) (pa_cons (pv 5) pa_nil)))))
      (pss_one (ps_ret pe_bl))
      pss_nil)
    (pss_cons (ps_for PassesOwn.never rfl (pi_range1 rfl z_range (pa_cons pe_int pa_nil)) (pg_name (i := 10) sc_law.nd rfl (.inl rfl))
      (pss_cons (ps_set (i := 1) sc_law.nd rfl (.inl rfl) (C8.pe_c c__law_state hr (by decide) (by rfl) (pa_cons (C8.pe_c c__law_cell hr (by decide) (by rfl) (pa_cons (pv 0) (pa_cons pe_int pa_nil))) (pa_cons (pe_op op_add pe_int (pv 10)) pa_nil))))
    (pss_cons (ps_set (i := 11) sc_law.nd rfl (.inl rfl) (C8.pe_c c__law_digit hr (by decide) (by rfl) (pa_cons (pv 1) (pa_cons pe_int pa_nil))))
    (pss_cons (ps_set (i := 12) sc_law.nd rfl (.inl rfl) (pe_ix ix_tup (pe_tup (pa_cons pe_non (pa_cons (C8.pe_c c__law_digit hr (by decide) (by rfl) (pa_cons (pv 1) (pa_cons pe_int pa_nil))) (pa_cons (pe_op op_sub (pv 4) (pv 11)) (pa_cons (pe_op op_add (pe_op op_sub (pv 4) (pv 11)) pe_int) pa_nil))))) (C8.pe_c c__law_digit hr (by decide) (by rfl) (pa_cons (pv 1) (pa_cons pe_int pa_nil))) (fun _ _ => rfl)))
    (Evl.pss_cut (ps_if (pt_cmpR op_notN (pv 12) pe_non (nomark _))
      (pss_one (ps_set (i := 12) sc_law.nd rfl (.inl rfl) (pe_callB (call_max2 rfl) (by rfl) z_max (by decide +kernel) (pa_cons pe_int (pa_cons (pv 12) pa_nil)))))
      pss_nil)
    (pss_cons (ps_set (i := 13) sc_law.nd rfl (.inl rfl) (pe_slice sl_list (pv 5) (po_some (pv 11)) po_none))
    (pss_cons (ps_set (i := 14) sc_law.nd rfl (.inl rfl) pe_bl)
    (Evl.pss_cut (ps_if (pt_cmpR op_notN (pv 12) pe_non (nomark _))
      (pss_cons (ps_set (i := 13) sc_law.nd rfl (.inl rfl) (pe_slice sl_list (pv 13) po_none (po_some (pv 12))))
    (pss_one (ps_set (i := 14) sc_law.nd rfl (.inl rfl) (pe_cmpR op_le (pe_op op_add (pv 11) (pv 12)) (pv 4) (nomark _)))))
      pss_nil)
    (pss_cons (ps_if (pt_not (pt_val (C8.pe_c c__law_same_rows hr (by decide) (by rfl) (pa_cons (C8.pe_c c_top_rows hr (by decide) (by rfl) (pa_cons (pv 6) (pa_cons (pv 3) (pa_cons (pv 11) (pa_cons (pv 12) (pa_cons (pv 4) pa_nil)))))) (pa_cons (pv 13) pa_nil)))))
      (pss_one (ps_ret pe_bl))
      pss_nil)
    (pss_one (ps_if (pt_cmpR op_ne (C8.pe_c c_top_written hr (by decide) (by rfl) (pa_cons (pv 6) (pa_cons (pv 11) (pa_cons (pv 12) (pa_cons (pv 4) pa_nil))))) (pe_op op_mul (pv 7) (pe_callTy call_int1 (by rfl) z_int (by decide +kernel) (pa_cons (pe_not (pv 14)) pa_nil))) (nomark _))
      (pss_one (ps_ret pe_bl))
      pss_nil)))))))))))
    (pss_one (ps_ret (C8.pe_c c__law_same_rows hr (by decide) (by rfl) (pa_cons (pv 6) (pa_cons (pv 2) pa_nil))))))))))))))))))), ?_⟩
  refine q_asgC (ec_state (ec_cell (k := 0) (ev_var rfl) ev_c hS (by decide)) ev_c) fun ps H1 hps e1 d1 => ?_
  refine q_asgE ⟨.ref a, rfl, a, ns, 1, 40, 2, rfl, ex_l e1 hS, h63, by decide, by decide, by decide, fun pr H2 L hpr e2 hL hLd hL63 => ?_⟩
  have hl40 : L.length ≤ 40 := hL63.2
  have hg : ∀ r ∈ L, RowG r := fun r hr => ⟨fun z => (by have := (hLd r hr).1; rw [z] at this; cases this), (by have := (hLd r hr).1; omega), fun x hx => dv_okb ((hLd r hr).2 x hx)⟩
  have d2 := d1.ex e2
  have hprps : pr ≠ ps := fun z => by
    obtain ⟨s, _, hs⟩ := d1
    rw [z, hs] at hpr
    cases hpr
  have hLw := rows_wo d2 hL hprps fun r hr => (hLd r hr).1
  refine q_asgE ⟨.ref ps, rfl, ps, rfl, d2, fun kp H3 ks hkc hkl hK hkp e3 d3 => ?_⟩
  have ho : OkKs ks := ⟨by omega, fun k hk => by
    have := keyc_ok (hkc k hk)
    exact ⟨this.1, 2, this.2⟩⟩
  have hLw3 : Lst2 RowAt (wo ps H3) pr L := Lst2.mn RowAt.mn _ _ _ _ (wx_wo e3) hLw
  have hkpps : kp ≠ ps := fun z => by
    obtain ⟨s, _, hs⟩ := d2
    rw [z, hs] at hkp
    cases hkp
  have hKw3 := keys_wo d3 hkpps hK
  have hT3 : LT K H3 := lt_wx ((hT.ex e1).ex e2) d2 e3
  have lenw : ∀ {Hx : Hp}, Lst2 RowAt Hx pr L → ∃ qs : List Addr, Hx pr = some (.lst (qs.map V.ref)) ∧ qs.length = L.length := fun h => by
    obtain ⟨qs, h1, h2⟩ := h
    exact ⟨qs, h1, h2.1⟩
  have evl : ∀ {Hx : Hp} {σ : L2.St}, Lst2 RowAt Hx pr L → σ[2]? = some (some (V.ref pr)) → Ev (tCB (rLenS K) (tCons (tVar 2) tNil)) σ Hx (.int (L.length : Int)) := fun h hσ => by
    obtain ⟨qs, h1, h2⟩ := lenw h
    exact ev_is (ev_len (ev_var hσ) (sq_of h1)) (by rw [List.length_map, h2])
  refine qx_asg (x_ix (R := fun d => ∃ i : Int, d = .int i ∧ 0 ≤ i ∧ i ≤ 50) (m := 4) (PL := fun ds => ∃ i j k l : Int, ds = [.int i, .int j, .int k, .int l] ∧ (0 ≤ i ∧ i ≤ 50) ∧ (0 ≤ j ∧ j ≤ 50) ∧ (0 ≤ k ∧ k ≤ 50) ∧ (0 ≤ l ∧ l ≤ 50)) (x_mono (x_tup (xa_cons (x_int (PI := fun i => 0 ≤ i ∧ i ≤ 50) (ez_op0 (e1_int (PI := fun j => j = 1) ev_c rfl) (ez_digit (m := 12) (ev_var rfl) ev_c (by decide) (by decide)) fun i j hi hj => by omega)) (xa_cons (x_int (PI := fun i => 0 ≤ i ∧ i ≤ 50) (e1_int (evl hLw3 rfl) (by omega))) (xa_cons (x_int (PI := fun i => 0 ≤ i ∧ i ≤ 50) (e1_int (Evl.ev_max2 ev_c (ev_op (evl hLw3 rfl) ev_c rv_I0)) (by split <;> omega))) (xa_cons (x_int (PI := fun i => 0 ≤ i ∧ i ≤ 50) (e1_int (ev_op (evl hLw3 rfl) ev_c rv_I0) (by omega))) xa_nil)))) ?_) ?_) (ez_digit (m := 4) (ev_var rfl) ev_c (by decide) (by decide)) ?_) d3 fun vm H4 d' ⟨mi, hd', hm0, hm1⟩ hn' hv' e4 d4 => ?_
  · rintro ds ⟨_, _, rfl, _, _, _, rfl, _, _, _, rfl, _, _, _, rfl, _, rfl⟩
    show 4 ≤ 100000
    decide
  · rintro d ⟨ds, rfl, _, _, rfl, ⟨i, hi, rfl⟩, _, _, rfl, ⟨j, hj, rfl⟩, _, _, rfl, ⟨k, hk, rfl⟩, _, _, rfl, ⟨l, hl, rfl⟩, rfl⟩
    exact ⟨_, rfl, i, j, k, l, rfl, hi, hj, hk, hl⟩
  · rintro ds j ⟨i1, i2, i3, i4, rfl, h1, h2, h3, h4⟩ hj
    rcases (show j = 0 ∨ j = 1 ∨ j = 2 ∨ j = 3 by omega) with z | z | z | z <;> subst z
    · exact ⟨_, rfl, i1, rfl, h1⟩
    · exact ⟨_, rfl, i2, rfl, h2⟩
    · exact ⟨_, rfl, i3, rfl, h3⟩
    · exact ⟨_, rfl, i4, rfl, h4⟩
  subst hd'
  cases hv'
  obtain ⟨mem, hmem, hm2, hm3⟩ : ∃ mem : Nat, (if mi > 1 then mi else 1) = (mem : Int) ∧ 0 < mem ∧ mem ≤ 50 := by
    refine ⟨(if mi > 1 then mi else 1).toNat, ?_, ?_, ?_⟩ <;> split <;> omega
  refine q_asg (v := .int (mem : Int)) (ev_is (Evl.ev_max2 ev_c (ev_var rfl)) (by rw [hmem])) fun H5 e5 => ?_
  have hL5 : Lst2 RowAt H5 pr L := Lst2.mn RowAt.mn _ _ _ _ (e4.trans e5) hLw3
  have hK5 : KeysAt K H5 kp ks := hKw3.ex (e4.trans e5)
  have hT5 : LT K H5 := (lt_wx hT3 d3 e4).ex e5
  have hS5 : SqL K H5 a (ns.map V.int) := ex_l (wx_back hps (wx_back hps (e1.trans e2) e3) e4 |>.trans e5) hS
  clear hLw hLw3 hKw3 hT3 hK hkp d1 d2 d3 d4 hLd
  refine q_asgE ⟨.ref pr, rfl, .ref kp, rfl, pr, kp, ks, L, rfl, hL5, hK5, ho, hg, by omega, fun pd H6 ds hpd e6 hds hdA => ?_⟩
  have hgS : ∀ r ∈ sortRows L ks, RowG r := fun r hr => hg r ((sortRows_perm L ks).subset hr)
  have lS : (sortRows L ks).length = L.length := (sortRows_perm L ks).length_eq
  have okS := okrows_of (L := sortRows L ks) (by omega) hgS
  have okL := okrows_of (L := L) (by omega) hg
  have okR : ∀ r ∈ L, OkR35 ks r := fun r hr => (hg r hr).ok ho
  refine q_asgR (rn_copy (ev_var rfl) (Lst2.mn RowAt.mn _ _ _ _ e6 hL5) (by omega) (fun _ => rfl) fun _ => rfl) fun pg H7 hpg e7 hG7 => ?_
  have hG7 := Lst2.mn RowAt.mn _ _ _ _ nu_le hG7
  -- what stays from here on
  have hL7 : Lst2 RowAt H7 pr L := Lst2.mn RowAt.mn _ _ _ _ (e6.trans e7) hL5
  have hK7 : KeysAt K H7 kp ks := hK5.ex (e6.trans e7)
  have hT7 : LT K H7 := hT5.ex (e6.trans e7)
  have hD7 : H7 pd = some (.lst (ds.map V.ref)) := e7 _ _ hds
  have hDA7 : Al2 RowAt H7 ds (sortRows L ks) := hdA.mono fun q l _ h => RowAt.mn _ _ _ _ (e6.trans e7) h
  have hS7 : SqL K H7 a (ns.map V.int) := ex_l (e6.trans e7) hS5
  clear hL5 hK5 hT5 hS5 hds hdA
  have dueAt : ∀ {Hx : Hp}, Ex (noT H7) Hx → Lst2 RowAt Hx pd (sortRows L ks) := fun e => rows_noT e ⟨ds, hD7, hDA7⟩
  have rowsAt : ∀ {Hx : Hp}, Ex (noT H7) Hx → Lst2 RowAt Hx pr L := fun e => rows_noT e hL7
  have givAt : ∀ {Hx : Hp}, Ex (noT H7) Hx → Lst2 RowAt Hx pg L := fun e => rows_noT e hG7
  have keysAt : ∀ {Hx : Hp}, Ex (noT H7) Hx → KeysAt K Hx kp ks := fun e => hK7.noT.ex e
  refine q_orG (G := fun H8 => Ex (noT H7) H8 ∧ LT K H8) (fun Q kq => ⟨.ref pg, rfl, .ref kp, rfl, .int (mem : Int), rfl, pg, kp, ks, L, mem, rfl, givAt (noT_le H7), keysAt (noT_le H7), ho, hg, by omega, hm2, by omega, hT7, fun p H8 x8 hT8 k8 h8 => ⟨.ref pd, rfl, p, pd, _, rfl, h8, dueAt x8, okS, fun H9 e9 => kq H9 ⟨x8.trans e9, hT8.ex e9⟩⟩⟩) (fun H8 ⟨x8, _⟩ => ec_srows (ev_var rfl) (ev_var rfl) (givAt x8) (rowsAt x8) okL) fun H8 H9 ⟨x8, hT8⟩ e9 => ?_
  have x9 := x8.trans e9
  have hT9 := hT8.ex e9
  generalize hwr : (if (L.length : Int) > (mem : Int) then (L.length : Int) else 0) = wr
  refine q_asg (v := .int wr) (ev_is (ev_op (evl (rowsAt x9) rfl) (ev_intB (b := decide ((L.length : Int) > (mem : Int))) (ev_op (evl (rowsAt x9) rfl) (ev_var rfl) rv_I0)) (rv_I (.inr (by split <;> exact ⟨by decide, by decide⟩)))) ?_) fun H10 e10 => ?_
  · rw [← hwr]
    by_cases z : (L.length : Int) > (mem : Int)
    · rw [if_pos z, decide_eq_true z, if_pos rfl, Int.mul_one]
    · rw [if_neg z, decide_eq_false z, if_neg (by decide), Int.mul_zero]
  have x10 := x9.trans e10
  obtain ⟨gs, hgs, hgA⟩ := givAt x10
  have lgs : (gs.map V.ref).length = L.length := by rw [List.length_map, hgA.1]
  refine q_asg (v := .int wr) (ev_is (v := .int (if (((gs.map V.ref).length : Nat) : Int) > (mem : Int) then (((gs.map V.ref).length : Nat) : Int) else 0)) (ev_call (ea_cons (ev_var rfl) (ea_cons (ev_var rfl) ea_nil)) fun Hx e Q q E => ⟨pg, gs.map V.ref, (mem : Int), rfl, ex_l e (sq_of hgs), q⟩) (by rw [lgs, hwr])) fun H11 e11 => ?_
  have x11 := x10.trans e11
  refine q_when (b := !true || !decide (V.int wr = V.int wr)) (et_or (et_not (et_B (ec_isint (ev_var rfl) (.int wr)))) fun _ => et_test (ev_op (ev_var rfl) (ev_var rfl) (rv_ne rfl))) (fun hb => by simp at hb) fun _ H12 e12 => ?_
  have x12 := x11.trans e12
  have hT12 := hT9.ex ((e10.trans e11).trans e12)
  -- the runs
  have hmc : ∀ i, ∀ r ∈ chunk L 3 i, r ∈ L := fun i r hr => List.mem_of_mem_take (List.mem_of_mem_drop hr)
  have hcl : ∀ i, (chunk L 3 i).length ≤ L.length := fun i => by
    unfold chunk
    rw [List.length_drop, List.length_take]
    omega
  have hcp := chunk_perm L (c := 3) (by decide)
  have hsl := stepsN_le (n := L.length) (c := 3) (by decide)
  refine q_asgO (R := fun H p => Lst3 (Lst2 RowAt) H p ((List.range (stepsN L.length 3)).map fun i => sortRows (chunk L 3 i) ks)) (fun H0 e0 Q k => ?_) fun pu H13 hpu e13 h13 => ?_
  · refine er_lcC2 (σ := [some (.ref a), some (.ref ps), some (.ref pr), some (.ref kp), some (.int (mem : Int)), some (.ref pd), some (.ref pg), some (.int wr), some (.int wr), none, none, none, none, none, none, none, none]) (H := H0) (tr := tCons (tC (.int 0)) (tCons (tCB (rLenS K) (tCons (tVar 2) tNil)) (tCons (tC (.int 3)) tNil))) (n := L.length) (c := 3) (j := 16) (vs := [16]) (R := Lst2 RowAt) (te := tCall (sp__law_sorted K) [] C8.E0 (tCons (tSl (rSlL K) (tVar 2) (tPart (tVar 16)) (tPart (tOp (rI0 fun i j => .int (i + j)) (tVar 16) (tC (.int 3))))) (tCons (tVar 3) tNil))) (Lst2.mn RowAt.mn) (fun i => sortRows (chunk L 3 i) ks) (ea_cons ev_c (ea_cons (evl (rowsAt (x12.trans e0)) rfl) (ea_cons ev_c ea_nil))) (by omega) (by decide) (by decide) (fun _ => rfl) (fun i H4 D x4 hD hys hi Q4 q4 => ?_) H0 (Ex.refl H0) Q k
    obtain ⟨qr, hqr, hqA⟩ := rowsAt ((x12.trans e0).trans x4)
    have y4 := (x12.trans e0).trans x4
    have hs := el_sl (K := K) (σ := (wipe [some (.ref a), some (.ref ps), some (.ref pr), some (.ref kp), some (.int (mem : Int)), some (.ref pd), some (.ref pg), some (.int wr), some (.int wr), none, none, none, none, none, none, none, none] [16]).set 16 (some (.int ((i * 3 : Nat) : Int)))) (H := H4) (te := tVar 2) (tl := tPart (tVar 16)) (th := tPart (tOp (rI0 fun i j => .int (i + j)) (tVar 16) (tC (.int 3)))) (lo := some ((i * 3 : Nat) : Int)) (hi := some ((i * 3 + 3 : Nat) : Int)) (ev_var rfl) (eo_some (ev_var rfl)) (eo_some (ev_is (ev_op (ev_var rfl) ev_c rv_I0) rfl)) (sq_of hqr)
    rw [cutV_nat] at hs
    obtain ⟨ys, hys⟩ := hys
    refine hs H4 (Ex.refl H4) (fun x Ha => tCons (tVar 3) tNil _ Ha fun xs Hb => _) fun pS H5 hpS e5 h5 => ⟨.ref kp, rfl, ?_⟩
    refine ⟨pS, kp, ks, chunk L 3 i, rfl, ⟨chunk qr 3 i, by rw [h5]; unfold chunk; rw [List.map_drop, List.map_take], (hqA.cut 3 i).mono fun q l _ h => RowAt.mn _ _ _ _ e5 h⟩, keysAt (y4.trans e5), ho, fun r hr => hg r (hmc i r hr), by have := hcl i; omega, fun p H6 us hp e6 hu hA => q4 p H6 (fresh_back e5 hp) (e5.trans e6) ?_⟩
    have hD5 := e5 _ _ hys
    refine ⟨us, ?_, hA.mono fun q r hr h => ?_⟩
    · rw [wo_ne (fun z => by rw [z, e5 _ _ hys] at hp; cases hp)]
      exact hu
    · show wo D H6 q = _
      rw [wo_ne (row_ne h (hg r (hmc i r ((sortRows_perm _ _).subset hr))) hD5)]
      exact e6 _ _ h
  obtain ⟨us, hus, huA⟩ := h13
  have x13 := x12.trans e13
  have hT13 := hT12.ex e13
  have hperm : ((List.range (stepsN L.length 3)).map fun i => sortRows (chunk L 3 i) ks).flatten.Perm L := by
    refine (flat_perm fun i _ => sortRows_perm (chunk L 3 i) ks).trans ?_
    rw [hcp]
  refine q_whenG (G := fun H8 => Ex (noT H7) H8 ∧ LT K H8) (fun Q kq => ⟨.ref pu, rfl, .ref kp, rfl, pu, kp, ks, (List.range (stepsN L.length 3)).map fun i => sortRows (chunk L 3 i) ks, rfl, ⟨us, hus, huA.mono fun q l _ h => Lst2.mn RowAt.mn _ _ _ _ (wo_le _ _) h⟩, keysAt x13, ho, fun A hA => ?_, fun A hA r hr => ?_, by rw [List.length_map, List.length_range]; omega, by rw [hperm.length_eq]; omega, fun p H14 M hp e14 hM hR => ?_⟩) fun H15 ⟨x15, hT15⟩ => ?_
  · obtain ⟨i, _, rfl⟩ := List.mem_map.mp hA
    exact sorted_rows_ok _ _
  · obtain ⟨i, _, rfl⟩ := List.mem_map.mp hA
    exact hg r (hmc i r ((sortRows_perm _ _).subset hr))
  · rw [sorts_uniq okR (hM.1.trans hperm) hM.2] at hR
    exact ⟨.ref pd, rfl, p, pd, _, rfl, hR, dueAt (x13.trans e14), okS, fun H9 e9 => kq H9 ⟨(x13.trans e14).trans e9, hT13.ex (e14.trans e9)⟩⟩
  refine q_forR1 (n := 4) (ea_cons ev_c ea_nil) ⟨by decide, by decide⟩ (fun i σ' H' => ∃ v1 v8 v10 v11 v12 v13 v14, σ' = [some (.ref a), v1, some (.ref pr), some (.ref kp), some (.int (mem : Int)), some (.ref pd), some (.ref pg), some (.int wr), v8, some (.ref pu), v10, v11, v12, v13, v14, none, none] ∧ Ex (noT H7) H' ∧ LT K H') (fun H16 e16 => ⟨_, _, none, none, none, none, none, rfl, x15.trans e16, hT15.ex e16⟩) (fun i σ' Ho hi pv => ?_) fun σ' H' pv => ?_
  · obtain ⟨v1, v8, v10, v11, v12, v13, v14, rfl, xo, hTo⟩ := pv
    refine q_asgC (ec_state (ec_cell (k := 0) (ev_var rfl) ev_c (ex_l xo (sq_noT hS7)) (by decide)) (ev_op ev_c (ev_var rfl) rv_I0)) fun pk Ha hpk ea da => ?_
    refine qz_asg (ez_digit (m := 6) (ev_var rfl) ev_c (by decide) (by decide)) da fun skn Hb hsk eb db => ?_
    obtain ⟨skip, rfl⟩ := Int.eq_ofNat_of_zero_le hsk.1
    have hsk6 : skip < 6 := by omega
    refine qx_asg (x_ix (R := fun d => d = .none ∨ ∃ i : Int, d = .int i ∧ i ≤ 60) (m := 4) (PL := fun ds => ∃ j k l : Int, ds = [.none, .int j, .int k, .int l] ∧ j ≤ 60 ∧ k ≤ 60 ∧ l ≤ 60) (x_mono (x_tup (xa_cons (x_pure ev_c (fun _ => .non) rfl) (xa_cons (x_int (PI := fun i => i ≤ 60) (ez_mono (ez_digit (m := 9) (ev_var rfl) ev_c (by decide) (by decide)) fun i hi => by omega)) (xa_cons (x_int (PI := fun i => i ≤ 60) (e1_int (ev_op (ev_var rfl) (ev_var rfl) rv_I0) (by omega))) (xa_cons (x_int (PI := fun i => i ≤ 60) (e1_int (ev_op (ev_op (ev_var rfl) (ev_var rfl) rv_I0) ev_c rv_I0) (by omega))) xa_nil)))) ?_) ?_) (ez_digit (m := 4) (ev_var rfl) ev_c (by decide) (by decide)) ?_) db fun vc Hc d' hd' hn' hv' ec dc => ?_
    · rintro ds ⟨_, _, rfl, _, _, _, rfl, _, _, _, rfl, _, _, _, rfl, _, rfl⟩
      show 4 ≤ 100000
      decide
    · rintro d ⟨ds, rfl, _, _, rfl, rfl, _, _, rfl, ⟨j, hj, rfl⟩, _, _, rfl, ⟨k, hk, rfl⟩, _, _, rfl, ⟨l, hl, rfl⟩, rfl⟩
      exact ⟨_, rfl, j, k, l, rfl, hj, hk, hl⟩
    · rintro ds j ⟨i2, i3, i4, rfl, h2, h3, h4⟩ hj
      rcases (show j = 0 ∨ j = 1 ∨ j = 2 ∨ j = 3 by omega) with z | z | z | z <;> subst z
      · exact ⟨_, rfl, .inl rfl⟩
      · exact ⟨_, rfl, .inr ⟨i2, rfl, h2⟩⟩
      · exact ⟨_, rfl, .inr ⟨i3, rfl, h3⟩⟩
      · exact ⟨_, rfl, .inr ⟨i4, rfl, h4⟩⟩
    have xoc : Ex Ho Hc := wx_back hpk (wx_back hpk ea eb) ec
    have xc : Ex (noT H7) Hc := xo.trans xoc
    have hTc : LT K Hc := hTo.ex xoc
    refine q_cut (M := fun σ' H' => ∃ cnt : Option Nat, cnt.getD 0 ≤ 60 ∧ σ' = [some (.ref a), some (.ref pk), some (.ref pr), some (.ref kp), some (.int (mem : Int)), some (.ref pd), some (.ref pg), some (.int wr), v8, some (.ref pu), some (.int (i : Int)), some (.int (skip : Int)), some (optV cnt), v13, v14, none, none] ∧ Ex (noT H7) H' ∧ LT K H') ?_ fun σ' Hd pw => ?_
    · rcases hd' with rfl | ⟨ci, rfl, hci⟩
      · cases hv'
        refine s_when (b := false) (et_test (ev_is (ev_op (ev_var rfl) ev_c rv_notN) rfl)) (fun h => nomatch h) fun _ He ee => ⟨none, by decide, rfl, xc.trans ee, hTc.ex ee⟩
      · cases hv'
        obtain ⟨c, hc, hc60⟩ : ∃ c : Nat, (if ci > 0 then ci else 0) = (c : Int) ∧ c ≤ 60 := by
          refine ⟨(if ci > 0 then ci else 0).toNat, ?_, ?_⟩ <;> split <;> omega
        refine s_when (b := true) (et_test (ev_is (ev_op (ev_var rfl) ev_c rv_notN) rfl)) (fun _ He ee => ?_) fun h => nomatch h
        exact s_asg (v := .int (c : Int)) (ev_is (Evl.ev_max2 ev_c (ev_var rfl)) (by rw [hc])) fun Hf ef => ⟨some c, hc60, rfl, xc.trans (ee.trans ef), hTc.ex (ee.trans ef)⟩
    obtain ⟨cnt, hcnt, rfl, xd, hTd⟩ := pw
    obtain ⟨ds2, hd2, hdA2⟩ := dueAt xd
    have lds : ds2.length = (sortRows L ks).length := hdA2.1
    refine q_asgL (xs := (ds2.drop skip).map V.ref) ?_ fun pc He hpc ee he => ?_
    · have hs := el_sl (K := K) (σ := [some (.ref a), some (.ref pk), some (.ref pr), some (.ref kp), some (.int (mem : Int)), some (.ref pd), some (.ref pg), some (.int wr), v8, some (.ref pu), some (.int (i : Int)), some (.int (skip : Int)), some (optV cnt), v13, v14, none, none]) (H := Hd) (te := tVar 5) (tl := tPart (tVar 11)) (th := tNoPart) (ev_var rfl) (eo_some (ev_var rfl)) eo_none (sq_of hd2)
      rw [cutV_drop, ← List.map_drop] at hs
      exact hs
    have xe := xd.trans ee
    refine q_asg (v := .bl false) ev_c fun Hf ef => ?_
    have xf := xe.trans ef
    have hAf : Al2 RowAt Hf (ds2.drop skip) ((sortRows L ks).drop skip) := ⟨by rw [List.length_drop, List.length_drop, lds], fun j q l a b => by
      rw [List.getElem?_drop] at a b
      exact (ee.trans ef) _ _ (hdA2.2 _ q l a b)⟩
    have hef := ef _ _ he
    refine q_cut (M := fun σ' H' => ∃ pc2 : Addr, σ' = [some (.ref a), some (.ref pk), some (.ref pr), some (.ref kp), some (.int (mem : Int)), some (.ref pd), some (.ref pg), some (.int wr), v8, some (.ref pu), some (.int (i : Int)), some (.int (skip : Int)), some (optV cnt), some (.ref pc2), some (.bl (keptB skip cnt mem)), none, none] ∧ Ex (noT H7) H' ∧ LT K H' ∧ Lst2 RowAt H' pc2 (cutL (sortRows L ks) skip cnt)) ?_ fun σ' Hg pw => ?_
    · cases cnt with
      | none =>
        refine s_when (b := false) (et_test (ev_is (ev_op (ev_var rfl) ev_c rv_notN) rfl)) (fun h => nomatch h) fun _ Hg eg => ⟨pc, rfl, xf.trans eg, hTd.ex ((ee.trans ef).trans eg), ds2.drop skip, eg _ _ hef, ?_⟩
        rw [cut_non]
        exact hAf.mono fun q l _ h => RowAt.mn _ _ _ _ eg h
      | some c =>
        refine s_when (b := true) (et_test (ev_is (ev_op (ev_var rfl) ev_c rv_notN) rfl)) (fun _ Hg eg => ?_) fun h => nomatch h
        refine q_asgL (xs := ((ds2.drop skip).take c).map V.ref) ?_ fun pc2 Hh hpc2 eh hh => ?_
        · have hs := el_sl (K := K) (σ := [some (.ref a), some (.ref pk), some (.ref pr), some (.ref kp), some (.int (mem : Int)), some (.ref pd), some (.ref pg), some (.int wr), v8, some (.ref pu), some (.int (i : Int)), some (.int (skip : Int)), some (optV (some c)), some (.ref pc), some (.bl false), none, none]) (H := Hg) (te := tVar 13) (tl := tNoPart) (th := tPart (tVar 12)) (hi := some (c : Int)) (ev_var rfl) eo_none (eo_some (ev_var rfl)) (sq_of (eg _ _ hef))
          rw [cutV_take, ← List.map_take] at hs
          exact hs
        refine s_asg (v := .bl (keptB skip (some c) mem)) (ev_is (ev_op (ev_op (x := .int (skip : Int)) (y := .int (c : Int)) (ev_var rfl) (ev_var rfl) rv_I0) (ev_var rfl) rv_I0) (by
          show V.bl (decide ((skip : Int) + (c : Int) ≤ (mem : Int))) = V.bl (decide (skip + c ≤ mem))
          congr 1
          exact decide_eq_decide.mpr (by omega))) fun Hi ei => ⟨pc2, rfl, xf.trans ((eg.trans eh).trans ei), hTd.ex ((ee.trans ef).trans ((eg.trans eh).trans ei)), (ds2.drop skip).take c, ei _ _ hh, ?_⟩
        rw [cut_drop]
        refine ⟨by rw [List.length_take, List.length_take, hAf.1], fun j q l a b => ?_⟩
        exact ((eg.trans eh).trans ei) _ _ (hAf.2 j q l (take_at a) (take_at b))
    obtain ⟨pc2, rfl, xg, hTg, hcut⟩ := pw
    have lcut : ∀ r ∈ cutL (sortRows L ks) skip cnt, r ∈ sortRows L ks := fun r hr => List.mem_of_mem_take (List.mem_of_mem_drop hr)
    have okC := okrows_of (L := cutL (sortRows L ks) skip cnt) (by unfold cutL; rw [List.length_drop, List.length_take]; omega) fun r hr => hgS r (lcut r hr)
    refine q_whenG (G := fun H8 => Ex (noT H7) H8 ∧ LT K H8) (fun Q kq => ⟨.ref pg, rfl, .ref kp, rfl, .int (skip : Int), rfl, optV cnt, rfl, .int (mem : Int), rfl, pg, kp, ks, L, skip, mem, cnt, rfl, givAt xg, keysAt xg, ho, hg, by omega, hm2, by omega, by omega, by omega, hTg, fun p H8 x8 hT8 k8 h8 => ⟨.ref pc2, rfl, p, pc2, _, rfl, h8, rows_noT x8 hcut, okC, fun H9 e9 => kq H9 ⟨((noT_mono xg).trans x8).trans e9, hT8.ex e9⟩⟩⟩) fun Hh ⟨xh, hTh⟩ => ?_
    obtain ⟨gs2, hgs2, hgA2⟩ := givAt xh
    have lgs2 : (gs2.map V.ref).length = L.length := by rw [List.length_map, hgA2.1]
    have key : (if keptB skip cnt mem = true then (0 : Int) else if (((gs2.map V.ref).length : Nat) : Int) > (mem : Int) then (((gs2.map V.ref).length : Nat) : Int) else 0) = wr * (if (!keptB skip cnt mem) = true then 1 else 0) := by
      rw [lgs2, hwr]
      cases keptB skip cnt mem with
      | true => rw [if_pos (rfl : true = true), if_neg (show ¬ (!true) = true by decide), Int.mul_zero]
      | false => rw [if_neg (show ¬ false = true by decide), if_pos (show (!false) = true from rfl), Int.mul_one]
    refine s_when (b := !decide (V.int (wr * (if (!keptB skip cnt mem) = true then 1 else 0)) = V.int (wr * (if (!keptB skip cnt mem) = true then 1 else 0)))) (et_test (ev_op (ev_is (ev_call (ea_cons (ev_var rfl) (ea_cons (ev_var rfl) (ea_cons (ev_var rfl) (ea_cons (ev_var rfl) ea_nil)))) fun Hx e Q q E => ⟨pg, gs2.map V.ref, skip, mem, cnt, rfl, ex_l e (sq_of hgs2), q⟩) (by rw [key])) (ev_op (ev_var rfl) (ev_intB (ev_notV (ev_var rfl))) (rv_I (.inr (by split <;> exact ⟨by decide, by decide⟩)))) (rv_ne rfl))) (fun hb => by simp at hb) fun _ Hi ei => ⟨_, _, _, _, _, _, _, rfl, xh.trans ei, hTh.ex ei⟩
  · obtain ⟨v1, v8, v10, v11, v12, v13, v14, rfl, xo, hTo⟩ := pv
    exact s_ret (v := .bl true) (ec_srows (ev_var rfl) (ev_var rfl) (givAt xo) (rowsAt xo) okL) fun H2 e2 => rfl
end
section
variable {P : Program} {w : World} {K : PySem.W.Frag} {mg mb : Str → Option Value}
theorem run_here {x : Str} {st : Stmt} {N ps : List Str} {k : Nat} {f : Addr} {fd : FuncData} {A : Around} {outer : List Env} {s : Shared} {H : Hp} {args : Args} {us : List Value} {vs : List V} {Q : VK} {base : Heap}
    (D : C8.Def K mg x st f fd) (S : FnScope N ps (C8.fnScope st)) (room : Room (k + 1) A) (env : Env0 P w K mg base A outer s H) (bi : BindsTo s fd args (ps.zip us)) (rv : Vals vs us) (len : vs.length = ps.length)
    (body : ∀ cdv : Value, Room k (A.deeper (envOfC x (C8.fnScope st) s.heap.objs.size f cdv)) →
      ∃ t, PSs (cxOf C8.CX0 P w K mg base N x (C8.fnScope st) f cdv A outer s H C8.E0).nox (C8.fnBody st) t ∧ t { nx := fun _ H' => Q .non H', rt := Q } (start N vs) H) :
    codeAny (model P w) A (.call (.ref f) args) (CR C8.CX0 outer P w H s Q C8.E0) s := by
  obtain ⟨oc, od, dV, kV, doc, pm, an, cdv, ct, osl, rfl, look, code⟩ := D.fn.ex
  have sub : ∀ b o, base.get? b = some o → s.heap.get? b = some o := fun b o e => (env.bs b o e).1
  have inK := env.mod.kin.keeps sub
  have noLim := env.mod.nolimit.keeps sub
  apply codeAny_call_function room.depth (inK _ _ look) rfl S.co S.gen rfl (PySem.W.codeRec_of inK code)
  apply bi
  apply wpAny_newFunctionEnv_cells S.kind
  · rintro ⟨n, v⟩ hy
    have hp := S.par n (List.of_mem_zip hy).1
    exact hp.imp id fun c => ⟨c, PySem.W.cellsFrom_some _ _ _ (.inl c)⟩
  intro e he s1 made
  subst he
  obtain ⟨t, ht, hq⟩ := body cdv (room.deeper _)
  have inv := inv_start (CX := C8.CX0) (E := C8.E0) (N := N) S room.hd env len rv made
  refine ⟨noLim.keeps made.toInCall.keep, codeAny_func ?_⟩
  refine wpAny_mono (ht.nox.run [] s1 _ H _ inv hq) ?_ fun _ _ z => z
  intro fl s' z
  match fl, z with
  | .ret u, ⟨v, σ', H', J, r, q⟩ => exact ⟨v, H', J.os, J.bare, J.base, J.hok, r, q⟩
  | .next, ⟨σ', H', J, q⟩ => exact ⟨V.non, H', J.os, J.bare, J.base, J.hok, rfl, q⟩
  | .brk, ⟨_, _, _, q⟩ => exact q.elim
  | .cont, ⟨_, _, _, q⟩ => exact q.elim
/-- what the call of the law leaves -/
def Done (s₁ : Shared) (r : Result) (s' : Shared) : Prop := r = .ok (.ret (.bool true)) ∧ OldK s₁.heap s'.heap ∧ s'.os = s₁.os ∧ AllBare s'.gens
end
section
variable {P : Program} {w : World} {K : PySem.W.Frag} {mg mb : Str → Option Value}
/-- what is tracked when the law is called: the script, the empty tables -/
def AtFirst (K : PySem.W.Frag) (a : Addr) (ts : List Addr) (H : Hp) : Prop := (∀ b ∈ ts, H b = some (.tbl #[])) ∧ ∀ b u, H b = some u → (b ∈ ts ∧ u = .tbl #[]) ∨ (b = a ∧ K.lookup a = none ∧ ∃ o ys, u = .frz o (.lst ys))
def Tabled (s₁ : Shared) (K : PySem.W.Frag) (cs : List (Addr × Addr)) : Prop := ∀ p ∈ cs, s₁.heap.get? p.2 = some { cls := .none, data := .fields #[] } ∧ K.lookup p.2 = none ∧ PySem.W.CodeHd s₁.heap p.1 p.2
def MainMod (s₁ : Shared) (mg : Str → Option Value) : Prop := ∃ (bm : Addr) (ob : Obj), mg "__builtins__" = some (.ref bm) ∧ bm ≠ builtinsNs ∧ s₁.heap.get? bm = some ob ∧ ob.cls = .type "module" ∧ ob.dict = some builtinsNs ∧ ob.data = .plain
theorem tab_core {fa a : Addr} {s₁ : Shared} {vs : List Value} {cs : List (Addr × Addr)} (H : Hp) (KX : K.In s₁.heap) (hns : s₁.heap.Ns mainGlobals mg) (hb : s₁.heap.Ns builtinsNs mb) (hbb : ∀ x : Str, x ≠ "__name__" → mb x = bootBuiltins x) (hlim : s₁.heap.NoLimit) (hg : s₁.gens = #[])
    (hC : Tabled s₁ K cs) (hM : MainMod s₁ mg) (ha : s₁.heap.get? a = some { cls := .type "list", data := .seq vs.toArray }) (hok : HOk P w H s₁.heap) (hF : AtFirst K a (cs.map (·.2)) H)
    (body : ∀ base : Heap, K.In base → base.Ns mainGlobals mg → (∀ p ∈ cs, LamX.TabB base mg p.1 p.2) → Env0 P w K mg base callerA [] s₁ H → codeAny (model P w) callerA (.call (.ref fa) ⟨[.ref a], []⟩) (CR C8.CX0 [] P w H s₁ (fun v _ => v = .bl true) C8.E0) s₁) :
    codeAny (model P w) callerA (.call (.ref fa) ⟨[.ref a], []⟩) (Done s₁) s₁ := by
  obtain ⟨_, only⟩ := hF
  have isT : ∀ b ∈ cs.map (·.2), s₁.heap.get? b = some { cls := .none, data := .fields #[] } ∧ K.lookup b = none := fun b hb => by
    obtain ⟨p, hp, rfl⟩ := List.mem_map.mp hb
    exact ⟨(hC p hp).1, (hC p hp).2.1⟩
  -- an object that is no list and no empty table is not tracked
  have free : ∀ {b : Addr} {o : Obj}, s₁.heap.get? b = some o → (∀ xs n, o.data = .seq xs n → False) → (o.data = .fields #[] → False) → (hidT s₁.heap H).get? b = some o := fun {b o} e n1 n2 => hidT_get e (by
    cases q : H b with
    | none => rfl
    | some u =>
      rcases only b u q with ⟨h1, _⟩ | ⟨h1, _⟩
      · rw [(isT b h1).1] at e
        cases e
        exact (n2 rfl).elim
      · rw [h1, ha] at e
        cases e
        exact (n1 _ _ rfl).elim)
  have ns : ∀ {b : Addr} {m : Str → Option Value}, s₁.heap.Ns b m → (hidT s₁.heap H).Ns b m := by
    rintro b m ⟨o, es, ep, e, d, r⟩
    exact ⟨o, es, ep, free e (fun xs n z => nomatch d.symm.trans z) (fun z => nomatch d.symm.trans z), d, r⟩
  have inK : K.In (hidT s₁.heap H) := fun b o e => hidT_get (KX b o e) (by
    cases q : H b with
    | none => rfl
    | some u =>
      rcases only b u q with ⟨h1, _⟩ | ⟨h1, h2, _⟩
      · rw [(isT b h1).2] at e
        cases e
      · rw [h1, h2] at e
        cases e)
  have tabB : ∀ p ∈ cs, LamX.TabB (hidT s₁.heap H) mg p.1 p.2 := fun p hp => by
    obtain ⟨h1, h2, h3⟩ := hC p hp
    refine ⟨?_, ?_, fun z => ?_⟩
    · obtain ⟨o, us, file, tf, flags, tg, inF, text, tt, e1, r1, r2, r3, r⟩ := h3
      refine ⟨o, us, file, tf, flags, tg, inF, text, tt, free e1 (fun xs n z => nomatch r2.symm.trans z) (fun z => ?_), r1, r2, r3, r⟩
      cases r2.symm.trans z
      simp at r3
    · obtain ⟨bm, ob, b1, b2, b3, b4, b5, b6⟩ := hM
      refine ⟨bm, ob, b1, b2, fun q => ?_, fun q => ?_, free b3 (fun xs n z => nomatch b6.symm.trans z) (fun z => nomatch b6.symm.trans z), b4, b5, b6⟩
      · obtain ⟨o, es, ep, e, hd, _⟩ := hns
        rw [q, e] at b3
        cases b3
        cases hd.symm.trans b6
      · rw [q, h1] at b3
        cases b3
        cases b6
    · obtain ⟨o, es, ep, e, hd, _⟩ := hns
      rw [z, h1] at e
      cases e
      cases hd
  obtain ⟨mc, l1, l2⟩ := hlim
  have env : Env0 P w K mg (hidT s₁.heap H) callerA [] s₁ H :=
    { frames := rfl, mod := ⟨inK, ns hns, ⟨mb, ns hb, hbb⟩, ⟨mc, ns l1, l2⟩⟩, bs := fun b o e => of_hidT e, bsz := Nat.le_of_eq (hidT_size _ _), funs := trivial, frf := fun b z => (List.not_mem_nil z).elim, hok := hok, bare := .of_eq hg }
  refine codeAny_mono (body _ inK (ns hns) tabB env) ?_
  intro r s' z
  match r, z with
  | .error e, z => exact (show False from z).elim
  | .ok .next, z => exact (show False from z).elim
  | .ok .brk, z => exact (show False from z).elim
  | .ok .cont, z => exact (show False from z).elim
  | .ok (.ret u), ⟨v, H', os, bare, un, hok', rel, q⟩ =>
    obtain rfl : v = .bl true := q
    have eu : u = Value.bool true := rel
    subst eu
    have tabK : ∀ p ∈ cs, H p.2 = some (.tbl #[]) → ∃ more : Array Value, s'.heap.get? p.2 = some { cls := .none, data := .fields more } := fun p hp e => by
      obtain ⟨more, h⟩ := un.tbls p.2 #[] e
      exact ⟨_, hok' p.2 _ h⟩
    have each : ∀ b o, s₁.heap.get? b = some o → s'.heap.get? b = some o ∨ ∃ p ∈ cs, p.2 = b ∧ H b = some (.tbl #[]) := fun b o e => by
      cases hq : H b with
      | none => exact .inl (un.keep b o e hq (fun z => (List.not_mem_nil z).elim) List.not_mem_nil)
      | some u =>
        rcases only b u hq with ⟨h1, rfl⟩ | ⟨_, _, o2, ys, rfl⟩
        · obtain ⟨p, hp, e1⟩ := List.mem_map.mp h1
          exact .inr ⟨p, hp, e1, rfl⟩
        · obtain ⟨w1, _⟩ := hok b _ hq
          obtain ⟨w2, _⟩ := hok' b _ (un.frzs b o2 _ hq)
          rw [e] at w1
          cases w1
          exact .inl w2
    refine ⟨rfl, ⟨fun b o e => ?_, fun b o e => ?_⟩, os, bare⟩
    · rcases each b o e with h | ⟨p, hp, rfl, hq⟩
      · exact .inl h
      · obtain ⟨more, hm⟩ := tabK p hp hq
        obtain ⟨h1, _, h3⟩ := hC p hp
        cases h1.symm.trans e
        exact .inr (.inl ⟨(h3.tab h1).isCodeTable, rfl, #[], more, rfl, (Array.empty_append (xs := more)).symm ▸ hm⟩)
    · rcases each b o e with h | ⟨p, hp, rfl, hq⟩
      · exact ⟨o, h⟩
      · obtain ⟨more, hm⟩ := tabK p hp hq
        exact ⟨_, hm⟩
theorem tab_call {fa a : Addr} {s₁ : Shared} {vs : List Value} {ns : List Int} {cs : List (Addr × Addr)} (KX : K.In s₁.heap) (hns : s₁.heap.Ns mainGlobals mg) (hb : s₁.heap.Ns builtinsNs mb) (hbb : ∀ x : Str, x ≠ "__name__" → mb x = bootBuiltins x) (hlim : s₁.heap.NoLimit) (hg : s₁.gens = #[])
    (hC : Tabled s₁ K cs) (hM : MainMod s₁ mg) (ha : s₁.heap.get? a = some { cls := .type "list", data := .seq vs.toArray }) (hi : IntsAre vs ns) (hl : ns.length ≤ sizeLine)
    (body : ∀ (H : Hp) (base : Heap), K.In base → base.Ns mainGlobals mg → (∀ p ∈ cs, LamX.TabB base mg p.1 p.2) → (∀ p ∈ cs, H p.2 = some (.tbl #[])) → SqL K H a (ns.map V.int) → Env0 P w K mg base callerA [] s₁ H → codeAny (model P w) callerA (.call (.ref fa) ⟨[.ref a], []⟩) (CR C8.CX0 [] P w H s₁ (fun v _ => v = .bl true) C8.E0) s₁) :
    codeAny (model P w) callerA (.call (.ref fa) ⟨[.ref a], []⟩) (Done s₁) s₁ := by
  have rv := vals_ints hi
  have aT : a ∉ cs.map (·.2) := fun z => by
    obtain ⟨p, hp, e⟩ := List.mem_map.mp z
    have q := (hC p hp).1
    rw [e, ha] at q
    cases q
  have tabAt : ∀ b ∈ cs.map (·.2), s₁.heap.get? b = some { cls := .none, data := .fields #[] } := fun b hb => by
    obtain ⟨p, hp, rfl⟩ := List.mem_map.mp hb
    exact (hC p hp).1
  let H0 : Hp := fun b => if b ∈ cs.map (·.2) then some (.tbl #[]) else none
  have h0 : ∀ b u, H0 b = some u → b ∈ cs.map (·.2) ∧ u = .tbl #[] := fun b u z => by
    by_cases h : b ∈ cs.map (·.2)
    · exact ⟨h, (Option.some.inj ((if_pos h).symm.trans z)).symm⟩
    · cases (if_neg h).symm.trans z
  have h0at : ∀ b ∈ cs.map (·.2), H0 b = some (.tbl #[]) := fun b h => if_pos h
  have ok0 : HOk P w H0 s₁.heap := fun b u z => by
    obtain ⟨h1, rfl⟩ := h0 b u z
    exact tabAt b h1
  clear_value H0
  cases hk : K.lookup a with
  | some o =>
    cases (KX a o hk).symm.trans ha
    refine tab_core H0 KX hns hb hbb hlim hg hC hM ha ok0 ⟨h0at, fun b u z => .inl (h0 b u z)⟩ fun base i1 i2 i3 i4 => body _ base i1 i2 i3 (fun p hp => h0at _ (List.mem_map.mpr ⟨p, hp, rfl⟩)) (.inr ⟨_, vs.toArray, _, hk, rfl, rfl, rfl, ?_, by simpa using rv⟩) i4
    rw [List.size_toArray, hi.length]
    exact hl
  | none =>
    have old : ∀ b ∈ cs.map (·.2), upd H0 a (.frz { cls := .type "list", data := .seq vs.toArray } (.lst (ns.map V.int))) b = some (.tbl #[]) := fun b hb => by
      rw [upd_ne fun z : b = a => aT (by rw [← z]; exact hb)]
      exact h0at b hb
    have two : ∀ b u, upd H0 a (.frz { cls := .type "list", data := .seq vs.toArray } (.lst (ns.map V.int))) b = some u → (b ∈ cs.map (·.2) ∧ u = .tbl #[]) ∨ (b = a ∧ u = .frz { cls := .type "list", data := .seq vs.toArray } (.lst (ns.map V.int))) := fun b u z => by
      by_cases e : b = a
      · subst e
        rw [upd_same] at z
        exact .inr ⟨rfl, (Option.some.inj z).symm⟩
      · rw [upd_ne e] at z
        exact .inl (h0 b u z)
    refine tab_core (upd H0 a (.frz { cls := .type "list", data := .seq vs.toArray } (.lst (ns.map V.int)))) KX hns hb hbb hlim hg hC hM ha (fun b u z => ?_) ⟨old, fun b u z => ?_⟩ fun base i1 i2 i3 i4 => body _ base i1 i2 i3 (fun p hp => old _ (List.mem_map.mpr ⟨p, hp, rfl⟩)) (.inl (.inr ⟨_, upd_same⟩)) i4
    · rcases two b u z with ⟨h1, rfl⟩ | ⟨rfl, rfl⟩
      · exact tabAt b h1
      · exact ⟨ha, by rw [List.length_map]; exact hl, vs, _, rv, ha⟩
    · rcases two b u z with h | ⟨rfl, rfl⟩
      · exact .inl h
      · exact .inr ⟨rfl, hk, _, _, rfl⟩
end
/-- the end of such a law -/
theorem walk_tab {l : PySem.W.OpenLaw} {n k : Nat} {q : Program} {loose : List Str} {XP : (Str → Option Value) → Heap → Prop} {YP : World → Heap → Prop} {d : DefRec} {K : Params → PySem.W.Frag} {st : Stmt} {N : List Str}
    (hn : l.most = some n) (hn2 : n ≤ sizeLine) (hdf : d.params.defaults = []) (hr : Room (k + 1) callerA) (hY : ∀ (w : World) (h : Heap), YP w h → (K w.params).In h) (S : FnScope N ["script"] (C8.fnScope st))
    (F : ∀ (w : World) (mg : Str → Option Value) (fa : Addr) (h : Heap), YP w h → (K w.params).In h → h.Ns mainGlobals mg → mg d.name = some (.ref fa) →
      ∃ cs : List (Addr × Addr), (∀ p ∈ cs, PySem.W.CodeHd h p.1 p.2 ∧ h.get? p.2 = some { cls := .none, data := .fields #[] }) ∧ (∀ p ∈ cs, (K w.params).lookup p.2 = none) ∧
      ∃ fd : FuncData, C8.Def (K w.params) mg "law" st fa fd ∧ (∀ (s : Shared) (u : Value), BindsTo s fd ⟨[u], []⟩ [("script", u)]) ∧
        ∀ (base : Heap) (s : Shared) (H : Hp) (a : Addr) (ns : List Int) (cdv : Value), (K w.params).In base → base.Ns mainGlobals mg → (∀ p ∈ cs, LamX.TabB base mg p.1 p.2) → (∀ p ∈ cs, H p.2 = some (.tbl #[])) → ns.length ≤ n → SqL (K w.params) H a (ns.map V.int) →
          Room k (callerA.deeper (envOfC "law" (C8.fnScope st) s.heap.objs.size fa cdv)) →
          ∃ t, PSs (cxOf C8.CX0 l.prog w (K w.params) mg base N "law" (C8.fnScope st) fa cdv callerA [] s H C8.E0).nox (C8.fnBody st) t ∧ t { nx := fun _ _ => V.non = .bl true, rt := fun v _ => v = .bl true } (start N [.ref a]) H) :
    PySem.W.WalkO q loose XP YP l.row.toRowW d [] (fun f vs => PySem.call f vs) := by
  refine Att.attach_callB hn hdf ?_
  intro w s₀ s₁ mg mb fa o pm cd doc a vs ns G Y ho hd hcd hmg hobj hints hlen hbits hg
  obtain ⟨cs, t1, t2, fd, D, bi, body⟩ := F w mg fa _ Y (hY w _ Y) G.T.g hmg
  apply tab_call (hY w _ Y) G.T.g G.T.b G.T.builtins G.T.nolimit hg (fun p hp => ⟨(t1 p hp).2, t2 p hp, (t1 p hp).1⟩) G.T.bmain hobj hints (Nat.le_trans hlen hn2)
  intro H base i1 i2 i3 i4 hS env
  exact run_here (us := [.ref a]) (vs := [.ref a]) D S hr env (bi s₁ (.ref a)) (.cons rfl .nil) rfl fun cdv room => body base s₁ H a ns cdv i1 i2 i3 i4 hlen hS room
theorem tabOf_eq {K : PySem.W.Frag} {x : Str} {f c P : Addr} {fd : FuncData} {oc o2 : Value} {od d2 : Option Addr} {sl s2 : Array (Option Value)} {vs : Array Value} (a : PySem.W.nsIn K mainGlobals x = some (some (.ref f))) (l : K.lookup f = some ⟨oc, od, .func fd, sl⟩) (hc : fd.code = .ref c) (lc : K.lookup c = some ⟨o2, d2, .fields vs, s2⟩) (hv : vs.getD 11 .none = .ref P) : tabOf K x = P := by
  unfold tabOf
  rw [a]
  simp only [l, hc, lc, hv]
theorem all_mk {P : Program} {w : World} {K : PySem.W.Frag} {h : Heap} {mg : Str → Option Value} {fa : Addr} (X : K.In h) (G : h.Ns mainGlobals mg) (hfa : mg "law" = some (.ref fa))
    {f0 : Addr} {od0 an0 : Option Addr} {sl0 : Array (Option Value)} {oc0 kV0 dc0 pm0 cd0 ct0 : Value} (a0 : PySem.W.nsIn K mainGlobals "kind_rank" = some (some (.ref f0))) (l0 : K.lookup f0 = some ⟨oc0, od0, .func (PySem.W.fnOf "kind_rank" "kind_rank" (C8.fnArgs s_kind_rank) (C8.fnBody s_kind_rank) (C8.fnScope s_kind_rank) .none kV0 dc0 pm0 an0 cd0 ct0), sl0⟩) (b0 : PySem.W.codeIn K cd0 "kind_rank" = true) (k0 : PySem.W.keepIn K (.ref f0) = true)
    {f1 : Addr} {od1 an1 : Option Addr} {sl1 : Array (Option Value)} {oc1 kV1 dc1 pm1 cd1 ct1 : Value} (a1 : PySem.W.nsIn K mainGlobals "is_integer" = some (some (.ref f1))) (l1 : K.lookup f1 = some ⟨oc1, od1, .func (PySem.W.fnOf "is_integer" "is_integer" (C8.fnArgs s_is_integer) (C8.fnBody s_is_integer) (C8.fnScope s_is_integer) .none kV1 dc1 pm1 an1 cd1 ct1), sl1⟩) (b1 : PySem.W.codeIn K cd1 "is_integer" = true) (k1 : PySem.W.keepIn K (.ref f1) = true)
    {f2 : Addr} {od2 an2 : Option Addr} {sl2 : Array (Option Value)} {oc2 kV2 dc2 pm2 cd2 ct2 : Value} (a2 : PySem.W.nsIn K mainGlobals "rank" = some (some (.ref f2))) (l2 : K.lookup f2 = some ⟨oc2, od2, .func (PySem.W.fnOf "rank" "rank" (C8.fnArgs s_rank) (C8.fnBody s_rank) (C8.fnScope s_rank) .none kV2 dc2 pm2 an2 cd2 ct2), sl2⟩) (b2 : PySem.W.codeIn K cd2 "rank" = true) (k2 : PySem.W.keepIn K (.ref f2) = true)
    {f3 : Addr} {od3 an3 : Option Addr} {sl3 : Array (Option Value)} {oc3 kV3 dc3 pm3 cd3 ct3 : Value} (a3 : PySem.W.nsIn K mainGlobals "row_rank" = some (some (.ref f3))) (l3 : K.lookup f3 = some ⟨oc3, od3, .func (PySem.W.fnOf "row_rank" "row_rank" (C8.fnArgs s_row_rank) (C8.fnBody s_row_rank) (C8.fnScope s_row_rank) .none kV3 dc3 pm3 an3 cd3 ct3), sl3⟩) (b3 : PySem.W.codeIn K cd3 "row_rank" = true) (k3 : PySem.W.keepIn K (.ref f3) = true)
    {f4 : Addr} {od4 an4 : Option Addr} {sl4 : Array (Option Value)} {oc4 kV4 dc4 pm4 cd4 ct4 : Value} (a4 : PySem.W.nsIn K mainGlobals "same" = some (some (.ref f4))) (l4 : K.lookup f4 = some ⟨oc4, od4, .func (PySem.W.fnOf "same" "same" (C8.fnArgs s_same) (C8.fnBody s_same) (C8.fnScope s_same) .none kV4 dc4 pm4 an4 cd4 ct4), sl4⟩) (b4 : PySem.W.codeIn K cd4 "same" = true) (k4 : PySem.W.keepIn K (.ref f4) = true)
    {f5 : Addr} {od5 an5 : Option Addr} {sl5 : Array (Option Value)} {oc5 kV5 dc5 pm5 cd5 ct5 : Value} (a5 : PySem.W.nsIn K mainGlobals "before" = some (some (.ref f5))) (l5 : K.lookup f5 = some ⟨oc5, od5, .func (PySem.W.fnOf "before" "before" (C8.fnArgs s_before) (C8.fnBody s_before) (C8.fnScope s_before) .none kV5 dc5 pm5 an5 cd5 ct5), sl5⟩) (b5 : PySem.W.codeIn K cd5 "before" = true) (k5 : PySem.W.keepIn K (.ref f5) = true)
    {f6 : Addr} {od6 an6 : Option Addr} {sl6 : Array (Option Value)} {oc6 kV6 dc6 pm6 cd6 ct6 : Value} (a6 : PySem.W.nsIn K mainGlobals "limited" = some (some (.ref f6))) (l6 : K.lookup f6 = some ⟨oc6, od6, .func (PySem.W.fnOf "limited" "limited" (C8.fnArgs s_limited) (C8.fnBody s_limited) (C8.fnScope s_limited) .none kV6 dc6 pm6 an6 cd6 ct6), sl6⟩) (b6 : PySem.W.codeIn K cd6 "limited" = true) (k6 : PySem.W.keepIn K (.ref f6) = true)
    {f7 : Addr} {od7 an7 : Option Addr} {sl7 : Array (Option Value)} {oc7 kV7 dc7 pm7 cd7 ct7 : Value} (a7 : PySem.W.nsIn K mainGlobals "negated" = some (some (.ref f7))) (l7 : K.lookup f7 = some ⟨oc7, od7, .func (PySem.W.fnOf "negated" "negated" (C8.fnArgs s_negated) (C8.fnBody s_negated) (C8.fnScope s_negated) .none kV7 dc7 pm7 an7 cd7 ct7), sl7⟩) (b7 : PySem.W.codeIn K cd7 "negated" = true) (k7 : PySem.W.keepIn K (.ref f7) = true)
    {f8 : Addr} {od8 an8 : Option Addr} {sl8 : Array (Option Value)} {oc8 kV8 dc8 pm8 cd8 ct8 : Value} (a8 : PySem.W.nsIn K mainGlobals "both" = some (some (.ref f8))) (l8 : K.lookup f8 = some ⟨oc8, od8, .func (PySem.W.fnOf "both" "both" (C8.fnArgs s_both) (C8.fnBody s_both) (C8.fnScope s_both) .none kV8 dc8 pm8 an8 cd8 ct8), sl8⟩) (b8 : PySem.W.codeIn K cd8 "both" = true) (k8 : PySem.W.keepIn K (.ref f8) = true)
    {f9 : Addr} {od9 an9 : Option Addr} {sl9 : Array (Option Value)} {oc9 kV9 dc9 pm9 cd9 ct9 : Value} (a9 : PySem.W.nsIn K mainGlobals "either" = some (some (.ref f9))) (l9 : K.lookup f9 = some ⟨oc9, od9, .func (PySem.W.fnOf "either" "either" (C8.fnArgs s_either) (C8.fnBody s_either) (C8.fnScope s_either) .none kV9 dc9 pm9 an9 cd9 ct9), sl9⟩) (b9 : PySem.W.codeIn K cd9 "either" = true) (k9 : PySem.W.keepIn K (.ref f9) = true)
    {f10 : Addr} {od10 an10 : Option Addr} {sl10 : Array (Option Value)} {oc10 kV10 dc10 pm10 cd10 ct10 : Value} (a10 : PySem.W.nsIn K mainGlobals "_negate" = some (some (.ref f10))) (l10 : K.lookup f10 = some ⟨oc10, od10, .func (PySem.W.fnOf "_negate" "_negate" (C8.fnArgs s__negate) (C8.fnBody s__negate) (C8.fnScope s__negate) .none kV10 dc10 pm10 an10 cd10 ct10), sl10⟩) (b10 : PySem.W.codeIn K cd10 "_negate" = true) (k10 : PySem.W.keepIn K (.ref f10) = true)
    {f11 : Addr} {od11 an11 : Option Addr} {sl11 : Array (Option Value)} {oc11 kV11 dc11 pm11 cd11 ct11 : Value} (a11 : PySem.W.nsIn K mainGlobals "_length" = some (some (.ref f11))) (l11 : K.lookup f11 = some ⟨oc11, od11, .func (PySem.W.fnOf "_length" "_length" (C8.fnArgs s__length) (C8.fnBody s__length) (C8.fnScope s__length) .none kV11 dc11 pm11 an11 cd11 ct11), sl11⟩) (b11 : PySem.W.codeIn K cd11 "_length" = true) (k11 : PySem.W.keepIn K (.ref f11) = true)
    {f12 : Addr} {od12 an12 : Option Addr} {sl12 : Array (Option Value)} {oc12 kV12 dc12 pm12 cd12 ct12 : Value} (a12 : PySem.W.nsIn K mainGlobals "value_of_one" = some (some (.ref f12))) (l12 : K.lookup f12 = some ⟨oc12, od12, .func (PySem.W.fnOf "value_of_one" "value_of_one" (C8.fnArgs s_value_of_one) (C8.fnBody s_value_of_one) (C8.fnScope s_value_of_one) .none kV12 dc12 pm12 an12 cd12 ct12), sl12⟩) (b12 : PySem.W.codeIn K cd12 "value_of_one" = true) (k12 : PySem.W.keepIn K (.ref f12) = true)
    {f13 : Addr} {od13 an13 : Option Addr} {sl13 : Array (Option Value)} {oc13 kV13 dc13 pm13 cd13 ct13 : Value} (a13 : PySem.W.nsIn K mainGlobals "_both" = some (some (.ref f13))) (l13 : K.lookup f13 = some ⟨oc13, od13, .func (PySem.W.fnOf "_both" "_both" (C8.fnArgs s__both) (C8.fnBody s__both) (C8.fnScope s__both) .none kV13 dc13 pm13 an13 cd13 ct13), sl13⟩) (b13 : PySem.W.codeIn K cd13 "_both" = true) (k13 : PySem.W.keepIn K (.ref f13) = true)
    {f14 : Addr} {od14 an14 : Option Addr} {sl14 : Array (Option Value)} {oc14 kV14 dc14 pm14 cd14 ct14 : Value} (a14 : PySem.W.nsIn K mainGlobals "_either" = some (some (.ref f14))) (l14 : K.lookup f14 = some ⟨oc14, od14, .func (PySem.W.fnOf "_either" "_either" (C8.fnArgs s__either) (C8.fnBody s__either) (C8.fnScope s__either) .none kV14 dc14 pm14 an14 cd14 ct14), sl14⟩) (b14 : PySem.W.codeIn K cd14 "_either" = true) (k14 : PySem.W.keepIn K (.ref f14) = true)
    {f15 : Addr} {od15 an15 : Option Addr} {sl15 : Array (Option Value)} {oc15 kV15 dc15 pm15 cd15 ct15 : Value} (a15 : PySem.W.nsIn K mainGlobals "_same" = some (some (.ref f15))) (l15 : K.lookup f15 = some ⟨oc15, od15, .func (PySem.W.fnOf "_same" "_same" (C8.fnArgs s__same) (C8.fnBody s__same) (C8.fnScope s__same) .none kV15 dc15 pm15 an15 cd15 ct15), sl15⟩) (b15 : PySem.W.codeIn K cd15 "_same" = true) (k15 : PySem.W.keepIn K (.ref f15) = true)
    {f16 : Addr} {od16 an16 : Option Addr} {sl16 : Array (Option Value)} {oc16 kV16 dc16 pm16 cd16 ct16 : Value} (a16 : PySem.W.nsIn K mainGlobals "_first_known" = some (some (.ref f16))) (l16 : K.lookup f16 = some ⟨oc16, od16, .func (PySem.W.fnOf "_first_known" "_first_known" (C8.fnArgs s__first_known) (C8.fnBody s__first_known) (C8.fnScope s__first_known) .none kV16 dc16 pm16 an16 cd16 ct16), sl16⟩) (b16 : PySem.W.codeIn K cd16 "_first_known" = true) (k16 : PySem.W.keepIn K (.ref f16) = true)
    {f17 : Addr} {od17 an17 : Option Addr} {sl17 : Array (Option Value)} {oc17 kV17 dc17 pm17 cd17 ct17 : Value} (a17 : PySem.W.nsIn K mainGlobals "_equal" = some (some (.ref f17))) (l17 : K.lookup f17 = some ⟨oc17, od17, .func (PySem.W.fnOf "_equal" "_equal" (C8.fnArgs s__equal) (C8.fnBody s__equal) (C8.fnScope s__equal) .none kV17 dc17 pm17 an17 cd17 ct17), sl17⟩) (b17 : PySem.W.codeIn K cd17 "_equal" = true) (k17 : PySem.W.keepIn K (.ref f17) = true)
    {f18 : Addr} {od18 an18 : Option Addr} {sl18 : Array (Option Value)} {oc18 kV18 dc18 pm18 cd18 ct18 : Value} (a18 : PySem.W.nsIn K mainGlobals "_less" = some (some (.ref f18))) (l18 : K.lookup f18 = some ⟨oc18, od18, .func (PySem.W.fnOf "_less" "_less" (C8.fnArgs s__less) (C8.fnBody s__less) (C8.fnScope s__less) .none kV18 dc18 pm18 an18 cd18 ct18), sl18⟩) (b18 : PySem.W.codeIn K cd18 "_less" = true) (k18 : PySem.W.keepIn K (.ref f18) = true)
    {f19 : Addr} {od19 an19 : Option Addr} {sl19 : Array (Option Value)} {oc19 kV19 dc19 pm19 cd19 ct19 : Value} (a19 : PySem.W.nsIn K mainGlobals "_at_most" = some (some (.ref f19))) (l19 : K.lookup f19 = some ⟨oc19, od19, .func (PySem.W.fnOf "_at_most" "_at_most" (C8.fnArgs s__at_most) (C8.fnBody s__at_most) (C8.fnScope s__at_most) .none kV19 dc19 pm19 an19 cd19 ct19), sl19⟩) (b19 : PySem.W.codeIn K cd19 "_at_most" = true) (k19 : PySem.W.keepIn K (.ref f19) = true)
    {f20 : Addr} {od20 an20 : Option Addr} {sl20 : Array (Option Value)} {oc20 kV20 dc20 pm20 cd20 ct20 : Value} (a20 : PySem.W.nsIn K mainGlobals "_least" = some (some (.ref f20))) (l20 : K.lookup f20 = some ⟨oc20, od20, .func (PySem.W.fnOf "_least" "_least" (C8.fnArgs s__least) (C8.fnBody s__least) (C8.fnScope s__least) .none kV20 dc20 pm20 an20 cd20 ct20), sl20⟩) (b20 : PySem.W.codeIn K cd20 "_least" = true) (k20 : PySem.W.keepIn K (.ref f20) = true)
    {f21 : Addr} {od21 an21 : Option Addr} {sl21 : Array (Option Value)} {oc21 kV21 dc21 pm21 cd21 ct21 : Value} (a21 : PySem.W.nsIn K mainGlobals "_add" = some (some (.ref f21))) (l21 : K.lookup f21 = some ⟨oc21, od21, .func (PySem.W.fnOf "_add" "_add" (C8.fnArgs s__add) (C8.fnBody s__add) (C8.fnScope s__add) .none kV21 dc21 pm21 an21 cd21 ct21), sl21⟩) (b21 : PySem.W.codeIn K cd21 "_add" = true) (k21 : PySem.W.keepIn K (.ref f21) = true)
    {f22 : Addr} {od22 an22 : Option Addr} {sl22 : Array (Option Value)} {oc22 kV22 dc22 pm22 cd22 ct22 : Value} (a22 : PySem.W.nsIn K mainGlobals "_join" = some (some (.ref f22))) (l22 : K.lookup f22 = some ⟨oc22, od22, .func (PySem.W.fnOf "_join" "_join" (C8.fnArgs s__join) (C8.fnBody s__join) (C8.fnScope s__join) .none kV22 dc22 pm22 an22 cd22 ct22), sl22⟩) (b22 : PySem.W.codeIn K cd22 "_join" = true) (k22 : PySem.W.keepIn K (.ref f22) = true)
    {f23 : Addr} {od23 an23 : Option Addr} {sl23 : Array (Option Value)} {oc23 kV23 dc23 pm23 cd23 ct23 : Value} (a23 : PySem.W.nsIn K mainGlobals "_are_alike" = some (some (.ref f23))) (l23 : K.lookup f23 = some ⟨oc23, od23, .func (PySem.W.fnOf "_are_alike" "_are_alike" (C8.fnArgs s__are_alike) (C8.fnBody s__are_alike) (C8.fnScope s__are_alike) .none kV23 dc23 pm23 an23 cd23 ct23), sl23⟩) (b23 : PySem.W.codeIn K cd23 "_are_alike" = true) (k23 : PySem.W.keepIn K (.ref f23) = true)
    {f24 : Addr} {od24 an24 : Option Addr} {sl24 : Array (Option Value)} {oc24 kV24 dc24 pm24 cd24 ct24 : Value} (a24 : PySem.W.nsIn K mainGlobals "value_of_two" = some (some (.ref f24))) (l24 : K.lookup f24 = some ⟨oc24, od24, .func (PySem.W.fnOf "value_of_two" "value_of_two" (C8.fnArgs s_value_of_two) (C8.fnBody s_value_of_two) (C8.fnScope s_value_of_two) .none kV24 dc24 pm24 an24 cd24 ct24), sl24⟩) (b24 : PySem.W.codeIn K cd24 "value_of_two" = true) (k24 : PySem.W.keepIn K (.ref f24) = true)
    {f25 : Addr} {od25 an25 : Option Addr} {sl25 : Array (Option Value)} {oc25 kV25 dc25 pm25 cd25 ct25 : Value} (a25 : PySem.W.nsIn K mainGlobals "unary" = some (some (.ref f25))) (l25 : K.lookup f25 = some ⟨oc25, od25, .func (PySem.W.fnOf "unary" "unary" (C8.fnArgs s_unary) (C8.fnBody s_unary) (C8.fnScope s_unary) .none kV25 dc25 pm25 an25 cd25 ct25), sl25⟩) (b25 : PySem.W.codeIn K cd25 "unary" = true) (k25 : PySem.W.keepIn K (.ref f25) = true)
    {f26 : Addr} {od26 an26 : Option Addr} {sl26 : Array (Option Value)} {oc26 kV26 dc26 pm26 cd26 ct26 : Value} (a26 : PySem.W.nsIn K mainGlobals "binary" = some (some (.ref f26))) (l26 : K.lookup f26 = some ⟨oc26, od26, .func (PySem.W.fnOf "binary" "binary" (C8.fnArgs s_binary) (C8.fnBody s_binary) (C8.fnScope s_binary) .none kV26 dc26 pm26 an26 cd26 ct26), sl26⟩) (b26 : PySem.W.codeIn K cd26 "binary" = true) (k26 : PySem.W.keepIn K (.ref f26) = true)
    {f27 : Addr} {od27 an27 : Option Addr} {sl27 : Array (Option Value)} {oc27 kV27 dc27 pm27 cd27 ct27 : Value} (a27 : PySem.W.nsIn K mainGlobals "evaluate" = some (some (.ref f27))) (l27 : K.lookup f27 = some ⟨oc27, od27, .func (PySem.W.fnOf "evaluate" "evaluate" (C8.fnArgs s_evaluate) (C8.fnBody s_evaluate) (C8.fnScope s_evaluate) .none kV27 dc27 pm27 an27 cd27 ct27), sl27⟩) (b27 : PySem.W.codeIn K cd27 "evaluate" = true) (k27 : PySem.W.keepIn K (.ref f27) = true)
    {f28 c28 P28 : Addr} {od28 an28 : Option Addr} {sl28 : Array (Option Value)} {oc28 kV28 dc28 pm28 ct28 : Value} {o228 : Value} {d228 : Option Addr} {vs28 : Array Value} {s228 : Array (Option Value)} (a28 : PySem.W.nsIn K mainGlobals "_sorted_by" = some (some (.ref f28))) (l28 : K.lookup f28 = some ⟨oc28, od28, .func (PySem.W.fnOf "_sorted_by" "_sorted_by" (C8.fnArgs s__sorted_by) (C8.fnBody s__sorted_by) (C8.fnScope s__sorted_by) .none kV28 dc28 pm28 an28 (Value.ref c28) ct28), sl28⟩) (b28 : PySem.W.codeIn K (Value.ref c28) "_sorted_by" = true) (k28 : PySem.W.keepIn K (.ref f28) = true) (lc28 : K.lookup c28 = some ⟨o228, d228, .fields vs28, s228⟩) (vt28 : vs28.getD 11 .none = .ref P28)
    {f29 c29 P29 : Addr} {od29 an29 : Option Addr} {sl29 : Array (Option Value)} {oc29 kV29 dc29 pm29 ct29 : Value} {o229 : Value} {d229 : Option Addr} {vs29 : Array Value} {s229 : Array (Option Value)} (a29 : PySem.W.nsIn K mainGlobals "sorted_rows" = some (some (.ref f29))) (l29 : K.lookup f29 = some ⟨oc29, od29, .func (PySem.W.fnOf "sorted_rows" "sorted_rows" (C8.fnArgs s_sorted_rows) (C8.fnBody s_sorted_rows) (C8.fnScope s_sorted_rows) .none kV29 dc29 pm29 an29 (Value.ref c29) ct29), sl29⟩) (b29 : PySem.W.codeIn K (Value.ref c29) "sorted_rows" = true) (k29 : PySem.W.keepIn K (.ref f29) = true) (lc29 : K.lookup c29 = some ⟨o229, d229, .fields vs29, s229⟩) (vt29 : vs29.getD 11 .none = .ref P29)
    {f30 : Addr} {od30 an30 : Option Addr} {sl30 : Array (Option Value)} {oc30 kV30 dc30 pm30 cd30 ct30 : Value} (a30 : PySem.W.nsIn K mainGlobals "cut_rows" = some (some (.ref f30))) (l30 : K.lookup f30 = some ⟨oc30, od30, .func (PySem.W.fnOf "cut_rows" "cut_rows" (C8.fnArgs s_cut_rows) (C8.fnBody s_cut_rows) (C8.fnScope s_cut_rows) .none kV30 dc30 pm30 an30 cd30 ct30), sl30⟩) (b30 : PySem.W.codeIn K cd30 "cut_rows" = true) (k30 : PySem.W.keepIn K (.ref f30) = true)
    {f31 : Addr} {od31 an31 : Option Addr} {sl31 : Array (Option Value)} {oc31 kV31 dc31 pm31 cd31 ct31 : Value} (a31 : PySem.W.nsIn K mainGlobals "_ranked" = some (some (.ref f31))) (l31 : K.lookup f31 = some ⟨oc31, od31, .func (PySem.W.fnOf "_ranked" "_ranked" (C8.fnArgs s__ranked) (C8.fnBody s__ranked) (C8.fnScope s__ranked) .none kV31 dc31 pm31 an31 cd31 ct31), sl31⟩) (b31 : PySem.W.codeIn K cd31 "_ranked" = true) (k31 : PySem.W.keepIn K (.ref f31) = true)
    {f32 : Addr} {od32 an32 : Option Addr} {sl32 : Array (Option Value)} {oc32 kV32 dc32 pm32 cd32 ct32 : Value} (a32 : PySem.W.nsIn K mainGlobals "_is_behind" = some (some (.ref f32))) (l32 : K.lookup f32 = some ⟨oc32, od32, .func (PySem.W.fnOf "_is_behind" "_is_behind" (C8.fnArgs s__is_behind) (C8.fnBody s__is_behind) (C8.fnScope s__is_behind) .none kV32 dc32 pm32 an32 cd32 ct32), sl32⟩) (b32 : PySem.W.codeIn K cd32 "_is_behind" = true) (k32 : PySem.W.keepIn K (.ref f32) = true)
    {f33 : Addr} {od33 an33 : Option Addr} {sl33 : Array (Option Value)} {oc33 kV33 dc33 pm33 cd33 ct33 : Value} (a33 : PySem.W.nsIn K mainGlobals "_merged" = some (some (.ref f33))) (l33 : K.lookup f33 = some ⟨oc33, od33, .func (PySem.W.fnOf "_merged" "_merged" (C8.fnArgs s__merged) (C8.fnBody s__merged) (C8.fnScope s__merged) .none kV33 dc33 pm33 an33 cd33 ct33), sl33⟩) (b33 : PySem.W.codeIn K cd33 "_merged" = true) (k33 : PySem.W.keepIn K (.ref f33) = true)
    {f34 : Addr} {od34 an34 : Option Addr} {sl34 : Array (Option Value)} {oc34 kV34 dc34 pm34 cd34 ct34 : Value} (a34 : PySem.W.nsIn K mainGlobals "merge_runs" = some (some (.ref f34))) (l34 : K.lookup f34 = some ⟨oc34, od34, .func (PySem.W.fnOf "merge_runs" "merge_runs" (C8.fnArgs s_merge_runs) (C8.fnBody s_merge_runs) (C8.fnScope s_merge_runs) .none kV34 dc34 pm34 an34 cd34 ct34), sl34⟩) (b34 : PySem.W.codeIn K cd34 "merge_runs" = true) (k34 : PySem.W.keepIn K (.ref f34) = true)
    {f35 : Addr} {od35 an35 : Option Addr} {sl35 : Array (Option Value)} {oc35 kV35 dc35 pm35 cd35 ct35 : Value} (a35 : PySem.W.nsIn K mainGlobals "sort_rows" = some (some (.ref f35))) (l35 : K.lookup f35 = some ⟨oc35, od35, .func (PySem.W.fnOf "sort_rows" "sort_rows" (C8.fnArgs s_sort_rows) (C8.fnBody s_sort_rows) (C8.fnScope s_sort_rows) .none kV35 dc35 pm35 an35 cd35 ct35), sl35⟩) (b35 : PySem.W.codeIn K cd35 "sort_rows" = true) (k35 : PySem.W.keepIn K (.ref f35) = true)
    {f36 : Addr} {od36 an36 : Option Addr} {sl36 : Array (Option Value)} {oc36 kV36 dc36 pm36 cd36 ct36 : Value} (a36 : PySem.W.nsIn K mainGlobals "sort_written" = some (some (.ref f36))) (l36 : K.lookup f36 = some ⟨oc36, od36, .func (PySem.W.fnOf "sort_written" "sort_written" (C8.fnArgs s_sort_written) (C8.fnBody s_sort_written) (C8.fnScope s_sort_written) .none kV36 dc36 pm36 an36 cd36 ct36), sl36⟩) (b36 : PySem.W.codeIn K cd36 "sort_written" = true) (k36 : PySem.W.keepIn K (.ref f36) = true)
    {f37 : Addr} {od37 an37 : Option Addr} {sl37 : Array (Option Value)} {oc37 kV37 dc37 pm37 cd37 ct37 : Value} (a37 : PySem.W.nsIn K mainGlobals "_place_of" = some (some (.ref f37))) (l37 : K.lookup f37 = some ⟨oc37, od37, .func (PySem.W.fnOf "_place_of" "_place_of" (C8.fnArgs s__place_of) (C8.fnBody s__place_of) (C8.fnScope s__place_of) .none kV37 dc37 pm37 an37 cd37 ct37), sl37⟩) (b37 : PySem.W.codeIn K cd37 "_place_of" = true) (k37 : PySem.W.keepIn K (.ref f37) = true)
    {f38 : Addr} {od38 an38 : Option Addr} {sl38 : Array (Option Value)} {oc38 kV38 dc38 pm38 cd38 ct38 : Value} (a38 : PySem.W.nsIn K mainGlobals "_first_rows" = some (some (.ref f38))) (l38 : K.lookup f38 = some ⟨oc38, od38, .func (PySem.W.fnOf "_first_rows" "_first_rows" (C8.fnArgs s__first_rows) (C8.fnBody s__first_rows) (C8.fnScope s__first_rows) .none kV38 dc38 pm38 an38 cd38 ct38), sl38⟩) (b38 : PySem.W.codeIn K cd38 "_first_rows" = true) (k38 : PySem.W.keepIn K (.ref f38) = true)
    {f39 : Addr} {od39 an39 : Option Addr} {sl39 : Array (Option Value)} {oc39 kV39 dc39 pm39 cd39 ct39 : Value} (a39 : PySem.W.nsIn K mainGlobals "_is_kept" = some (some (.ref f39))) (l39 : K.lookup f39 = some ⟨oc39, od39, .func (PySem.W.fnOf "_is_kept" "_is_kept" (C8.fnArgs s__is_kept) (C8.fnBody s__is_kept) (C8.fnScope s__is_kept) .none kV39 dc39 pm39 an39 cd39 ct39), sl39⟩) (b39 : PySem.W.codeIn K cd39 "_is_kept" = true) (k39 : PySem.W.keepIn K (.ref f39) = true)
    {f40 : Addr} {od40 an40 : Option Addr} {sl40 : Array (Option Value)} {oc40 kV40 dc40 pm40 cd40 ct40 : Value} (a40 : PySem.W.nsIn K mainGlobals "top_rows" = some (some (.ref f40))) (l40 : K.lookup f40 = some ⟨oc40, od40, .func (PySem.W.fnOf "top_rows" "top_rows" (C8.fnArgs s_top_rows) (C8.fnBody s_top_rows) (C8.fnScope s_top_rows) .none kV40 dc40 pm40 an40 cd40 ct40), sl40⟩) (b40 : PySem.W.codeIn K cd40 "top_rows" = true) (k40 : PySem.W.keepIn K (.ref f40) = true)
    {f41 : Addr} {od41 an41 : Option Addr} {sl41 : Array (Option Value)} {oc41 kV41 dc41 pm41 cd41 ct41 : Value} (a41 : PySem.W.nsIn K mainGlobals "top_written" = some (some (.ref f41))) (l41 : K.lookup f41 = some ⟨oc41, od41, .func (PySem.W.fnOf "top_written" "top_written" (C8.fnArgs s_top_written) (C8.fnBody s_top_written) (C8.fnScope s_top_written) .none kV41 dc41 pm41 an41 cd41 ct41), sl41⟩) (b41 : PySem.W.codeIn K cd41 "top_written" = true) (k41 : PySem.W.keepIn K (.ref f41) = true)
    {f42 : Addr} {od42 an42 : Option Addr} {sl42 : Array (Option Value)} {oc42 kV42 dc42 pm42 cd42 ct42 : Value} (a42 : PySem.W.nsIn K mainGlobals "_law_cell" = some (some (.ref f42))) (l42 : K.lookup f42 = some ⟨oc42, od42, .func (PySem.W.fnOf "_law_cell" "_law_cell" (C8.fnArgs s__law_cell) (C8.fnBody s__law_cell) (C8.fnScope s__law_cell) .none kV42 dc42 pm42 an42 cd42 ct42), sl42⟩) (b42 : PySem.W.codeIn K cd42 "_law_cell" = true) (k42 : PySem.W.keepIn K (.ref f42) = true)
    {f43 : Addr} {od43 an43 : Option Addr} {sl43 : Array (Option Value)} {oc43 kV43 dc43 pm43 cd43 ct43 : Value} (a43 : PySem.W.nsIn K mainGlobals "_law_state" = some (some (.ref f43))) (l43 : K.lookup f43 = some ⟨oc43, od43, .func (PySem.W.fnOf "_law_state" "_law_state" (C8.fnArgs s__law_state) (C8.fnBody s__law_state) (C8.fnScope s__law_state) .none kV43 dc43 pm43 an43 cd43 ct43), sl43⟩) (b43 : PySem.W.codeIn K cd43 "_law_state" = true) (k43 : PySem.W.keepIn K (.ref f43) = true)
    {f44 : Addr} {od44 an44 : Option Addr} {sl44 : Array (Option Value)} {oc44 kV44 dc44 pm44 cd44 ct44 : Value} (a44 : PySem.W.nsIn K mainGlobals "_law_digit" = some (some (.ref f44))) (l44 : K.lookup f44 = some ⟨oc44, od44, .func (PySem.W.fnOf "_law_digit" "_law_digit" (C8.fnArgs s__law_digit) (C8.fnBody s__law_digit) (C8.fnScope s__law_digit) .none kV44 dc44 pm44 an44 cd44 ct44), sl44⟩) (b44 : PySem.W.codeIn K cd44 "_law_digit" = true) (k44 : PySem.W.keepIn K (.ref f44) = true)
    {f45 : Addr} {od45 an45 : Option Addr} {sl45 : Array (Option Value)} {oc45 kV45 dc45 pm45 cd45 ct45 : Value} (a45 : PySem.W.nsIn K mainGlobals "_law_is_integer" = some (some (.ref f45))) (l45 : K.lookup f45 = some ⟨oc45, od45, .func (PySem.W.fnOf "_law_is_integer" "_law_is_integer" (C8.fnArgs s__law_is_integer) (C8.fnBody s__law_is_integer) (C8.fnScope s__law_is_integer) .none kV45 dc45 pm45 an45 cd45 ct45), sl45⟩) (b45 : PySem.W.codeIn K cd45 "_law_is_integer" = true) (k45 : PySem.W.keepIn K (.ref f45) = true)
    {f46 : Addr} {od46 an46 : Option Addr} {sl46 : Array (Option Value)} {oc46 kV46 dc46 pm46 cd46 ct46 : Value} (a46 : PySem.W.nsIn K mainGlobals "_law_rank" = some (some (.ref f46))) (l46 : K.lookup f46 = some ⟨oc46, od46, .func (PySem.W.fnOf "_law_rank" "_law_rank" (C8.fnArgs s__law_rank) (C8.fnBody s__law_rank) (C8.fnScope s__law_rank) .none kV46 dc46 pm46 an46 cd46 ct46), sl46⟩) (b46 : PySem.W.codeIn K cd46 "_law_rank" = true) (k46 : PySem.W.keepIn K (.ref f46) = true)
    {f47 : Addr} {od47 an47 : Option Addr} {sl47 : Array (Option Value)} {oc47 kV47 dc47 pm47 cd47 ct47 : Value} (a47 : PySem.W.nsIn K mainGlobals "_law_ranks" = some (some (.ref f47))) (l47 : K.lookup f47 = some ⟨oc47, od47, .func (PySem.W.fnOf "_law_ranks" "_law_ranks" (C8.fnArgs s__law_ranks) (C8.fnBody s__law_ranks) (C8.fnScope s__law_ranks) .none kV47 dc47 pm47 an47 cd47 ct47), sl47⟩) (b47 : PySem.W.codeIn K cd47 "_law_ranks" = true) (k47 : PySem.W.keepIn K (.ref f47) = true)
    {f48 : Addr} {od48 an48 : Option Addr} {sl48 : Array (Option Value)} {oc48 kV48 dc48 pm48 cd48 ct48 : Value} (a48 : PySem.W.nsIn K mainGlobals "_law_same_rows" = some (some (.ref f48))) (l48 : K.lookup f48 = some ⟨oc48, od48, .func (PySem.W.fnOf "_law_same_rows" "_law_same_rows" (C8.fnArgs s__law_same_rows) (C8.fnBody s__law_same_rows) (C8.fnScope s__law_same_rows) .none kV48 dc48 pm48 an48 cd48 ct48), sl48⟩) (b48 : PySem.W.codeIn K cd48 "_law_same_rows" = true) (k48 : PySem.W.keepIn K (.ref f48) = true)
    {f49 : Addr} {od49 an49 : Option Addr} {sl49 : Array (Option Value)} {oc49 kV49 dc49 pm49 cd49 ct49 : Value} (a49 : PySem.W.nsIn K mainGlobals "_law_text" = some (some (.ref f49))) (l49 : K.lookup f49 = some ⟨oc49, od49, .func (PySem.W.fnOf "_law_text" "_law_text" (C8.fnArgs s__law_text) (C8.fnBody s__law_text) (C8.fnScope s__law_text) .none kV49 dc49 pm49 an49 cd49 ct49), sl49⟩) (b49 : PySem.W.codeIn K cd49 "_law_text" = true) (k49 : PySem.W.keepIn K (.ref f49) = true)
    {f50 : Addr} {od50 an50 : Option Addr} {sl50 : Array (Option Value)} {oc50 kV50 dc50 pm50 cd50 ct50 : Value} (a50 : PySem.W.nsIn K mainGlobals "_law_value" = some (some (.ref f50))) (l50 : K.lookup f50 = some ⟨oc50, od50, .func (PySem.W.fnOf "_law_value" "_law_value" (C8.fnArgs s__law_value) (C8.fnBody s__law_value) (C8.fnScope s__law_value) .none kV50 dc50 pm50 an50 cd50 ct50), sl50⟩) (b50 : PySem.W.codeIn K cd50 "_law_value" = true) (k50 : PySem.W.keepIn K (.ref f50) = true)
    {f51 : Addr} {od51 an51 : Option Addr} {sl51 : Array (Option Value)} {oc51 kV51 dc51 pm51 cd51 ct51 : Value} (a51 : PySem.W.nsIn K mainGlobals "_law_rows" = some (some (.ref f51))) (l51 : K.lookup f51 = some ⟨oc51, od51, .func (PySem.W.fnOf "_law_rows" "_law_rows" (C8.fnArgs s__law_rows) (C8.fnBody s__law_rows) (C8.fnScope s__law_rows) .none kV51 dc51 pm51 an51 cd51 ct51), sl51⟩) (b51 : PySem.W.codeIn K cd51 "_law_rows" = true) (k51 : PySem.W.keepIn K (.ref f51) = true)
    {f52 : Addr} {od52 an52 : Option Addr} {sl52 : Array (Option Value)} {oc52 kV52 dc52 pm52 cd52 ct52 : Value} (a52 : PySem.W.nsIn K mainGlobals "_law_first" = some (some (.ref f52))) (l52 : K.lookup f52 = some ⟨oc52, od52, .func (PySem.W.fnOf "_law_first" "_law_first" (C8.fnArgs s__law_first) (C8.fnBody s__law_first) (C8.fnScope s__law_first) .none kV52 dc52 pm52 an52 cd52 ct52), sl52⟩) (b52 : PySem.W.codeIn K cd52 "_law_first" = true) (k52 : PySem.W.keepIn K (.ref f52) = true)
    {f53 : Addr} {od53 an53 : Option Addr} {sl53 : Array (Option Value)} {oc53 kV53 dc53 pm53 cd53 ct53 : Value} (a53 : PySem.W.nsIn K mainGlobals "_law_sorted" = some (some (.ref f53))) (l53 : K.lookup f53 = some ⟨oc53, od53, .func (PySem.W.fnOf "_law_sorted" "_law_sorted" (C8.fnArgs s__law_sorted) (C8.fnBody s__law_sorted) (C8.fnScope s__law_sorted) .none kV53 dc53 pm53 an53 cd53 ct53), sl53⟩) (b53 : PySem.W.codeIn K cd53 "_law_sorted" = true) (k53 : PySem.W.keepIn K (.ref f53) = true)
    {f54 : Addr} {od54 an54 : Option Addr} {sl54 : Array (Option Value)} {oc54 kV54 dc54 pm54 cd54 ct54 : Value} (a54 : PySem.W.nsIn K mainGlobals "_law_keys" = some (some (.ref f54))) (l54 : K.lookup f54 = some ⟨oc54, od54, .func (PySem.W.fnOf "_law_keys" "_law_keys" (C8.fnArgs s__law_keys) (C8.fnBody s__law_keys) (C8.fnScope s__law_keys) .none kV54 dc54 pm54 an54 cd54 ct54), sl54⟩) (b54 : PySem.W.codeIn K cd54 "_law_keys" = true) (k54 : PySem.W.keepIn K (.ref f54) = true)
    {f55 : Addr} {od55 an55 : Option Addr} {sl55 : Array (Option Value)} {oc55 kV55 dc55 pm55 cd55 ct55 : Value} (a55 : PySem.W.nsIn K mainGlobals "law" = some (some (.ref f55))) (l55 : K.lookup f55 = some ⟨oc55, od55, .func (PySem.W.fnOf "law" "law" (C8.fnArgs s_law) (C8.fnBody s_law) (C8.fnScope s_law) .none kV55 dc55 pm55 an55 cd55 ct55), sl55⟩) (b55 : PySem.W.codeIn K cd55 "law" = true) (k55 : PySem.W.keepIn K (.ref f55) = true)
    (z_bool : PySem.W.nsIn K mainGlobals "bool" = some none)
    (z_enumerate : PySem.W.nsIn K mainGlobals "enumerate" = some none)
    (z_int : PySem.W.nsIn K mainGlobals "int" = some none)
    (z_isinstance : PySem.W.nsIn K mainGlobals "isinstance" = some none)
    (z_len : PySem.W.nsIn K mainGlobals "len" = some none)
    (z_list : PySem.W.nsIn K mainGlobals "list" = some none)
    (z_max : PySem.W.nsIn K mainGlobals "max" = some none)
    (z_min : PySem.W.nsIn K mainGlobals "min" = some none)
    (z_range : PySem.W.nsIn K mainGlobals "range" = some none)
    (z_sorted : PySem.W.nsIn K mainGlobals "sorted" = some none)
    (z_str : PySem.W.nsIn K mainGlobals "str" = some none)
    (z_tuple : PySem.W.nsIn K mainGlobals "tuple" = some none)
    {t_GREATEST : Tok} (q_GREATEST : PySem.W.nsIn K mainGlobals "GREATEST" = some (some (.int (1000000000000000) t_GREATEST)))
    {t_MOST : Tok} (q_MOST : PySem.W.nsIn K mainGlobals "MOST" = some (some (.int (10000) t_MOST)))
    {p_OF_INTEGERS_of_one : Addr} {es_OF_INTEGERS_of_one : Array DictEntry} {n_OF_INTEGERS_of_one : Nat} (q_OF_INTEGERS_of_one : PySem.W.nsIn K mainGlobals "OF_INTEGERS_of_one" = some (some (.ref p_OF_INTEGERS_of_one))) (ka_OF_INTEGERS_of_one : K.lookup p_OF_INTEGERS_of_one = some ⟨.type "dict", none, .dict es_OF_INTEGERS_of_one n_OF_INTEGERS_of_one, #[]⟩) (kl_OF_INTEGERS_of_one : PySem.W.KeysLit w.params es_OF_INTEGERS_of_one.toList) (ko_OF_INTEGERS_of_one : (p_OF_INTEGERS_of_one == sysModules) = false)
    (e_OF_INTEGERS_of_one_0 : PySem.W.nsIn K p_OF_INTEGERS_of_one "negate" = some (some (.ref f10)))
    (e_OF_INTEGERS_of_one_1 : PySem.W.nsIn K p_OF_INTEGERS_of_one "length" = some none)
    {p_OF_INTEGERS_of_two : Addr} {es_OF_INTEGERS_of_two : Array DictEntry} {n_OF_INTEGERS_of_two : Nat} (q_OF_INTEGERS_of_two : PySem.W.nsIn K mainGlobals "OF_INTEGERS_of_two" = some (some (.ref p_OF_INTEGERS_of_two))) (ka_OF_INTEGERS_of_two : K.lookup p_OF_INTEGERS_of_two = some ⟨.type "dict", none, .dict es_OF_INTEGERS_of_two n_OF_INTEGERS_of_two, #[]⟩) (kl_OF_INTEGERS_of_two : PySem.W.KeysLit w.params es_OF_INTEGERS_of_two.toList) (ko_OF_INTEGERS_of_two : (p_OF_INTEGERS_of_two == sysModules) = false)
    (e_OF_INTEGERS_of_two_0 : PySem.W.nsIn K p_OF_INTEGERS_of_two "add" = some (some (.ref f21)))
    (e_OF_INTEGERS_of_two_1 : PySem.W.nsIn K p_OF_INTEGERS_of_two "join" = some none)
    {p_OF_TEXTS_of_one : Addr} {es_OF_TEXTS_of_one : Array DictEntry} {n_OF_TEXTS_of_one : Nat} (q_OF_TEXTS_of_one : PySem.W.nsIn K mainGlobals "OF_TEXTS_of_one" = some (some (.ref p_OF_TEXTS_of_one))) (ka_OF_TEXTS_of_one : K.lookup p_OF_TEXTS_of_one = some ⟨.type "dict", none, .dict es_OF_TEXTS_of_one n_OF_TEXTS_of_one, #[]⟩) (kl_OF_TEXTS_of_one : PySem.W.KeysLit w.params es_OF_TEXTS_of_one.toList) (ko_OF_TEXTS_of_one : (p_OF_TEXTS_of_one == sysModules) = false)
    (e_OF_TEXTS_of_one_0 : PySem.W.nsIn K p_OF_TEXTS_of_one "length" = some (some (.ref f11)))
    {p_OF_TEXTS_of_two : Addr} {es_OF_TEXTS_of_two : Array DictEntry} {n_OF_TEXTS_of_two : Nat} (q_OF_TEXTS_of_two : PySem.W.nsIn K mainGlobals "OF_TEXTS_of_two" = some (some (.ref p_OF_TEXTS_of_two))) (ka_OF_TEXTS_of_two : K.lookup p_OF_TEXTS_of_two = some ⟨.type "dict", none, .dict es_OF_TEXTS_of_two n_OF_TEXTS_of_two, #[]⟩) (kl_OF_TEXTS_of_two : PySem.W.KeysLit w.params es_OF_TEXTS_of_two.toList) (ko_OF_TEXTS_of_two : (p_OF_TEXTS_of_two == sysModules) = false)
    (e_OF_TEXTS_of_two_0 : PySem.W.nsIn K p_OF_TEXTS_of_two "join" = some (some (.ref f22)))
    {p__OF_ALIKE : Addr} {es__OF_ALIKE : Array DictEntry} {n__OF_ALIKE : Nat} (q__OF_ALIKE : PySem.W.nsIn K mainGlobals "_OF_ALIKE" = some (some (.ref p__OF_ALIKE))) (ka__OF_ALIKE : K.lookup p__OF_ALIKE = some ⟨.type "dict", none, .dict es__OF_ALIKE n__OF_ALIKE, #[]⟩) (kl__OF_ALIKE : PySem.W.KeysLit w.params es__OF_ALIKE.toList) (ko__OF_ALIKE : (p__OF_ALIKE == sysModules) = false)
    (e__OF_ALIKE_0 : PySem.W.nsIn K p__OF_ALIKE "equal" = some (some (.ref f17)))
    (e__OF_ALIKE_1 : PySem.W.nsIn K p__OF_ALIKE "less" = some (some (.ref f18)))
    (e__OF_ALIKE_2 : PySem.W.nsIn K p__OF_ALIKE "at most" = some (some (.ref f19)))
    (e__OF_ALIKE_3 : PySem.W.nsIn K p__OF_ALIKE "least" = some (some (.ref f20)))
    (e__OF_ALIKE_4 : PySem.W.nsIn K p__OF_ALIKE "add" = some none)
    (e__OF_ALIKE_5 : PySem.W.nsIn K p__OF_ALIKE "join" = some none)
    {p__OF_ANY : Addr} {es__OF_ANY : Array DictEntry} {n__OF_ANY : Nat} (q__OF_ANY : PySem.W.nsIn K mainGlobals "_OF_ANY" = some (some (.ref p__OF_ANY))) (ka__OF_ANY : K.lookup p__OF_ANY = some ⟨.type "dict", none, .dict es__OF_ANY n__OF_ANY, #[]⟩) (kl__OF_ANY : PySem.W.KeysLit w.params es__OF_ANY.toList) (ko__OF_ANY : (p__OF_ANY == sysModules) = false)
    (e__OF_ANY_0 : PySem.W.nsIn K p__OF_ANY "and" = some (some (.ref f13)))
    (e__OF_ANY_1 : PySem.W.nsIn K p__OF_ANY "or" = some (some (.ref f14)))
    (e__OF_ANY_2 : PySem.W.nsIn K p__OF_ANY "same" = some (some (.ref f15)))
    (e__OF_ANY_3 : PySem.W.nsIn K p__OF_ANY "coalesce" = some (some (.ref f16)))
    (e__OF_ANY_4 : PySem.W.nsIn K p__OF_ANY "equal" = some none)
    (e__OF_ANY_5 : PySem.W.nsIn K p__OF_ANY "less" = some none)
    (e__OF_ANY_6 : PySem.W.nsIn K p__OF_ANY "at most" = some none)
    (e__OF_ANY_7 : PySem.W.nsIn K p__OF_ANY "add" = some none)
    (e__OF_ANY_8 : PySem.W.nsIn K p__OF_ANY "join" = some none)
    (e__OF_ANY_9 : PySem.W.nsIn K p__OF_ANY "least" = some none)
    (ne__sorted_by_sorted_rows : P28 ≠ P29)
    : ∃ fd : FuncData, C8.Def K mg "law" s_law fa fd ∧ (∀ (s : Shared) (u : Value), BindsTo s fd ⟨[u], []⟩ [("script", u)]) ∧ ∀ (base : Heap) (s : Shared) (H : Hp) (a : Addr) (ns : List Int) (cdv : Value), K.In base → base.Ns mainGlobals mg → (∀ p ∈ ([(c28, P28), (c29, P29)] : List (Addr × Addr)), LamX.TabB base mg p.1 p.2) → (∀ p ∈ ([(c28, P28), (c29, P29)] : List (Addr × Addr)), H p.2 = some (.tbl #[])) → ns.length ≤ 63 → SqL K H a (ns.map V.int) → Room 25 (callerA.deeper (envOfC "law" (C8.fnScope s_law) s.heap.objs.size fa cdv)) → ∃ t, PSs (cxOf C8.CX0 P w K mg base n_law "law" (C8.fnScope s_law) fa cdv callerA [] s H C8.E0).nox (C8.fnBody s_law) t ∧ t { nx := fun _ _ => V.non = .bl true, rt := fun v _ => v = .bl true } (start n_law [.ref a]) H := by
  have D_kind_rank : Dn K mg "kind_rank" s_kind_rank ["value"] := dn_mk l0 b0 k0 (PySem.W.mg_of X G a0) (fun _ _ _ _ _ _ us hl => match us, hl with | [_], _ => rfl)
  have D_is_integer : Dn K mg "is_integer" s_is_integer ["value"] := dn_mk l1 b1 k1 (PySem.W.mg_of X G a1) (fun _ _ _ _ _ _ us hl => match us, hl with | [_], _ => rfl)
  have D_rank : Dn K mg "rank" s_rank ["value"] := dn_mk l2 b2 k2 (PySem.W.mg_of X G a2) (fun _ _ _ _ _ _ us hl => match us, hl with | [_], _ => rfl)
  have D_row_rank : Dn K mg "row_rank" s_row_rank ["row"] := dn_mk l3 b3 k3 (PySem.W.mg_of X G a3) (fun _ _ _ _ _ _ us hl => match us, hl with | [_], _ => rfl)
  have D_same : Dn K mg "same" s_same ["first", "second"] := dn_mk l4 b4 k4 (PySem.W.mg_of X G a4) (fun _ _ _ _ _ _ us hl => match us, hl with | [_, _], _ => rfl)
  have D_before : Dn K mg "before" s_before ["first", "second"] := dn_mk l5 b5 k5 (PySem.W.mg_of X G a5) (fun _ _ _ _ _ _ us hl => match us, hl with | [_, _], _ => rfl)
  have D_limited : Dn K mg "limited" s_limited ["number"] := dn_mk l6 b6 k6 (PySem.W.mg_of X G a6) (fun _ _ _ _ _ _ us hl => match us, hl with | [_], _ => rfl)
  have D_negated : Dn K mg "negated" s_negated ["value"] := dn_mk l7 b7 k7 (PySem.W.mg_of X G a7) (fun _ _ _ _ _ _ us hl => match us, hl with | [_], _ => rfl)
  have D_both : Dn K mg "both" s_both ["first", "second"] := dn_mk l8 b8 k8 (PySem.W.mg_of X G a8) (fun _ _ _ _ _ _ us hl => match us, hl with | [_, _], _ => rfl)
  have D_either : Dn K mg "either" s_either ["first", "second"] := dn_mk l9 b9 k9 (PySem.W.mg_of X G a9) (fun _ _ _ _ _ _ us hl => match us, hl with | [_, _], _ => rfl)
  have D__negate : Dn K mg "_negate" s__negate ["number"] := dn_mk l10 b10 k10 (PySem.W.mg_of X G a10) (fun _ _ _ _ _ _ us hl => match us, hl with | [_], _ => rfl)
  have D__length : Dn K mg "_length" s__length ["text"] := dn_mk l11 b11 k11 (PySem.W.mg_of X G a11) (fun _ _ _ _ _ _ us hl => match us, hl with | [_], _ => rfl)
  have D_value_of_one : Dn K mg "value_of_one" s_value_of_one ["name", "value"] := dn_mk l12 b12 k12 (PySem.W.mg_of X G a12) (fun _ _ _ _ _ _ us hl => match us, hl with | [_, _], _ => rfl)
  have D__both : Dn K mg "_both" s__both ["first", "second"] := dn_mk l13 b13 k13 (PySem.W.mg_of X G a13) (fun _ _ _ _ _ _ us hl => match us, hl with | [_, _], _ => rfl)
  have D__either : Dn K mg "_either" s__either ["first", "second"] := dn_mk l14 b14 k14 (PySem.W.mg_of X G a14) (fun _ _ _ _ _ _ us hl => match us, hl with | [_, _], _ => rfl)
  have D__same : Dn K mg "_same" s__same ["first", "second"] := dn_mk l15 b15 k15 (PySem.W.mg_of X G a15) (fun _ _ _ _ _ _ us hl => match us, hl with | [_, _], _ => rfl)
  have D__first_known : Dn K mg "_first_known" s__first_known ["first", "second"] := dn_mk l16 b16 k16 (PySem.W.mg_of X G a16) (fun _ _ _ _ _ _ us hl => match us, hl with | [_, _], _ => rfl)
  have D__equal : Dn K mg "_equal" s__equal ["first", "second"] := dn_mk l17 b17 k17 (PySem.W.mg_of X G a17) (fun _ _ _ _ _ _ us hl => match us, hl with | [_, _], _ => rfl)
  have D__less : Dn K mg "_less" s__less ["first", "second"] := dn_mk l18 b18 k18 (PySem.W.mg_of X G a18) (fun _ _ _ _ _ _ us hl => match us, hl with | [_, _], _ => rfl)
  have D__at_most : Dn K mg "_at_most" s__at_most ["first", "second"] := dn_mk l19 b19 k19 (PySem.W.mg_of X G a19) (fun _ _ _ _ _ _ us hl => match us, hl with | [_, _], _ => rfl)
  have D__least : Dn K mg "_least" s__least ["first", "second"] := dn_mk l20 b20 k20 (PySem.W.mg_of X G a20) (fun _ _ _ _ _ _ us hl => match us, hl with | [_, _], _ => rfl)
  have D__add : Dn K mg "_add" s__add ["first", "second"] := dn_mk l21 b21 k21 (PySem.W.mg_of X G a21) (fun _ _ _ _ _ _ us hl => match us, hl with | [_, _], _ => rfl)
  have D__join : Dn K mg "_join" s__join ["first", "second"] := dn_mk l22 b22 k22 (PySem.W.mg_of X G a22) (fun _ _ _ _ _ _ us hl => match us, hl with | [_, _], _ => rfl)
  have D__are_alike : Dn K mg "_are_alike" s__are_alike ["first", "second"] := dn_mk l23 b23 k23 (PySem.W.mg_of X G a23) (fun _ _ _ _ _ _ us hl => match us, hl with | [_, _], _ => rfl)
  have D_value_of_two : Dn K mg "value_of_two" s_value_of_two ["name", "first", "second"] := dn_mk l24 b24 k24 (PySem.W.mg_of X G a24) (fun _ _ _ _ _ _ us hl => match us, hl with | [_, _, _], _ => rfl)
  have D_unary : Dn K mg "unary" s_unary ["name", "value"] := dn_mk l25 b25 k25 (PySem.W.mg_of X G a25) (fun _ _ _ _ _ _ us hl => match us, hl with | [_, _], _ => rfl)
  have D_binary : Dn K mg "binary" s_binary ["name", "first", "second"] := dn_mk l26 b26 k26 (PySem.W.mg_of X G a26) (fun _ _ _ _ _ _ us hl => match us, hl with | [_, _, _], _ => rfl)
  have D_evaluate : Dn K mg "evaluate" s_evaluate ["expression", "row"] := dn_mk l27 b27 k27 (PySem.W.mg_of X G a27) (fun _ _ _ _ _ _ us hl => match us, hl with | [_, _], _ => rfl)
  have D__sorted_by : DnC K mg "_sorted_by" s__sorted_by ["rows", "key"] (Value.ref c28) := dnC_mk l28 b28 k28 (PySem.W.mg_of X G a28) (fun _ _ _ _ _ _ us hl => match us, hl with | [_, _], _ => rfl)
  have E__sorted_by : tabOf K "_sorted_by" = P28 := tabOf_eq a28 l28 rfl lc28 vt28
  have D_sorted_rows : DnC K mg "sorted_rows" s_sorted_rows ["rows", "keys"] (Value.ref c29) := dnC_mk l29 b29 k29 (PySem.W.mg_of X G a29) (fun _ _ _ _ _ _ us hl => match us, hl with | [_, _], _ => rfl)
  have E_sorted_rows : tabOf K "sorted_rows" = P29 := tabOf_eq a29 l29 rfl lc29 vt29
  have D_cut_rows : Dn K mg "cut_rows" s_cut_rows ["rows", "skip", "count"] := dn_mk l30 b30 k30 (PySem.W.mg_of X G a30) (fun _ _ _ _ _ _ us hl => match us, hl with | [_, _, _], _ => rfl)
  have D__ranked : Dn K mg "_ranked" s__ranked ["row", "keys"] := dn_mk l31 b31 k31 (PySem.W.mg_of X G a31) (fun _ _ _ _ _ _ us hl => match us, hl with | [_, _], _ => rfl)
  have D__is_behind : Dn K mg "_is_behind" s__is_behind ["first", "second", "keys"] := dn_mk l32 b32 k32 (PySem.W.mg_of X G a32) (fun _ _ _ _ _ _ us hl => match us, hl with | [_, _, _], _ => rfl)
  have D__merged : Dn K mg "_merged" s__merged ["one", "other", "keys"] := dn_mk l33 b33 k33 (PySem.W.mg_of X G a33) (fun _ _ _ _ _ _ us hl => match us, hl with | [_, _, _], _ => rfl)
  have D_merge_runs : Dn K mg "merge_runs" s_merge_runs ["runs", "keys"] := dn_mk l34 b34 k34 (PySem.W.mg_of X G a34) (fun _ _ _ _ _ _ us hl => match us, hl with | [_, _], _ => rfl)
  have D_sort_rows : Dn K mg "sort_rows" s_sort_rows ["rows", "keys", "memory"] := dn_mk l35 b35 k35 (PySem.W.mg_of X G a35) (fun _ _ _ _ _ _ us hl => match us, hl with | [_, _, _], _ => rfl)
  have D_sort_written : Dn K mg "sort_written" s_sort_written ["rows", "memory"] := dn_mk l36 b36 k36 (PySem.W.mg_of X G a36) (fun _ _ _ _ _ _ us hl => match us, hl with | [_, _], _ => rfl)
  have D__place_of : Dn K mg "_place_of" s__place_of ["ranked", "kept", "keys"] := dn_mk l37 b37 k37 (PySem.W.mg_of X G a37) (fun _ _ _ _ _ _ us hl => match us, hl with | [_, _, _], _ => rfl)
  have D__first_rows : Dn K mg "_first_rows" s__first_rows ["rows", "keys", "many"] := dn_mk l38 b38 k38 (PySem.W.mg_of X G a38) (fun _ _ _ _ _ _ us hl => match us, hl with | [_, _, _], _ => rfl)
  have D__is_kept : Dn K mg "_is_kept" s__is_kept ["skip", "count", "memory"] := dn_mk l39 b39 k39 (PySem.W.mg_of X G a39) (fun _ _ _ _ _ _ us hl => match us, hl with | [_, _, _], _ => rfl)
  have D_top_rows : Dn K mg "top_rows" s_top_rows ["rows", "keys", "skip", "count", "memory"] := dn_mk l40 b40 k40 (PySem.W.mg_of X G a40) (fun _ _ _ _ _ _ us hl => match us, hl with | [_, _, _, _, _], _ => rfl)
  have D_top_written : Dn K mg "top_written" s_top_written ["rows", "skip", "count", "memory"] := dn_mk l41 b41 k41 (PySem.W.mg_of X G a41) (fun _ _ _ _ _ _ us hl => match us, hl with | [_, _, _, _], _ => rfl)
  have D__law_cell : Dn K mg "_law_cell" s__law_cell ["script", "k"] := dn_mk l42 b42 k42 (PySem.W.mg_of X G a42) (fun _ _ _ _ _ _ us hl => match us, hl with | [_, _], _ => rfl)
  have D__law_state : Dn K mg "_law_state" s__law_state ["cell", "k"] := dn_mk l43 b43 k43 (PySem.W.mg_of X G a43) (fun _ _ _ _ _ _ us hl => match us, hl with | [_, _], _ => rfl)
  have D__law_digit : Dn K mg "_law_digit" s__law_digit ["state", "many"] := dn_mk l44 b44 k44 (PySem.W.mg_of X G a44) (fun _ _ _ _ _ _ us hl => match us, hl with | [_, _], _ => rfl)
  have D__law_is_integer : Dn K mg "_law_is_integer" s__law_is_integer ["told"] := dn_mk l45 b45 k45 (PySem.W.mg_of X G a45) (fun _ _ _ _ _ _ us hl => match us, hl with | [_], _ => rfl)
  have D__law_rank : Dn K mg "_law_rank" s__law_rank ["value"] := dn_mk l46 b46 k46 (PySem.W.mg_of X G a46) (fun _ _ _ _ _ _ us hl => match us, hl with | [_], _ => rfl)
  have D__law_ranks : Dn K mg "_law_ranks" s__law_ranks ["row"] := dn_mk l47 b47 k47 (PySem.W.mg_of X G a47) (fun _ _ _ _ _ _ us hl => match us, hl with | [_], _ => rfl)
  have D__law_same_rows : Dn K mg "_law_same_rows" s__law_same_rows ["told", "due"] := dn_mk l48 b48 k48 (PySem.W.mg_of X G a48) (fun _ _ _ _ _ _ us hl => match us, hl with | [_, _], _ => rfl)
  have D__law_text : Dn K mg "_law_text" s__law_text ["state"] := dn_mk l49 b49 k49 (PySem.W.mg_of X G a49) (fun _ _ _ _ _ _ us hl => match us, hl with | [_], _ => rfl)
  have D__law_value : Dn K mg "_law_value" s__law_value ["state"] := dn_mk l50 b50 k50 (PySem.W.mg_of X G a50) (fun _ _ _ _ _ _ us hl => match us, hl with | [_], _ => rfl)
  have D__law_rows : Dn K mg "_law_rows" s__law_rows ["script", "first", "most", "width"] := dn_mk l51 b51 k51 (PySem.W.mg_of X G a51) (fun _ _ _ _ _ _ us hl => match us, hl with | [_, _, _, _], _ => rfl)
  have D__law_first : Dn K mg "_law_first" s__law_first ["row", "other", "keys"] := dn_mk l52 b52 k52 (PySem.W.mg_of X G a52) (fun _ _ _ _ _ _ us hl => match us, hl with | [_, _, _], _ => rfl)
  have D__law_sorted : Dn K mg "_law_sorted" s__law_sorted ["rows", "keys"] := dn_mk l53 b53 k53 (PySem.W.mg_of X G a53) (fun _ _ _ _ _ _ us hl => match us, hl with | [_, _], _ => rfl)
  have D__law_keys : Dn K mg "_law_keys" s__law_keys ["state"] := dn_mk l54 b54 k54 (PySem.W.mg_of X G a54) (fun _ _ _ _ _ _ us hl => match us, hl with | [_], _ => rfl)
  have y_bool : mg "bool" = none := PySem.W.mg_none_of X G z_bool
  have y_enumerate : mg "enumerate" = none := PySem.W.mg_none_of X G z_enumerate
  have y_int : mg "int" = none := PySem.W.mg_none_of X G z_int
  have y_isinstance : mg "isinstance" = none := PySem.W.mg_none_of X G z_isinstance
  have y_len : mg "len" = none := PySem.W.mg_none_of X G z_len
  have y_list : mg "list" = none := PySem.W.mg_none_of X G z_list
  have y_max : mg "max" = none := PySem.W.mg_none_of X G z_max
  have y_min : mg "min" = none := PySem.W.mg_none_of X G z_min
  have y_range : mg "range" = none := PySem.W.mg_none_of X G z_range
  have y_sorted : mg "sorted" = none := PySem.W.mg_none_of X G z_sorted
  have y_str : mg "str" = none := PySem.W.mg_none_of X G z_str
  have y_tuple : mg "tuple" = none := PySem.W.mg_none_of X G z_tuple
  have v_GREATEST : ∃ u, mg "GREATEST" = some u ∧ RelV (.int (1000000000000000)) u := ⟨_, PySem.W.mg_of X G q_GREATEST, ⟨_, rfl⟩⟩
  have v_MOST : ∃ u, mg "MOST" = some u ∧ RelV (.int (10000)) u := ⟨_, PySem.W.mg_of X G q_MOST, ⟨_, rfl⟩⟩
  have v_OF_INTEGERS_of_one : ∃ u, mg "OF_INTEGERS_of_one" = some u ∧ RelV (.ref p_OF_INTEGERS_of_one) u := ⟨_, PySem.W.mg_of X G q_OF_INTEGERS_of_one, rfl⟩
  have w_OF_INTEGERS_of_one : KDict K w p_OF_INTEGERS_of_one es_OF_INTEGERS_of_one n_OF_INTEGERS_of_one := ⟨ka_OF_INTEGERS_of_one, kl_OF_INTEGERS_of_one, ko_OF_INTEGERS_of_one⟩
  have v_OF_INTEGERS_of_two : ∃ u, mg "OF_INTEGERS_of_two" = some u ∧ RelV (.ref p_OF_INTEGERS_of_two) u := ⟨_, PySem.W.mg_of X G q_OF_INTEGERS_of_two, rfl⟩
  have w_OF_INTEGERS_of_two : KDict K w p_OF_INTEGERS_of_two es_OF_INTEGERS_of_two n_OF_INTEGERS_of_two := ⟨ka_OF_INTEGERS_of_two, kl_OF_INTEGERS_of_two, ko_OF_INTEGERS_of_two⟩
  have v_OF_TEXTS_of_one : ∃ u, mg "OF_TEXTS_of_one" = some u ∧ RelV (.ref p_OF_TEXTS_of_one) u := ⟨_, PySem.W.mg_of X G q_OF_TEXTS_of_one, rfl⟩
  have w_OF_TEXTS_of_one : KDict K w p_OF_TEXTS_of_one es_OF_TEXTS_of_one n_OF_TEXTS_of_one := ⟨ka_OF_TEXTS_of_one, kl_OF_TEXTS_of_one, ko_OF_TEXTS_of_one⟩
  have v_OF_TEXTS_of_two : ∃ u, mg "OF_TEXTS_of_two" = some u ∧ RelV (.ref p_OF_TEXTS_of_two) u := ⟨_, PySem.W.mg_of X G q_OF_TEXTS_of_two, rfl⟩
  have w_OF_TEXTS_of_two : KDict K w p_OF_TEXTS_of_two es_OF_TEXTS_of_two n_OF_TEXTS_of_two := ⟨ka_OF_TEXTS_of_two, kl_OF_TEXTS_of_two, ko_OF_TEXTS_of_two⟩
  have v__OF_ALIKE : ∃ u, mg "_OF_ALIKE" = some u ∧ RelV (.ref p__OF_ALIKE) u := ⟨_, PySem.W.mg_of X G q__OF_ALIKE, rfl⟩
  have w__OF_ALIKE : KDict K w p__OF_ALIKE es__OF_ALIKE n__OF_ALIKE := ⟨ka__OF_ALIKE, kl__OF_ALIKE, ko__OF_ALIKE⟩
  have v__OF_ANY : ∃ u, mg "_OF_ANY" = some u ∧ RelV (.ref p__OF_ANY) u := ⟨_, PySem.W.mg_of X G q__OF_ANY, rfl⟩
  have w__OF_ANY : KDict K w p__OF_ANY es__OF_ANY n__OF_ANY := ⟨ka__OF_ANY, kl__OF_ANY, ko__OF_ANY⟩
  have e := hfa.symm.trans (PySem.W.mg_of X G a55)
  cases e
  have D_law := def_mk (x := "law") (st := s_law) l55 b55 k55 hfa
  refine ⟨_, D_law, fun s v => .of_eq rfl, fun base s H a ns cdv _ _ hB hH h63 hS hr => ?_⟩
  have B__sorted_by : LamX.TabB base mg c28 (tabOf K "_sorted_by") := by rw [E__sorted_by]; exact hB (c28, P28) (List.mem_cons_self)
  have H__sorted_by : H P28 = some (.tbl #[]) := hH (c28, P28) (List.mem_cons_self)
  have B_sorted_rows : LamX.TabB base mg c29 (tabOf K "sorted_rows") := by rw [E_sorted_rows]; exact hB (c29, P29) (List.mem_cons_of_mem _ (List.mem_cons_self))
  have H_sorted_rows : H P29 = some (.tbl #[]) := hH (c29, P29) (List.mem_cons_of_mem _ (List.mem_cons_self))
  have c_kind_rank := ok_kind_rank (P := P) (w := w) (base := base) D_kind_rank y_bool y_int y_isinstance 
  have c_is_integer := ok_is_integer (P := P) (w := w) (base := base) D_is_integer y_bool y_int y_isinstance 
  have c_rank := ok_rank (P := P) (w := w) (base := base) D_rank c_kind_rank y_int 
  have c_row_rank := ok_row_rank (P := P) (w := w) (base := base) D_row_rank c_rank y_tuple 
  have c_same := ok_same (P := P) (w := w) (base := base) D_same c_rank 
  have c_before := ok_before (P := P) (w := w) (base := base) D_before c_rank 
  have c_limited := ok_limited (P := P) (w := w) (base := base) D_limited v_GREATEST 
  have c_negated := ok_negated (P := P) (w := w) (base := base) D_negated 
  have c_both := ok_both (P := P) (w := w) (base := base) D_both 
  have c_either := ok_either (P := P) (w := w) (base := base) D_either 
  have c__negate := ok__negate (P := P) (w := w) (base := base) D__negate 
  have c__length := ok__length (P := P) (w := w) (base := base) D__length y_len 
  have hNg := held_of (k := 4) c__negate (PySem.W.mg_of X G a10) (by decide)
  have hLn := held_of (k := 4) c__length (PySem.W.mg_of X G a11) (by decide)
  have c_value_of_one := ok_value_of_one (P := P) (w := w) (base := base) D_value_of_one c_is_integer c_negated y_isinstance y_str v_OF_INTEGERS_of_one w_OF_INTEGERS_of_one v_OF_TEXTS_of_one w_OF_TEXTS_of_one e_OF_INTEGERS_of_one_0 hNg e_OF_INTEGERS_of_one_1 e_OF_TEXTS_of_one_0 hLn
  have c__both := ok__both (P := P) (w := w) (base := base) D__both c_both 
  have c__either := ok__either (P := P) (w := w) (base := base) D__either c_either 
  have c__same := ok__same (P := P) (w := w) (base := base) D__same c_same 
  have c__first_known := ok__first_known (P := P) (w := w) (base := base) D__first_known 
  have c__equal := ok__equal (P := P) (w := w) (base := base) D__equal c_same 
  have c__less := ok__less (P := P) (w := w) (base := base) D__less c_before 
  have c__at_most := ok__at_most (P := P) (w := w) (base := base) D__at_most c_before 
  have c__least := ok__least (P := P) (w := w) (base := base) D__least c_before 
  have c__add := ok__add (P := P) (w := w) (base := base) D__add c_limited 
  have c__join := ok__join (P := P) (w := w) (base := base) D__join y_len v_MOST 
  have c__are_alike := ok__are_alike (P := P) (w := w) (base := base) D__are_alike c_kind_rank 
  have tab : ∀ nm x y, nm ∈ binNames → Ok x → Ok y → Opr2 P w K mg base p__OF_ANY p__OF_ALIKE p_OF_INTEGERS_of_two p_OF_TEXTS_of_two nm x y (binV nm x y) := by
    intro nm x y h hx hy
    simp only [binNames, List.mem_cons, List.not_mem_nil, or_false] at h
    rcases h with rfl | rfl | rfl | rfl | rfl | rfl | rfl | rfl | rfl | rfl
    · exact .any e__OF_ANY_0 (held_of c__both (PySem.W.mg_of X G a13) (by decide)) trivial
    · exact .any e__OF_ANY_1 (held_of c__either (PySem.W.mg_of X G a14) (by decide)) trivial
    · exact .alike e__OF_ANY_4 e__OF_ALIKE_0 (held_of c__equal (PySem.W.mg_of X G a17) (by decide))
    · exact .alike e__OF_ANY_5 e__OF_ALIKE_1 (held_of c__less (PySem.W.mg_of X G a18) (by decide))
    · exact .alike e__OF_ANY_6 e__OF_ALIKE_2 (held_of c__at_most (PySem.W.mg_of X G a19) (by decide))
    · exact .any e__OF_ANY_2 (held_of c__same (PySem.W.mg_of X G a15) (by decide)) ⟨hx, hy⟩
    · exact .any e__OF_ANY_3 (held_of c__first_known (PySem.W.mg_of X G a16) (by decide)) trivial
    · exact .nums e__OF_ANY_7 e__OF_ALIKE_4 e_OF_INTEGERS_of_two_0 (held_of c__add (PySem.W.mg_of X G a21) (by decide))
    · exact .wrds e__OF_ANY_8 e__OF_ALIKE_5 e_OF_INTEGERS_of_two_1 e_OF_TEXTS_of_two_0 (held_of c__join (PySem.W.mg_of X G a22) (by decide))
    · exact .alike e__OF_ANY_9 e__OF_ALIKE_3 (held_of c__least (PySem.W.mg_of X G a20) (by decide))
  have c_value_of_two := ok_value_of_two (P := P) (w := w) (base := base) D_value_of_two c__are_alike c_is_integer y_isinstance y_str v_OF_INTEGERS_of_two w_OF_INTEGERS_of_two v_OF_TEXTS_of_two w_OF_TEXTS_of_two v__OF_ALIKE w__OF_ALIKE v__OF_ANY w__OF_ANY tab
  have c_unary := ok_unary (P := P) (w := w) (base := base) D_unary c_value_of_one 
  have c_binary := ok_binary (P := P) (w := w) (base := base) D_binary c_value_of_two 
  have c_evaluate_0 : C8.Cal P w K mg base 7 "evaluate" (spR_evaluate 0 K) [] := cal_no D_evaluate sc_evaluate (fun _ _ _ _ h => h.elim)
  have c_evaluate_1 := ok_evaluate (P := P) (w := w) (base := base) (rn := 0) D_evaluate c_binary c_unary y_len  c_evaluate_0
  have c_evaluate_2 := ok_evaluate (P := P) (w := w) (base := base) (rn := 1) D_evaluate c_binary c_unary y_len  c_evaluate_1
  have c_evaluate_3 := ok_evaluate (P := P) (w := w) (base := base) (rn := 2) D_evaluate c_binary c_unary y_len  c_evaluate_2
  have c_evaluate_4 := ok_evaluate (P := P) (w := w) (base := base) (rn := 3) D_evaluate c_binary c_unary y_len  c_evaluate_3
  have c_evaluate_5 := ok_evaluate (P := P) (w := w) (base := base) (rn := 4) D_evaluate c_binary c_unary y_len  c_evaluate_4
  have c_evaluate_6 := ok_evaluate (P := P) (w := w) (base := base) (rn := 5) D_evaluate c_binary c_unary y_len  c_evaluate_5
  have c_evaluate_7 := ok_evaluate (P := P) (w := w) (base := base) (rn := 6) D_evaluate c_binary c_unary y_len  c_evaluate_6
  have c_evaluate_8 := ok_evaluate (P := P) (w := w) (base := base) (rn := 7) D_evaluate c_binary c_unary y_len  c_evaluate_7
  have c_evaluate : C8.Cal P w K mg base 15 "evaluate" (sp_evaluate K) [] := c_evaluate_8
  have c__sorted_by := ok__sorted_by (P := P) (w := w) (base := base) D__sorted_by B__sorted_by c_evaluate c_rank y_sorted 
  have c_sorted_rows := ok_sorted_rows (P := P) (w := w) (base := base) D_sorted_rows B_sorted_rows c__sorted_by c_row_rank y_len y_list y_range y_sorted 
  have c_cut_rows := ok_cut_rows (P := P) (w := w) (base := base) D_cut_rows y_len y_list 
  have c__ranked := ok__ranked (P := P) (w := w) (base := base) D__ranked c_evaluate c_rank c_row_rank y_list 
  have c__is_behind := ok__is_behind (P := P) (w := w) (base := base) D__is_behind y_enumerate 
  have c__merged := ok__merged (P := P) (w := w) (base := base) D__merged c__is_behind y_len 
  have c_merge_runs := ok_merge_runs (P := P) (w := w) (base := base) D_merge_runs c__merged c__ranked y_len y_range 
  have c_sort_rows := ok_sort_rows (P := P) (w := w) (base := base) D_sort_rows c_merge_runs c_sorted_rows y_len y_range 
  have c_sort_written := ok_sort_written (P := P) (w := w) (base := base) D_sort_written y_len 
  have c__place_of := ok__place_of (P := P) (w := w) (base := base) D__place_of c__is_behind y_len 
  have c__first_rows := ok__first_rows (P := P) (w := w) (base := base) D__first_rows c__place_of c__ranked y_len 
  have c__is_kept := ok__is_kept (P := P) (w := w) (base := base) D__is_kept 
  have c_top_rows := ok_top_rows (P := P) (w := w) (base := base) D_top_rows c__first_rows c__is_kept c_cut_rows c_sort_rows 
  have c_top_written := ok_top_written (P := P) (w := w) (base := base) D_top_written c__is_kept c_sort_written 
  have c__law_cell := ok__law_cell (P := P) (w := w) (base := base) D__law_cell y_len 
  have c__law_state := ok__law_state (P := P) (w := w) (base := base) D__law_state y_int 
  have c__law_digit := ok__law_digit (P := P) (w := w) (base := base) D__law_digit y_int 
  have c__law_is_integer := ok__law_is_integer (P := P) (w := w) (base := base) D__law_is_integer y_bool y_int y_isinstance 
  have c__law_rank := ok__law_rank (P := P) (w := w) (base := base) D__law_rank y_bool y_int y_isinstance 
  have c__law_ranks := ok__law_ranks (P := P) (w := w) (base := base) D__law_ranks c__law_rank 
  have c__law_same_rows := ok__law_same_rows (P := P) (w := w) (base := base) D__law_same_rows c__law_ranks y_isinstance y_len y_list y_range 
  have c__law_text := ok__law_text (P := P) (w := w) (base := base) D__law_text c__law_digit y_range 
  have c__law_value := ok__law_value (P := P) (w := w) (base := base) D__law_value c__law_digit c__law_text 
  have c__law_rows := ok__law_rows (P := P) (w := w) (base := base) D__law_rows c__law_digit c__law_state c__law_value y_len y_max y_min y_range 
  have c__law_first := ok__law_first (P := P) (w := w) (base := base) D__law_first c__law_rank c__law_ranks c_evaluate 
  have c__law_sorted := ok__law_sorted (P := P) (w := w) (base := base) D__law_sorted c__law_first y_len 
  have c__law_keys := ok__law_keys (P := P) (w := w) (base := base) D__law_keys c__law_digit y_range 
  exact ok_law (P := P) (w := w) (base := base)  c__law_cell c__law_digit c__law_is_integer c__law_keys c__law_rows c__law_same_rows c__law_sorted c__law_state c_merge_runs c_sort_rows c_sort_written c_top_rows c_top_written y_int y_len y_list y_max y_range (lt_mk E__sorted_by E_sorted_rows H__sorted_by H_sorted_rows ne__sorted_by_sorted_rows) h63 hS hr
end My
open PySem PySem.W PyProof.Rows
set_option pp.maxSteps 12
set_option pp.deepTerms false
set_option maxHeartbeats 0 in
theorem PySem.Challenge.cw_stylobate_k56_sorting_with_any_memory_holds : PySem.Challenge.rw_stylobate_k56_sorting_with_any_memory.Holds := by
  w_on; o_law; k_head; (case hw => w_witness2)
  k_fill
  refine My.walk_tab (l := PySem.Challenge.rw_stylobate_k56_sorting_with_any_memory) (n := 63) (k := 25) rfl (by decide) rfl ⟨rfl, by decide, by decide⟩ (fun w h Y => PySem.W.km_in_of Y) My.sc_law ?F
  case F =>
    intro w mg fa h Y KX G hmg
    km_tabs Y
    km_lay G hmg KX G G
    refine ⟨_, hT9, ?nt, ?mk⟩
    (case nt => exact List.forall_mem_cons.mpr ⟨by kernel_rfl, List.forall_mem_cons.mpr ⟨by kernel_rfl, (fun _ h => nomatch h)⟩⟩)
    refine' My.all_mk KX G hmg ?a0 ?l0 ?b0 ?k0 ?a1 ?l1 ?b1 ?k1 ?a2 ?l2 ?b2 ?k2 ?a3 ?l3 ?b3 ?k3 ?a4 ?l4 ?b4 ?k4 ?a5 ?l5 ?b5 ?k5 ?a6 ?l6 ?b6 ?k6 ?a7 ?l7 ?b7 ?k7 ?a8 ?l8 ?b8 ?k8 ?a9 ?l9 ?b9 ?k9 ?a10 ?l10 ?b10 ?k10 ?a11 ?l11 ?b11 ?k11 ?a12 ?l12 ?b12 ?k12 ?a13 ?l13 ?b13 ?k13 ?a14 ?l14 ?b14 ?k14 ?a15 ?l15 ?b15 ?k15 ?a16 ?l16 ?b16 ?k16 ?a17 ?l17 ?b17 ?k17 ?a18 ?l18 ?b18 ?k18 ?a19 ?l19 ?b19 ?k19 ?a20 ?l20 ?b20 ?k20 ?a21 ?l21 ?b21 ?k21 ?a22 ?l22 ?b22 ?k22 ?a23 ?l23 ?b23 ?k23 ?a24 ?l24 ?b24 ?k24 ?a25 ?l25 ?b25 ?k25 ?a26 ?l26 ?b26 ?k26 ?a27 ?l27 ?b27 ?k27 ?a28 ?l28 ?b28 ?k28 ?lc28 ?vt28 ?a29 ?l29 ?b29 ?k29 ?lc29 ?vt29 ?a30 ?l30 ?b30 ?k30 ?a31 ?l31 ?b31 ?k31 ?a32 ?l32 ?b32 ?k32 ?a33 ?l33 ?b33 ?k33 ?a34 ?l34 ?b34 ?k34 ?a35 ?l35 ?b35 ?k35 ?a36 ?l36 ?b36 ?k36 ?a37 ?l37 ?b37 ?k37 ?a38 ?l38 ?b38 ?k38 ?a39 ?l39 ?b39 ?k39 ?a40 ?l40 ?b40 ?k40 ?a41 ?l41 ?b41 ?k41 ?a42 ?l42 ?b42 ?k42 ?a43 ?l43 ?b43 ?k43 ?a44 ?l44 ?b44 ?k44 ?a45 ?l45 ?b45 ?k45 ?a46 ?l46 ?b46 ?k46 ?a47 ?l47 ?b47 ?k47 ?a48 ?l48 ?b48 ?k48 ?a49 ?l49 ?b49 ?k49 ?a50 ?l50 ?b50 ?k50 ?a51 ?l51 ?b51 ?k51 ?a52 ?l52 ?b52 ?k52 ?a53 ?l53 ?b53 ?k53 ?a54 ?l54 ?b54 ?k54 ?a55 ?l55 ?b55 ?k55 ?z_bool ?z_enumerate ?z_int ?z_isinstance ?z_len ?z_list ?z_max ?z_min ?z_range ?z_sorted ?z_str ?z_tuple ?q_GREATEST ?q_MOST ?q_OF_INTEGERS_of_one ?ka_OF_INTEGERS_of_one ?kl_OF_INTEGERS_of_one ?ko_OF_INTEGERS_of_one ?e_OF_INTEGERS_of_one_0 ?e_OF_INTEGERS_of_one_1 ?q_OF_INTEGERS_of_two ?ka_OF_INTEGERS_of_two ?kl_OF_INTEGERS_of_two ?ko_OF_INTEGERS_of_two ?e_OF_INTEGERS_of_two_0 ?e_OF_INTEGERS_of_two_1 ?q_OF_TEXTS_of_one ?ka_OF_TEXTS_of_one ?kl_OF_TEXTS_of_one ?ko_OF_TEXTS_of_one ?e_OF_TEXTS_of_one_0 ?q_OF_TEXTS_of_two ?ka_OF_TEXTS_of_two ?kl_OF_TEXTS_of_two ?ko_OF_TEXTS_of_two ?e_OF_TEXTS_of_two_0 ?q__OF_ALIKE ?ka__OF_ALIKE ?kl__OF_ALIKE ?ko__OF_ALIKE ?e__OF_ALIKE_0 ?e__OF_ALIKE_1 ?e__OF_ALIKE_2 ?e__OF_ALIKE_3 ?e__OF_ALIKE_4 ?e__OF_ALIKE_5 ?q__OF_ANY ?ka__OF_ANY ?kl__OF_ANY ?ko__OF_ANY ?e__OF_ANY_0 ?e__OF_ANY_1 ?e__OF_ANY_2 ?e__OF_ANY_3 ?e__OF_ANY_4 ?e__OF_ANY_5 ?e__OF_ANY_6 ?e__OF_ANY_7 ?e__OF_ANY_8 ?e__OF_ANY_9 ?ne__sorted_by_sorted_rows
    (case a0 => k_is); (case l0 => k_is); (case b0 => k_is); (case k0 => k_is); (case a1 => k_is); (case l1 => k_is); (case b1 => k_is); (case k1 => k_is); (case a2 => k_is); (case l2 => k_is); (case b2 => k_is); (case k2 => k_is); (case a3 => k_is); (case l3 => k_is); (case b3 => k_is); (case k3 => k_is); (case a4 => k_is); (case l4 => k_is); (case b4 => k_is); (case k4 => k_is); (case a5 => k_is); (case l5 => k_is); (case b5 => k_is); (case k5 => k_is); (case a6 => k_is); (case l6 => k_is); (case b6 => k_is); (case k6 => k_is); (case a7 => k_is); (case l7 => k_is); (case b7 => k_is); (case k7 => k_is); (case a8 => k_is); (case l8 => k_is); (case b8 => k_is); (case k8 => k_is); (case a9 => k_is); (case l9 => k_is); (case b9 => k_is); (case k9 => k_is); (case a10 => k_is); (case l10 => k_is); (case b10 => k_is); (case k10 => k_is); (case a11 => k_is); (case l11 => k_is); (case b11 => k_is); (case k11 => k_is); (case a12 => k_is); (case l12 => k_is); (case b12 => k_is); (case k12 => k_is); (case a13 => k_is); (case l13 => k_is); (case b13 => k_is); (case k13 => k_is); (case a14 => k_is); (case l14 => k_is); (case b14 => k_is); (case k14 => k_is); (case a15 => k_is); (case l15 => k_is); (case b15 => k_is); (case k15 => k_is); (case a16 => k_is); (case l16 => k_is); (case b16 => k_is); (case k16 => k_is); (case a17 => k_is); (case l17 => k_is); (case b17 => k_is); (case k17 => k_is); (case a18 => k_is); (case l18 => k_is); (case b18 => k_is); (case k18 => k_is); (case a19 => k_is); (case l19 => k_is); (case b19 => k_is); (case k19 => k_is); (case a20 => k_is); (case l20 => k_is); (case b20 => k_is); (case k20 => k_is); (case a21 => k_is); (case l21 => k_is); (case b21 => k_is); (case k21 => k_is); (case a22 => k_is); (case l22 => k_is); (case b22 => k_is); (case k22 => k_is); (case a23 => k_is); (case l23 => k_is); (case b23 => k_is); (case k23 => k_is); (case a24 => k_is); (case l24 => k_is); (case b24 => k_is); (case k24 => k_is); (case a25 => k_is); (case l25 => k_is); (case b25 => k_is); (case k25 => k_is); (case a26 => k_is); (case l26 => k_is); (case b26 => k_is); (case k26 => k_is); (case a27 => k_is); (case l27 => k_is); (case b27 => k_is); (case k27 => k_is); (case a28 => k_is); (case l28 => k_is); (case b28 => k_is); (case k28 => k_is); (case lc28 => k_is); (case vt28 => rfl); (case a29 => k_is); (case l29 => k_is); (case b29 => k_is); (case k29 => k_is); (case lc29 => k_is); (case vt29 => rfl); (case a30 => k_is); (case l30 => k_is); (case b30 => k_is); (case k30 => k_is); (case a31 => k_is); (case l31 => k_is); (case b31 => k_is); (case k31 => k_is); (case a32 => k_is); (case l32 => k_is); (case b32 => k_is); (case k32 => k_is); (case a33 => k_is); (case l33 => k_is); (case b33 => k_is); (case k33 => k_is); (case a34 => k_is); (case l34 => k_is); (case b34 => k_is); (case k34 => k_is); (case a35 => k_is); (case l35 => k_is); (case b35 => k_is); (case k35 => k_is); (case a36 => k_is); (case l36 => k_is); (case b36 => k_is); (case k36 => k_is); (case a37 => k_is); (case l37 => k_is); (case b37 => k_is); (case k37 => k_is); (case a38 => k_is); (case l38 => k_is); (case b38 => k_is); (case k38 => k_is); (case a39 => k_is); (case l39 => k_is); (case b39 => k_is); (case k39 => k_is); (case a40 => k_is); (case l40 => k_is); (case b40 => k_is); (case k40 => k_is); (case a41 => k_is); (case l41 => k_is); (case b41 => k_is); (case k41 => k_is); (case a42 => k_is); (case l42 => k_is); (case b42 => k_is); (case k42 => k_is); (case a43 => k_is); (case l43 => k_is); (case b43 => k_is); (case k43 => k_is); (case a44 => k_is); (case l44 => k_is); (case b44 => k_is); (case k44 => k_is); (case a45 => k_is); (case l45 => k_is); (case b45 => k_is); (case k45 => k_is); (case a46 => k_is); (case l46 => k_is); (case b46 => k_is); (case k46 => k_is); (case a47 => k_is); (case l47 => k_is); (case b47 => k_is); (case k47 => k_is); (case a48 => k_is); (case l48 => k_is); (case b48 => k_is); (case k48 => k_is); (case a49 => k_is); (case l49 => k_is); (case b49 => k_is); (case k49 => k_is); (case a50 => k_is); (case l50 => k_is); (case b50 => k_is); (case k50 => k_is); (case a51 => k_is); (case l51 => k_is); (case b51 => k_is); (case k51 => k_is); (case a52 => k_is); (case l52 => k_is); (case b52 => k_is); (case k52 => k_is); (case a53 => k_is); (case l53 => k_is); (case b53 => k_is); (case k53 => k_is); (case a54 => k_is); (case l54 => k_is); (case b54 => k_is); (case k54 => k_is); (case a55 => k_is); (case l55 => k_is); (case b55 => k_is); (case k55 => k_is); (case z_bool => k_is); (case z_enumerate => k_is); (case z_int => k_is); (case z_isinstance => k_is); (case z_len => k_is); (case z_list => k_is); (case z_max => k_is); (case z_min => k_is); (case z_range => k_is); (case z_sorted => k_is); (case z_str => k_is); (case z_tuple => k_is); (case q_GREATEST => k_is); (case q_MOST => k_is); (case q_OF_INTEGERS_of_one => k_is); (case ka_OF_INTEGERS_of_one => k_is); (case e_OF_INTEGERS_of_one_0 => k_is); (case e_OF_INTEGERS_of_one_1 => k_is); (case q_OF_INTEGERS_of_two => k_is); (case ka_OF_INTEGERS_of_two => k_is); (case e_OF_INTEGERS_of_two_0 => k_is); (case e_OF_INTEGERS_of_two_1 => k_is); (case q_OF_TEXTS_of_one => k_is); (case ka_OF_TEXTS_of_one => k_is); (case e_OF_TEXTS_of_one_0 => k_is); (case q_OF_TEXTS_of_two => k_is); (case ka_OF_TEXTS_of_two => k_is); (case e_OF_TEXTS_of_two_0 => k_is); (case q__OF_ALIKE => k_is); (case ka__OF_ALIKE => k_is); (case e__OF_ALIKE_0 => k_is); (case e__OF_ALIKE_1 => k_is); (case e__OF_ALIKE_2 => k_is); (case e__OF_ALIKE_3 => k_is); (case e__OF_ALIKE_4 => k_is); (case e__OF_ALIKE_5 => k_is); (case q__OF_ANY => k_is); (case ka__OF_ANY => k_is); (case e__OF_ANY_0 => k_is); (case e__OF_ANY_1 => k_is); (case e__OF_ANY_2 => k_is); (case e__OF_ANY_3 => k_is); (case e__OF_ANY_4 => k_is); (case e__OF_ANY_5 => k_is); (case e__OF_ANY_6 => k_is); (case e__OF_ANY_7 => k_is); (case e__OF_ANY_8 => k_is); (case e__OF_ANY_9 => k_is)
    (case ne__sorted_by_sorted_rows => decide)
    (case kl_OF_INTEGERS_of_one => k_keys)
    (case ko_OF_INTEGERS_of_one => decide)
    (case kl_OF_INTEGERS_of_two => k_keys)
    (case ko_OF_INTEGERS_of_two => decide)
    (case kl_OF_TEXTS_of_one => k_keys)
    (case ko_OF_TEXTS_of_one => decide)
    (case kl_OF_TEXTS_of_two => k_keys)
    (case ko_OF_TEXTS_of_two => decide)
    (case kl__OF_ALIKE => k_keys)
    (case ko__OF_ALIKE => decide)
    (case kl__OF_ANY => k_keys)
    (case ko__OF_ANY => decide)
