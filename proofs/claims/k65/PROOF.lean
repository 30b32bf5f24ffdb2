import PyProof.Rows.All
import Wide.All
import OpenK.AllK
import Wide.FinOn
import HandS.ForMost
import HandS.Codes
import HandS.Evl
import HandS.IsInst
import HandS.Wide
import HandS.Defaults
import HandS.Walk
import HandS.Flow
import HandS.TupAny
import HandS.Zip
import HandS.Property
import HandS.OwnEq
import HandS.Deep
import HandS.WideBits
import HandS.Iter
import HandS.Rev
import HandS.SortKw
import HandS.Keys
import HandS.TupLe
import HandS.Dict
import HandS.Text
import HandS.StrMore
import HandS.FStr
import HandS.Style
import HandS.More
import HandS.CallLocal
import HandS.Conv
import HandS.Flt
import KE.KEqSeq
import KE.DataEq
import KE.DataMinMax
import KE.DataMinKey
import PyProof.StrOps2
import PyProof.StrLawsFrom
import KE.RegKIsAll
import KE.SortKeyHeap
import PySem.Challenge.RW_stylobate_k65_parts_of_conditions
set_option Elab.async false
set_option linter.all false
set_option maxRecDepth 100000
set_option maxHeartbeats 4000000
namespace My
open PySem PySem.Spec PyProof.Rows L2 Evl
def Dn (K : PySem.W.Frag) (mg : Str → Option Value) (x : Str) (st : Stmt) (ps : List Str) : Prop := ∃ f fd, C8.Def K mg x st f fd ∧ Binds K fd ps []
section
variable {P : Program} {w : World} {K : PySem.W.Frag} {mg : Str → Option Value} {base : Heap}
theorem cal_of {x : Str} {st : Stmt} {N ps : List Str} {k : Nat} {sp : Sp} (D : Dn K mg x st ps) (S : FnScope N ps (C8.fnScope st)) (len : ∀ vs H Q E, sp vs H Q E → vs.length = ps.length)
    (hbody : ∀ (f : Addr) (cdv : Value) (A : Around) (outer : List Env) (s : Shared) (H : Hp) (vs : List V) (Q : VK) (E : XK), Room k (A.deeper (envOfC x (C8.fnScope st) s.heap.objs.size f cdv)) → sp vs H Q E →
      ∃ t, PSs (cxOf C8.CX0 P w K mg base N x (C8.fnScope st) f cdv A outer s H E).nox (C8.fnBody st) t ∧ t { nx := fun _ H' => Q .non H', rt := Q } (start N vs) H) : C8.Cal P w K mg base (k + 1) x sp [] := by
  obtain ⟨f, fd, F, b⟩ := D
  exact C8.cal0 F b .nil S len (hbody f)
theorem def_mk {x : Str} {st : Stmt} {f : Addr} {oc : Value} {od an : Option Addr} {osl : Array (Option Value)} {kV doc pm cdv ct : Value}
    (l : K.lookup f = some ⟨oc, od, .func (PySem.W.fnOf x x (C8.fnArgs st) (C8.fnBody st) (C8.fnScope st) .none kV doc pm an cdv ct), osl⟩)
    (c : PySem.W.codeIn K cdv x = true) (k : PySem.W.keepIn K (.ref f) = true) (m : mg x = some (.ref f)) : C8.Def K mg x st f (PySem.W.fnOf x x (C8.fnArgs st) (C8.fnBody st) (C8.fnScope st) .none kV doc pm an cdv ct) :=
  ⟨⟨oc, od, .none, kV, doc, pm, an, cdv, ct, osl, rfl, l, c⟩, m, k⟩
theorem dn_mk {x : Str} {st : Stmt} {f : Addr} {oc : Value} {od an : Option Addr} {osl : Array (Option Value)} {kV doc pm cdv ct : Value} {ps : List Str}
    (l : K.lookup f = some ⟨oc, od, .func (PySem.W.fnOf x x (C8.fnArgs st) (C8.fnBody st) (C8.fnScope st) .none kV doc pm an cdv ct), osl⟩)
    (c : PySem.W.codeIn K cdv x = true) (k : PySem.W.keepIn K (.ref f) = true) (m : mg x = some (.ref f))
    (h : ∀ (kV doc pm : Value) (an : Option Addr) (cdv ct : Value) (us : List Value), us.length = ps.length → bindArgs (PySem.W.fnOf x x (C8.fnArgs st) (C8.fnBody st) (C8.fnScope st) .none kV doc pm an cdv ct) ⟨us, []⟩ = pure (ps.zip us)) : Dn K mg x st ps :=
  ⟨f, _, def_mk l c k m, C8.Fun.binds (def_mk l c k m).fn rfl h⟩
end
def rIsT : R2 := fun x y H Q => ∃ b : Bool, y = .bl b ∧ Q (.bl (decide (x = .bl b))) H
def rNotT : R2 := fun x y H Q => ∃ b : Bool, y = .bl b ∧ Q (.bl (!decide (x = .bl b))) H
section
variable {X : Cx}
theorem rel_bl {x : V} {v : Value} {b : Bool} (rx : RelV x v) : PySem.plainIs v (.bool b) = true ∧ (v == .bool b) = decide (x = .bl b) ∨ ∃ n, v = .builtin n := by
  cases x with
  | non => cases (show v = Value.none from rx); exact .inl ⟨rfl, rfl⟩
  | bl c => cases (show v = Value.bool c from rx); exact .inl ⟨rfl, by cases b <;> cases c <;> rfl⟩
  | int i => obtain ⟨t, e⟩ := (show ∃ t, v = Value.int i t from rx); cases e; exact .inl ⟨rfl, rfl⟩
  | str i => obtain ⟨t, e⟩ := (show ∃ t, v = Value.str i t from rx); cases e; exact .inl ⟨rfl, rfl⟩
  | byt i => obtain ⟨t, e⟩ := (show ∃ t, v = Value.bytes i t from rx); cases e; exact .inl ⟨rfl, rfl⟩
  | flt i => obtain ⟨t, e⟩ := (show ∃ t, v = Value.float i t from rx); cases e; exact .inl ⟨rfl, rfl⟩
  | ref a => cases (show v = Value.ref a from rx); exact .inl ⟨rfl, rfl⟩
  | ty n => cases (show v = Value.type n from rx); exact .inl ⟨rfl, rfl⟩
theorem rel_bl' {x : V} {v : Value} {b : Bool} (rx : RelV x v) : PySem.plainIs v (.bool b) = true ∧ (v == .bool b) = decide (x = .bl b) := by
  rcases rel_bl (b := b) rx with h | ⟨n, rfl⟩
  · exact h
  · cases x <;> first | exact nomatch (rx : Value.builtin n = _) | (obtain ⟨t, e⟩ := rx; exact nomatch e)
theorem op_isTF : OpR X (compareOp .Is) rIsT := by
  intro pins s σ H x y v u Q I rx ry h
  obtain ⟨b, rfl, q⟩ := h
  cases (show u = Value.bool b from ry)
  obtain ⟨h1, h2⟩ := rel_bl' (b := b) rx
  exact wpAny_is_plain h1 ⟨.bl _, H, I, rfl, by rw [h2]; exact q⟩
end
section
variable {K : PySem.W.Frag} {σ : L2.St} {H H' : Hp} {ta tb te tx : TE} {t u : TT} {x y z v : V} {r : R2}
theorem rv_isT {b : Bool} : RV rIsT x (.bl b) H (.bl (decide (x = .bl b))) := fun H1 _ _ q => ⟨b, rfl, q H1 (Ex.refl H1)⟩
theorem rv_notT {b : Bool} : RV rNotT x (.bl b) H (.bl (!decide (x = .bl b))) := fun H1 _ _ q => ⟨b, rfl, q H1 (Ex.refl H1)⟩
theorem rv_isN : RV (fun x y H Q => y = .non ∧ Q (.bl (decide (x = .non))) H) x .non H (.bl (decide (x = .non))) := fun H1 _ _ q => ⟨rfl, q H1 (Ex.refl H1)⟩
theorem rv_notN : RV (fun x y H Q => y = .non ∧ Q (.bl (!decide (x = .non))) H) x .non H (.bl (!decide (x = .non))) := fun H1 _ _ q => ⟨rfl, q H1 (Ex.refl H1)⟩
theorem ev_int {i : Int} (h : Ev ta σ H (.int i)) : Ev (tCB (fun xs H Q => (∃ i, xs = [.int i] ∧ Q (.int i) H) ∨ ∃ k, xs = [.bl k] ∧ Q (.int (if k then 1 else 0)) H) (tCons ta tNil)) σ H (.int i) :=
  fun H1 e Q q => h H1 e _ fun H2 e2 => .inl ⟨i, rfl, q H2 e2⟩
theorem ev_intB {b : Bool} (h : Ev ta σ H (.bl b)) : Ev (tCB (fun xs H Q => (∃ i, xs = [.int i] ∧ Q (.int i) H) ∨ ∃ k, xs = [.bl k] ∧ Q (.int (if k then 1 else 0)) H) (tCons ta tNil)) σ H (.int (if b then 1 else 0)) :=
  fun H1 e Q q => h H1 e _ fun H2 e2 => .inr ⟨b, rfl, q H2 e2⟩
theorem ev_abs {i : Int} (h : Ev ta σ H (.int i)) : Ev (tCB (fun xs H Q => ∃ i, xs = [.int i] ∧ Q (.int (if i < 0 then -i else i)) H) (tCons ta tNil)) σ H (.int (if i < 0 then -i else i)) :=
  fun H1 e Q q => h H1 e _ fun H2 e2 => ⟨i, rfl, q H2 e2⟩
theorem ev_min2 {i j : Int} (ha : Ev ta σ H (.int i)) (hb : Ev tb σ H (.int j)) : Ev (tCB (fun xs H Q => ∃ i j, xs = [.int i, .int j] ∧ Q (.int (if j < i then j else i)) H) (tCons ta (tCons tb tNil))) σ H (.int (if j < i then j else i)) := fun H1 e Q q =>
  ha H1 e _ fun H2 e2 => hb H2 (e.trans e2) _ fun H3 e3 => ⟨i, j, rfl, q H3 (e2.trans e3)⟩
theorem ev_lenS {s : Str} (h : Ev ta σ H (.str s)) (hz : s.length ≤ 100000) : Ev (tCB (fun xs H Q => ∃ z, xs = [.str z] ∧ z.length ≤ sizeLine ∧ Q (.int z.length) H) (tCons ta tNil)) σ H (.int s.length) :=
  fun H1 e Q q => h H1 e _ fun H2 e2 => ⟨s, rfl, sz_of hz, q H2 e2⟩
theorem ev_isi {T : String} {tn : String} {b : Bool} (ha : Ev ta σ H x) (ht : ∀ H1, TyX K H1 x (.type tn)) (hk : kitB tn T = some b) : Ev (tCB (rIsi K) (tCons ta (tCons (tC (.ty T)) tNil))) σ H (.bl b) :=
  fun H1 e Q q => ha H1 e _ fun H2 e2 => ⟨x, .ty T, .type tn, .type T, b, rfl, .ty T, ht H2, kit_ty hk, q H2 e2⟩
theorem tx_bl (i : Bool) (H1 : Hp) : TyX K H1 (.bl i) (.type "bool") := .base (.bl i)
end
local macro_rules | `(tactic| walk_at "side") => `(tactic| first
  | exact .inr ⟨by decide, by decide⟩
  | exact .inl ⟨by decide, by decide⟩
  | exact .inl ⟨by omega, by omega⟩
  | exact .inr ⟨by omega, by omega⟩
  | exact ⟨by decide, by decide⟩
  | exact ⟨by omega, by omega⟩
  | decide
  | (show (_ : Int) < _; omega)
  | omega)
local macro_rules | `(tactic| walk_at "rv") => `(tactic| first
  | exact rv_I0
  | ((refine' rv_I ?k1); (case k1 => walk_at "side"))
  | exact rv_isT
  | exact rv_notT
  | exact rv_isN
  | exact rv_notN
  | exact rv_eq rfl
  | exact rv_ne rfl)
local macro_rules | `(tactic| walk_at "sq") => `(tactic| first | assumption | exact ex_l (by assumption) (by assumption) | exact sq_of (by assumption))
/-- what a part gives, read off its form -/
local macro_rules | `(tactic| walk_at "ev") => `(tactic| first
  | exact ev_var rfl
  | exact ev_c
  | ((with_reducible refine' ev_op ?k1 ?k2 ?k3); (case k1 => walk_at "ev"); (case k2 => walk_at "ev"); (case k3 => walk_at "rv"))
  | ((with_reducible refine' ev_un ?k1 ?k2); (case k1 => walk_at "ev"); (case k2 => exact ru_neg))
  | ((with_reducible refine' ev_int ?k1); (case k1 => walk_at "ev"))
  | ((with_reducible refine' ev_abs ?k1); (case k1 => walk_at "ev"))
  | ((with_reducible refine' ev_andV ?k1 ?k2); (case k1 => walk_at "ev"); (case k2 => intro _; walk_at "ev"))
  | ((with_reducible refine' ev_orV ?k1 ?k2); (case k1 => walk_at "ev"); (case k2 => intro _; walk_at "ev"))
  | ((with_reducible refine' ev_notV ?k1); (case k1 => walk_at "ev"))
  | ((refine' ev_len ?k1 ?k2); (case k1 => walk_at "ev"); (case k2 => walk_at "sq")))
local macro_rules | `(tactic| walk_at "et") => `(tactic| first
  | ((with_reducible refine' et_or ?k1 ?k2); (case k1 => walk_at "et"); (case k2 => intro _; walk_at "et"))
  | ((with_reducible refine' et_and ?k1 ?k2); (case k1 => walk_at "et"); (case k2 => intro _; walk_at "et"))
  | ((with_reducible refine' et_not ?k1); (case k1 => walk_at "et"))
  | (refine' et_test ?k1; (case k1 => walk_at "ev"))
  | (refine' et_B ?k1; (case k1 => walk_at "ev")))
def SpU (sp : Sp) (vs : List V) (H : Hp) (xs : List V) : Prop := ∀ H1, Ex H H1 → ∀ Q : VK, (∀ p H2, H1 p = none → Ex H1 H2 → H2 p = some (.tup xs) → Q (.ref p) H2) → ∀ E : XK, sp vs H1 Q E
section
variable {K : PySem.W.Frag} {σ : L2.St} {H H' : Hp} {ta tb te : TE} {x y z v : V}
theorem eu_call {sp : Sp} {dvs vs xs : List V} {E : XK} {ta : TA} (h : EvA ta σ H vs) (hs : SpU sp (vs ++ dvs) H xs) : EvU (tCall sp dvs E ta) σ H xs := fun H1 e Q q =>
  h H1 e _ fun H2 e2 => hs H2 (e.trans e2) Q (fun p H3 hp e3 h3 => q p H3 (fresh_back e2 hp) (e2.trans e3) h3) E
theorem ev_isi' {T : String} {tn : String} {b : Bool} (ha : Ev ta σ H x) (ht : ∀ H1, Ex H H1 → TyX K H1 x (.type tn)) (hk : kitB tn T = some b) : Ev (tCB (rIsi K) (tCons ta (tCons (tC (.ty T)) tNil))) σ H (.bl b) :=
  fun H1 e Q q => ha H1 e _ fun H2 e2 => ⟨x, .ty T, .type tn, .type T, b, rfl, .ty T, ht H2 (e.trans e2), kit_ty hk, q H2 e2⟩
theorem ev_chain {r r' : R2} {tc : TE} {b c : Bool} (ha : Ev ta σ H x) (hb : Ev tb σ H y) (hr : RV r x y H (.bl b)) (hc : b = true → Ev tc σ H z) (hr' : b = true → RV r' y z H (.bl c)) : Ev (tChain r r' ta tb tc) σ H (.bl (b && c)) := fun H1 e Q q =>
  ha H1 e _ fun H2 e2 => hb H2 (e.trans e2) _ fun H3 e3 => hr H3 ((e.trans e2).trans e3) _ fun H4 e4 => ⟨b, rfl, by
    cases b with
    | true =>
      show tc σ H4 fun w' H5 => r' y w' H5 Q
      exact hc rfl H4 (((e.trans e2).trans e3).trans e4) _ fun H5 e5 => hr' rfl H5 ((((e.trans e2).trans e3).trans e4).trans e5) Q fun H6 e6 => q H6 ((((e2.trans e3).trans e4).trans e5).trans e6)
    | false =>
      show Q (.bl false) H4
      exact q H4 ((e2.trans e3).trans e4)⟩
/-- a, b = (..): a new tuple unpacked into names -/
theorem gt2 {p : Addr} {i j : Nat} (h : SqT K H p [x, y]) {Q : L2.St → Hp → Prop} (k : Q ((σ.set i (some x)).set j (some y)) H) : gTup K 2 (gCons (gName i) (gCons (gName j) gNil)) (.ref p) σ H Q :=
  ⟨p, [x, y], rfl, h, rfl, x, [y], rfl, y, [], rfl, rfl, k⟩
end
theorem hu64 {A : Around} {k : Nat} (hr : Room k A) : A.units + 64 < cLine := by
  have := hr.un
  omega
section
variable {K : PySem.W.Frag} {σ : L2.St} {H : Hp} {te : TE} {D : Ends} {tz : TS} {g : TG} {xs : List V}
theorem q_asgV {v : V} (h : Ev te σ H v) (k : ∀ H1, Ex H H1 → g v σ H1 (tz D)) : tSeq (tAsg te g) tz D σ H := h H (Ex.refl H) _ fun H1 e => k H1 e
end
inductive Pl : V → Prop where
  | non : Pl .non
  | bl (b : Bool) : Pl (.bl b)
  | int (i : Int) : Pl (.int i)
  | str (s : Str) : Pl (.str s)
def tyN : V → String
  | .bl _ => "bool"
  | .int _ => "int"
  | .str _ => "str"
  | _ => "NoneType"
def isInt : V → Bool
  | .int _ => true
  | _ => false
theorem tx_pl {K : PySem.W.Frag} {x : V} (h : Pl x) (H1 : Hp) : TyX K H1 x (.type (tyN x)) := by
  cases h with
  | non => exact .base .non
  | bl b => exact .base (.bl b)
  | int i => exact .base (.int i)
  | str s => exact .base (.str s)
theorem ev_isiP {K : PySem.W.Frag} {σ : L2.St} {H : Hp} {ta : TE} {x : V} {T : String} {b : Bool} (ha : Ev ta σ H x) (hx : Pl x) (hk : kitB (tyN x) T = some b) : Ev (tCB (rIsi K) (tCons ta (tCons (tC (.ty T)) tNil))) σ H (.bl b) :=
  ev_isi ha (tx_pl hx) hk
/-- isinstance(x, int) and not isinstance(x, bool) -/
theorem ev_isInt {K : PySem.W.Frag} {σ : L2.St} {H : Hp} {ta tb : TE} {x : V} (ha : Ev ta σ H x) (hb : Ev tb σ H x) (hx : Pl x) :
    Ev (tAndV (tCB (rIsi K) (tCons ta (tCons (tC (.ty "int")) tNil))) (tNotV (tCB (rIsi K) (tCons tb (tCons (tC (.ty "bool")) tNil))))) σ H (.bl (isInt x)) := by
  cases hx with
  | non => exact ev_is (ev_andV (ev_isiP (b := false) ha .non (by decide +kernel)) fun z => nomatch z) (show V.bl (false && true) = _ from rfl)
  | bl b => exact ev_is (ev_andV (ev_isiP (b := true) ha (.bl b) (by show kitB "bool" "int" = some true; decide +kernel)) fun _ => ev_notV (ev_isiP (b := true) hb (.bl b) (by show kitB "bool" "bool" = some true; decide +kernel))) rfl
  | int i => exact ev_is (ev_andV (ev_isiP (b := true) ha (.int i) (by show kitB "int" "int" = some true; decide +kernel)) fun _ => ev_notV (ev_isiP (b := false) hb (.int i) (by show kitB "int" "bool" = some false; decide +kernel))) rfl
  | str s => exact ev_is (ev_andV (ev_isiP (b := false) ha (.str s) (by show kitB "str" "int" = some false; decide +kernel)) fun z => nomatch z) (show V.bl (false && true) = _ from rfl)
section
open PySem.SeqAt PySem.MeetsSeq PySem.MeetsSeq2 PySem.MeetsSeq3
open PySem.AutoSeq1 (wpAny_loadPart')
/-- pairs walked from the left: the first that differ decide; z where none do -/
inductive Lx (A : Around) (s : Shared) (z : Bool) : List (Value × Value) → Bool → Prop
  | nil : Lx A s z [] z
  | eq {y x : Value} {ps : List (Value × Value)} {c : Bool} : EqAt A s y x true → Lx A s z ps c → Lx A s z ((y, x) :: ps) c
  | lt {y x : Value} {ps : List (Value × Value)} {c : Bool} : EqAt A s y x false → Ob.RcOp .Lt A s y x c → Lx A s z ((y, x) :: ps) c
theorem lt_meets (l b : Addr) (us vs : Array Value) (n m : Nat) (dl db : Option Addr) (sl sb : Array (Option Value)) :
    Meets (Builtin.«tuple.__lt__» ⟨[.ref l, .ref b], []⟩)
      (fun A R s => s.heap.get? l = some { cls := .type "tuple", dict := dl, data := .seq us n, slots := sl } ∧ s.heap.get? b = some { cls := .type "tuple", dict := db, data := .seq vs m, slots := sb } ∧
        ∃ c, Lx A.in1 s (decide (us.size < vs.size)) (us.toList.zip vs.toList) c ∧ R (.ok (.ret (.bool c))) s) := by
  refine .of_wp fun prog w A R s h => ?_
  obtain ⟨hp, g, d, tk, os⟩ := s
  obtain ⟨hl, hb, c, hx, h⟩ := h
  have f2 := AutoSeq1.sub_tuple_tuple
  wp_walk using wpAny_loadPart' hl, wpAny_loadPart' hb, wpAny_forIn_list _ (fun ps b s' => b.1 = none ∧ s' = ⟨hp, g, d, tk, os⟩ ∧ ∃ c, Lx A.in1 ⟨hp, g, d, tk, os⟩ (decide (us.size < vs.size)) ps c ∧ R (.ok (.ret (.bool c))) ⟨hp, g, d, tk, os⟩) _
  case turn =>
    rintro ⟨y, x⟩ ps b s' ⟨hb', rfl, c, hz, hR⟩
    cases hz with
    | eq he ht =>
      refine wpAny_bind (he prog w _ _ ?_)
      wp_walk
      exact ⟨rfl, rfl, c, ht, hR⟩
    | lt he hr =>
      refine wpAny_bind (he prog w _ _ ?_)
      have hri := hr prog w
      wp_walk using hri
      exact ⟨_, rfl, hR⟩
  case fin =>
    rintro ⟨b1, b2⟩ s' ⟨hb', rfl, c, hz, hR⟩
    simp only at hb'
    subst hb'
    cases hz
    wp_walk
    exact ⟨_, rfl, by simpa [Builtin.Tuple.tupleCompareSizes] using hR⟩
  case h => exact ⟨rfl, rfl, c, hx, h⟩
theorem lt_tuples {A : Around} {s : Shared} {l b : Addr} {us vs : Array Value} {c : Bool} (hl : s.heap.IsTuple l us) (hb : s.heap.IsTuple b vs) (hu : A.units < cLine) (hx : Lx A.in1 s (decide (us.size < vs.size)) (us.toList.zip vs.toList) c) :
    Ob.RcOp .Lt A s (.ref l) (.ref b) c := by
  intro prog w E Q h
  obtain ⟨⟨k1, dl, da, sl⟩, ho, hc, n, hd⟩ := hl
  obtain ⟨⟨k2, db, da2, sb⟩, ho2, hc2, m, hd2⟩ := hb
  simp only at hc hd hc2 hd2
  subst hc hd hc2 hd2
  exact richCompare_meets_room (op := .Lt) ⟨_, ho, rfl⟩ ⟨_, ho2, rfl⟩ F.slot_tuple_lt F.entry_tuple_lt (F.args_tuple_lt_2 _ _) (lt_meets l b us vs n m dl db sl sb) ⟨ho, ho2, c, hx, ⟨(fun z => nomatch z), h⟩⟩ hu
end
mutual
/-- less, of data -/
def ltD : PyData → PyData → Bool
  | .int a, .int b => decide (a < b)
  | .str x, .str y => decide (x.cps.toList < y.cps.toList)
  | .tuple xs, .tuple ys => ltDs xs ys
  | _, _ => false
def ltDs : List PyData → List PyData → Bool
  | [], [] => false
  | [], _ :: _ => true
  | _ :: _, [] => false
  | x :: xs, y :: ys => if PyData.eqv x y then ltDs xs ys else ltD x y
end
mutual
/-- may be compared by less -/
def ordD : PyData → PyData → Bool
  | .int _, .int _ => true
  | .str _, .str _ => true
  | .tuple xs, .tuple ys => ordDs xs ys
  | _, _ => false
def ordDs : List PyData → List PyData → Bool
  | [], _ => true
  | _ :: _, [] => true
  | x :: xs, y :: ys => if PyData.eqv x y then ordDs xs ys else ordD x y
end
theorem reads_len {h : Heap} : ∀ {ds : List PyData} {us : List Value} {as : List Addr}, ReadsAll h us ds as → us.length = ds.length
  | [], _, _, r => by cases r; rfl
  | _ :: ds, _, _, r => by
    cases r with
    | cons r1 r2 => exact congrArg (· + 1) (reads_len r2)
theorem lt_list {n : Nat} (IH : ∀ (d e : PyData) (A : Around) (s : Shared) (u v : Value) (as bs : List Addr), d.depth ≤ n → Reads s.heap u d as → Reads s.heap v e bs → d.canLay0 = true → e.canLay0 = true → ordD d e = true →
    A.units + d.depth < cLine → Ob.RcOp .Lt A s u v (ltD d e)) (A : Around) (s : Shared) : ∀ (xs ys : List PyData) (us vs : List Value) (as bs : List Addr), PyData.depthAll xs ≤ n → ReadsAll s.heap us xs as → ReadsAll s.heap vs ys bs →
    PyData.canLayAll0 xs = true → PyData.canLayAll0 ys = true → ordDs xs ys = true → A.units + PyData.depthAll xs < cLine → Lx A s (decide (xs.length < ys.length)) (us.zip vs) (ltDs xs ys) := by
  intro xs
  induction xs with
  | nil =>
    intro ys us vs as bs hn r1 r2 c1 c2 ho hu
    cases r1
    cases ys with
    | nil => exact .nil
    | cons y ys =>
      rw [show decide (([] : List PyData).length < (y :: ys).length) = true from decide_eq_true (Nat.zero_lt_succ _)]
      show Lx A s true [] true
      exact .nil
  | cons x xs ih =>
    intro ys us vs as bs hn r1 r2 c1 c2 ho hu
    cases ys with
    | nil =>
      cases r2
      rw [show decide ((x :: xs).length < ([] : List PyData).length) = false from decide_eq_false (Nat.not_lt_zero _), List.zip_nil_right]
      exact .nil
    | cons y ys =>
      have a1 : x.canLay0 = true ∧ PyData.canLayAll0 xs = true := by simpa [PyData.canLayAll0] using c1
      have a2 : y.canLay0 = true ∧ PyData.canLayAll0 ys = true := by simpa [PyData.canLayAll0] using c2
      have hd : A.units + max x.depth (PyData.depthAll xs) < cLine := hu
      have hn' : max x.depth (PyData.depthAll xs) ≤ n := hn
      rw [show decide ((x :: xs).length < (y :: ys).length) = decide (xs.length < ys.length) by simp]
      cases r1 with
      | cons p1 q1 =>
        cases r2 with
        | cons p2 q2 =>
          have he := PySem.SeqAt.eqAt_reads x y A s _ _ _ _ p1 p2 a1.1 a2.1 (by omega)
          by_cases c : PyData.eqv x y = true
          · have o : ordDs xs ys = true := by rw [ordDs, if_pos c] at ho; exact ho
            rw [show ltDs (x :: xs) (y :: ys) = ltDs xs ys by rw [ltDs, if_pos c]]
            rw [c] at he
            exact .eq he (ih ys _ _ _ _ (by omega) q1 q2 a1.2 a2.2 o (by omega))
          · have o : ordD x y = true := by rw [ordDs, if_neg c] at ho; exact ho
            rw [show ltDs (x :: xs) (y :: ys) = ltD x y by rw [ltDs, if_neg c]]
            rw [Bool.not_eq_true] at c
            rw [c] at he
            exact .lt he (IH x y A s _ _ _ _ (by omega) p1 p2 a1.1 a2.1 o (by omega))
theorem lt_reads : ∀ (n : Nat) (d e : PyData) (A : Around) (s : Shared) (u v : Value) (as bs : List Addr), d.depth ≤ n → Reads s.heap u d as → Reads s.heap v e bs → d.canLay0 = true → e.canLay0 = true → ordD d e = true →
    A.units + d.depth < cLine → Ob.RcOp .Lt A s u v (ltD d e) := by
  intro n
  induction n with
  | zero =>
    intro d e A s u v as bs hn r1 r2 c1 c2 ho hu
    cases r1 with
    | int a t =>
      cases r2 with
      | int b t' => rw [ltD]; exact Ob.RcOp.lt_int _ _ _ _
      | _ => simp [ordD] at ho
    | str a t =>
      cases r2 with
      | str b t' => rw [ltD]; exact fun prog w E Q h => lt_str h
      | _ => simp [ordD] at ho
    | tuple => simp [PyData.depth] at hn
    | _ => simp [ordD] at ho
  | succ n ih =>
    intro d e A s u v as bs hn r1 r2 c1 c2 ho hu
    cases r1 with
    | int a t =>
      cases r2 with
      | int b t' => rw [ltD]; exact Ob.RcOp.lt_int _ _ _ _
      | _ => simp [ordD] at ho
    | str a t =>
      cases r2 with
      | str b t' => rw [ltD]; exact fun prog w E Q h => lt_str h
      | _ => simp [ordD] at ho
    | tuple h1 h2 h3 h4 =>
      cases r2 with
      | tuple k1 k2 k3 k4 =>
        rename_i xs _ _ _ _ _ ys
        simp only [PyData.depth] at hn hu
        have l1 := reads_len h4
        have l2 := reads_len k4
        rw [ltD]
        refine lt_tuples ⟨_, h1, h2, _, h3⟩ ⟨_, k1, k2, _, k3⟩ (by omega) ?_
        rw [← Array.length_toList, ← Array.length_toList, l1, l2]
        exact lt_list ih A.in1 s _ _ _ _ _ _ (by omega) h4 k4 (by simpa [PyData.canLay0] using c1) (by simpa [PyData.canLay0] using c2) (by simpa [ordD] using ho) (by show A.units + 1 + _ < _; omega)
      | _ => simp [ordD] at ho
    | _ => simp [ordD] at ho
def rLtD (K : PySem.W.Frag) : R2 := fun x y H Q => ∃ d e, Dp K H x d ∧ Dp K H y e ∧ d.canLay0 = true ∧ e.canLay0 = true ∧ ordD d e = true ∧ d.depth ≤ 60 ∧ Q (.bl (ltD d e)) H
theorem op_ltD {X : Cx} (hu : X.A.units + 64 < cLine) : OpR X (compareOp .Lt) (rLtD X.K) := by
  intro pins s σ H x y v u Q I rx ry h
  obtain ⟨d, e, hd, he, c1, c2, o, dp, q⟩ := h
  obtain ⟨as, r1⟩ := Dp.reads I d x v hd rx
  obtain ⟨bs, r2⟩ := Dp.reads I e y u he ry
  exact lt_reads _ d e X.A s v u as bs (Nat.le_refl _) r1 r2 c1 c2 o (by omega) X.prog X.w _ _ ⟨.bl _, H, I, rfl, q⟩
section
variable {K : PySem.W.Frag}
mutual
theorem ex_dp {H H' : Hp} (e : Ex H H') : ∀ {v : V} {d : PyData}, Dp K H v d → Dp K H' v d
  | _, _, .non => .non
  | _, _, .bl b => .bl b
  | _, _, .int i => .int i
  | _, _, .str x => .str x
  | _, _, .lst h a => .lst (ex_l e h) (ex_dps e a)
  | _, _, .tup h a => .tup (ex_t e h) (ex_dps e a)
theorem ex_dps {H H' : Hp} (e : Ex H H') : ∀ {vs : List V} {ds : List PyData}, DpAll K H vs ds → DpAll K H' vs ds
  | _, _, .nil => .nil
  | _, _, .cons h t => .cons (ex_dp e h) (ex_dps e t)
end
def EvD (K : PySem.W.Frag) (te : TE) (σ : L2.St) (H : Hp) (d : PyData) : Prop := ∀ H1, Ex H H1 → ∀ Q : VK, (∀ v H2, Ex H1 H2 → Dp K H2 v d → Q v H2) → te σ H1 Q
/-- a new list, a new tuple of data -/
def EvLD (K : PySem.W.Frag) (te : TE) (σ : L2.St) (H : Hp) (ds : List PyData) : Prop := ∀ H1, Ex H H1 → ∀ Q : VK, (∀ p H2 ys, H1 p = none → Ex H1 H2 → H2 p = some (.lst ys) → DpAll K H2 ys ds → Q (.ref p) H2) → te σ H1 Q
def EvUD (K : PySem.W.Frag) (te : TE) (σ : L2.St) (H : Hp) (ds : List PyData) : Prop := ∀ H1, Ex H H1 → ∀ Q : VK, (∀ p H2 ys, H1 p = none → Ex H1 H2 → H2 p = some (.tup ys) → DpAll K H2 ys ds → Q (.ref p) H2) → te σ H1 Q
def EvAD (K : PySem.W.Frag) (ta : TA) (σ : L2.St) (H : Hp) (ds : List PyData) : Prop := ∀ H1, Ex H H1 → ∀ Q : List V → Hp → Prop, (∀ vs H2, Ex H1 H2 → DpAll K H2 vs ds → Q vs H2) → ta σ H1 Q
variable {σ : L2.St} {H H' : Hp} {ta tb te : TE} {tr : TA} {x y z v : V} {d e : PyData} {ds es : List PyData}
theorem ed_val (h : Ev te σ H v) (hd : Dp K H v d) : EvD K te σ H d := fun H1 e Q q => h H1 e _ fun H2 e2 => q v H2 e2 (ex_dp (e.trans e2) hd)
theorem ed_tupU (h : EvUD K te σ H ds) : EvD K te σ H (.tuple ds) := fun H1 e Q q => h H1 e _ fun p H2 ys _ e2 h2 hd => q _ H2 e2 (.tup (st_of h2) hd)
theorem ad_nil : EvAD K tNil σ H [] := fun H1 _ _ q => q [] H1 (Ex.refl H1) .nil
theorem ad_cons (h : EvD K te σ H d) (hr : EvAD K tr σ H ds) : EvAD K (tCons te tr) σ H (d :: ds) := fun H1 e Q q =>
  h H1 e _ fun v H2 e2 hd => hr H2 (e.trans e2) _ fun vs H3 e3 hds => q (v :: vs) H3 (e2.trans e3) (.cons (ex_dp e3 hd) hds)
theorem dps_len : ∀ {vs : List V} {ds : List PyData} {H : Hp}, DpAll K H vs ds → vs.length = ds.length
  | _, _, _, .nil => rfl
  | _, _, _, .cons _ t => congrArg (· + 1) (dps_len t)
theorem ud_tup (h : EvAD K tr σ H ds) (hl : ds.length ≤ 100000) : EvUD K (tTup tr) σ H ds := fun H1 e Q q =>
  h H1 e _ fun vs H2 e2 hd => ⟨sz_of (by rw [dps_len hd]; exact hl), fun p hp => q p _ vs (fresh_back e2 hp) (e2.trans (Ex.new hp)) upd_same (ex_dps (Ex.new hp) hd)⟩
/-- == , != , < of data -/
theorem ev_eqD (ha : EvD K ta σ H d) (hb : EvD K tb σ H e) (s1 : SeqAt.shaped d = true) (s2 : SeqAt.shaped e = true) : Ev (tOp (rEqD K) ta tb) σ H (.bl (PyData.eqv d e)) := fun H1 ex Q q =>
  ha H1 ex _ fun x H2 e2 h2 => hb H2 (ex.trans e2) _ fun y H3 e3 h3 => ⟨d, e, ex_dp e3 h2, h3, s1, s2, q H3 (e2.trans e3)⟩
theorem ev_ltD (ha : EvD K ta σ H d) (hb : EvD K tb σ H e) (s1 : SeqAt.shaped d = true) (s2 : SeqAt.shaped e = true) (o : ordD d e = true) (dp : d.depth ≤ 60) : Ev (tOp (rLtD K) ta tb) σ H (.bl (ltD d e)) := fun H1 ex Q q =>
  ha H1 ex _ fun x H2 e2 h2 => hb H2 (ex.trans e2) _ fun y H3 e3 h3 => ⟨d, e, ex_dp e3 h2, h3, SeqAt.canLay_of_shaped s1, SeqAt.canLay_of_shaped s2, o, dp, q H3 (e2.trans e3)⟩
mutual
/-- no list within -/
def noL : PyData → Bool
  | .list _ => false
  | .tuple xs => noLs xs
  | .dict _ => false
  | .none | .bool _ | .int _ | .str _ => true
def noLs : List PyData → Bool
  | [] => true
  | x :: xs => noL x && noLs xs
end
mutual
theorem dp_upd {H : Hp} {D : Addr} {ys zs : List V} (hD : H D = some (.lst ys)) : ∀ {v : V} {d : PyData}, noL d = true → Dp K H v d → Dp K (upd H D (.lst zs)) v d
  | _, _, _, .non => .non
  | _, _, _, .bl b => .bl b
  | _, _, _, .int i => .int i
  | _, _, _, .str x => .str x
  | _, _, n, .lst h a => by simp [noL] at n
  | _, _, n, .tup h a => by
    refine .tup ?_ (dps_upd hD (by simpa [noL] using n) a)
    rcases h with (h | ⟨o, h⟩) | h
    · exact .inl (.inl (by rw [upd_ne (by intro z; rw [z, hD] at h; cases h)]; exact h))
    · exact .inl (.inr ⟨o, by rw [upd_ne (by intro z; rw [z, hD] at h; cases h)]; exact h⟩)
    · exact .inr h
theorem dps_upd {H : Hp} {D : Addr} {ys zs : List V} (hD : H D = some (.lst ys)) : ∀ {vs : List V} {ds : List PyData}, noLs ds = true → DpAll K H vs ds → DpAll K (upd H D (.lst zs)) vs ds
  | _, _, _, .nil => .nil
  | _, _, n, .cons h t => by
    have n' : (noL _ && noLs _) = true := n
    rw [Bool.and_eq_true] at n'
    exact .cons (dp_upd hD n'.1 h) (dps_upd hD n'.2 t)
end
/-- [f(x) for x in xs] -/
theorem dps_snoc : ∀ {vs : List V} {ds : List PyData} {H : Hp} {v : V} {d : PyData}, DpAll K H vs ds → Dp K H v d → DpAll K H (vs ++ [v]) (ds ++ [d])
  | _, _, _, _, _, .nil, h => .cons h .nil
  | _, _, _, _, _, .cons a t, h => .cons a (dps_snoc t h)
end
def tCallH (P : Program) (w : World) (K : PySem.W.Frag) (mg : Str → Option Value) (base : Heap) (i k : Nat) (t : TA) : TE := fun σ H Q => ∃ f sp, σ[i]? = some (some (.ref f)) ∧ L2.Held P w K mg base k f sp ∧ t σ H fun vs H1 => sp vs H1 Q (fun _ _ _ => False)
theorem pe_callH {X : Cx} {x : Str} {p pos : Pos} {e : Expr} {es : List Expr} {t : TA} {i k : Nat} (hr : Room k X.A) (hN : X.N[i]? = some x) (hv : Vis X.env.scope x) (ha : PA X (e :: es) t)
    (hdb : (x == ("__debug__" : Str)) = false := by decide) (hcd : (x == ("__classdict__" : Str)) = false := by decide)
    (he : starEach (e :: es) X.env = (false, eval e X.env) :: starEach es X.env := by rfl) (hpl : (backTo pos (starEach es X.env)).any (·.1) = false := by rfl) : PE X (.Call (.Name x p) (e :: es) [] pos) (tCallH X.prog X.w X.K X.mg X.base i k t) := by
  refine ⟨fun pins s σ H Q I h => ?_⟩
  obtain ⟨f, sp, hs, hH, ht⟩ := h
  refine (L2.pe_callA (S := fun g => if g = f then some sp else none) (fun g sq z => ?_) hr hN hv ha hdb hcd he hpl).run pins s σ H Q I ⟨f, sp, hs, if_pos rfl, ht⟩
  by_cases e : g = f
  · rw [if_pos e] at z
    cases z
    rw [e]
    exact hH
  · rw [if_neg e] at z
    cases z
theorem held_of {P : Program} {w : World} {K : PySem.W.Frag} {mg : Str → Option Value} {base : Heap} {j k : Nat} {x : Str} {sp : Sp} {f : Addr} (c : C8.Cal P w K mg base j x sp []) (m : mg x = some (.ref f)) (h : j ≤ k) : L2.Held P w K mg base k f sp := by
  obtain ⟨f', fd, ps, ds, F, hm, kp, b, v⟩ := c.ex
  rw [m] at hm
  cases hm
  cases v
  exact ⟨fd, ps, F.mono h, kp, b⟩
/-- a def of two values that gives a value -/
def spBin (pre : V → V → Prop) (op : V → V → V) : Sp := fun vs H Q _ => ∃ x y : V, vs = [x, y] ∧ pre x y ∧ ∀ H', Ex H H' → Q (op x y) H'
theorem ec_held {P : Program} {w : World} {K : PySem.W.Frag} {mg : Str → Option Value} {base : Heap} {i k : Nat} {σ : L2.St} {H : Hp} {ta tb : TE} {f : Addr} {pre : V → V → Prop} {op : V → V → V} {x y : V} (hσ : σ[i]? = some (some (.ref f))) (h : L2.Held P w K mg base k f (spBin pre op)) (hp : pre x y) (ha : Ev ta σ H x) (hb : Ev tb σ H y) :
    Ev (tCallH P w K mg base i k (tCons ta (tCons tb tNil))) σ H (op x y) := fun H1 e Q q => ⟨f, _, hσ, h, ha H1 e _ fun H2 e2 => hb H2 (e.trans e2) _ fun H3 e3 => ⟨x, y, rfl, hp, fun H' e' => q H' ((e2.trans e3).trans e')⟩⟩
theorem app_len (x y : Str) : (x ++ y).length = x.length + y.length := PySem.strLen_append x y
theorem textFrom_le : ∀ (ts : List Str) (k : Nat) (acc : Str), (textFrom k acc ts).length ≤ acc.length + (ts.map fun t => t.length + 2).sum
  | [], k, acc => Nat.le_refl _
  | t :: r, k, acc => by
    rw [textFrom]
    refine Nat.le_trans (textFrom_le r _ _) ?_
    rw [List.map_cons, List.sum_cons]
    split
    · rw [app_len, app_len, show (", " : Str).length = 2 from rfl]; omega
    · rw [app_len, app_len, show (Str.ofString "").length = 0 from rfl]; omega
theorem listText_le (ts : List Str) : (listText ts).length ≤ 2 + (ts.map fun t => t.length + 2).sum := by
  unfold listText
  rw [app_len]
  have := textFrom_le ts 0 "["
  rw [show ("[" : Str).length = 1 from rfl] at this
  rw [show ("]" : Str).length = 1 from rfl]
  omega
theorem join_le : ∀ ts : List Str, (Str.join ", " ts).length ≤ (ts.map fun t => t.length + 2).sum
  | [] => Nat.zero_le _
  | [x] => by show x.length ≤ _; rw [List.map_cons, List.sum_cons]; omega
  | x :: y :: r => by
    have ih := join_le (y :: r)
    have e : Str.join ", " (x :: y :: r) = x ++ ", " ++ Str.join ", " (y :: r) := rfl
    rw [e, app_len, app_len, List.map_cons, List.sum_cons, show (", " : Str).length = 2 from rfl]
    omega
theorem tupleText_le (ts : List Str) : (tupleText ts).length ≤ 4 + (ts.map fun t => t.length + 2).sum := by
  unfold tupleText
  rw [app_len, app_len]
  have := join_le ts
  rw [show ("(" : Str).length = 1 from rfl]
  split
  · rw [show ((",)" : String) : Str).length = 2 from rfl]; omega
  · rw [show ((")" : String) : Str).length = 1 from rfl]; omega
section
variable {P : Program} {w : World} {K : PySem.W.Frag} {mg mb : Str → Option Value}
theorem run_here {x : Str} {st : Stmt} {N ps : List Str} {k : Nat} {f : Addr} {fd : FuncData} {A : Around} {outer : List Env} {s : Shared} {H : Hp} {args : Args} {us : List Value} {vs : List V} {Q : VK} {base : Heap}
    (D : C8.Def K mg x st f fd) (S : FnScope N ps (C8.fnScope st)) (room : Room (k + 1) A) (env : Env0 P w K mg base A outer s H) (bi : BindsTo s fd args (ps.zip us)) (rv : Vals vs us) (len : vs.length = ps.length)
    (body : ∀ cdv : Value, Room k (A.deeper (envOfC x (C8.fnScope st) s.heap.objs.size f cdv)) →
      ∃ t, PSs (cxOf C8.CX0 P w K mg base N x (C8.fnScope st) f cdv A outer s H C8.E0).nox (C8.fnBody st) t ∧ t { nx := fun _ H' => Q .non H', rt := Q } (start N vs) H) :
    codeAny (model P w) A (.call (.ref f) args) (CR C8.CX0 outer P w H s Q C8.E0) s := by
  obtain ⟨oc, od, dV, kV, doc, pm, an, cdv, ct, osl, rfl, look, code⟩ := D.fn.ex
  have sub : ∀ b o, base.get? b = some o → s.heap.get? b = some o := fun b o e => (env.bs b o e).1
  have inK := env.mod.kin.keeps sub
  have noLim := env.mod.nolimit.keeps sub
  apply codeAny_call_function room.depth (inK _ _ look) rfl S.co S.gen rfl (PySem.W.codeRec_of inK code)
  apply bi
  apply wpAny_newFunctionEnv_cells S.kind
  · rintro ⟨n, v⟩ hy
    have hp := S.par n (List.of_mem_zip hy).1
    exact hp.imp id fun c => ⟨c, PySem.W.cellsFrom_some _ _ _ (.inl c)⟩
  intro e he s1 made
  subst he
  obtain ⟨t, ht, hq⟩ := body cdv (room.deeper _)
  have inv := inv_start (CX := C8.CX0) (E := C8.E0) (N := N) S room.hd env len rv made
  refine ⟨noLim.keeps made.toInCall.keep, codeAny_func ?_⟩
  refine wpAny_mono (ht.nox.run [] s1 _ H _ inv hq) ?_ fun _ _ z => z
  intro fl s' z
  match fl, z with
  | .ret u, ⟨v, σ', H', J, r, q⟩ => exact ⟨v, H', J.os, J.bare, J.base, J.hok, r, q⟩
  | .next, ⟨σ', H', J, q⟩ => exact ⟨V.non, H', J.os, J.bare, J.base, J.hok, rfl, q⟩
  | .brk, ⟨_, _, _, q⟩ => exact q.elim
  | .cont, ⟨_, _, _, q⟩ => exact q.elim
/-- what the call of the law leaves -/
def Done (s₁ : Shared) (r : Result) (s' : Shared) : Prop := r = .ok (.ret (.bool true)) ∧ OldK s₁.heap s'.heap ∧ s'.os = s₁.os ∧ AllBare s'.gens
theorem here_core {fa a : Addr} {s₁ : Shared} {vs : List Value} (H : Hp) (KX : K.In s₁.heap) (hns : s₁.heap.Ns mainGlobals mg) (hb : s₁.heap.Ns builtinsNs mb) (hbb : ∀ x : Str, x ≠ "__name__" → mb x = bootBuiltins x) (hlim : s₁.heap.NoLimit) (hnd : s₁.heap.NoDigits) (hg : s₁.gens = #[])
    (ha : s₁.heap.get? a = some { cls := .type "list", data := .seq vs.toArray }) (hok : HOk P w H s₁.heap) (only : ∀ b u, H b = some u → b = a ∧ K.lookup a = none ∧ ∃ o ys, u = .frz o (.lst ys))
    (body : ∀ base : Heap, K.In base → base.Ns mainGlobals mg → base.NoDigits → Env0 P w K mg base callerA [] s₁ H → codeAny (model P w) callerA (.call (.ref fa) ⟨[.ref a], []⟩) (CR C8.CX0 [] P w H s₁ (fun v _ => v = .bl true) C8.E0) s₁) :
    codeAny (model P w) callerA (.call (.ref fa) ⟨[.ref a], []⟩) (Done s₁) s₁ := by
  have free : ∀ {b : Addr} {o : Obj}, s₁.heap.get? b = some o → (b = a → False) → (hidT s₁.heap H).get? b = some o := fun {b o} e n => hidT_get e (by
    cases q : H b with
    | none => rfl
    | some u => exact (n (only b u q).1).elim)
  have dictFree : ∀ {b : Addr} {o : Obj} {es : Array DictEntry} {ep : Nat}, s₁.heap.get? b = some o → o.data = .dict es ep → (hidT s₁.heap H).get? b = some o := fun {b o es ep} e d => free e fun z => by
    rw [z, ha] at e
    cases e
    exact nomatch d
  have ns : ∀ {b : Addr} {m : Str → Option Value}, s₁.heap.Ns b m → (hidT s₁.heap H).Ns b m := by
    rintro b m ⟨o, es, ep, e, d, r⟩
    exact ⟨o, es, ep, dictFree e d, d, r⟩
  have inK : K.In (hidT s₁.heap H) := fun b o e => hidT_get (KX b o e) (by
    cases q : H b with
    | none => rfl
    | some u =>
      obtain ⟨z1, z2, _⟩ := only b u q
      rw [z1, z2] at e
      cases e)
  obtain ⟨mc, l1, l2⟩ := hlim
  have env : Env0 P w K mg (hidT s₁.heap H) callerA [] s₁ H :=
    { frames := rfl, mod := ⟨inK, ns hns, ⟨mb, ns hb, hbb⟩, ⟨mc, ns l1, l2⟩⟩, bs := fun b o e => of_hidT e, bsz := Nat.le_of_eq (hidT_size _ _), funs := trivial, frf := fun b z => (List.not_mem_nil z).elim, hok := hok, bare := .of_eq hg }
  obtain ⟨md, l3, l4⟩ := hnd
  refine codeAny_mono (body _ inK (ns hns) ⟨md, ns l3, l4⟩ env) ?_
  intro r s' z
  match r, z with
  | .error e, z => exact (show False from z).elim
  | .ok .next, z => exact (show False from z).elim
  | .ok .brk, z => exact (show False from z).elim
  | .ok .cont, z => exact (show False from z).elim
  | .ok (.ret u), ⟨v, H', os, bare, un, hok', rel, q⟩ =>
    have q' : v = .bl true := q
    subst q'
    have eu : u = Value.bool true := rel
    subst eu
    refine ⟨rfl, OldK.of_keep fun b o e => ?_, os, bare⟩
    cases hq : H b with
    | none => exact un.keep b o e hq (fun z => (List.not_mem_nil z).elim) List.not_mem_nil
    | some u =>
      obtain ⟨_, _, o2, ys, rfl⟩ := only b u hq
      obtain ⟨w1, _⟩ := hok b _ hq
      obtain ⟨w2, _⟩ := hok' b _ (un.frzs b o2 _ hq)
      rw [e] at w1
      cases w1
      exact w2
theorem here_call {fa a : Addr} {s₁ : Shared} {vs : List Value} {ns : List Int} (KX : K.In s₁.heap) (hns : s₁.heap.Ns mainGlobals mg) (hb : s₁.heap.Ns builtinsNs mb) (hbb : ∀ x : Str, x ≠ "__name__" → mb x = bootBuiltins x) (hlim : s₁.heap.NoLimit) (hnd : s₁.heap.NoDigits) (hg : s₁.gens = #[])
    (ha : s₁.heap.get? a = some { cls := .type "list", data := .seq vs.toArray }) (hi : IntsAre vs ns) (hl : ns.length ≤ sizeLine)
    (body : ∀ (H : Hp) (base : Heap), K.In base → base.Ns mainGlobals mg → base.NoDigits → SqL K H a (ns.map V.int) → Env0 P w K mg base callerA [] s₁ H → codeAny (model P w) callerA (.call (.ref fa) ⟨[.ref a], []⟩) (CR C8.CX0 [] P w H s₁ (fun v _ => v = .bl true) C8.E0) s₁) :
    codeAny (model P w) callerA (.call (.ref fa) ⟨[.ref a], []⟩) (Done s₁) s₁ := by
  have rv := vals_ints hi
  cases hk : K.lookup a with
  | some o =>
    have e := (KX a o hk).symm.trans ha
    cases e
    refine here_core (fun _ => none) KX hns hb hbb hlim hnd hg ha (fun b u z => nomatch (z : (none : Option HO) = some u)) (fun b u z => nomatch (z : (none : Option HO) = some u)) fun base i1 i2 nd i3 => body _ base i1 i2 nd (.inr ⟨_, vs.toArray, _, hk, rfl, rfl, rfl, ?_, by simpa using rv⟩) i3
    rw [List.size_toArray, hi.length]
    exact hl
  | none =>
    refine here_core (upd (fun _ => none) a (.frz { cls := .type "list", data := .seq vs.toArray } (.lst (ns.map V.int)))) KX hns hb hbb hlim hnd hg ha (fun b u z => ?_) (fun b u z => ?_) fun base i1 i2 nd i3 => body _ base i1 i2 nd (.inl (.inr ⟨_, upd_same⟩)) i3
    · by_cases e : b = a
      · subst e
        rw [upd_same] at z
        cases z
        exact ⟨ha, by rw [List.length_map]; exact hl, vs, _, rv, ha⟩
      · rw [upd_ne e] at z
        cases z
    · by_cases e : b = a
      · subst e
        rw [upd_same] at z
        cases z
        exact ⟨rfl, hk, _, _, rfl⟩
      · rw [upd_ne e] at z
        cases z
end
/-- the end of a law whose def shows things -/
theorem walk_here {l : PySem.W.OpenLaw} {n k : Nat} {q : Program} {loose : List Str} {XP : (Str → Option Value) → Heap → Prop} {YP : World → Heap → Prop} {d : DefRec} {K : Params → PySem.W.Frag} {st : Stmt} {N : List Str}
    (hn : l.most = some n) (hn2 : n ≤ sizeLine) (hdf : d.params.defaults = []) (hr : Room (k + 1) callerA) (hY : ∀ (w : World) (h : Heap), YP w h → (K w.params).In h) (S : FnScope N ["script"] (C8.fnScope st))
    (F : ∀ (w : World) (mg : Str → Option Value) (fa : Addr) (h : Heap), (K w.params).In h → h.Ns mainGlobals mg → mg d.name = some (.ref fa) →
      ∃ fd : FuncData, C8.Def (K w.params) mg "law" st fa fd ∧ (∀ (s : Shared) (u : Value), BindsTo s fd ⟨[u], []⟩ [("script", u)]) ∧
        ∀ (base : Heap) (s : Shared) (H : Hp) (a : Addr) (ns : List Int) (cdv : Value), (K w.params).In base → base.Ns mainGlobals mg → base.NoDigits → ns.length ≤ n → SqL (K w.params) H a (ns.map V.int) →
          Room k (callerA.deeper (envOfC "law" (C8.fnScope st) s.heap.objs.size fa cdv)) →
          ∃ t, PSs (cxOf C8.CX0 l.prog w (K w.params) mg base N "law" (C8.fnScope st) fa cdv callerA [] s H C8.E0).nox (C8.fnBody st) t ∧ t { nx := fun _ _ => V.non = .bl true, rt := fun v _ => v = .bl true } (start N [.ref a]) H) :
    PySem.W.WalkO q loose XP YP l.row.toRowW d [] (fun f vs => PySem.call f vs) := by
  apply Att.attach_call hn hdf
  intro w s₀ s₁ mg mb fa o pm cd doc a vs ns G Y ho hd hcd hmg hobj hints hlen hg
  obtain ⟨fd, D, bi, body⟩ := F w mg fa _ (hY w _ Y) G.T.g hmg
  apply here_call (hY w _ Y) G.T.g G.T.b G.T.builtins G.T.nolimit G.T.nodigits hg hobj hints (Nat.le_trans hlen hn2)
  intro H base i1 i2 nd hS env
  exact run_here (us := [.ref a]) (vs := [.ref a]) D S hr env (bi s₁ (.ref a)) (.cons rfl .nil) rfl fun cdv room => body base s₁ H a ns cdv i1 i2 nd hlen hS room
mutual
def bgB : PyData → Nat
  | .str x => 10 * x.length + 2
  | .list xs => 4 + bgBs xs
  | .tuple xs => 4 + bgBs xs
  | .none | .bool _ | .int _ | .dict _ => 13000
def bgBs : List PyData → Nat
  | [] => 0
  | x :: xs => bgB x + 2 + bgBs xs
def bgOk : PyData → Bool
  | .str x => PyData.strOk x
  | .int i => decide (i.natAbs.log2 < 12000)
  | .list xs => bgOks xs
  | .tuple xs => bgOks xs
  | .none | .bool _ => true
  | .dict _ => false
def bgOks : List PyData → Bool
  | [] => true
  | x :: xs => bgOk x && bgOks xs
end
mutual
theorem bg_le : ∀ d : PyData, bgOk d = true → d.shown.length ≤ bgB d
  | .none, _ => by show 4 ≤ 13000; decide
  | .bool b, _ => by cases b <;> (show _ ≤ 13000; decide)
  | .int i, h => by
    have hl : i.natAbs.log2 < 12000 := of_decide_eq_true h
    have e := int_text_length_le (k := 12000) (by decide) hl
    show (Str.ofString (toString i)).length ≤ 13000
    rw [PySem.ofString_length]
    omega
  | .str x, h => by
    show (reprText x).length ≤ 10 * x.length + 2
    refine StrLaws.reprText_len x fun c hc => ?_
    have h' : x.cps.all (· < 0x110000) = true := h
    rw [Array.all_eq_true'] at h'
    have := of_decide_eq_true (h' c (by simpa using hc))
    exact Nat.lt_of_lt_of_le this (by decide)
  | .list xs, h => by
    have h1 := bg_les xs h
    have := listText_le (PyData.shownAll xs)
    show (listText (PyData.shownAll xs)).length ≤ 4 + bgBs xs
    omega
  | .tuple xs, h => by
    have h1 := bg_les xs h
    have := tupleText_le (PyData.shownAll xs)
    show (tupleText (PyData.shownAll xs)).length ≤ 4 + bgBs xs
    omega
theorem bg_les : ∀ ds : List PyData, bgOks ds = true → ((PyData.shownAll ds).map fun t => t.length + 2).sum ≤ bgBs ds
  | [], _ => Nat.le_refl _
  | d :: ds, h => by
    have h' : (bgOk d && bgOks ds) = true := h
    rw [Bool.and_eq_true] at h'
    have a1 := bg_le d h'.1
    have b1 := bg_les ds h'.2
    rw [PyData.shownAll, List.map_cons, List.sum_cons]
    show _ ≤ bgB d + 2 + bgBs ds
    omega
end
section
variable {prog : Program} {w : World} {h₀ : Heap}
theorem big_lt {i : Int} (h : i.natAbs.log2 < 12000) : i.natAbs < 10 ^ 4300 :=
  Nat.lt_of_lt_of_le (PyProof.Rows.lt_of_log2 (Nat.lt_trans h (by decide : 12000 < 12900))) PyProof.Rows.pow_lo
open PySem.Builtin PySem.Builtin.Int in
theorem call_int_big {A : Around} {E : Value → Shared → Prop} {s : Shared} {a : Int} {t : Tok} {Q : Value → Shared → Prop} (hn : s.heap.NoDigits) (ha : a.natAbs.log2 < 12000) (h1 : Q (.str (toString a) s.toks) { s with toks := s.toks + 1 }) :
    wpAny (model prog w) A (PySem.call (.builtin "int.__repr__") [.int a t]) Q E s := by
  refine wpAny_call_entry F.slot_int_repr (typeIs_int s a t) F.entry_int_repr ?_ (F.args_int_repr_1 _)
  unfold Builtin.«int.__repr__»
  show wpAny _ _ (do let r ← Builtin.overDigitLimit? a; _) _ _ s
  refine wpAny_bind (PyProof.Rows.overDigitLimit_any hn (fun hlt => ?_) (fun hge => absurd hge (Nat.not_le.mpr (big_lt ha))))
  exact wpAny_bind (wpAny_mkStr (wpAny_pure ⟨_, rfl, h1⟩) (int_text_fits10 hlt))
theorem pyReprObj_big {A : Around} {E : Value → Shared → Prop} {s : Shared} {a : Int} {t : Tok} {Q : Value → Shared → Prop} (hn : s.heap.NoDigits) (ha : a.natAbs.log2 < 12000) (h1 : Q (.str (toString a) s.toks) { s with toks := s.toks + 1 }) :
    wpAny (model prog w) A (pyReprObj (.int a t)) Q E s := by
  have hv : [Value.int a t].any Value.onHeap = false := rfl
  unfold pyReprObj
  simp only [cRoomFor, hv, Bool.false_eq_true, if_false, pure_bind]
  refine wpAny_bind (wpAny_specialOf (name := Str.ofString "__repr__") (typeIs_int s a t) F.slot_int_repr.lookup ?_)
  refine wpAny_bind (m := callSpecialIfBound? (.int a t) (Str.ofString "__repr__")) (wpAny_callSpecialIfBound?_slot (name := Str.ofString "__repr__") (typeIs_int s a t) F.slot_int_repr (call_int_big hn ha ?_))
  exact wpAny_pure h1
theorem reprK_big {i : Int} {t : Tok} {bs : List Addr} {d : Nat} (hn : h₀.NoDigits) (hi : i.natAbs.log2 < 12000) : ReprK prog w bs h₀ d (.int i t) (toString i) := fun n hb A g E s Q hg hcl hu hk hQ => by
  have hn' : n ≤ sizeLine := by omega
  rw [pyReprUnder_leaf (v := .int i t) hn' (fun _ e => nomatch e)]
  unfold pyRepr
  exact wpAny_bind (pyReprObj_big (hn.keeps hk) hi (wpAny_pure (hQ s.heap _ fun _ _ e => e)))
theorem reprs_big {n : Nat} (IH : ∀ {v : Value} {d : PyData} {as : List Addr}, d.depth ≤ n → Reads h₀ v d as → bgOk d = true → d.shown.length ≤ sizeLine → ∃ bs, ReadAtMost h₀ d.depth bs ∧ ReprK prog w bs h₀ d.depth v d.shown) :
    ∀ {ds : List PyData} {vs : List Value} {as : List Addr}, PyData.depthAll ds ≤ n → ReadsAll h₀ vs ds as → bgOks ds = true → (∀ t ∈ PyData.shownAll ds, t.length ≤ sizeLine) → ∃ bs, ReadAtMost h₀ (PyData.depthAll ds) bs ∧ ReprAllK prog w bs h₀ (PyData.depthAll ds) vs (PyData.shownAll ds)
  | [], _, _, _, r, _, _ => by
    cases r
    exact ⟨[], (fun _ h => nomatch h), by simp only [PyData.shownAll]; exact .nil⟩
  | d :: ds, _, _, hd, r, hs, hz => by
    cases r with
    | cons r rs =>
    simp only [PyData.depthAll] at hd
    have hs' : (bgOk d && bgOks ds) = true := hs
    rw [Bool.and_eq_true] at hs'
    obtain ⟨b1, hb1, k1⟩ := IH (by omega) r hs'.1 (hz _ (by simp only [PyData.shownAll]; exact List.mem_cons_self ..))
    obtain ⟨b2, hb2, k2⟩ := reprs_big IH (by omega) rs hs'.2 (fun t ht => hz t (by simp only [PyData.shownAll]; exact List.mem_cons_of_mem _ ht))
    refine ⟨b1 ++ b2, ?_, ?_⟩
    · intro b hm
      simp only [PyData.depthAll]
      rcases List.mem_append.mp hm with hm | hm
      · obtain ⟨d', as', r', hd'⟩ := hb1 b hm
        exact ⟨d', as', r', Nat.le_trans hd' (Nat.le_max_left _ _)⟩
      · obtain ⟨d', as', r', hd'⟩ := hb2 b hm
        exact ⟨d', as', r', Nat.le_trans hd' (Nat.le_max_right _ _)⟩
    · simp only [PyData.depthAll, PyData.shownAll]
      exact .cons ((k1.more fun b hb => List.mem_append_left _ hb).level_le (Nat.le_max_left _ _)) (k2.more_le (fun b hb => List.mem_append_right _ hb) (Nat.le_max_right _ _))
theorem repr_big (hn : h₀.NoDigits) : ∀ (n : Nat) {v : Value} {d : PyData} {as : List Addr}, d.depth ≤ n → Reads h₀ v d as → bgOk d = true → d.shown.length ≤ sizeLine → ∃ bs, ReadAtMost h₀ d.depth bs ∧ ReprK prog w bs h₀ d.depth v d.shown
  | 0, v, d, as, hd, r, hs, hz => by
    cases r with
    | none => exact ⟨[], (fun _ h => nomatch h), by simp only [PyData.shown]; exact .of_is ReprIs.none _ _ _⟩
    | bool b => exact ⟨[], (fun _ h => nomatch h), by simp only [PyData.shown]; exact .of_is (ReprIs.bool b) _ _ _⟩
    | int i t => exact ⟨[], (fun _ h => nomatch h), by simp only [PyData.shown]; exact reprK_big hn (of_decide_eq_true hs)⟩
    | str x t => exact ⟨[], (fun _ h => nomatch h), by simp only [PyData.shown]; exact .of_is (ReprIs.str x t (by simpa only [PyData.shown] using hz)) _ _ _⟩
    | list h1 h2 h3 h4 => simp only [PyData.depth] at hd; omega
    | tuple h1 h2 h3 h4 => simp only [PyData.depth] at hd; omega
    | dict h1 h2 h3 h4 h5 => exact nomatch hs
  | n + 1, v, d, as, hd, r, hs, hz => by
    cases r with
    | none => exact ⟨[], (fun _ h => nomatch h), by simp only [PyData.shown]; exact .of_is ReprIs.none _ _ _⟩
    | bool b => exact ⟨[], (fun _ h => nomatch h), by simp only [PyData.shown]; exact .of_is (ReprIs.bool b) _ _ _⟩
    | int i t => exact ⟨[], (fun _ h => nomatch h), by simp only [PyData.shown]; exact reprK_big hn (of_decide_eq_true hs)⟩
    | str x t => exact ⟨[], (fun _ h => nomatch h), by simp only [PyData.shown]; exact .of_is (ReprIs.str x t (by simpa only [PyData.shown] using hz)) _ _ _⟩
    | dict h1 h2 h3 h4 h5 => exact nomatch hs
    | tuple h1 h2 h3 h4 =>
      rename_i a o vs n2 xs
      have hz' : (tupleText (PyData.shownAll xs)).length ≤ sizeLine := by simpa only [PyData.shown] using hz
      obtain ⟨bs, hb, hk⟩ := reprs_big (repr_big hn n) (by simp only [PyData.depth] at hd; omega) h4 hs (fun t ht => Nat.le_trans (tupleText_mem_le ht) hz')
      have hna := not_mem_of_deeper (.tuple h1 h2 h3 h4) (by simp only [PyData.depth]; omega) hb
      refine ⟨_, ReadAtMost.cons (.tuple h1 h2 h3 h4) (by simp only [PyData.depth]; omega) hb, ?_⟩
      simp only [PyData.depth, PyData.shown]
      exact ReprK.tuple h1 h2 h3 hna hk
    | list h1 h2 h3 h4 =>
      rename_i a o vs n2 xs as2
      have hz' : (listText (PyData.shownAll xs)).length ≤ sizeLine := by simpa only [PyData.shown] using hz
      obtain ⟨bs, hb, hk⟩ := reprs_big (repr_big hn n) (by simp only [PyData.depth] at hd; omega) h4 hs (fun t ht => Nat.le_trans (listText_mem_le ht) hz')
      have hna := not_mem_of_deeper (.list h1 h2 h3 h4) (by simp only [PyData.depth]; omega) hb
      refine ⟨_, ReadAtMost.cons (.list h1 h2 h3 h4) (by simp only [PyData.depth]; omega) hb, ?_⟩
      simp only [PyData.depth, PyData.shown]
      obtain ⟨l⟩ := vs
      cases l with
      | nil =>
        have h4' : ReadsAll h₀ [] xs _ := h4
        cases h4'
        simp only [PyData.shownAll, listText_nil]
        exact ReprK.listEmpty h1 h2 h3
      | cons x l => exact ReprK.list h1 h2 h3 hna (by simpa using hk.length_eq) (fun i y e => hk.item i y (by simpa using e))
theorem call_repr_big {A : Around} {E : Value → Shared → Prop} {s : Shared} {Q : Value → Shared → Prop} {a : Addr} {d : PyData} {as : List Addr} (hn : s.heap.NoDigits) (r : Reads s.heap (.ref a) d as) (hs : bgOk d = true) (hz : d.shown.length ≤ sizeLine) (hg : A.guards = some []) (hu : A.units + (d.depth + 1) < cLine)
    (hQ : ∀ h' u tk, (∀ b o, s.heap.get? b = some o → h'.get? b = some o) → Q (.str d.shown u) { s with heap := h', toks := tk }) : wpAny (model prog w) A (PySem.call (.builtin "repr") [.ref a]) Q E s := by
  have hu1 : A.in1.units + d.depth < cLine := by show A.units + 1 + d.depth < cLine; omega
  cases r with
  | dict h1 h2 h3 h4 h5 => exact nomatch hs
  | tuple h1 h2 h3 h4 =>
    rename_i o vs n2 xs
    have hz' : (tupleText (PyData.shownAll xs)).length ≤ sizeLine := by simpa only [PyData.shown] using hz
    obtain ⟨bs, hb, hk⟩ := reprs_big (prog := prog) (w := w) (repr_big hn (PyData.depthAll xs)) (Nat.le_refl _) h4 hs (fun t ht => Nat.le_trans (tupleText_mem_le ht) hz')
    have hna := not_mem_of_deeper (.tuple h1 h2 h3 h4) (by simp only [PyData.depth]; omega) hb
    simp only [PyData.depth] at hu1
    simp only [PyData.shown] at hQ
    exact call_repr_slot (by omega) ⟨o, h1, h2⟩ F.slot_tuple_repr (call_tuple_reprK h1 h2 h3 hna hk hg (fun b _ => Clear.nil b) hu1 (fun _ _ e => e) (fun h' u tk hk' => ⟨_, _, rfl, hQ h' u tk hk'⟩) hz')
  | list h1 h2 h3 h4 =>
    rename_i o vs n2 xs as2
    have hz' : (listText (PyData.shownAll xs)).length ≤ sizeLine := by simpa only [PyData.shown] using hz
    obtain ⟨bs, hb, hk⟩ := reprs_big (prog := prog) (w := w) (repr_big hn (PyData.depthAll xs)) (Nat.le_refl _) h4 hs (fun t ht => Nat.le_trans (listText_mem_le ht) hz')
    have hna := not_mem_of_deeper (.list h1 h2 h3 h4) (by simp only [PyData.depth]; omega) hb
    simp only [PyData.depth] at hu1
    simp only [PyData.shown] at hQ
    obtain ⟨l⟩ := vs
    cases l with
    | nil =>
      have h4' : ReadsAll s.heap [] xs _ := h4
      cases h4'
      simp only [PyData.shownAll, listText_nil] at hQ
      exact call_repr_slot (by omega) ⟨o, h1, h2⟩ F.slot_list_repr.toG (call_list_repr_empty ⟨o, h1, h2⟩ h1 h3 ⟨_, _, rfl, hQ s.heap _ _ fun _ _ e => e⟩)
    | cons x l =>
      exact call_repr_slot (by omega) ⟨o, h1, h2⟩ F.slot_list_repr.toG (call_list_reprK h1 h2 h3 hna (by simpa using hk.length_eq) (fun i y e => hk.item i y (by simpa using e)) hg (fun b _ => Clear.nil b) hu1 (fun _ _ e => e) (fun h' u tk hk' => ⟨_, _, rfl, hQ h' u tk hk'⟩) hz')
end
def rReprN (K : PySem.W.Frag) : List V → Hp → VK → Prop := fun xs H Q => (∃ a d, xs = [.ref a] ∧ Dp K H (.ref a) d ∧ bgOk d = true ∧ d.depth ≤ 60 ∧ d.shown.length ≤ sizeLine ∧ Q (.str d.shown) H) ∨ (xs = [.non] ∧ Q (.str (PyData.shown .none)) H)
theorem call_reprN {X : Cx} (hg : X.A.guards = some []) (hu : X.A.units + 64 < cLine) (nd : X.base.NoDigits) : CallR X (.builtin "repr") (rReprN X.K) := by
  intro pins s σ H xs us Q I r h
  rcases h with ⟨a, d, rfl, hd, h1, h3, h4, q⟩ | ⟨rfl, q⟩
  · obtain ⟨u, rfl, ru⟩ := vals1 r
    obtain ⟨as, rd⟩ := Dp.reads I d _ u hd ru
    cases (show u = Value.ref a from ru)
    exact call_repr_big (nd.keeps I.bk) rd h1 h4 hg (by omega) (fun h' u tk hk => ⟨.str d.shown, H, I.kept hk, ⟨_, rfl⟩, q⟩)
  · obtain ⟨u, rfl, ru⟩ := vals1 r
    cases (show u = Value.none from ru)
    exact PySem.P.repr_of_none ⟨.str (PyData.shown .none), H, I.kept (fun _ _ e => e), ⟨_, rfl⟩, q⟩
def limV (n : Int) : V := if -1000000000000000 ≤ n ∧ n ≤ 1000000000000000 then .int n else .non
def isD (c : Nat) : Bool := decide (48 ≤ c) && decide (c ≤ 57)
def four (r : Nat) : List Nat := [48 + r / 1000, 48 + r / 100 % 10, 48 + r / 10 % 10, 48 + r % 10]
theorem c00 : PySem.Str.ofString "" = SX.S [] := by decide +kernel
def DInts (K : PySem.W.Frag) (p : Addr) (l : List (String × Int)) : Prop := ∀ kv ∈ l, ∃ t, PySem.W.nsIn K p (Str.ofString kv.1) = some (some (.int kv.2 t))
theorem DInts.nil {K : PySem.W.Frag} {p : Addr} : DInts K p [] := fun _ h => nomatch h
theorem DInts.cons {K : PySem.W.Frag} {p : Addr} {k : String} {n : Int} {t : Tok} {l : List (String × Int)} (e : PySem.W.nsIn K p (Str.ofString k) = some (some (.int n t))) (h : DInts K p l) : DInts K p ((k, n) :: l) := fun kv hk => by
  rcases List.mem_cons.mp hk with z | z
  · rw [z]; exact ⟨t, e⟩
  · exact h kv z
open PySem.AutoSeq1 in
/-- xs.extend(a tuple) -/
theorem list_extend_tupG (l : Addr) (items : Array Value) (n : Nat) (b : Addr) (o2 : Obj) (items2 : Array Value) (n2 : Nat) (hc : o2.cls = .type "tuple") (hd : o2.data = .seq items2 n2) (hs0 : ¬(!items.isEmpty && Builtin.List.listTooLong (items.size + items2.size)) = true) (hs1 : items.size ≤ sizeLine) (hs2 : items.size + items2.size ≤ sizeLine + 1) :
    Meets (Builtin.«list.extend» ⟨[.ref l, .ref b], []⟩) (fun _ R s => s.heap.get? l = some { cls := .type "list", dict := none, data := .seq items n, slots := #[] } ∧ s.heap.get? b = some o2 ∧ R (.ok (.ret Value.none)) { s with heap := s.heap.update l (Obj.mapSeq fun x => x ++ items2), toks := s.toks }) :=
  .of_wp fun prog w A R s h => by
    obtain ⟨cls, dd, data, sl⟩ := o2
    simp only at hc hd
    subst hc hd
    obtain ⟨hp, g, d, tk, os⟩ := s; obtain ⟨hl, hb, h⟩ := h; have f1 := AutoSeq1.idx_int; have f2 := AutoSeq1.sub_tuple_tuple; have f3 := AutoSeq1.sub_list_list; have f4 := AutoSeq1.sub_tuple_list; have f5 := AutoSeq1.sub_list_tuple
    have hz' : (items ++ items2).size ≤ sizeLine + 1 := by rw [Array.size_append]; exact hs2
    wp_walk using (wpAny_updateSeq hl rfl (hz := hs1) (_hz' := hz')), wpAny_loadPart' hl, wpAny_loadPart' hb; exact ⟨_, rfl, h⟩
def rExtT (K : PySem.W.Frag) : V → List V → Hp → VK → Prop := fun x vs H Q => ∃ l b xs zs, x = .ref l ∧ vs = [.ref b] ∧ H l = some (.lst xs) ∧ SqT K H b zs ∧ xs.length + zs.length ≤ sizeLine ∧ Q .non (upd H l (.lst (xs ++ zs)))
theorem mt_extT {X : L2.Cx} : MtM X "list.extend" (rExtT X.K) := by
  intro pins s σ H x vs v us Q I rx rv h
  obtain ⟨l, b, xs, zs, rfl, rfl, hH, hB, hz, q⟩ := h
  cases rx
  obtain ⟨u, rfl, ru⟩ := rv.one
  cases ru
  obtain ⟨z, its, n, r, hl, e⟩ := I.lstM hH
  obtain ⟨its2, r2, ⟨o2, e2, hc2, n2, hd2⟩, hz2⟩ := I.tuple hB
  have hl2 := r2.length
  have hsz : its.toArray.size + its2.toArray.size ≤ sizeLine := by rw [List.size_toArray, List.size_toArray]; omega
  have hlong : ¬ (!its.toArray.isEmpty && Builtin.List.listTooLong (its.toArray.size + its2.toArray.size)) = true := by
    rw [notLongL hsz, Bool.and_false]
    exact Bool.false_ne_true
  refine call_meets F.slot_list_extend ⟨_, e, rfl⟩ F.entry_list_extend (F.args_list_extend_2 _ _)
    (list_extend_tupG l its.toArray n b o2 its2.toArray n2 hc2 hd2 hlong (by rw [List.size_toArray]; omega) (by omega)) ⟨e, e2, ?_⟩
  refine ⟨.non, _, I.lset (its' := its ++ its2) hH e (by simp) (r.append r2) ?_, rfl, q⟩
  rw [List.length_append]
  omega
def topS (i : Nat) : Stmt := PySem.Challenge.pw_stylobate_k65_parts_of_conditions.main.body.getD i (.Pass ⟨0, 0, 0, 0⟩)
abbrev s_kind_rank : Stmt := topS 1
abbrev n_kind_rank : List Str := ["value"]
theorem sc_kind_rank : FnScope n_kind_rank ["value"] (C8.fnScope s_kind_rank) := C8.fnScope_by (by decide +kernel)
abbrev s_is_integer : Stmt := topS 2
abbrev n_is_integer : List Str := ["value"]
theorem sc_is_integer : FnScope n_is_integer ["value"] (C8.fnScope s_is_integer) := C8.fnScope_by (by decide +kernel)
abbrev s_rank : Stmt := topS 3
abbrev n_rank : List Str := ["value", "kind"]
theorem sc_rank : FnScope n_rank ["value"] (C8.fnScope s_rank) := C8.fnScope_by (by decide +kernel)
abbrev s_same : Stmt := topS 4
abbrev n_same : List Str := ["first", "second"]
theorem sc_same : FnScope n_same ["first", "second"] (C8.fnScope s_same) := C8.fnScope_by (by decide +kernel)
abbrev s_before : Stmt := topS 5
abbrev n_before : List Str := ["first", "second"]
theorem sc_before : FnScope n_before ["first", "second"] (C8.fnScope s_before) := C8.fnScope_by (by decide +kernel)
abbrev s_is_day : Stmt := topS 24
abbrev n_is_day : List Str := ["value"]
theorem sc_is_day : FnScope n_is_day ["value"] (C8.fnScope s_is_day) := C8.fnScope_by (by decide +kernel)
abbrev s_limited : Stmt := topS 35
abbrev n_limited : List Str := ["number"]
theorem sc_limited : FnScope n_limited ["number"] (C8.fnScope s_limited) := C8.fnScope_by (by decide +kernel)
abbrev s_negated : Stmt := topS 44
abbrev n_negated : List Str := ["value"]
theorem sc_negated : FnScope n_negated ["value"] (C8.fnScope s_negated) := C8.fnScope_by (by decide +kernel)
abbrev s_both : Stmt := topS 45
abbrev n_both : List Str := ["first", "second"]
theorem sc_both : FnScope n_both ["first", "second"] (C8.fnScope s_both) := C8.fnScope_by (by decide +kernel)
abbrev s_either : Stmt := topS 46
abbrev n_either : List Str := ["first", "second"]
theorem sc_either : FnScope n_either ["first", "second"] (C8.fnScope s_either) := C8.fnScope_by (by decide +kernel)
abbrev s__negate : Stmt := topS 48
abbrev n__negate : List Str := ["number"]
theorem sc__negate : FnScope n__negate ["number"] (C8.fnScope s__negate) := C8.fnScope_by (by decide +kernel)
abbrev s__size : Stmt := topS 49
abbrev n__size : List Str := ["number"]
theorem sc__size : FnScope n__size ["number"] (C8.fnScope s__size) := C8.fnScope_by (by decide +kernel)
abbrev s__value : Stmt := topS 51
abbrev n__value : List Str := ["value"]
theorem sc__value : FnScope n__value ["value"] (C8.fnScope s__value) := C8.fnScope_by (by decide +kernel)
abbrev s__to_decimal : Stmt := topS 52
abbrev n__to_decimal : List Str := ["number"]
theorem sc__to_decimal : FnScope n__to_decimal ["number"] (C8.fnScope s__to_decimal) := C8.fnScope_by (by decide +kernel)
abbrev s__length : Stmt := topS 58
abbrev n__length : List Str := ["text"]
theorem sc__length : FnScope n__length ["text"] (C8.fnScope s__length) := C8.fnScope_by (by decide +kernel)
abbrev s_value_of_one : Stmt := topS 74
abbrev n_value_of_one : List Str := ["name", "value", "action"]
theorem sc_value_of_one : FnScope n_value_of_one ["name", "value"] (C8.fnScope s_value_of_one) := C8.fnScope_by (by decide +kernel)
abbrev s__both : Stmt := topS 83
abbrev n__both : List Str := ["first", "second"]
theorem sc__both : FnScope n__both ["first", "second"] (C8.fnScope s__both) := C8.fnScope_by (by decide +kernel)
abbrev s__either : Stmt := topS 84
abbrev n__either : List Str := ["first", "second"]
theorem sc__either : FnScope n__either ["first", "second"] (C8.fnScope s__either) := C8.fnScope_by (by decide +kernel)
abbrev s__same : Stmt := topS 85
abbrev n__same : List Str := ["first", "second"]
theorem sc__same : FnScope n__same ["first", "second"] (C8.fnScope s__same) := C8.fnScope_by (by decide +kernel)
abbrev s__first_known : Stmt := topS 86
abbrev n__first_known : List Str := ["first", "second"]
theorem sc__first_known : FnScope n__first_known ["first", "second"] (C8.fnScope s__first_known) := C8.fnScope_by (by decide +kernel)
abbrev s__equal : Stmt := topS 87
abbrev n__equal : List Str := ["first", "second"]
theorem sc__equal : FnScope n__equal ["first", "second"] (C8.fnScope s__equal) := C8.fnScope_by (by decide +kernel)
abbrev s__less : Stmt := topS 88
abbrev n__less : List Str := ["first", "second"]
theorem sc__less : FnScope n__less ["first", "second"] (C8.fnScope s__less) := C8.fnScope_by (by decide +kernel)
abbrev s__at_most : Stmt := topS 89
abbrev n__at_most : List Str := ["first", "second"]
theorem sc__at_most : FnScope n__at_most ["first", "second"] (C8.fnScope s__at_most) := C8.fnScope_by (by decide +kernel)
abbrev s__add : Stmt := topS 92
abbrev n__add : List Str := ["first", "second"]
theorem sc__add : FnScope n__add ["first", "second"] (C8.fnScope s__add) := C8.fnScope_by (by decide +kernel)
abbrev s__subtract : Stmt := topS 93
abbrev n__subtract : List Str := ["first", "second"]
theorem sc__subtract : FnScope n__subtract ["first", "second"] (C8.fnScope s__subtract) := C8.fnScope_by (by decide +kernel)
abbrev s__multiply : Stmt := topS 94
abbrev n__multiply : List Str := ["first", "second"]
theorem sc__multiply : FnScope n__multiply ["first", "second"] (C8.fnScope s__multiply) := C8.fnScope_by (by decide +kernel)
abbrev s__add_days : Stmt := topS 102
abbrev n__add_days : List Str := ["day", "many", "later"]
theorem sc__add_days : FnScope n__add_days ["day", "many"] (C8.fnScope s__add_days) := C8.fnScope_by (by decide +kernel)
abbrev s__are_alike : Stmt := topS 109
abbrev n__are_alike : List Str := ["first", "second"]
theorem sc__are_alike : FnScope n__are_alike ["first", "second"] (C8.fnScope s__are_alike) := C8.fnScope_by (by decide +kernel)
abbrev s_value_of_two : Stmt := topS 110
abbrev n_value_of_two : List Str := ["name", "first", "second", "action"]
theorem sc_value_of_two : FnScope n_value_of_two ["name", "first", "second"] (C8.fnScope s_value_of_two) := C8.fnScope_by (by decide +kernel)
abbrev s_unary : Stmt := topS 112
abbrev n_unary : List Str := ["name", "value"]
theorem sc_unary : FnScope n_unary ["name", "value"] (C8.fnScope s_unary) := C8.fnScope_by (by decide +kernel)
abbrev s_binary : Stmt := topS 113
abbrev n_binary : List Str := ["name", "first", "second"]
theorem sc_binary : FnScope n_binary ["name", "first", "second"] (C8.fnScope s_binary) := C8.fnScope_by (by decide +kernel)
abbrev s_evaluate : Stmt := topS 117
abbrev n_evaluate : List Str := ["expression", "row", "form", "number", "chosen", "first", "second", "third"]
theorem sc_evaluate : FnScope n_evaluate ["expression", "row"] (C8.fnScope s_evaluate) := C8.fnScope_by (by decide +kernel)
abbrev s_holds : Stmt := topS 118
abbrev n_holds : List Str := ["expression", "row"]
theorem sc_holds : FnScope n_holds ["expression", "row"] (C8.fnScope s_holds) := C8.fnScope_by (by decide +kernel)
abbrev s_parts_of : Stmt := topS 119
abbrev n_parts_of : List Str := ["expression"]
theorem sc_parts_of : FnScope n_parts_of ["expression"] (C8.fnScope s_parts_of) := C8.fnScope_by (by decide +kernel)
abbrev s_columns_of : Stmt := topS 120
abbrev n_columns_of : List Str := ["expression", "found", "waiting", "part"]
theorem sc_columns_of : FnScope n_columns_of ["expression"] (C8.fnScope s_columns_of) := C8.fnScope_by (by decide +kernel)
abbrev s_condition_parts : Stmt := topS 123
abbrev n_condition_parts : List Str := ["condition", "found", "waiting", "part"]
theorem sc_condition_parts : FnScope n_condition_parts ["condition"] (C8.fnScope s_condition_parts) := C8.fnScope_by (by decide +kernel)
abbrev s_conjunction : Stmt := topS 124
abbrev n_conjunction : List Str := ["conditions", "half"]
theorem sc_conjunction : FnScope n_conjunction ["conditions"] (C8.fnScope s_conjunction) := C8.fnScope_by (by decide +kernel)
abbrev s_together : Stmt := topS 125
abbrev n_together : List Str := ["first", "second"]
theorem sc_together : FnScope n_together ["first", "second"] (C8.fnScope s_together) := C8.fnScope_by (by decide +kernel)
abbrev s_uses_only : Stmt := topS 126
abbrev n_uses_only : List Str := ["expression", "low", "high", "columns"]
theorem sc_uses_only : FnScope n_uses_only ["expression", "low", "high"] (C8.fnScope s_uses_only) := C8.fnScope_by (by decide +kernel)
abbrev s_is_plain : Stmt := topS 127
abbrev n_is_plain : List Str := ["expression"]
theorem sc_is_plain : FnScope n_is_plain ["expression"] (C8.fnScope s_is_plain) := C8.fnScope_by (by decide +kernel)
abbrev s__columns_in : Stmt := topS 128
abbrev n__columns_in : List Str := ["expressions", "found", "waiting", "part"]
theorem sc__columns_in : FnScope n__columns_in ["expressions"] (C8.fnScope s__columns_in) := C8.fnScope_by (by decide +kernel)
abbrev s_can_merge : Stmt := topS 129
abbrev n_can_merge : List Str := ["expressions", "others", "found", "column", "expression"]
theorem sc_can_merge : FnScope n_can_merge ["expressions", "others"] (C8.fnScope s_can_merge) := C8.fnScope_by (by decide +kernel)
abbrev s_none_from : Stmt := topS 130
abbrev n_none_from : List Str := ["expression", "m", "form", "name", "parts", "part"]
theorem sc_none_from : FnScope n_none_from ["expression", "m"] (C8.fnScope s_none_from) := C8.fnScope_by (by decide +kernel)
abbrev s_refuses : Stmt := topS 131
abbrev n_refuses : List Str := ["condition", "m", "_", "first", "second", "inner"]
theorem sc_refuses : FnScope n_refuses ["condition", "m"] (C8.fnScope s_refuses) := C8.fnScope_by (by decide +kernel)
abbrev s__law_cell : Stmt := topS 133
abbrev n__law_cell : List Str := ["script", "k"]
theorem sc__law_cell : FnScope n__law_cell ["script", "k"] (C8.fnScope s__law_cell) := C8.fnScope_by (by decide +kernel)
abbrev s__law_state : Stmt := topS 134
abbrev n__law_state : List Str := ["cell", "k", "prime", "first", "second", "third", "fourth"]
theorem sc__law_state : FnScope n__law_state ["cell", "k"] (C8.fnScope s__law_state) := C8.fnScope_by (by decide +kernel)
abbrev s__law_digit : Stmt := topS 135
abbrev n__law_digit : List Str := ["state", "many", "digit"]
theorem sc__law_digit : FnScope n__law_digit ["state", "many"] (C8.fnScope s__law_digit) := C8.fnScope_by (by decide +kernel)
abbrev s__law_text : Stmt := topS 138
abbrev n__law_text : List Str := ["state", "signs", "k"]
theorem sc__law_text : FnScope n__law_text ["state"] (C8.fnScope s__law_text) := C8.fnScope_by (by decide +kernel)
abbrev s__law_value : Stmt := topS 139
abbrev n__law_value : List Str := ["state", "kind"]
theorem sc__law_value : FnScope n__law_value ["state"] (C8.fnScope s__law_value) := C8.fnScope_by (by decide +kernel)
abbrev s__law_leaf : Stmt := topS 140
abbrev n__law_leaf : List Str := ["state", "width"]
theorem sc__law_leaf : FnScope n__law_leaf ["state", "width"] (C8.fnScope s__law_leaf) := C8.fnScope_by (by decide +kernel)
abbrev s__law_expression : Stmt := topS 141
abbrev n__law_expression : List Str := ["state", "width", "depth", "kind", "first", "names", "second"]
theorem sc__law_expression : FnScope n__law_expression ["state", "width", "depth"] (C8.fnScope s__law_expression) := C8.fnScope_by (by decide +kernel)
abbrev s__law_condition : Stmt := topS 142
abbrev n__law_condition : List Str := ["state", "width", "depth", "kind", "name", "column", "value"]
theorem sc__law_condition : FnScope n__law_condition ["state", "width", "depth"] (C8.fnScope s__law_condition) := C8.fnScope_by (by decide +kernel)
abbrev s__law_parts : Stmt := topS 143
abbrev n__law_parts : List Str := ["condition"]
theorem sc__law_parts : FnScope n__law_parts ["condition"] (C8.fnScope s__law_parts) := C8.fnScope_by (by decide +kernel)
abbrev s__law_joined : Stmt := topS 144
abbrev n__law_joined : List Str := ["conditions", "half"]
theorem sc__law_joined : FnScope n__law_joined ["conditions"] (C8.fnScope s__law_joined) := C8.fnScope_by (by decide +kernel)
abbrev s__law_columns_in : Stmt := topS 145
abbrev n__law_columns_in : List Str := ["expression", "found", "part"]
theorem sc__law_columns_in : FnScope n__law_columns_in ["expression"] (C8.fnScope s__law_columns_in) := C8.fnScope_by (by decide +kernel)
abbrev s__law_none : Stmt := topS 146
abbrev n__law_none : List Str := ["expression", "m", "word", "first", "second"]
theorem sc__law_none : FnScope n__law_none ["expression", "m"] (C8.fnScope s__law_none) := C8.fnScope_by (by decide +kernel)
abbrev s__law_refuses : Stmt := topS 147
abbrev n__law_refuses : List Str := ["condition", "m", "either_v"]
theorem sc__law_refuses : FnScope n__law_refuses ["condition", "m"] (C8.fnScope s__law_refuses) := C8.fnScope_by (by decide +kernel)
abbrev s__law_merges : Stmt := topS 148
abbrev n__law_merges : List Str := ["expressions", "others", "found", "other", "k", "j"]
theorem sc__law_merges : FnScope n__law_merges ["expressions", "others"] (C8.fnScope s__law_merges) := C8.fnScope_by (by decide +kernel)
abbrev s__law_holds : Stmt := topS 149
abbrev n__law_holds : List Str := ["condition", "m", "state", "k", "row", "j"]
theorem sc__law_holds : FnScope n__law_holds ["condition", "m", "state"] (C8.fnScope s__law_holds) := C8.fnScope_by (by decide +kernel)
abbrev s_law : Stmt := topS 150
abbrev n_law : List Str := ["script", "conditions", "k", "state", "condition", "parts", "m", "used", "low", "due", "told", "many", "expressions", "j"]
theorem sc_law : FnScope n_law ["script"] (C8.fnScope s_law) := C8.fnScope_by (by decide +kernel)
def wo (p : Addr) (H : Hp) : Hp := fun a => if a = p then none else H a
theorem wo_self (p : Addr) (H : Hp) : wo p H p = none := if_pos rfl
theorem wo_ne {p a : Addr} {H : Hp} (h : a ≠ p) : wo p H a = H a := if_neg h
theorem wo_le (p : Addr) (H : Hp) : Ex (wo p H) H := fun a o h => by
  unfold wo at h
  split at h
  · cases h
  · exact h
theorem wx_of {p : Addr} {H H' : Hp} (e : Ex H H') : Ex (wo p H) H' := (wo_le p H).trans e
theorem wx_trans {p : Addr} {H1 H2 H3 : Hp} (a : Ex (wo p H1) H2) (b : Ex (wo p H2) H3) : Ex (wo p H1) H3 := fun x o h => b x o (by
  have hx : x ≠ p := fun z => by
    rw [z, wo_self] at h
    cases h
  rw [wo_ne hx]
  exact a x o h)
theorem wx_back {p : Addr} {H0 H1 H2 : Hp} (h : H0 p = none) (e : Ex H0 H1) (x : Ex (wo p H1) H2) : Ex H0 H2 := fun a o ha => x a o (by
  have hx : a ≠ p := fun z => by
    rw [z, h] at ha
    cases ha
  rw [wo_ne hx]
  exact e a o ha)
def Dr (p : Addr) (H : Hp) : Prop := ∃ s : Int, 0 ≤ s ∧ H p = some (.lst [.int s])
theorem Dr.ex {p : Addr} {H H' : Hp} (d : Dr p H) (e : Ex H H') : Dr p H' := by
  obtain ⟨s, h0, h⟩ := d
  exact ⟨s, h0, e _ _ h⟩
/-- a value that is drawn: one of those with the word P -/
def EvD1 (te : TE) (σ : L2.St) (p : Addr) (H : Hp) (P : V → Prop) : Prop := ∀ H1, Ex (wo p H) H1 → Dr p H1 → ∀ Q : VK, (∀ v H2, P v → Ex (wo p H1) H2 → Dr p H2 → Q v H2) → te σ H1 Q
def EvDT (tt : TT) (σ : L2.St) (p : Addr) (H : Hp) (P : Bool → Prop) : Prop := ∀ H1, Ex (wo p H) H1 → Dr p H1 → ∀ Q : Bool → Hp → Prop, (∀ b H2, P b → Ex (wo p H1) H2 → Dr p H2 → Q b H2) → tt σ H1 Q
def ZP (P : Int → Prop) : V → Prop := fun v => ∃ i, v = .int i ∧ P i
/-- a value of which a word alone is known, all else as it was -/
def EvN (te : TE) (σ : L2.St) (H : Hp) (P : V → Prop) : Prop := ∀ H1, Ex H H1 → ∀ Q : VK, (∀ v H2, P v → Ex H1 H2 → Q v H2) → te σ H1 Q
/-- a new list to draw from -/
def EvC (te : TE) (σ : L2.St) (H : Hp) : Prop := ∀ H1, Ex H H1 → ∀ Q : VK, (∀ p H2, H1 p = none → Ex H1 H2 → Dr p H2 → Q (.ref p) H2) → te σ H1 Q
def sp__law_cell (K : PySem.W.Frag) : Sp := fun vs H Q _ => ∃ (a : Addr) (ns : List Int) (k : Int), vs = [.ref a, .int k] ∧ SqL K H a (ns.map V.int) ∧ 0 ≤ k ∧ ∀ H', Ex H H' → Q (.int (ns.getD k.toNat 0)) H'
def sp__law_state (K : PySem.W.Frag) : Sp := fun vs H Q _ => ∃ c k : Int, vs = [.int c, .int k] ∧ ∀ p H', H p = none → Ex H H' → Dr p H' → Q (.ref p) H'
def sp__law_digit (K : PySem.W.Frag) : Sp := fun vs H Q _ => ∃ (p : Addr) (m : Int), vs = [.ref p, .int m] ∧ Dr p H ∧ 0 < m ∧ m < 2 ^ 400 ∧ ∀ d H', 0 ≤ d → d < m → Ex (wo p H) H' → Dr p H' → Q (.int d) H'
section
variable {K : PySem.W.Frag} {σ : L2.St} {H H' : Hp} {p : Addr} {ta tb te tx : TE} {t u : TT} {x y z v : V} {r : R2} {P R S : V → Prop} {PI RI SI : Int → Prop} {D : Ends} {tz tu tw : TS} {E : XK}
theorem e1_pure (h : Ev te σ (wo p H) v) (hv : P v) : EvD1 te σ p H P := fun H1 e d Q q => h H1 e Q fun H2 e2 => q v H2 hv (wx_of e2) (d.ex e2)
theorem e1_int {i : Int} (h : Ev te σ (wo p H) (.int i)) (hv : PI i) : EvD1 te σ p H (ZP PI) := e1_pure h ⟨i, rfl, hv⟩
theorem e1_mono (h : EvD1 te σ p H P) (k : ∀ v, P v → R v) : EvD1 te σ p H R := fun H1 e d Q q => h H1 e d Q fun v H2 hv e2 d2 => q v H2 (k v hv) e2 d2
theorem ez_mono (h : EvD1 te σ p H (ZP PI)) (k : ∀ i, PI i → RI i) : EvD1 te σ p H (ZP RI) := e1_mono h fun v ⟨i, e, hi⟩ => ⟨i, e, k i hi⟩
theorem ez_op {C : Int → Int → Prop} {g : Int → Int → Int} (ha : EvD1 ta σ p H (ZP PI)) (hb : EvD1 tb σ p H (ZP RI)) (hc : ∀ i j, PI i → RI j → C i j ∧ SI (g i j)) : EvD1 (tOp (rI C fun i j => .int (g i j)) ta tb) σ p H (ZP SI) := fun H1 e d Q q =>
  ha H1 e d _ fun v H2 ⟨i, ev, hi⟩ e2 d2 => hb H2 (wx_trans e e2) d2 _ fun w H3 ⟨j, ew, hj⟩ e3 d3 => ⟨i, j, ev, ew, (hc i j hi hj).1, q _ H3 ⟨_, rfl, (hc i j hi hj).2⟩ (wx_trans e2 e3) d3⟩
theorem ez_op0 {g : Int → Int → Int} (ha : EvD1 ta σ p H (ZP PI)) (hb : EvD1 tb σ p H (ZP RI)) (hc : ∀ i j, PI i → RI j → SI (g i j)) : EvD1 (tOp (rI0 fun i j => .int (g i j)) ta tb) σ p H (ZP SI) := fun H1 e d Q q =>
  ha H1 e d _ fun v H2 ⟨i, ev, hi⟩ e2 d2 => hb H2 (wx_trans e e2) d2 _ fun w H3 ⟨j, ew, hj⟩ e3 d3 => ⟨i, j, ev, ew, q _ H3 ⟨_, rfl, hc i j hi hj⟩ (wx_trans e2 e3) d3⟩
theorem ez_cmp {g : Int → Int → Bool} (ha : EvD1 ta σ p H (ZP PI)) (hb : EvD1 tb σ p H (ZP RI)) : EvD1 (tOp (rI0 fun i j => .bl (g i j)) ta tb) σ p H (fun v => ∃ b, v = .bl b) := fun H1 e d Q q =>
  ha H1 e d _ fun v H2 ⟨i, ev, hi⟩ e2 d2 => hb H2 (wx_trans e e2) d2 _ fun w H3 ⟨j, ew, hj⟩ e3 d3 => ⟨i, j, ev, ew, q _ H3 ⟨_, rfl⟩ (wx_trans e2 e3) d3⟩
theorem ez_eq (ha : EvD1 ta σ p H (ZP PI)) (hb : EvD1 tb σ p H (ZP RI)) : EvD1 (tOp rEq ta tb) σ p H (fun v => ∃ b, v = .bl b) := fun H1 e d Q q =>
  ha H1 e d _ fun v H2 ⟨i, ev, hi⟩ e2 d2 => hb H2 (wx_trans e e2) d2 _ fun w H3 ⟨j, ew, hj⟩ e3 d3 => by
    subst ev ew
    exact ⟨rfl, q _ H3 ⟨_, rfl⟩ (wx_trans e2 e3) d3⟩
/-- _law_digit(state, m) -/
theorem ez_digit {m : Int} (ha : Ev ta σ (wo p H) (.ref p)) (hb : Ev tb σ (wo p H) (.int m)) (h0 : 0 < m) (h1 : m < 2 ^ 400) : EvD1 (tCall (sp__law_digit K) [] E (tCons ta (tCons tb tNil))) σ p H (ZP fun d => 0 ≤ d ∧ d < m) := fun H1 e d Q q =>
  ha H1 e _ fun H2 e2 => hb H2 (e.trans e2) _ fun H3 e3 => ⟨p, m, rfl, d.ex (e2.trans e3), h0, h1, fun d H4 a b e4 d4 => q _ H4 ⟨d, rfl, a, b⟩ (wx_trans (wx_of (e2.trans e3)) e4) d4⟩
theorem edt_test (h : EvD1 te σ p H (fun v => ∃ b, v = .bl b)) : EvDT (tTest te) σ p H (fun _ => True) := fun H1 e d Q q => h H1 e d _ fun v H2 ⟨b, ev⟩ e2 d2 => ⟨b, ev, q b H2 trivial e2 d2⟩
theorem q1_asg {i : Nat} (h : EvD1 te σ p H P) (d : Dr p H) (k : ∀ v H1, P v → Ex (wo p H) H1 → Dr p H1 → tz D (σ.set i (some v)) H1) : tSeq (tAsg te (gName i)) tz D σ H := h H (wo_le p H) d _ fun v H1 hv e1 d1 => k v H1 hv e1 d1
theorem qz_asg {i : Nat} (h : EvD1 te σ p H (ZP PI)) (d : Dr p H) (k : ∀ (n : Int) H1, PI n → Ex (wo p H) H1 → Dr p H1 → tz D (σ.set i (some (.int n))) H1) : tSeq (tAsg te (gName i)) tz D σ H := q1_asg h d fun v H1 ⟨n, ev, hn⟩ e1 d1 => by
  subst ev
  exact k n H1 hn e1 d1
theorem s1_ret (h : EvD1 te σ p H P) (d : Dr p H) (k : ∀ v H1, P v → Ex (wo p H) H1 → Dr p H1 → D.rt v H1) : tRet te D σ H := h H (wo_le p H) d _ fun v H1 hv e1 d1 => k v H1 hv e1 d1
theorem q1_when (h : EvDT t σ p H (fun _ => True)) (d : Dr p H) (h1 : ∀ H1, Ex (wo p H) H1 → Dr p H1 → tu { D with nx := tz D } σ H1) (h2 : ∀ H1, Ex (wo p H) H1 → Dr p H1 → tz D σ H1) : tSeq (tIfS t tu tNext) tz D σ H := h H (wo_le p H) d _ fun b H1 _ e1 d1 => by
  cases b with
  | true =>
    show tu { D with nx := tz D } σ H1
    exact h1 H1 e1 d1
  | false =>
    show tz D σ H1
    exact h2 H1 e1 d1
/-- _law_cell(script, i), _law_state(cell, k) -/
theorem ec_cell {a : Addr} {ns : List Int} {k : Int} (ha : Ev ta σ H (.ref a)) (hb : Ev tb σ H (.int k)) (hS : SqL K H a (ns.map V.int)) (h0 : 0 ≤ k) : Ev (tCall (sp__law_cell K) [] E (tCons ta (tCons tb tNil))) σ H (.int (ns.getD k.toNat 0)) :=
  ev_call (ea_cons ha (ea_cons hb ea_nil)) fun H1 e Q q E => ⟨a, ns, k, rfl, ex_l e hS, h0, q⟩
theorem ec_state {c k : Int} (ha : Ev ta σ H (.int c)) (hb : Ev tb σ H (.int k)) : EvC (tCall (sp__law_state K) [] E (tCons ta (tCons tb tNil))) σ H := fun H1 e Q q =>
  ha H1 e _ fun H2 e2 => hb H2 (e.trans e2) _ fun H3 e3 => ⟨c, k, rfl, fun p H4 hp e4 d => q p H4 (fresh_back (e2.trans e3) hp) ((e2.trans e3).trans e4) d⟩
theorem q_asgC {i : Nat} (h : EvC te σ H) (k : ∀ p H1, H p = none → Ex H H1 → Dr p H1 → tz D (σ.set i (some (.ref p))) H1) : tSeq (tAsg te (gName i)) tz D σ H := h H (Ex.refl H) _ fun p H1 hp e d => k p H1 hp e d
theorem EvN.mono (e : Ex H H') (h : EvN te σ H P) : EvN te σ H' P := fun H1 a Q q => h H1 (e.trans a) Q q
end
section
variable {P : Program} {w : World} {K : PySem.W.Frag} {mg : Str → Option Value} {base : Heap}
theorem ok__law_cell (D : Dn K mg "_law_cell" s__law_cell ["script", "k"]) (z_len : mg "len" = none) :
    C8.Cal P w K mg base 1 "_law_cell" (sp__law_cell K) [] := by
  refine cal_of D sc__law_cell (fun vs H Q E h => ?_) (fun f cdv A outer s H vs Q E hr h => ?_)
  · obtain ⟨_, _, _, rfl, _⟩ := h
    rfl
  refine ⟨_, (pss_cons (ps_if (pt_cmpR op_lt (pv 1) (pe_callB call_len_seq (by rfl) z_len PySem.boot_len (pa_cons (pv 0) pa_nil)) (nomark _))
      (pss_one (ps_ret (pe_ix ix_list (pv 0) (pv 1) (fun _ _ => rfl))))
      pss_nil)
    (pss_one (ps_ret pe_int))), ?_⟩
  obtain ⟨a, ns, k, rfl, hS, h0, q⟩ := h
  refine q_when (b := decide (k < (((ns.map V.int).length : Nat) : Int))) (et_test (ev_op (ev_var rfl) (ev_len (ev_var rfl) hS) rv_I0)) (fun hb H1 e1 => ?_) fun hb H1 e1 => ?_
  · have hk : k.toNat < ns.length := by
      have := of_decide_eq_true hb
      rw [List.length_map] at this
      omega
    refine s_ret (v := .int (ns.getD k.toNat 0)) (ev_op (ev_var rfl) (ev_var rfl) (rv_ixL (ex_l e1 hS) ?_)) fun H2 e2 => q _ (e1.trans e2)
    obtain ⟨j, rfl⟩ := Int.eq_ofNat_of_zero_le h0
    rw [Int.toNat_natCast] at hk ⊢
    exact atI_nat (by rw [List.getElem?_map, List.getElem?_eq_getElem hk, List.getD_eq_getElem?_getD, List.getElem?_eq_getElem hk]; rfl)
  · have hk : ns.length ≤ k.toNat := by
      have := of_decide_eq_false hb
      rw [List.length_map] at this
      omega
    refine s_ret (v := .int (ns.getD k.toNat 0)) (ev_is ev_c ?_) fun H2 e2 => q _ (e1.trans e2)
    rw [List.getD_eq_getElem?_getD, List.getElem?_eq_none hk]
    rfl
theorem ok__law_state (D : Dn K mg "_law_state" s__law_state ["cell", "k"]) (z_int : mg "int" = none) :
    C8.Cal P w K mg base 1 "_law_state" (sp__law_state K) [] := by
  refine cal_of D sc__law_state (fun vs H Q E h => ?_) (fun f cdv A outer s H vs Q E hr h => ?_)
  · obtain ⟨_, _, rfl, _⟩ := h
    rfl
  refine ⟨_, (pss_cons (ps_if (pt_cmpR op_ge (pv 0) pe_int (nomark _))
      (pss_one (ps_ret (pe_lst (pa_cons (pv 0) pa_nil))))
      pss_nil)
    (pss_cons (ps_set (i := 2) sc__law_state.nd rfl (.inl rfl) pe_int)
    (pss_cons (ps_set (i := 3) sc__law_state.nd rfl (.inl rfl) (pe_op op_mod (pe_callTy call_int1 (by rfl) z_int (by decide +kernel) (pa_cons (pe_op op_add (pe_op op_add (pe_op op_mul (pv 0) pe_int) (pe_op op_mul (pe_op op_add (pv 1) pe_int) pe_int)) pe_int) pa_nil)) (pv 2)))
    (pss_cons (ps_set (i := 4) sc__law_state.nd rfl (.inl rfl) (pe_op op_mod (pe_callTy call_int1 (by rfl) z_int (by decide +kernel) (pa_cons (pe_op op_add (pe_op op_add (pe_op op_mulX (pv 3) (pv 3)) (pe_op op_mul pe_int (pv 3))) (pv 1)) pa_nil)) (pv 2)))
    (pss_cons (ps_set (i := 5) sc__law_state.nd rfl (.inl rfl) (pe_op op_mod (pe_callTy call_int1 (by rfl) z_int (by decide +kernel) (pa_cons (pe_op op_add (pe_op op_add (pe_op op_mul (pv 4) pe_int) (pe_op op_mul (pv 3) pe_int)) pe_int) pa_nil)) (pv 2)))
    (pss_cons (ps_set (i := 6) sc__law_state.nd rfl (.inl rfl) (pe_op op_mod (pe_callTy call_int1 (by rfl) z_int (by decide +kernel) (pa_cons (pe_op op_add (pe_op op_mulX (pv 5) (pv 5)) (pv 4)) pa_nil)) (pv 2)))
    (pss_one (ps_ret (pe_lst (pa_cons (pe_op op_add (pe_op op_mul (pe_op op_add (pe_op op_mul (pe_op op_add (pe_op op_mul (pv 6) (pv 2)) (pv 5)) (pv 2)) (pv 4)) (pv 2)) (pv 3)) pa_nil)))))))))), ?_⟩
  obtain ⟨c, k, rfl, q⟩ := h
  refine q_when (b := decide (c ≥ 1000000000000000000)) (et_test (ev_op (ev_var rfl) ev_c rv_I0)) (fun hb H1 e1 => ?_) fun hb H1 e1 => ?_
  · exact s_retL (el_lst (ea_cons (ev_var rfl) ea_nil) (by show 1 ≤ 100000; decide)) fun p H2 hp e2 h2 => q p H2 (fresh_back e1 hp) (e1.trans e2) ⟨c, by have := of_decide_eq_true hb; omega, h2⟩
  refine q_asg (v := .int 2305843009213693951) ev_c fun H2 e2 => ?_
  have mp : ∀ n : Int, 0 ≤ n % 2305843009213693951 ∧ n % 2305843009213693951 < 2305843009213693951 := fun n => by omega
  have mb : ∀ i j : Int, 0 ≤ i ∧ i < 2305843009213693951 → 0 ≤ j ∧ j < 2305843009213693951 → CMulX i j := fun i j hi hj => mulx_ok (a := 61) (b := 61) (by omega) (by omega) (by decide)
  refine q_asg (v := .int ((c * 6364136223 + (k + 1) * 104729 + 77) % 2305843009213693951)) ?_ fun H3 e3 => ?_
  · exact ev_op (ev_int (ev_op (ev_op (ev_op (ev_var rfl) ev_c (rv_I (.inr ⟨by decide, by decide⟩))) (ev_op (ev_op (ev_var rfl) ev_c rv_I0) ev_c (rv_I (.inr ⟨by decide, by decide⟩))) rv_I0) ev_c rv_I0)) (ev_var rfl) (rv_I (by decide))
  have h1 := mp (c * 6364136223 + (k + 1) * 104729 + 77)
  generalize (c * 6364136223 + (k + 1) * 104729 + 77) % 2305843009213693951 = f1 at *
  refine q_asg (v := .int ((f1 * f1 + 1013 * f1 + k) % 2305843009213693951)) ?_ fun H4 e4 => ?_
  · exact ev_op (ev_int (ev_op (ev_op (ev_op (ev_var rfl) (ev_var rfl) (rv_I (mb _ _ h1 h1))) (ev_op ev_c (ev_var rfl) (rv_I (.inl ⟨by decide, by decide⟩))) rv_I0) (ev_var rfl) rv_I0)) (ev_var rfl) (rv_I (by decide))
  have h2 := mp (f1 * f1 + 1013 * f1 + k)
  generalize (f1 * f1 + 1013 * f1 + k) % 2305843009213693951 = f2 at *
  refine q_asg (v := .int ((f2 * 48271 + f1 * 31 + 9) % 2305843009213693951)) ?_ fun H5 e5 => ?_
  · exact ev_op (ev_int (ev_op (ev_op (ev_op (ev_var rfl) ev_c (rv_I (.inr ⟨by decide, by decide⟩))) (ev_op (ev_var rfl) ev_c (rv_I (.inr ⟨by decide, by decide⟩))) rv_I0) ev_c rv_I0)) (ev_var rfl) (rv_I (by decide))
  have h3 := mp (f2 * 48271 + f1 * 31 + 9)
  generalize (f2 * 48271 + f1 * 31 + 9) % 2305843009213693951 = f3 at *
  refine q_asg (v := .int ((f3 * f3 + f2) % 2305843009213693951)) ?_ fun H6 e6 => ?_
  · exact ev_op (ev_int (ev_op (ev_op (ev_var rfl) (ev_var rfl) (rv_I (mb _ _ h3 h3))) (ev_var rfl) rv_I0)) (ev_var rfl) (rv_I (by decide))
  have h4 := mp (f3 * f3 + f2)
  generalize (f3 * f3 + f2) % 2305843009213693951 = f4 at *
  refine s_retL (xs := [.int (((f4 * 2305843009213693951 + f3) * 2305843009213693951 + f2) * 2305843009213693951 + f1)]) (el_lst (ea_cons ?_ ea_nil) (by show 1 ≤ 100000; decide)) fun p H7 hp e7 h7 => ?_
  · exact ev_op (ev_op (ev_op (ev_op (ev_op (ev_op (ev_var rfl) (ev_var rfl) (rv_I (.inr ⟨by decide, by decide⟩))) (ev_var rfl) rv_I0) (ev_var rfl) (rv_I (.inr ⟨by decide, by decide⟩))) (ev_var rfl) rv_I0) (ev_var rfl) (rv_I (.inr ⟨by decide, by decide⟩))) (ev_var rfl) rv_I0
  have x6 := ((((e1.trans e2).trans e3).trans e4).trans e5).trans e6
  exact q p H7 (fresh_back x6 hp) (x6.trans e7) ⟨_, by omega, h7⟩
theorem ok__law_digit (D : Dn K mg "_law_digit" s__law_digit ["state", "many"]) (z_int : mg "int" = none) :
    C8.Cal P w K mg base 1 "_law_digit" (sp__law_digit K) [] := by
  refine cal_of D sc__law_digit (fun vs H Q E h => ?_) (fun f cdv A outer s H vs Q E hr h => ?_)
  · obtain ⟨_, _, rfl, _⟩ := h
    rfl
  refine ⟨_, (pss_cons (ps_set (i := 2) sc__law_digit.nd rfl (.inl rfl) (pe_op op_mod (pe_callTy call_int1 (by rfl) z_int (by decide +kernel) (pa_cons (pe_ix ix_list (pv 0) pe_int (fun _ _ => rfl)) pa_nil)) (pv 1)))
    (pss_cons (ps_asg (pe_op op_fdivW (pe_ix ix_list (pv 0) pe_int (fun _ _ => rfl)) (pv 1)) (pg_sub (pv 0) pe_int set_list))
    (pss_one (ps_ret (pv 2))))), ?_⟩
  obtain ⟨p, m, rfl, ⟨s, s0, hp⟩, m0, m1, q⟩ := h
  refine q_asg (v := .int (s % m)) (ev_op (ev_int (ev_op (ev_var rfl) ev_c (rv_ixL (sq_of hp) rfl))) (ev_var rfl) (rv_I m0)) fun H1 e1 => ?_
  refine q_setL (v := .int (s / m)) (j := 0) (e1 _ _ hp) (ev_op (ev_op (ev_var rfl) ev_c (rv_ixL (sq_of (e1 _ _ hp)) rfl)) (ev_var rfl) (rv_I (wide_div (b := 400) m0 (by omega) (by decide) (by decide)))) (ev_var rfl) ev_c (by show 0 < 1; decide) fun H2 e2 => ?_
  exact s_ret (ev_var rfl) fun H3 e3 => q (s % m) H3 (Int.emod_nonneg _ (by omega)) (Int.emod_lt_of_pos _ m0) ((Ex.mut ((wo_le p H).trans (e1.trans e2)) (wo_self p H)).trans e3) ⟨s / m, Int.ediv_nonneg s0 (by omega), e3 _ _ upd_same⟩
end
theorem tx_lst {K : PySem.W.Frag} {H : Hp} {a : Addr} {xs : List V} (h : H a = some (.lst xs)) : ∀ H1, Ex H H1 → TyX K H1 (.ref a) (.type "list") := fun H1 e => .base (.lst (e _ _ h))
def Al2 {α : Type} (R : Hp → Addr → α → Prop) (H : Hp) (qs : List Addr) (L : List α) : Prop := qs.length = L.length ∧ ∀ (i : Nat) q l, qs[i]? = some q → L[i]? = some l → R H q l
def Lst2 {α : Type} (R : Hp → Addr → α → Prop) (H : Hp) (p : Addr) (L : List α) : Prop := ∃ qs, H p = some (.lst (qs.map V.ref)) ∧ Al2 R H qs L
section
variable {α : Type} {R S : Hp → Addr → α → Prop} {H H' : Hp} {qs : List Addr} {L : List α}
theorem Al2.nil : Al2 R H [] [] := ⟨rfl, fun i q l h => by simp at h⟩
theorem Al2.mono (h : Al2 R H qs L) (k : ∀ q l, l ∈ L → R H q l → S H' q l) : Al2 S H' qs L := ⟨h.1, fun i q l a b => k q l (List.mem_of_getElem? b) (h.2 i q l a b)⟩
end
theorem Lst2.mono {α : Type} {R : Hp → Addr → α → Prop} {H H' : Hp} {p : Addr} {L : List α} (h : Lst2 R H p L) (e : Ex H H') (k : ∀ q l, R H q l → R H' q l) : Lst2 R H' p L := by
  obtain ⟨qs, h1, h2⟩ := h
  exact ⟨qs, e _ _ h1, h2.mono fun q l _ => k q l⟩
def signsL : List Nat := (PySem.Str.ofString " !\"#$&'()*+,-./0123456789:;<=>?@ABCDEFGHIJKLMNOPQRSTUVWXYZ[\\]^_`abcdefghijklmnopqrstuvwxyz{|}~").cps.toList
theorem signs_ok : ∀ c ∈ signsL, 32 ≤ c ∧ c ≤ 126 := by decide +kernel
theorem join_ones : ∀ l : List Nat, Txt.join (SX.S []) (l.map fun c => (⟨#[c]⟩ : Str)) = SX.S l := by
  intro l
  have e : (l.map fun c => (⟨#[c]⟩ : Str)) = (l.map fun c => [c]).map SX.S := by
    rw [List.map_map]
    rfl
  rw [e, SX.join_S]
  congr 1
  induction l with
  | nil => rfl
  | cons c r ih =>
    cases r with
    | nil => rfl
    | cons d r => 
      have e2 : TL.joinL [] (List.map (fun c => [c]) (c :: d :: r)) = c :: TL.joinL [] (List.map (fun c => [c]) (d :: r)) := rfl
      rw [e2, ih (by rw [List.map_map]; rfl)]
def fewS : List Nat := (PySem.Str.ofString "abAB 19-'~").cps.toList
theorem fewS_len : fewS.length = 10 := by decide +kernel
theorem fewS_S : PySem.Str.ofString "abAB 19-'~" = SX.S fewS := by decide +kernel
theorem fewS_in : ∀ c ∈ fewS, c ∈ signsL := by decide +kernel
def EvLD1 (te : TE) (σ : L2.St) (p : Addr) (H : Hp) (P : List V → Prop) : Prop := ∀ H1, Ex (wo p H) H1 → Dr p H1 → ∀ Q : VK, (∀ l H2 xs, P xs → H1 l = none → Ex (wo p H1) H2 → Dr p H2 → H2 l = some (.lst xs) → Q (.ref l) H2) → te σ H1 Q
theorem dr_ne {p l : Addr} {H : Hp} (d : Dr p H) (h : H l = none) : p ≠ l := fun z => by
  obtain ⟨s, _, e⟩ := d
  rw [z, h] at e
  cases e
theorem Dr.upd {p l : Addr} {H : Hp} {o : HO} (d : Dr p H) (h : p ≠ l) : Dr p (upd H l o) := by
  obtain ⟨s, s0, e⟩ := d
  exact ⟨s, s0, by rw [upd_ne h]; exact e⟩
section
variable {K : PySem.W.Frag} {σ : L2.St} {H : Hp} {p : Addr} {ta tb te tn : TE} {R : V → Prop} {PI : Int → Prop} {D : Ends} {tz : TS}
/-- [what is drawn for k in range(a number that is drawn)] -/
theorem e1_lc {j : Nat} {vs : List Nat} {m : Int} (hn : EvD1 tn σ p H (ZP fun n => 0 ≤ n ∧ n ≤ m)) (hm : m ≤ 10000) (hw : ∀ x, wipe ((wipe σ vs).set j (some x)) vs = wipe σ vs)
    (he : ∀ i : Nat, EvD1 te ((wipe σ vs).set j (some (.int (i : Int)))) p H R) : EvLD1 (tLc (iRng1 (tCons tn tNil)) (gName j) tYes te vs) σ p H (fun xs => (xs.length : Int) ≤ m ∧ ∀ x ∈ xs, R x) := fun H0 e d Q q =>
  hn H0 e d _ fun v H1 ⟨n, ev, hn0, hn1⟩ e1 d1 => by
    subst ev
    refine ⟨n, rfl, by omega, by omega, fun Dl hD => ?_⟩
    have hpd : p ≠ Dl := dr_ne d1 hD
    refine lc_range (lo := 0) (n := n.toNat) (fun i H' => Ex (wo p H1) H' ∧ Dr p H' ∧ ∃ acc, H' Dl = some (.lst acc) ∧ acc.length = i ∧ ∀ x ∈ acc, R x) ⟨Ex.mut (wo_le p H1) (by rw [wo_ne (Ne.symm hpd)]; exact hD), d1.upd hpd, [], upd_same, rfl, fun x hx => by cases hx⟩ (fun i H' hi pv => ?_) (fun H' pv => ?_)
    · obtain ⟨p1, p2, acc, p3, p4, p5⟩ := pv
      have e0 : (0 : Int) + (i : Int) = (i : Int) := Int.zero_add _
      show wipe ((wipe σ vs).set j (some (.int ((0 : Int) + (i : Int))))) vs = wipe σ vs ∧ te ((wipe σ vs).set j (some (.int ((0 : Int) + (i : Int))))) H' fun y H4 => ∃ acc, H4 Dl = some (.lst acc) ∧ acc.length < sizeLine ∧ _
      rw [e0]
      refine ⟨hw _, he i H' (wx_trans e (wx_trans e1 p1)) p2 _ fun y H4 hy e4 d4 => ?_⟩
      refine ⟨acc, e4 Dl _ (by rw [wo_ne (Ne.symm hpd)]; exact p3), sz_lt (by omega), Ex.mut (wx_trans p1 e4) (by rw [wo_ne (Ne.symm hpd)]; exact hD), d4.upd hpd, acc ++ [y], upd_same, by rw [List.length_append, p4]; rfl, fun x hx => ?_⟩
      rcases List.mem_append.mp hx with h | h
      · exact p5 x h
      · rw [List.mem_singleton.mp h]
        exact hy
    · obtain ⟨p1, p2, acc, p3, p4, p5⟩ := pv
      have hD0 : H0 Dl = none := by
        cases z : H0 Dl with
        | none => rfl
        | some o =>
          have := e1 Dl o (by rw [wo_ne (Ne.symm hpd)]; exact z)
          rw [hD] at this
          cases this
      exact q Dl H' acc ⟨by omega, p5⟩ hD0 (wx_trans e1 p1) p2 p3
def oneS (L : List Nat) (v : V) : Prop := ∃ c, v = .str ⟨#[c]⟩ ∧ c ∈ L
theorem ones_of {L : List Nat} : ∀ {xs : List V}, (∀ x ∈ xs, oneS L x) → ∃ l : List Nat, xs = l.map (fun c => V.str ⟨#[c]⟩) ∧ ∀ c ∈ l, c ∈ L
  | [], _ => ⟨[], rfl, fun c hc => by cases hc⟩
  | x :: r, h => by
    obtain ⟨l, e, hl⟩ := ones_of (xs := r) fun y hy => h y (List.mem_cons_of_mem _ hy)
    obtain ⟨c, ec, hc⟩ := h x List.mem_cons_self
    refine ⟨c :: l, by rw [ec, e]; rfl, fun y hy => ?_⟩
    rcases List.mem_cons.mp hy with z | z
    · rw [z]; exact hc
    · exact hl y z
def txtP (L : List Nat) (m : Nat) (v : V) : Prop := ∃ l : List Nat, v = .str (SX.S l) ∧ l.length ≤ m ∧ ∀ c ∈ l, c ∈ L
/-- ''.join(a list of single signs) -/
theorem e1_join {L : List Nat} {m : Nat} (hm : m ≤ 10000) (h : EvLD1 te σ p H (fun xs => (xs.length : Int) ≤ (m : Int) ∧ ∀ x ∈ xs, oneS L x)) : EvD1 (tM1 (fun x xs H Q => ∃ a p, ∃ ys : List Str, x = .str a ∧ xs = [.ref p] ∧ (SqL K H p (ys.map V.str) ∨ SqT K H p (ys.map V.str)) ∧
      (ys.map (·.length)).sum + ys.length * a.length ≤ 16777216 ∧ Q (.str (Txt.join a ys)) H) (tC (.str (PySem.Str.ofString ""))) te) σ p H (txtP L m) := fun H1 e d Q q => by
  refine ⟨⟨_, rfl⟩, h H1 e d _ fun l H2 xs hP hl e2 d2 h2 => ?_⟩
  obtain ⟨hlen, hxs⟩ := hP
  obtain ⟨w, rfl, hw⟩ := ones_of hxs
  rw [List.length_map] at hlen
  have hw2 : w.length ≤ m := by omega
  refine ⟨SX.S [], l, w.map fun c => (⟨#[c]⟩ : Str), by rw [c00], rfl, .inl (sq_of ?_), ?_, ?_⟩
  · rw [h2, List.map_map]
    rfl
  · have e9 : (w.map fun c => (⟨#[c]⟩ : Str)).map (·.length) = List.replicate w.length 1 := by
      rw [List.map_map, List.eq_replicate_iff]
      refine ⟨by rw [List.length_map], fun b hb => ?_⟩
      obtain ⟨c, _, rfl⟩ := List.mem_map.mp hb
      rfl
    rw [e9, List.sum_replicate_nat, List.length_map]
    show w.length * 1 + w.length * 0 ≤ _
    omega
  · rw [join_ones]
    exact q _ H2 ⟨w, rfl, hw2, hw⟩ e2 d2
/-- signs[_law_digit(state, m)] -/
theorem e1_sign {L : List Nat} {m : Int} {E : XK} {i : Nat} (hs : σ[i]? = some (some (.str (SX.S L)))) (hL : (L.length : Int) = m) (h0 : 0 < m) (hm : m ≤ 1000) (ha : Ev ta σ (wo p H) (.ref p)) (hb : Ev tb σ (wo p H) (.int m)) : EvD1 (tOp rIxS (tVar i) (tCall (sp__law_digit K) [] E (tCons ta (tCons tb tNil)))) σ p H (oneS L) := fun H1 e d Q q =>
  ⟨.str (SX.S L), hs, ez_digit ha hb h0 (by omega) H1 e d _ fun v H2 ⟨n, ev, n0, n1⟩ e2 d2 => by
    subst ev
    obtain ⟨k, rfl⟩ := Int.eq_ofNat_of_zero_le n0
    have hk : k < L.length := by omega
    exact ⟨SX.S L, (k : Int), L[k], rfl, rfl, by rw [SX.S_len]; exact sz_of (by omega), atI_nat (List.getElem?_eq_getElem hk), q _ H2 ⟨L[k], rfl, List.getElem_mem hk⟩ e2 d2⟩⟩
end
/-- a value that is drawn -/
inductive DV : V → Prop where
  | non : DV .non
  | bl (b : Bool) : DV (.bl b)
  | int (i : Int) (h : -1000000000000000 ≤ i ∧ i ≤ 1000000000000000) : DV (.int i)
  | str (l : List Nat) (h : l.length ≤ 4) (hc : ∀ c ∈ l, c ∈ signsL) : DV (.str (SX.S l))
theorem DV.pl {x : V} (h : DV x) : Pl x := by cases h <;> constructor
def sp__law_text (K : PySem.W.Frag) : Sp := fun vs H Q _ => ∃ p : Addr, vs = [.ref p] ∧ Dr p H ∧ ∀ v H', txtP signsL 4 v → Ex (wo p H) H' → Dr p H' → Q v H'
def sp__law_value (K : PySem.W.Frag) : Sp := fun vs H Q _ => ∃ p : Addr, vs = [.ref p] ∧ Dr p H ∧ ∀ v H', DV v → Ex (wo p H) H' → Dr p H' → Q v H'
section
variable {P : Program} {w : World} {K : PySem.W.Frag} {mg : Str → Option Value} {base : Heap}
theorem ok__law_text (D : Dn K mg "_law_text" s__law_text ["state"]) (c__law_digit : C8.Cal P w K mg base 1 "_law_digit" (sp__law_digit K) []) (z_range : mg "range" = none) :
    C8.Cal P w K mg base 2 "_law_text" (sp__law_text K) [] := by
  refine cal_of D sc__law_text (fun vs H Q E h => ?_) (fun f cdv A outer s H vs Q E hr h => ?_)
  · obtain ⟨_, rfl, _⟩ := h
    rfl
  refine ⟨_, (pss_cons (ps_set (i := 1) sc__law_text.nd rfl (.inr rfl) pe_str)
    (pss_one (ps_ret (pe_join pe_str (pe_lc (own := [("k", 2)]) (g := gName 2) (tt := tYes) rfl sc__law_text.nd (pi_range1 rfl z_range (pa_cons (C8.pe_c c__law_digit hr (by decide) (by rfl) (pa_cons (pv 0) (pa_cons pe_int pa_nil))) pa_nil)) (blkOk_by (N := n__law_text) (sc := C8.fnScope s__law_text) (by decide +kernel)) (fun _ _ _ _ _ => pg_name (i := 2) sc__law_text.nd rfl (Or.inl rfl)) (fun _ _ _ _ _ => pts_nil) (fun _ _ _ _ _ => (pe_ix ix_str (pv 1) (C8.pe_c c__law_digit hr (by decide) (by rfl) (pa_cons (pv 0) (pa_cons pe_int pa_nil))) (fun _ _ => rfl)))))))), ?_⟩
  obtain ⟨p, rfl, d, q⟩ := h
  refine q_asg (v := .str (SX.S fewS)) (ev_is ev_c (by rw [fewS_S])) fun H1 e1 => ?_
  refine s1_ret (P := txtP fewS 4) (e1_join (by decide) (e1_lc (m := 4) (ez_mono (ez_digit (ev_var rfl) ev_c (by decide) (by decide)) fun i hi => by omega) (by decide) (fun _ => rfl) fun i => e1_sign rfl (by rw [fewS_len]; rfl) (by decide) (by decide) (ev_var rfl) ev_c)) (d.ex e1) fun v H2 hv e2 d2 => ?_
  obtain ⟨l, rfl, hl, hc⟩ := hv
  exact q _ H2 ⟨l, rfl, hl, fun c h => fewS_in c (hc c h)⟩ (wx_trans (wx_of e1) e2) d2
section
variable {σ : L2.St} {H : Hp} {ta : TE} {E : XK} {p : Addr}
theorem e1_text (ha : Ev ta σ (wo p H) (.ref p)) : EvD1 (tCall (sp__law_text K) [] E (tCons ta tNil)) σ p H (txtP signsL 4) := fun H1 e d Q q =>
  ha H1 e _ fun H2 e2 => ⟨p, rfl, d.ex e2, fun v H3 hv e3 d3 => q v H3 hv (wx_trans (wx_of e2) e3) d3⟩
theorem e1_value (ha : Ev ta σ (wo p H) (.ref p)) : EvD1 (tCall (sp__law_value K) [] E (tCons ta tNil)) σ p H DV := fun H1 e d Q q =>
  ha H1 e _ fun H2 e2 => ⟨p, rfl, d.ex e2, fun v H3 hv e3 d3 => q v H3 hv (wx_trans (wx_of e2) e3) d3⟩
end
theorem ok__law_value (D : Dn K mg "_law_value" s__law_value ["state"]) (c__law_digit : C8.Cal P w K mg base 1 "_law_digit" (sp__law_digit K) []) (c__law_text : C8.Cal P w K mg base 2 "_law_text" (sp__law_text K) []) :
    C8.Cal P w K mg base 3 "_law_value" (sp__law_value K) [] := by
  refine cal_of D sc__law_value (fun vs H Q E h => ?_) (fun f cdv A outer s H vs Q E hr h => ?_)
  · obtain ⟨_, rfl, _⟩ := h
    rfl
  refine ⟨_, (pss_cons (ps_set (i := 1) sc__law_value.nd rfl (.inl rfl) (C8.pe_c c__law_digit hr (by decide) (by rfl) (pa_cons (pv 0) (pa_cons pe_int pa_nil))))
    (pss_cons (ps_if (pt_cmpR op_lt (pv 1) pe_int (nomark _))
      (pss_one (ps_ret pe_non))
      pss_nil)
    (pss_cons (ps_if (pt_cmpR op_eq (pv 1) pe_int (nomark _))
      (pss_one (ps_ret (pe_cmpR op_eq (C8.pe_c c__law_digit hr (by decide) (by rfl) (pa_cons (pv 0) (pa_cons pe_int pa_nil))) pe_int (nomark _))))
      pss_nil)
    (pss_cons (ps_if (pt_cmpR op_lt (pv 1) pe_int (nomark _))
      (pss_one (ps_ret (pe_op op_sub (C8.pe_c c__law_digit hr (by decide) (by rfl) (pa_cons (pv 0) (pa_cons pe_int pa_nil))) pe_int)))
      pss_nil)
    (pss_cons (ps_if (pt_cmpR op_eq (pv 1) pe_int (nomark _))
      (pss_one (ps_ret (pe_op op_mul (pe_op op_sub (pe_op op_mul (C8.pe_c c__law_digit hr (by decide) (by rfl) (pa_cons (pv 0) (pa_cons pe_int pa_nil))) pe_int) pe_int) (pe_op op_sub pe_int (C8.pe_c c__law_digit hr (by decide) (by rfl) (pa_cons (pv 0) (pa_cons pe_int pa_nil)))))))
      pss_nil)
    (pss_one (ps_ret (C8.pe_c c__law_text hr (by decide) (by rfl) (pa_cons (pv 0) pa_nil))))))))), ?_⟩
  obtain ⟨p, rfl, d, q⟩ := h
  refine qz_asg (ez_digit (ev_var rfl) ev_c (by decide) (by decide)) d fun kd H1 hk e1 d1 => ?_
  have w2 : ∀ {H2 : Hp}, Ex H1 H2 → Ex (wo p H) H2 := fun e => wx_trans e1 (wx_of e)
  refine q_when (b := decide (kd < 2)) (by walk_at "et") (fun _ H2 e2 => s_ret ev_c fun H3 e3 => q _ H3 .non (w2 (e2.trans e3)) (d1.ex (e2.trans e3))) fun _ H2 e2 => ?_
  have dg : ∀ {m : Int} {σ : L2.St} {H0 : Hp}, σ[0]? = some (some (V.ref p)) → 0 < m → m < 2 ^ 400 → EvD1 (tCall (sp__law_digit K) [] C8.E0 (tCons (tVar 0) (tCons (tC (.int m)) tNil))) σ p H0 (ZP fun d => 0 ≤ d ∧ d < m) := fun h0 a b => ez_digit (ev_var h0) ev_c a b
  have cc : ∀ {c : Int} {σ : L2.St} {H0 : Hp}, EvD1 (tC (.int c)) σ p H0 (ZP fun d => d = c) := e1_int ev_c rfl
  refine q_when (b := decide (V.int kd = V.int 2)) (by walk_at "et") (fun _ H3 e3 => ?_) fun _ H3 e3 => ?_
  · refine s1_ret (P := fun v => ∃ b, v = .bl b) (ez_eq (dg rfl (by decide) (by decide)) cc) (d1.ex (e2.trans e3)) fun v H4 hv e4 d4 => ?_
    obtain ⟨b, rfl⟩ := hv
    exact q _ H4 (.bl b) (wx_trans (w2 (e2.trans e3)) e4) d4
  have x3 := e2.trans e3
  refine q_when (b := decide (kd < 5)) (by walk_at "et") (fun _ H4 e4 => ?_) fun _ H4 e4 => ?_
  · refine s1_ret (P := ZP fun i => -3 ≤ i ∧ i < 4) (ez_op0 (dg rfl (by decide) (by decide)) cc fun i j hi hj => ⟨by omega, by omega⟩) (d1.ex (x3.trans e4)) fun v H5 hv e5 d5 => ?_
    obtain ⟨i, rfl, hi⟩ := hv
    exact q _ H5 (.int i (by omega)) (wx_trans (w2 (x3.trans e4)) e5) d5
  refine q_when (b := decide (V.int kd = V.int 5)) (by walk_at "et") (fun _ H5 e5 => ?_) fun _ H5 e5 => ?_
  · refine s1_ret (P := ZP fun i => -1000000000000000 ≤ i ∧ i ≤ 1000000000000000) ?_ (d1.ex ((x3.trans e4).trans e5)) fun v H6 hv e6 d6 => ?_
    · refine ez_op (PI := fun i => i = -1 ∨ i = 1) (RI := fun j => 0 ≤ j ∧ j ≤ 1000000000000000) (ez_op0 (PI := fun i => i = 0 ∨ i = 2) (ez_op (dg rfl (by decide) (by decide)) cc fun i j hi hj => ⟨.inl ⟨by omega, by omega⟩, by subst hj; omega⟩) cc fun i j hi hj => by omega) (ez_op0 cc (dg rfl (by decide) (by decide)) fun i j hi hj => ⟨by omega, by omega⟩) fun i j hi hj => ⟨.inl ⟨by omega, by omega⟩, ?_⟩
      rcases hi with h | h <;> subst h <;> omega
    · obtain ⟨i, rfl, hi⟩ := hv
      exact q _ H6 (.int i hi) (wx_trans (w2 ((x3.trans e4).trans e5)) e6) d6
  · refine s1_ret (e1_text (ev_var rfl)) (d1.ex ((x3.trans e4).trans e5)) fun v H6 hv e6 d6 => ?_
    obtain ⟨l, rfl, hl, hc⟩ := hv
    exact q _ H6 (.str l hl hc) (wx_trans (w2 ((x3.trans e4).trans e5)) e6) d6
end
def kr : V → Int
  | .non => 0
  | .bl _ => 1
  | .int _ => 2
  | _ => 3
def payV : V → V
  | .non => .int 0
  | .bl b => .int (if b then 1 else 0)
  | x => x
def rkL (x : V) : List V := [.int (kr x), payV x]
def payD : V → PyData
  | .non => .int 0
  | .bl b => .int (if b then 1 else 0)
  | .int i => .int i
  | .str s => .str s
  | _ => .none
def rkDs (x : V) : List PyData := [.int (kr x), payD x]
def rkD (x : V) : PyData := .tuple (rkDs x)
/-- plain, and its signs are signs -/
inductive Ok : V → Prop where
  | non : Ok .non
  | bl (b : Bool) : Ok (.bl b)
  | int (i : Int) : Ok (.int i)
  | str (s : Str) (h : PyData.strOk s = true) : Ok (.str s)
theorem Ok.pl {x : V} (h : Ok x) : Pl x := by cases h <;> constructor
theorem strOk_S {l : List Nat} (h : ∀ c ∈ l, 32 ≤ c ∧ c ≤ 126) : PyData.strOk (SX.S l) = true := by
  unfold PyData.strOk
  rw [Array.all_eq_true']
  intro c hc
  have := h c (by simpa using hc)
  exact decide_eq_true (by omega)
theorem dp_pay {K : PySem.W.Frag} {H : Hp} {x : V} (h : Ok x) : Dp K H (payV x) (payD x) := by
  cases h with
  | non => exact .int 0
  | bl b => exact .int _
  | int i => exact .int i
  | str s _ => exact .str s
theorem dp_rks {K : PySem.W.Frag} {H : Hp} {x : V} (h : Ok x) : DpAll K H (rkL x) (rkDs x) := .cons (.int _) (.cons (dp_pay h) .nil)
theorem lay_rk {x : V} (h : Ok x) : (rkD x).canLay0 = true := by
  cases h with
  | non => rfl
  | bl b => rfl
  | int i => rfl
  | str s hs =>
    show (true && (PyData.strOk s && true)) = true
    rw [hs]
    rfl
theorem dep_rk {x : V} (h : Ok x) : (rkD x).depth = 1 := by cases h <;> rfl
theorem shaped_rk {x : V} (h : Ok x) : SeqAt.shaped (rkD x) = true := by
  unfold SeqAt.shaped
  rw [lay_rk h, dep_rk h]
  rfl
theorem ord_rk {x y : V} (hx : Ok x) (hy : Ok y) : ordD (rkD x) (rkD y) = true := by
  have step : ∀ (a b : Int) (p q : PyData), (a = b → ordD p q = true) → ordD (.tuple [.int a, p]) (.tuple [.int b, q]) = true := by
    intro a b p q h
    rw [ordD, ordDs]
    split
    · rename_i e
      rw [ordDs]
      split
      · rfl
      · exact h (beq_iff_eq.mp (show (a == b) = true from e))
    · rfl
  refine step _ _ _ _ fun e => ?_
  cases hx <;> cases hy <;> first | rfl | (simp [kr] at e)
def sp_kind_rank (K : PySem.W.Frag) : Sp := fun vs H Q _ => ∃ x : V, vs = [x] ∧ Ok x ∧ ∀ H', Ex H H' → Q (.int (kr x)) H'
def sp_is_integer (K : PySem.W.Frag) : Sp := fun vs H Q _ => ∃ x : V, vs = [x] ∧ Pl x ∧ ∀ H', Ex H H' → Q (.bl (isInt x)) H'
def sp_rank (K : PySem.W.Frag) : Sp := fun vs H Q _ => ∃ x : V, vs = [x] ∧ Ok x ∧ ∀ p H', H p = none → Ex H H' → H' p = some (.tup (rkL x)) → Q (.ref p) H'
def sp_same (K : PySem.W.Frag) : Sp := fun vs H Q _ => ∃ x y : V, vs = [x, y] ∧ Ok x ∧ Ok y ∧ ∀ H', Ex H H' → Q (.bl (PyData.eqv (rkD x) (rkD y))) H'
def sp_before (K : PySem.W.Frag) : Sp := fun vs H Q _ => ∃ x y : V, vs = [x, y] ∧ Ok x ∧ Ok y ∧ ∀ H', Ex H H' → Q (.bl (ltD (rkD x) (rkD y))) H'
section
variable {P : Program} {w : World} {K : PySem.W.Frag} {mg : Str → Option Value} {base : Heap}
section
variable {σ : L2.St} {H : Hp} {ta tb tc : TE} {E : XK} {x y : V}
theorem ec_isint0 (ha : Ev ta σ H x) (h : Pl x) : Ev (tCall (sp_is_integer K) [] E (tCons ta tNil)) σ H (.bl (isInt x)) := ev_call (ea_cons ha ea_nil) fun H1 e Q q E => ⟨x, rfl, h, q⟩
theorem ec_kr (ha : Ev ta σ H x) (h : Ok x) : Ev (tCall (sp_kind_rank K) [] E (tCons ta tNil)) σ H (.int (kr x)) := ev_call (ea_cons ha ea_nil) fun H1 e Q q E => ⟨x, rfl, h, q⟩
theorem ec_rank (ha : Ev ta σ H x) (h : Ok x) : EvU (tCall (sp_rank K) [] E (tCons ta tNil)) σ H (rkL x) := eu_call (ea_cons ha ea_nil) fun H1 e Q q E => ⟨x, rfl, h, q⟩
theorem ud_rk (h : EvU ta σ H (rkL x)) (hx : Ok x) : EvUD K ta σ H (rkDs x) := fun H1 e Q q => h H1 e _ fun p H2 hp e2 h2 => q p H2 _ hp e2 h2 (dp_rks hx)
theorem ed_rk (h : EvU ta σ H (rkL x)) (hx : Ok x) : EvD K ta σ H (rkD x) := ed_tupU (ud_rk h hx)
theorem ec_same (ha : Ev ta σ H x) (hb : Ev tb σ H y) (h1 : Ok x) (h2 : Ok y) : Ev (tCall (sp_same K) [] E (tCons ta (tCons tb tNil))) σ H (.bl (PyData.eqv (rkD x) (rkD y))) := ev_call (ea_cons ha (ea_cons hb ea_nil)) fun H1 e Q q E => ⟨x, y, rfl, h1, h2, q⟩
theorem ec_before (ha : Ev ta σ H x) (hb : Ev tb σ H y) (h1 : Ok x) (h2 : Ok y) : Ev (tCall (sp_before K) [] E (tCons ta (tCons tb tNil))) σ H (.bl (ltD (rkD x) (rkD y))) := ev_call (ea_cons ha (ea_cons hb ea_nil)) fun H1 e Q q E => ⟨x, y, rfl, h1, h2, q⟩
end
theorem ok_kind_rank (D : Dn K mg "kind_rank" s_kind_rank ["value"]) (z_bool : mg "bool" = none) (z_int : mg "int" = none) (z_isinstance : mg "isinstance" = none) :
    C8.Cal P w K mg base 1 "kind_rank" (sp_kind_rank K) [] := by
  refine cal_of D sc_kind_rank (fun vs H Q E h => ?_) (fun f cdv A outer s H vs Q E hr h => ?_)
  · obtain ⟨_, rfl, _⟩ := h
    rfl
  refine ⟨_, (pss_cons (ps_if (pt_cmpR op_isN (pv 0) pe_non (nomark _))
      (pss_one (ps_ret pe_int))
      pss_nil)
    (pss_cons (ps_if (pt_val (pe_callB call_isi (by rfl) z_isinstance (by decide +kernel) (pa_cons (pv 0) (pa_cons (pe_bltn (v := .ty "bool") (u := .type "bool") rfl z_bool (by decide +kernel) rfl) pa_nil))))
      (pss_one (ps_ret pe_int))
      pss_nil)
    (pss_cons (ps_if (pt_val (pe_callB call_isi (by rfl) z_isinstance (by decide +kernel) (pa_cons (pv 0) (pa_cons (pe_bltn (v := .ty "int") (u := .type "int") rfl z_int (by decide +kernel) rfl) pa_nil))))
      (pss_one (ps_ret pe_int))
      pss_nil)
    (pss_one (ps_ret pe_int))))), ?_⟩
  obtain ⟨x, rfl, hx, q⟩ := h
  refine q_when (b := decide (x = .non)) (by walk_at "et") (fun hb H1 e1 => s_ret (v := .int (kr x)) ?_ fun H2 e2 => q _ (e1.trans e2)) fun hb H1 e1 => ?_
  · rw [of_decide_eq_true hb]
    exact ev_c
  cases hx with
  | non => exact absurd hb (by decide)
  | bl b => exact q_when (b := true) (et_B (ev_isiP (ev_var rfl) (.bl b) (by show kitB "bool" "bool" = some true; decide +kernel))) (fun _ H2 e2 => s_ret ev_c fun H3 e3 => q _ ((e1.trans e2).trans e3)) fun hb => nomatch hb
  | int i => exact q_when (b := false) (et_B (ev_isiP (ev_var rfl) (.int i) (by show kitB "int" "bool" = some false; decide +kernel))) (fun hb => nomatch hb) fun _ H2 e2 => q_when (b := true) (et_B (ev_isiP (ev_var rfl) (.int i) (by show kitB "int" "int" = some true; decide +kernel))) (fun _ H3 e3 => s_ret ev_c fun H4 e4 => q _ (((e1.trans e2).trans e3).trans e4)) fun hb => nomatch hb
  | str s hs => exact q_when (b := false) (et_B (ev_isiP (ev_var rfl) (.str s) (by show kitB "str" "bool" = some false; decide +kernel))) (fun hb => nomatch hb) fun _ H2 e2 => q_when (b := false) (et_B (ev_isiP (ev_var rfl) (.str s) (by show kitB "str" "int" = some false; decide +kernel))) (fun hb => nomatch hb) fun _ H3 e3 => s_ret ev_c fun H4 e4 => q _ (((e1.trans e2).trans e3).trans e4)
theorem ok_is_integer (D : Dn K mg "is_integer" s_is_integer ["value"]) (z_bool : mg "bool" = none) (z_int : mg "int" = none) (z_isinstance : mg "isinstance" = none) :
    C8.Cal P w K mg base 1 "is_integer" (sp_is_integer K) [] := by
  refine cal_of D sc_is_integer (fun vs H Q E h => ?_) (fun f cdv A outer s H vs Q E hr h => ?_)
  · obtain ⟨_, rfl, _⟩ := h
    rfl
  refine ⟨_, (pss_one (ps_ret (pe_and (pe_callB call_isi (by rfl) z_isinstance (by decide +kernel) (pa_cons (pv 0) (pa_cons (pe_bltn (v := .ty "int") (u := .type "int") rfl z_int (by decide +kernel) rfl) pa_nil))) (pe_one (pe_not (pe_callB call_isi (by rfl) z_isinstance (by decide +kernel) (pa_cons (pv 0) (pa_cons (pe_bltn (v := .ty "bool") (u := .type "bool") rfl z_bool (by decide +kernel) rfl) pa_nil)))))))), ?_⟩
  obtain ⟨x, rfl, hx, q⟩ := h
  exact s_ret (ev_isInt (ev_var rfl) (ev_var rfl) hx) fun H2 e2 => q _ e2
theorem ok_rank (D : Dn K mg "rank" s_rank ["value"]) (c_kind_rank : C8.Cal P w K mg base 1 "kind_rank" (sp_kind_rank K) []) (z_int : mg "int" = none) :
    C8.Cal P w K mg base 2 "rank" (sp_rank K) [] := by
  refine cal_of D sc_rank (fun vs H Q E h => ?_) (fun f cdv A outer s H vs Q E hr h => ?_)
  · obtain ⟨_, rfl, _⟩ := h
    rfl
  refine ⟨_, (pss_cons (ps_set (i := 1) sc_rank.nd rfl (.inl rfl) (C8.pe_c c_kind_rank hr (by decide) (by rfl) (pa_cons (pv 0) pa_nil)))
    (pss_cons (ps_if (pt_cmpR op_eq (pv 1) pe_int (nomark _))
      (pss_one (ps_ret (pe_tup (pa_cons pe_int (pa_cons pe_int pa_nil)))))
      pss_nil)
    (pss_cons (ps_if (pt_cmpR op_eq (pv 1) pe_int (nomark _))
      (pss_one (ps_ret (pe_tup (pa_cons pe_int (pa_cons (pe_callTy call_int1 (by rfl) z_int (by decide +kernel) (pa_cons (pv 0) pa_nil)) pa_nil)))))
      pss_nil)
    (pss_one (ps_ret (pe_tup (pa_cons (pv 1) (pa_cons (pv 0) pa_nil)))))))), ?_⟩
  obtain ⟨x, rfl, hx, q⟩ := h
  refine q_asg (ec_kr (ev_var rfl) hx) fun H1 e1 => ?_
  refine q_when (b := decide (V.int (kr x) = V.int 0)) (by walk_at "et") (fun hb H2 e2 => s_retU (xs := rkL x) ?_ fun p H3 hp e3 h3 => q p H3 (fresh_back (e1.trans e2) hp) ((e1.trans e2).trans e3) h3) fun hb H2 e2 => ?_
  · cases hx with
    | non => exact eu_tup (ea_cons ev_c (ea_cons ev_c ea_nil)) (by show 2 ≤ 100000; decide)
    | _ => simp [kr] at hb
  refine q_when (b := decide (V.int (kr x) = V.int 1)) (by walk_at "et") (fun hb H3 e3 => s_retU (xs := rkL x) ?_ fun p H4 hp e4 h4 => q p H4 (fresh_back ((e1.trans e2).trans e3) hp) (((e1.trans e2).trans e3).trans e4) h4) fun hb H3 e3 => s_retU (xs := rkL x) ?_ fun p H4 hp e4 h4 => q p H4 (fresh_back ((e1.trans e2).trans e3) hp) (((e1.trans e2).trans e3).trans e4) h4
  · cases hx with
    | bl b => exact eu_tup (ea_cons ev_c (ea_cons (ev_intB (ev_var rfl)) ea_nil)) (by show 2 ≤ 100000; decide)
    | _ => simp [kr] at hb
  · cases hx with
    | non => exact absurd ‹decide (V.int (kr .non) = V.int 0) = false› (by decide)
    | bl b => exact absurd ‹decide (V.int (kr (.bl b)) = V.int 1) = false› (by show ¬ decide (V.int 1 = V.int 1) = false; decide)
    | int i => exact eu_tup (ea_cons (ev_var rfl) (ea_cons (ev_var rfl) ea_nil)) (by show 2 ≤ 100000; decide)
    | str s hs => exact eu_tup (ea_cons (ev_var rfl) (ea_cons (ev_var rfl) ea_nil)) (by show 2 ≤ 100000; decide)
theorem ok_same (D : Dn K mg "same" s_same ["first", "second"]) (c_rank : C8.Cal P w K mg base 2 "rank" (sp_rank K) []) :
    C8.Cal P w K mg base 3 "same" (sp_same K) [] := by
  refine cal_of D sc_same (fun vs H Q E h => ?_) (fun f cdv A outer s H vs Q E hr h => ?_)
  · obtain ⟨_, _, rfl, _⟩ := h
    rfl
  refine ⟨_, (pss_one (ps_ret (pe_cmpR (op_eqD (hu64 hr)) (C8.pe_c c_rank hr (by decide) (by rfl) (pa_cons (pv 0) pa_nil)) (C8.pe_c c_rank hr (by decide) (by rfl) (pa_cons (pv 1) pa_nil)) (nomark _)))), ?_⟩
  obtain ⟨x, y, rfl, hx, hy, q⟩ := h
  exact s_ret (ev_eqD (ed_rk (ec_rank (ev_var rfl) hx) hx) (ed_rk (ec_rank (ev_var rfl) hy) hy) (shaped_rk hx) (shaped_rk hy)) fun H2 e2 => q _ e2
theorem ok_before (D : Dn K mg "before" s_before ["first", "second"]) (c_rank : C8.Cal P w K mg base 2 "rank" (sp_rank K) []) :
    C8.Cal P w K mg base 3 "before" (sp_before K) [] := by
  refine cal_of D sc_before (fun vs H Q E h => ?_) (fun f cdv A outer s H vs Q E hr h => ?_)
  · obtain ⟨_, _, rfl, _⟩ := h
    rfl
  refine ⟨_, (pss_one (ps_ret (pe_cmpR (op_ltD (hu64 hr)) (C8.pe_c c_rank hr (by decide) (by rfl) (pa_cons (pv 0) pa_nil)) (C8.pe_c c_rank hr (by decide) (by rfl) (pa_cons (pv 1) pa_nil)) (nomark _)))), ?_⟩
  obtain ⟨x, y, rfl, hx, hy, q⟩ := h
  exact s_ret (ev_ltD (ed_rk (ec_rank (ev_var rfl) hx) hx) (ed_rk (ec_rank (ev_var rfl) hy) hy) (shaped_rk hx) (shaped_rk hy) (ord_rk hx hy) (by rw [dep_rk hx]; decide)) fun H2 e2 => q _ e2
end
section
variable {P : Program} {w : World} {K : PySem.W.Frag} {mg : Str → Option Value} {base : Heap}
theorem heldI {k : Nat} {f : Addr} {sp sp' : Sp} (h : L2.Held P w K mg base k f sp) (i : ∀ vs H Q E, sp' vs H Q E → sp vs H Q E) : L2.Held P w K mg base k f sp' := by
  obtain ⟨fd, ps, F, hk, hb⟩ := h.ex
  exact ⟨fd, ps, F.imp i, hk, hb⟩
end
def neg3 (x : V) : V := if x = .bl true then .bl false else if x = .bl false then .bl true else .non
def and3 (x y : V) : V := if x = .bl false ∨ y = .bl false then .bl false else if x = .bl true ∧ y = .bl true then .bl true else .non
def or3 (x y : V) : V := if x = .bl true ∨ y = .bl true then .bl true else if x = .bl false ∧ y = .bl false then .bl false else .non
def sp_negated (K : PySem.W.Frag) : Sp := fun vs H Q _ => ∃ x : V, vs = [x] ∧ ∀ H', Ex H H' → Q (neg3 x) H'
def sp_both (K : PySem.W.Frag) : Sp := fun vs H Q _ => ∃ x y : V, vs = [x, y] ∧ ∀ H', Ex H H' → Q (and3 x y) H'
def sp_either (K : PySem.W.Frag) : Sp := fun vs H Q _ => ∃ x y : V, vs = [x, y] ∧ ∀ H', Ex H H' → Q (or3 x y) H'
section
variable {P : Program} {w : World} {K : PySem.W.Frag} {mg : Str → Option Value} {base : Heap}
theorem ok_both (D : Dn K mg "both" s_both ["first", "second"]) :
    C8.Cal P w K mg base 1 "both" (sp_both K) [] := by
  refine cal_of D sc_both (fun vs H Q E h => ?_) (fun f cdv A outer s H vs Q E hr h => ?_)
  · obtain ⟨_, _, rfl, _⟩ := h
    rfl
  refine ⟨_, (pss_cons (ps_if (PW.pt (pw_or (pt_cmpR op_isTF (pv 0) pe_bl (nomark _)) (pw_or1 (pt_cmpR op_isTF (pv 1) pe_bl (nomark _)))))
      (pss_one (ps_ret pe_bl))
      pss_nil)
    (pss_cons (ps_if (PW.pt (pw_and (pt_cmpR op_isTF (pv 0) pe_bl (nomark _)) (pw_and1 (pt_cmpR op_isTF (pv 1) pe_bl (nomark _)))))
      (pss_one (ps_ret pe_bl))
      pss_nil)
    (pss_one (ps_ret pe_non)))), ?_⟩
  obtain ⟨x, y, rfl, q⟩ := h
  refine q_when (b := decide (x = .bl false) || decide (y = .bl false)) (by walk_at "et") (fun hb H1 e1 => s_ret (v := and3 x y) ?_ fun H2 e2 => q _ (e1.trans e2)) fun hb H1 e1 => ?_
  · refine ev_is ev_c ?_
    unfold and3
    rw [if_pos (by rw [Bool.or_eq_true, decide_eq_true_eq, decide_eq_true_eq] at hb; exact hb)]
  have nb : ¬ (x = .bl false ∨ y = .bl false) := by
    intro z
    rw [Bool.or_eq_false_iff, decide_eq_false_iff_not, decide_eq_false_iff_not] at hb
    exact z.elim hb.1 hb.2
  refine q_when (b := decide (x = .bl true) && decide (y = .bl true)) (by walk_at "et") (fun hc H2 e2 => s_ret (v := and3 x y) ?_ fun H3 e3 => q _ ((e1.trans e2).trans e3)) fun hc H2 e2 => s_ret (v := and3 x y) ?_ fun H3 e3 => q _ ((e1.trans e2).trans e3)
  · refine ev_is ev_c ?_
    unfold and3
    rw [if_neg nb, if_pos (by rw [Bool.and_eq_true, decide_eq_true_eq, decide_eq_true_eq] at hc; exact hc)]
  · refine ev_is ev_c ?_
    unfold and3
    rw [if_neg nb, if_neg (fun z => by rw [decide_eq_true z.1, decide_eq_true z.2] at hc; cases hc)]
theorem ok_either (D : Dn K mg "either" s_either ["first", "second"]) :
    C8.Cal P w K mg base 1 "either" (sp_either K) [] := by
  refine cal_of D sc_either (fun vs H Q E h => ?_) (fun f cdv A outer s H vs Q E hr h => ?_)
  · obtain ⟨_, _, rfl, _⟩ := h
    rfl
  refine ⟨_, (pss_cons (ps_if (PW.pt (pw_or (pt_cmpR op_isTF (pv 0) pe_bl (nomark _)) (pw_or1 (pt_cmpR op_isTF (pv 1) pe_bl (nomark _)))))
      (pss_one (ps_ret pe_bl))
      pss_nil)
    (pss_cons (ps_if (PW.pt (pw_and (pt_cmpR op_isTF (pv 0) pe_bl (nomark _)) (pw_and1 (pt_cmpR op_isTF (pv 1) pe_bl (nomark _)))))
      (pss_one (ps_ret pe_bl))
      pss_nil)
    (pss_one (ps_ret pe_non)))), ?_⟩
  obtain ⟨x, y, rfl, q⟩ := h
  refine q_when (b := decide (x = .bl true) || decide (y = .bl true)) (by walk_at "et") (fun hb H1 e1 => s_ret (v := or3 x y) ?_ fun H2 e2 => q _ (e1.trans e2)) fun hb H1 e1 => ?_
  · refine ev_is ev_c ?_
    unfold or3
    rw [if_pos (by rw [Bool.or_eq_true, decide_eq_true_eq, decide_eq_true_eq] at hb; exact hb)]
  have nb : ¬ (x = .bl true ∨ y = .bl true) := by
    intro z
    rw [Bool.or_eq_false_iff, decide_eq_false_iff_not, decide_eq_false_iff_not] at hb
    exact z.elim hb.1 hb.2
  refine q_when (b := decide (x = .bl false) && decide (y = .bl false)) (by walk_at "et") (fun hc H2 e2 => s_ret (v := or3 x y) ?_ fun H3 e3 => q _ ((e1.trans e2).trans e3)) fun hc H2 e2 => s_ret (v := or3 x y) ?_ fun H3 e3 => q _ ((e1.trans e2).trans e3)
  · refine ev_is ev_c ?_
    unfold or3
    rw [if_neg nb, if_pos (by rw [Bool.and_eq_true, decide_eq_true_eq, decide_eq_true_eq] at hc; exact hc)]
  · refine ev_is ev_c ?_
    unfold or3
    rw [if_neg nb, if_neg (fun z => by rw [decide_eq_true z.1, decide_eq_true z.2] at hc; cases hc)]
section
variable {σ : L2.St} {H : Hp} {ta tb : TE} {E : XK} {x y : V}
theorem ec_both (ha : Ev ta σ H x) (hb : Ev tb σ H y) : Ev (tCall (sp_both K) [] E (tCons ta (tCons tb tNil))) σ H (and3 x y) := ev_call (ea_cons ha (ea_cons hb ea_nil)) fun H1 e Q q E => ⟨x, y, rfl, q⟩
theorem ec_either (ha : Ev ta σ H x) (hb : Ev tb σ H y) : Ev (tCall (sp_either K) [] E (tCons ta (tCons tb tNil))) σ H (or3 x y) := ev_call (ea_cons ha (ea_cons hb ea_nil)) fun H1 e Q q E => ⟨x, y, rfl, q⟩
end
end
section
variable {P : Program} {w : World} {K : PySem.W.Frag} {mg : Str → Option Value} {base : Heap}
theorem ok_negated (D : Dn K mg "negated" s_negated ["value"]) :
    C8.Cal P w K mg base 1 "negated" (sp_negated K) [] := by
  refine cal_of D sc_negated (fun vs H Q E h => ?_) (fun f cdv A outer s H vs Q E hr h => ?_)
  · obtain ⟨_, rfl, _⟩ := h
    rfl
  refine ⟨_, (pss_cons (ps_if (pt_cmpR op_isTF (pv 0) pe_bl (nomark _))
      (pss_one (ps_ret pe_bl))
      pss_nil)
    (pss_cons (ps_if (pt_cmpR op_isTF (pv 0) pe_bl (nomark _))
      (pss_one (ps_ret pe_bl))
      pss_nil)
    (pss_one (ps_ret pe_non)))), ?_⟩
  obtain ⟨x, rfl, q⟩ := h
  refine q_when (b := decide (x = .bl true)) (by walk_at "et") (fun hb H1 e1 => s_ret (v := neg3 x) ?_ fun H2 e2 => q _ (e1.trans e2)) fun hb H1 e1 => ?_
  · refine ev_is ev_c ?_
    unfold neg3
    rw [if_pos (of_decide_eq_true hb)]
  refine q_when (b := decide (x = .bl false)) (by walk_at "et") (fun hc H2 e2 => s_ret (v := neg3 x) ?_ fun H3 e3 => q _ ((e1.trans e2).trans e3)) fun hc H2 e2 => s_ret (v := neg3 x) ?_ fun H3 e3 => q _ ((e1.trans e2).trans e3)
  · refine ev_is ev_c ?_
    unfold neg3
    rw [if_neg (of_decide_eq_false hb), if_pos (of_decide_eq_true hc)]
  · refine ev_is ev_c ?_
    unfold neg3
    rw [if_neg (of_decide_eq_false hb), if_neg (of_decide_eq_false hc)]
end
def isS (a b : Str) : Bool := decide (V.str a = V.str b)
theorem isS_eq {a b : Str} (h : isS a b = true) : a = b := V.str.inj (of_decide_eq_true h)
def vD : V → PyData
  | .bl b => .bool b
  | .int i => .int i
  | .str s => .str s
  | _ => .none
theorem dp_vD {K : PySem.W.Frag} {H : Hp} {x : V} (h : Ok x) : Dp K H x (vD x) := by
  cases h with
  | non => exact .non
  | bl b => exact .bl b
  | int i => exact .int i
  | str s _ => exact .str s
section
variable {K : PySem.W.Frag} {σ : L2.St} {H : Hp} {ta tb : TE} {x : V}
theorem et_S {a b : Str} (ha : Ev ta σ H (.str a)) (hb : Ev tb σ H (.str b)) : EvT (tTest (tOp rEq ta tb)) σ H (isS a b) := et_test (ev_op ha hb (rv_eq rfl))
theorem ev_ix {b : Addr} {xs : List V} {i : Nat} (ha : Ev ta σ H (.ref b)) (hS : SqT K H b xs) (hb : Ev tb σ H (.int (i : Int))) (hi : xs[i]? = some x) : Ev (tOp (rIxT K) ta tb) σ H x := ev_op ha hb (rv_ixT hS (atI_nat hi))
end
inductive Xp where
  | col (n : Nat)
  | cst (v : V)
  | un (nm : Str) (a : Xp)
  | bin (nm : Str) (a b : Xp)
  | cho (c a b : Xp)
def Xp.d : Xp → PyData
  | .col n => .tuple [.str "column", .int (n : Int)]
  | .cst v => .tuple [.str "constant", vD v]
  | .un nm a => .tuple [.str "unary", .str nm, a.d]
  | .bin nm a b => .tuple [.str "binary", .str nm, a.d, b.d]
  | .cho c a b => .tuple [.str "choice", c.d, a.d, b.d]
def Xp.dep : Xp → Nat
  | .col _ => 1
  | .cst _ => 1
  | .un _ a => a.dep + 1
  | .bin _ a b => max a.dep b.dep + 1
  | .cho c a b => max c.dep (max a.dep b.dep) + 1
inductive XOk : Xp → Prop where
  | col (n : Nat) : XOk (.col n)
  | cst (v : V) (h : DV v) : XOk (.cst v)
  | un (nm : Str) (a : Xp) (ha : XOk a) : XOk (.un nm a)
  | bin (nm : Str) (a b : Xp) (ha : XOk a) (hb : XOk b) : XOk (.bin nm a b)
  | cho (c a b : Xp) (hc : XOk c) (ha : XOk a) (hb : XOk b) : XOk (.cho c a b)
theorem dv_ok {x : V} (h : DV x) : Ok x := by
  cases h with
  | non => exact .non
  | bl b => exact .bl b
  | int i _ => exact .int i
  | str l hl hc => exact .str _ (strOk_S fun c h => signs_ok c (hc c h))
theorem dp_tupD {K : PySem.W.Frag} {H : Hp} {v : V} {ds : List PyData} (h : Dp K H v (.tuple ds)) : ∃ b ys, v = .ref b ∧ SqT K H b ys ∧ DpAll K H ys ds := by
  cases h with
  | tup hS hd => exact ⟨_, _, rfl, hS, hd⟩
theorem dp_strD {K : PySem.W.Frag} {H : Hp} {v : V} {s : Str} (h : Dp K H v (.str s)) : v = .str s := by cases h; rfl
theorem dp_intD {K : PySem.W.Frag} {H : Hp} {v : V} {n : Int} (h : Dp K H v (.int n)) : v = .int n := by cases h; rfl
theorem vD_is {K : PySem.W.Frag} {H : Hp} {v x : V} (h : Ok x) (hd : Dp K H v (vD x)) : v = x := by cases h <;> cases hd <;> rfl
def Xa (K : PySem.W.Frag) (H : Hp) (v : V) (e : Xp) : Prop := Dp K H v e.d ∧ XOk e
theorem Xa.ex {K : PySem.W.Frag} {H H' : Hp} {v : V} {e : Xp} (h : Xa K H v e) (x : Ex H H') : Xa K H' v e := ⟨ex_dp x h.1, h.2⟩
inductive XV (K : PySem.W.Frag) (H : Hp) : Xp → List V → Prop where
  | col (n : Nat) : XV K H (.col n) [.str "column", .int (n : Int)]
  | cst (x : V) (h : DV x) : XV K H (.cst x) [.str "constant", x]
  | un (nm : Str) (a : Xp) (y : V) (h : Xa K H y a) : XV K H (.un nm a) [.str "unary", .str nm, y]
  | bin (nm : Str) (a b : Xp) (y z : V) (h : Xa K H y a) (g : Xa K H z b) : XV K H (.bin nm a b) [.str "binary", .str nm, y, z]
  | cho (c a b : Xp) (x y z : V) (f : Xa K H x c) (h : Xa K H y a) (g : Xa K H z b) : XV K H (.cho c a b) [.str "choice", x, y, z]
theorem xa_at {K : PySem.W.Frag} {H : Hp} {v : V} {e : Xp} (h : Xa K H v e) : ∃ b ys, v = .ref b ∧ SqT K H b ys ∧ XV K H e ys := by
  obtain ⟨hd, ho⟩ := h
  cases ho with
  | col n =>
    obtain ⟨b, ys, e1, hS, hds⟩ := dp_tupD (ds := [.str "column", .int (n : Int)]) hd
    cases hds with
    | cons h1 h2 => cases h2 with
      | cons h3 h4 =>
        cases h4
        cases dp_strD h1
        cases dp_intD h3
        exact ⟨b, _, e1, hS, .col n⟩
  | cst x hv =>
    obtain ⟨b, ys, e1, hS, hds⟩ := dp_tupD (ds := [.str "constant", vD x]) hd
    cases hds with
    | cons h1 h2 => cases h2 with
      | cons h3 h4 =>
        cases h4
        cases dp_strD h1
        cases vD_is (dv_ok hv) h3
        exact ⟨b, _, e1, hS, .cst _ hv⟩
  | un nm a ha =>
    obtain ⟨b, ys, e1, hS, hds⟩ := dp_tupD (ds := [.str "unary", .str nm, a.d]) hd
    cases hds with
    | cons h1 h2 => cases h2 with
      | cons h3 h4 => cases h4 with
        | cons h5 h6 =>
          cases h6
          cases dp_strD h1
          cases dp_strD h3
          exact ⟨b, _, e1, hS, .un nm a _ ⟨h5, ha⟩⟩
  | bin nm a c ha hb =>
    obtain ⟨b, ys, e1, hS, hds⟩ := dp_tupD (ds := [.str "binary", .str nm, a.d, c.d]) hd
    cases hds with
    | cons h1 h2 => cases h2 with
      | cons h3 h4 => cases h4 with
        | cons h5 h6 => cases h6 with
          | cons h7 h8 =>
            cases h8
            cases dp_strD h1
            cases dp_strD h3
            exact ⟨b, _, e1, hS, .bin nm a c _ _ ⟨h5, ha⟩ ⟨h7, hb⟩⟩
  | cho cc a c hc ha hb =>
    obtain ⟨b, ys, e1, hS, hds⟩ := dp_tupD (ds := [.str "choice", cc.d, a.d, c.d]) hd
    cases hds with
    | cons h1 h2 => cases h2 with
      | cons h3 h4 => cases h4 with
        | cons h5 h6 => cases h6 with
          | cons h7 h8 =>
            cases h8
            cases dp_strD h1
            exact ⟨b, _, e1, hS, .cho cc a c _ _ _ ⟨h3, hc⟩ ⟨h5, ha⟩ ⟨h7, hb⟩⟩
def Xp.hd : Xp → Str
  | .col _ => "column"
  | .cst _ => "constant"
  | .un _ _ => "unary"
  | .bin _ _ _ => "binary"
  | .cho _ _ _ => "choice"
theorem XV.hd {K : PySem.W.Frag} {H : Hp} {e : Xp} {ys : List V} (h : XV K H e ys) : ys[0]? = some (.str e.hd) := by cases h <;> rfl
theorem xdep_pos : ∀ e : Xp, 1 ≤ e.dep
  | .col _ => Nat.le_refl _
  | .cst _ => Nat.le_refl _
  | .un _ a => Nat.le_add_left _ _
  | .bin _ a b => Nat.le_add_left _ _
  | .cho _ _ _ => Nat.le_add_left _ _
theorem cal_no {P : Program} {w : World} {K : PySem.W.Frag} {mg : Str → Option Value} {base : Heap} {x : Str} {st : Stmt} {N ps : List Str} {k : Nat} {sp : Sp} (D : Dn K mg x st ps) (S : FnScope N ps (C8.fnScope st)) (no : ∀ vs H Q E, sp vs H Q E → False) : C8.Cal P w K mg base (k + 1) x sp [] :=
  cal_of D S (fun vs H Q E h => (no vs H Q E h).elim) fun f cdv A outer s H vs Q E hr h => (no vs H Q E h).elim
def bdV : V → Prop
  | .int i => -1152921504606846976 ≤ i ∧ i ≤ 1152921504606846976
  | .str s => s.length ≤ 100
  | _ => True
def bothOk (x y : V) : Prop := Ok x ∧ Ok y
def anyV (_ _ : V) : Prop := True
def intB (x : V) : Prop := ∃ a : Int, x = .int a ∧ -1152921504606846976 ≤ a ∧ a ≤ 1152921504606846976
def twoI (x y : V) : Prop := intB x ∧ intB y
def isDayI (i : Int) : Bool := decide (-719162 ≤ i) && decide (i ≤ 2932896)
def isDay : V → Bool
  | .int i => isDayI i
  | _ => false
def dayP (x : V) : Prop := ∃ a : Int, x = .int a ∧ isDayI a = true
def dayI (x y : V) : Prop := dayP x ∧ intB y
def sameV (x y : V) : V := .bl (PyData.eqv (rkD x) (rkD y))
def lessV (x y : V) : V := .bl (ltD (rkD x) (rkD y))
def mostV (x y : V) : V := .bl (!ltD (rkD y) (rkD x))
def coalV (x y : V) : V := if x = .non then y else x
def arV (g : Int → Int → Int) : V → V → V
  | .int i, .int j => limV (g i j)
  | _, _ => .non
def dayV : V → V
  | .int i => if isDayI i = true then .int i else .non
  | _ => .non
def adV : V → V → V
  | .int i, .int j => dayV (.int (i + j))
  | _, _ => .non
def isStr : V → Bool
  | .str _ => true
  | _ => false
def negV : V → V
  | .int i => .int (-i)
  | _ => .non
def absV : V → V
  | .int i => .int (if i < 0 then -i else i)
  | _ => .non
def idV (x : V) : V := x
def decV : V → V
  | .int i => limV (10000 * i)
  | _ => .non
def lenV : V → V
  | .str s => .int (s.length : Int)
  | _ => .non
def alike (x y : V) : Bool := (!decide (x = .non)) && decide (V.int (kr x) = V.int (kr y))
def iff1 (b : Bool) (x : V) : V := if b = true then x else .non
def binV (nm : Str) (x y : V) : V :=
  if nm = "and" then and3 x y else if nm = "or" then or3 x y else if nm = "same" then sameV x y else if nm = "coalesce" then coalV x y
  else if nm = "add" then iff1 (isInt x && isInt y) (arV (· + ·) x y) else if nm = "subtract" then iff1 (isInt x && isInt y) (arV (· - ·) x y) else if nm = "multiply" then iff1 (isInt x && isInt y) (arV (· * ·) x y)
  else if nm = "add days" then iff1 (isDay x && isInt y) (adV x y)
  else if nm = "equal" then iff1 (alike x y) (sameV x y) else if nm = "less" then iff1 (alike x y) (lessV x y) else iff1 (alike x y) (mostV x y)
def unV (nm : Str) (x : V) : V := if nm = "not" then neg3 x else if nm = "is null" then .bl (decide (x = .non)) else if nm = "negate" then iff1 (isInt x) (negV x) else if nm = "abs" then iff1 (isInt x) (absV x)
  else if nm = "as decimal" then iff1 (isInt x) (idV x) else if nm = "to decimal" then iff1 (isInt x) (decV x) else if nm = "as date" then iff1 (isDay x) (idV x) else iff1 (isStr x) (lenV x)
def unL : List Str := ["not", "is null", "negate", "abs", "as date", "as decimal", "to decimal", "is null", "length"]
def binL : List Str := ["and", "or", "equal", "less", "at most", "add", "subtract", "coalesce", "add days", "same", "multiply", "less"]
def XN : Xp → Prop
  | .col _ => True
  | .cst _ => True
  | .un nm a => nm ∈ unL ∧ XN a
  | .bin nm a b => nm ∈ binL ∧ XN a ∧ XN b
  | .cho c a b => XN c ∧ XN a ∧ XN b
def evX (xs : List V) : Xp → V
  | .col n => xs.getD n .non
  | .cst v => v
  | .un nm a => unV nm (evX xs a)
  | .bin nm a b => binV nm (evX xs a) (evX xs b)
  | .cho c a b => if evX xs c = .bl true then evX xs a else evX xs b
def VOk (x : V) : Prop := Ok x ∧ bdV x
theorem lim_vok (n : Int) : VOk (limV n) := by
  unfold limV
  split
  · exact ⟨.int _, by rename_i h; exact ⟨by omega, by omega⟩⟩
  · exact ⟨.non, trivial⟩
theorem bl_vok (b : Bool) : VOk (.bl b) := ⟨.bl _, trivial⟩
theorem non_vok : VOk .non := ⟨.non, trivial⟩
theorem iff_vok {b : Bool} {x : V} (h : b = true → VOk x) : VOk (iff1 b x) := by
  unfold iff1
  split
  · rename_i z; exact h z
  · exact non_vok
theorem neg3_vok (x : V) : VOk (neg3 x) := by unfold neg3; split; exact bl_vok _; split; exact bl_vok _; exact non_vok
theorem and3_vok (x y : V) : VOk (and3 x y) := by unfold and3; split; exact bl_vok _; split; exact bl_vok _; exact non_vok
theorem or3_vok (x y : V) : VOk (or3 x y) := by unfold or3; split; exact bl_vok _; split; exact bl_vok _; exact non_vok
theorem ar_vok (g : Int → Int → Int) (x y : V) : VOk (arV g x y) := by unfold arV; split; exact lim_vok _; exact non_vok
theorem day_vok (x : V) : VOk (dayV x) := by
  unfold dayV
  split
  · split
    · rename_i h
      unfold isDayI at h
      rw [Bool.and_eq_true, decide_eq_true_eq, decide_eq_true_eq] at h
      exact ⟨.int _, by omega, by omega⟩
    · exact non_vok
  · exact non_vok
theorem ad_vok (x y : V) : VOk (adV x y) := by unfold adV; split; exact day_vok _; exact non_vok
theorem un_vok (nm : Str) {x : V} (h : VOk x) : VOk (unV nm x) := by
  obtain ⟨h1, h2⟩ := h
  unfold unV
  split
  · exact neg3_vok x
  split
  · exact bl_vok _
  split
  · refine iff_vok fun _ => ?_
    cases h1 <;> first | exact non_vok | exact ⟨.int _, by have := h2.2; omega, by have := h2.1; omega⟩
  split
  · refine iff_vok fun _ => ?_
    cases h1 with
    | int i => exact ⟨.int _, by have := h2.1; have := h2.2; show -1152921504606846976 ≤ (if i < 0 then -i else i) ∧ (if i < 0 then -i else i) ≤ 1152921504606846976; split <;> omega⟩
    | _ => exact non_vok
  split
  · exact iff_vok fun _ => ⟨h1, h2⟩
  split
  · refine iff_vok fun _ => ?_
    cases h1 <;> first | exact non_vok | exact lim_vok _
  split
  · exact iff_vok fun _ => ⟨h1, h2⟩
  · refine iff_vok fun _ => ?_
    cases h1 with
    | str s hs => exact ⟨.int _, by omega, by have : s.length ≤ 100 := h2; omega⟩
    | _ => exact non_vok
theorem bin_vok (nm : Str) {x y : V} (hx : VOk x) (hy : VOk y) : VOk (binV nm x y) := by
  unfold binV
  split
  · exact and3_vok x y
  split
  · exact or3_vok x y
  split
  · exact bl_vok _
  split
  · unfold coalV; split <;> assumption
  split
  · exact iff_vok fun _ => ar_vok _ x y
  split
  · exact iff_vok fun _ => ar_vok _ x y
  split
  · exact iff_vok fun _ => ar_vok _ x y
  split
  · exact iff_vok fun _ => ad_vok x y
  split
  · exact iff_vok fun _ => bl_vok _
  split
  · exact iff_vok fun _ => bl_vok _
  · exact iff_vok fun _ => bl_vok _
theorem dv_vok {x : V} (h : DV x) : VOk x := by
  cases h with
  | non => exact non_vok
  | bl b => exact bl_vok b
  | int i h => exact ⟨.int i, by omega, by omega⟩
  | str l hl hc => exact ⟨dv_ok (.str l hl hc), by show (SX.S l).length ≤ 100; rw [SX.S_len]; omega⟩
def RwOk (xs : List V) : Prop := ∀ x ∈ xs, VOk x
theorem row_vok {xs : List V} (h : RwOk xs) (n : Nat) : VOk (xs.getD n .non) := by
  rw [List.getD_eq_getElem?_getD]
  cases e : xs[n]? with
  | none => exact non_vok
  | some x => exact h x (List.mem_of_getElem? e)
theorem ev_vok {xs : List V} (h : RwOk xs) : ∀ {e : Xp}, XOk e → VOk (evX xs e)
  | _, .col n => row_vok h n
  | _, .cst v hv => dv_vok hv
  | _, .un nm a ha => un_vok nm (ev_vok h ha)
  | _, .bin nm a b ha hb => bin_vok nm (ev_vok h ha) (ev_vok h hb)
  | _, .cho c a b hc ha hb => by
    show VOk (if evX xs c = .bl true then evX xs a else evX xs b)
    split
    · exact ev_vok h ha
    · exact ev_vok h hb
def spUn (pre : V → Prop) (op : V → V) : Sp := fun vs H Q _ => ∃ x : V, vs = [x] ∧ pre x ∧ ∀ H', Ex H H' → Q (op x) H'
inductive Opr2 (P : Program) (w : World) (K : PySem.W.Frag) (mg : Str → Option Value) (base : Heap) (dA dL dI dT dD : Addr) : Str → V → V → V → Prop
  | any {nm : Str} {x y : V} {f : Addr} {pre : V → V → Prop} {op : V → V → V} : PySem.W.nsIn K dA nm = some (some (.ref f)) → L2.Held P w K mg base 4 f (spBin pre op) → pre x y → Opr2 P w K mg base dA dL dI dT dD nm x y (op x y)
  | alike {nm : Str} {x y : V} {f : Addr} {op : V → V → V} : PySem.W.nsIn K dA nm = some none → PySem.W.nsIn K dL nm = some (some (.ref f)) → L2.Held P w K mg base 4 f (spBin bothOk op) → Opr2 P w K mg base dA dL dI dT dD nm x y (iff1 (alike x y) (op x y))
  | nums {nm : Str} {x y : V} {f : Addr} {op : V → V → V} : PySem.W.nsIn K dA nm = some none → PySem.W.nsIn K dL nm = some none → PySem.W.nsIn K dI nm = some (some (.ref f)) → L2.Held P w K mg base 4 f (spBin twoI op) → Opr2 P w K mg base dA dL dI dT dD nm x y (iff1 (isInt x && isInt y) (op x y))
  | days {nm : Str} {x y : V} {f : Addr} {op : V → V → V} : PySem.W.nsIn K dA nm = some none → PySem.W.nsIn K dL nm = some none → PySem.W.nsIn K dI nm = some none → PySem.W.nsIn K dT nm = some none → PySem.W.nsIn K dD nm = some (some (.ref f)) → L2.Held P w K mg base 4 f (spBin dayI op) → Opr2 P w K mg base dA dL dI dT dD nm x y (iff1 (isDay x && isInt y) (op x y))
inductive Opr1 (P : Program) (w : World) (K : PySem.W.Frag) (mg : Str → Option Value) (base : Heap) (dI dT dD : Addr) : Str → V → V → Prop
  | inty {nm : Str} {x : V} {f : Addr} {op : V → V} : PySem.W.nsIn K dI nm = some (some (.ref f)) → L2.Held P w K mg base 4 f (spUn intB op) → Opr1 P w K mg base dI dT dD nm x (iff1 (isInt x) (op x))
  | wrds {nm : Str} {x : V} {f : Addr} {op : V → V} : PySem.W.nsIn K dI nm = some none → PySem.W.nsIn K dT nm = some (some (.ref f)) → L2.Held P w K mg base 4 f (spUn (fun x => ∃ s : Str, x = .str s ∧ s.length ≤ 100) op) → Opr1 P w K mg base dI dT dD nm x (iff1 (isStr x) (op x))
  | days {nm : Str} {x : V} {f : Addr} {op : V → V} : PySem.W.nsIn K dI nm = some none → PySem.W.nsIn K dT nm = some none → PySem.W.nsIn K dD nm = some (some (.ref f)) → L2.Held P w K mg base 4 f (spUn (fun _ => True) op) → Opr1 P w K mg base dI dT dD nm x (iff1 (isDay x) (op x))
theorem rv_inKD {K : PySem.W.Frag} {d : Addr} {z : Str} {r : Option Value} {H : Hp} (e : PySem.W.nsIn K d z = some r) : RV (fun x y H Q => ∃ (z : Str) (r : Option Value), x = .str z ∧ y = .ref d ∧ PySem.W.nsIn K d z = some r ∧ Q (.bl r.isSome) H) (.str z) (.ref d) H (.bl r.isSome) :=
  fun H1 _ _ q => ⟨z, r, rfl, rfl, e, q H1 (Ex.refl H1)⟩
theorem rv_ixKD {K : PySem.W.Frag} {w : World} {d : Addr} {es : Array DictEntry} {n : Nat} {z : Str} {u : Value} {v : V} {H : Hp} (D : KDict K w d es n) (e : PySem.W.nsIn K d z = some (some u)) (r : RelV v u) : RV (rIxD K w) (.ref d) (.str z) H v :=
  fun H1 _ _ q => ⟨d, z, v, rfl, rfl, ⟨es, n, u, D.at_, D.lit, e, r⟩, q H1 (Ex.refl H1)⟩
def sp__both (K : PySem.W.Frag) : Sp := spBin anyV and3
def sp__either (K : PySem.W.Frag) : Sp := spBin anyV or3
def sp__same (K : PySem.W.Frag) : Sp := spBin bothOk sameV
def sp__equal (K : PySem.W.Frag) : Sp := spBin bothOk sameV
def sp__less (K : PySem.W.Frag) : Sp := spBin bothOk lessV
def sp__at_most (K : PySem.W.Frag) : Sp := spBin bothOk mostV
def sp__first_known (K : PySem.W.Frag) : Sp := spBin anyV coalV
def sp__add (K : PySem.W.Frag) : Sp := spBin twoI (arV (· + ·))
def sp__subtract (K : PySem.W.Frag) : Sp := spBin twoI (arV (· - ·))
def sp__multiply (K : PySem.W.Frag) : Sp := spBin twoI (arV (· * ·))
def sp__add_days (K : PySem.W.Frag) : Sp := spBin dayI adV
def sp__negate (K : PySem.W.Frag) : Sp := spUn intB negV
def sp__size (K : PySem.W.Frag) : Sp := spUn intB absV
def sp__value (K : PySem.W.Frag) : Sp := spUn (fun _ => True) idV
def sp__to_decimal (K : PySem.W.Frag) : Sp := spUn intB decV
def sp__length (K : PySem.W.Frag) : Sp := spUn (fun x => ∃ s : Str, x = .str s ∧ s.length ≤ 100) lenV
def sp_is_day (K : PySem.W.Frag) : Sp := fun vs H Q _ => ∃ x : V, vs = [x] ∧ Pl x ∧ ∀ H', Ex H H' → Q (.bl (isDay x)) H'
def sp_limited (K : PySem.W.Frag) : Sp := fun vs H Q _ => ∃ n : Int, vs = [.int n] ∧ ∀ H', Ex H H' → Q (limV n) H'
def sp__are_alike (K : PySem.W.Frag) : Sp := fun vs H Q _ => ∃ x y : V, vs = [x, y] ∧ Ok x ∧ Ok y ∧ ∀ H', Ex H H' → Q (.bl (alike x y)) H'
def sp_value_of_two (K : PySem.W.Frag) : Sp := fun vs H Q _ => ∃ (nm : Str) (x y : V), vs = [.str nm, x, y] ∧ nm ∈ binL ∧ VOk x ∧ VOk y ∧ ∀ H', Ex H H' → Q (binV nm x y) H'
abbrev sp_binary (K : PySem.W.Frag) : Sp := sp_value_of_two K
def sp_value_of_one (K : PySem.W.Frag) : Sp := fun vs H Q _ => ∃ (nm : Str) (x : V), vs = [.str nm, x] ∧ nm ∈ unL ∧ VOk x ∧ ∀ H', Ex H H' → Q (unV nm x) H'
abbrev sp_unary (K : PySem.W.Frag) : Sp := sp_value_of_one K
def spR_evaluate : Nat → PySem.W.Frag → Sp
  | 0, _ => fun _ _ _ _ => False
  | n + 1, K => fun vs H Q _ => ∃ (v : V) (e : Xp) (a : Addr) (xs : List V), vs = [v, .ref a] ∧ (Xa K H v e ∧ XN e ∧ e.dep ≤ n + 1) ∧ SqL K H a xs ∧ RwOk xs ∧ xs.length ≤ 1000 ∧ ∀ H', Ex H H' → Q (evX xs e) H'
def sp_evaluate (K : PySem.W.Frag) : Sp := spR_evaluate 6 K
def sp_holds (K : PySem.W.Frag) : Sp := fun vs H Q _ => ∃ (v : V) (e : Xp) (a : Addr) (xs : List V), vs = [v, .ref a] ∧ (Xa K H v e ∧ XN e ∧ e.dep ≤ 6) ∧ SqL K H a xs ∧ RwOk xs ∧ xs.length ≤ 1000 ∧ ∀ H', Ex H H' → Q (.bl (decide (evX xs e = .bl true))) H'
section
variable {P : Program} {w : World} {K : PySem.W.Frag} {mg : Str → Option Value} {base : Heap}
section
variable {σ : L2.St} {H : Hp} {ta tb tc : TE} {E : XK} {x y v : V} {nm : Str} {e : Xp} {n : Nat} {a : Addr} {xs : List V}
theorem ev_isStr (ha : Ev ta σ H x) (h : Ok x) : Ev (tCB (rIsi K) (tCons ta (tCons (tC (.ty "str")) tNil))) σ H (.bl (isStr x)) := by
  cases h with
  | non => exact ev_isiP (b := false) ha .non (by show kitB "NoneType" "str" = some false; decide +kernel)
  | bl b => exact ev_isiP (b := false) ha (.bl b) (by show kitB "bool" "str" = some false; decide +kernel)
  | int i => exact ev_isiP (b := false) ha (.int i) (by show kitB "int" "str" = some false; decide +kernel)
  | str s _ => exact ev_isiP (b := true) ha (.str s) (by show kitB "str" "str" = some true; decide +kernel)
theorem ec_alike (ha : Ev ta σ H x) (hb : Ev tb σ H y) (h1 : Ok x) (h2 : Ok y) : Ev (tCall (sp__are_alike K) [] E (tCons ta (tCons tb tNil))) σ H (.bl (alike x y)) := ev_call (ea_cons ha (ea_cons hb ea_nil)) fun H1 e Q q E => ⟨x, y, rfl, h1, h2, q⟩
theorem ec_neg3 (ha : Ev ta σ H x) : Ev (tCall (sp_negated K) [] E (tCons ta tNil)) σ H (neg3 x) := ev_call (ea_cons ha ea_nil) fun H1 e Q q E => ⟨x, rfl, q⟩
theorem ec_isday (ha : Ev ta σ H x) (h : Pl x) : Ev (tCall (sp_is_day K) [] E (tCons ta tNil)) σ H (.bl (isDay x)) := ev_call (ea_cons ha ea_nil) fun H1 e Q q E => ⟨x, rfl, h, q⟩
theorem ec_lim {n : Int} (ha : Ev ta σ H (.int n)) : Ev (tCall (sp_limited K) [] E (tCons ta tNil)) σ H (limV n) := ev_call (ea_cons ha ea_nil) fun H1 e Q q E => ⟨n, rfl, q⟩
theorem ec_held1 {i k : Nat} {f : Addr} {pre : V → Prop} {op : V → V} (hσ : σ[i]? = some (some (.ref f))) (h : L2.Held P w K mg base k f (spUn pre op)) (hp : pre x) (ha : Ev ta σ H x) : Ev (tCallH P w K mg base i k (tCons ta tNil)) σ H (op x) := fun H1 e Q q =>
  ⟨f, _, hσ, h, ha H1 e _ fun H2 e2 => ⟨x, rfl, hp, fun H' e' => q H' (e2.trans e')⟩⟩
theorem ec_two (h : nm ∈ binL) (h1 : VOk x) (h2 : VOk y) (ha : Ev ta σ H (.str nm)) (hb : Ev tb σ H x) (hc : Ev tc σ H y) : Ev (tCall (sp_value_of_two K) [] E (tCons ta (tCons tb (tCons tc tNil)))) σ H (binV nm x y) := ev_call (ea_cons ha (ea_cons hb (ea_cons hc ea_nil))) fun H1 e Q q E => ⟨nm, x, y, rfl, h, h1, h2, q⟩
theorem ec_one (h : nm ∈ unL) (h1 : VOk x) (ha : Ev ta σ H (.str nm)) (hb : Ev tb σ H x) : Ev (tCall (sp_value_of_one K) [] E (tCons ta (tCons tb tNil))) σ H (unV nm x) := ev_call (ea_cons ha (ea_cons hb ea_nil)) fun H1 e Q q E => ⟨nm, x, rfl, h, h1, q⟩
theorem ec_evalR (ha : Ev ta σ H v) (hb : Ev tb σ H (.ref a)) (he : Xa K H v e) (hN : XN e) (hd : e.dep ≤ n + 1) (hS : SqL K H a xs) (hx : RwOk xs) (hl : xs.length ≤ 1000) : Ev (tCall (spR_evaluate (n + 1) K) [] E (tCons ta (tCons tb tNil))) σ H (evX xs e) := ev_call (ea_cons ha (ea_cons hb ea_nil)) fun H1 e1 Q q E => ⟨v, e, a, xs, rfl, ⟨he.ex e1, hN, hd⟩, ex_l e1 hS, hx, hl, q⟩
theorem ec_eval (ha : Ev ta σ H v) (hb : Ev tb σ H (.ref a)) (he : Xa K H v e) (hN : XN e) (hd : e.dep ≤ 6) (hS : SqL K H a xs) (hx : RwOk xs) (hl : xs.length ≤ 1000) : Ev (tCall (sp_evaluate K) [] E (tCons ta (tCons tb tNil))) σ H (evX xs e) := ec_evalR ha hb he hN hd hS hx hl
theorem ec_holds (ha : Ev ta σ H v) (hb : Ev tb σ H (.ref a)) (he : Xa K H v e) (hN : XN e) (hd : e.dep ≤ 6) (hS : SqL K H a xs) (hx : RwOk xs) (hl : xs.length ≤ 1000) : Ev (tCall (sp_holds K) [] E (tCons ta (tCons tb tNil))) σ H (.bl (decide (evX xs e = .bl true))) := ev_call (ea_cons ha (ea_cons hb ea_nil)) fun H1 e1 Q q E => ⟨v, e, a, xs, rfl, ⟨he.ex e1, hN, hd⟩, ex_l e1 hS, hx, hl, q⟩
end
theorem ok_is_day (D : Dn K mg "is_day" s_is_day ["value"]) (c_is_integer : C8.Cal P w K mg base 1 "is_integer" (sp_is_integer K) []) (g_FIRST_DAY : ∃ u, mg "FIRST_DAY" = some u ∧ RelV (.int (-719162)) u) (g_LAST_DAY : ∃ u, mg "LAST_DAY" = some u ∧ RelV (.int (2932896)) u) :
    C8.Cal P w K mg base 2 "is_day" (sp_is_day K) [] := by
  refine cal_of D sc_is_day (fun vs H Q E h => ?_) (fun f cdv A outer s H vs Q E hr h => ?_)
  · obtain ⟨_, rfl, _⟩ := h
    rfl
  refine ⟨_, (pss_one (ps_ret (pe_and (C8.pe_c c_is_integer hr (by decide) (by rfl) (pa_cons (pv 0) pa_nil)) (pe_one (pe_chain op_le op_le (C8.pe_gc rfl g_FIRST_DAY) (pv 0) (C8.pe_gc rfl g_LAST_DAY)))))), ?_⟩
  obtain ⟨x, rfl, hx, q⟩ := h
  refine s_ret (v := .bl (isDay x)) ?_ fun H2 e2 => q _ e2
  cases hx with
  | int i => exact ev_is (ev_andV (ec_isint0 (ev_var rfl) (.int i)) fun _ => ev_chain ev_c (ev_var rfl) rv_I0 (fun _ => ev_c) (fun _ => rv_I0)) rfl
  | non => exact ev_is (ev_andV (b := true) (ec_isint0 (ev_var rfl) .non) fun z => nomatch z) rfl
  | bl b => exact ev_is (ev_andV (b := true) (ec_isint0 (ev_var rfl) (.bl b)) fun z => nomatch z) rfl
  | str s => exact ev_is (ev_andV (b := true) (ec_isint0 (ev_var rfl) (.str s)) fun z => nomatch z) rfl
theorem ok__both (D : Dn K mg "_both" s__both ["first", "second"]) (c_both : C8.Cal P w K mg base 1 "both" (sp_both K) []) :
    C8.Cal P w K mg base 2 "_both" (sp__both K) [] := by
  refine cal_of D sc__both (fun vs H Q E h => ?_) (fun f cdv A outer s H vs Q E hr h => ?_)
  · obtain ⟨_, _, rfl, _⟩ := h
    rfl
  refine ⟨_, (pss_one (ps_ret (C8.pe_c c_both hr (by decide) (by rfl) (pa_cons (pv 0) (pa_cons (pv 1) pa_nil))))), ?_⟩
  obtain ⟨x, y, rfl, _, q⟩ := h
  exact s_ret (ec_both (ev_var rfl) (ev_var rfl)) fun H2 e2 => q _ e2
theorem ok__either (D : Dn K mg "_either" s__either ["first", "second"]) (c_either : C8.Cal P w K mg base 1 "either" (sp_either K) []) :
    C8.Cal P w K mg base 2 "_either" (sp__either K) [] := by
  refine cal_of D sc__either (fun vs H Q E h => ?_) (fun f cdv A outer s H vs Q E hr h => ?_)
  · obtain ⟨_, _, rfl, _⟩ := h
    rfl
  refine ⟨_, (pss_one (ps_ret (C8.pe_c c_either hr (by decide) (by rfl) (pa_cons (pv 0) (pa_cons (pv 1) pa_nil))))), ?_⟩
  obtain ⟨x, y, rfl, _, q⟩ := h
  exact s_ret (ec_either (ev_var rfl) (ev_var rfl)) fun H2 e2 => q _ e2
theorem ok__same (D : Dn K mg "_same" s__same ["first", "second"]) (c_same : C8.Cal P w K mg base 3 "same" (sp_same K) []) :
    C8.Cal P w K mg base 4 "_same" (sp__same K) [] := by
  refine cal_of D sc__same (fun vs H Q E h => ?_) (fun f cdv A outer s H vs Q E hr h => ?_)
  · obtain ⟨_, _, rfl, _⟩ := h
    rfl
  refine ⟨_, (pss_one (ps_ret (C8.pe_c c_same hr (by decide) (by rfl) (pa_cons (pv 0) (pa_cons (pv 1) pa_nil))))), ?_⟩
  obtain ⟨x, y, rfl, ⟨hx, hy⟩, q⟩ := h
  exact s_ret (ec_same (ev_var rfl) (ev_var rfl) hx hy) fun H2 e2 => q _ e2
theorem ok__equal (D : Dn K mg "_equal" s__equal ["first", "second"]) (c_same : C8.Cal P w K mg base 3 "same" (sp_same K) []) :
    C8.Cal P w K mg base 4 "_equal" (sp__equal K) [] := by
  refine cal_of D sc__equal (fun vs H Q E h => ?_) (fun f cdv A outer s H vs Q E hr h => ?_)
  · obtain ⟨_, _, rfl, _⟩ := h
    rfl
  refine ⟨_, (pss_one (ps_ret (C8.pe_c c_same hr (by decide) (by rfl) (pa_cons (pv 0) (pa_cons (pv 1) pa_nil))))), ?_⟩
  obtain ⟨x, y, rfl, ⟨hx, hy⟩, q⟩ := h
  exact s_ret (ec_same (ev_var rfl) (ev_var rfl) hx hy) fun H2 e2 => q _ e2
theorem ok__less (D : Dn K mg "_less" s__less ["first", "second"]) (c_before : C8.Cal P w K mg base 3 "before" (sp_before K) []) :
    C8.Cal P w K mg base 4 "_less" (sp__less K) [] := by
  refine cal_of D sc__less (fun vs H Q E h => ?_) (fun f cdv A outer s H vs Q E hr h => ?_)
  · obtain ⟨_, _, rfl, _⟩ := h
    rfl
  refine ⟨_, (pss_one (ps_ret (C8.pe_c c_before hr (by decide) (by rfl) (pa_cons (pv 0) (pa_cons (pv 1) pa_nil))))), ?_⟩
  obtain ⟨x, y, rfl, ⟨hx, hy⟩, q⟩ := h
  exact s_ret (ec_before (ev_var rfl) (ev_var rfl) hx hy) fun H2 e2 => q _ e2
theorem ok__at_most (D : Dn K mg "_at_most" s__at_most ["first", "second"]) (c_before : C8.Cal P w K mg base 3 "before" (sp_before K) []) :
    C8.Cal P w K mg base 4 "_at_most" (sp__at_most K) [] := by
  refine cal_of D sc__at_most (fun vs H Q E h => ?_) (fun f cdv A outer s H vs Q E hr h => ?_)
  · obtain ⟨_, _, rfl, _⟩ := h
    rfl
  refine ⟨_, (pss_one (ps_ret (pe_not (C8.pe_c c_before hr (by decide) (by rfl) (pa_cons (pv 1) (pa_cons (pv 0) pa_nil)))))), ?_⟩
  obtain ⟨x, y, rfl, ⟨hx, hy⟩, q⟩ := h
  exact s_ret (ev_notV (ec_before (ev_var rfl) (ev_var rfl) hy hx)) fun H2 e2 => q _ e2
theorem ok__are_alike (D : Dn K mg "_are_alike" s__are_alike ["first", "second"]) (c_kind_rank : C8.Cal P w K mg base 1 "kind_rank" (sp_kind_rank K) []) :
    C8.Cal P w K mg base 2 "_are_alike" (sp__are_alike K) [] := by
  refine cal_of D sc__are_alike (fun vs H Q E h => ?_) (fun f cdv A outer s H vs Q E hr h => ?_)
  · obtain ⟨_, _, rfl, _⟩ := h
    rfl
  refine ⟨_, (pss_one (ps_ret (pe_and (pe_cmpR op_notN (pv 0) pe_non (nomark _)) (pe_one (pe_cmpR op_eq (C8.pe_c c_kind_rank hr (by decide) (by rfl) (pa_cons (pv 0) pa_nil)) (C8.pe_c c_kind_rank hr (by decide) (by rfl) (pa_cons (pv 1) pa_nil)) (nomark _)))))), ?_⟩
  obtain ⟨x, y, rfl, hx, hy, q⟩ := h
  exact s_ret (ev_andV (ev_op (ev_var rfl) ev_c rv_notN) fun _ => ev_op (ec_kr (ev_var rfl) hx) (ec_kr (ev_var rfl) hy) (rv_eq rfl)) fun H2 e2 => q _ e2
theorem ok__first_known (D : Dn K mg "_first_known" s__first_known ["first", "second"]) :
    C8.Cal P w K mg base 1 "_first_known" (sp__first_known K) [] := by
  refine cal_of D sc__first_known (fun vs H Q E h => ?_) (fun f cdv A outer s H vs Q E hr h => ?_)
  · obtain ⟨_, _, rfl, _⟩ := h
    rfl
  refine ⟨_, (pss_one (ps_ret (pe_ifExp (pt_cmpR op_isN (pv 0) pe_non (nomark _)) (pv 1) (pv 0)))), ?_⟩
  obtain ⟨x, y, rfl, _, q⟩ := h
  refine s_ret (v := coalV x y) (ev_if (b := decide (x = .non)) (et_test (ev_op (ev_var rfl) ev_c rv_isN)) (fun hb => ev_is (ev_var rfl) ?_) fun hb => ev_is (ev_var rfl) ?_) fun H2 e2 => q _ e2
  · unfold coalV; rw [if_pos (of_decide_eq_true hb)]
  · unfold coalV; rw [if_neg (of_decide_eq_false hb)]
theorem ok_limited (D : Dn K mg "limited" s_limited ["number"]) (g_GREATEST : ∃ u, mg "GREATEST" = some u ∧ RelV (.int (1000000000000000)) u) :
    C8.Cal P w K mg base 1 "limited" (sp_limited K) [] := by
  refine cal_of D sc_limited (fun vs H Q E h => ?_) (fun f cdv A outer s H vs Q E hr h => ?_)
  · obtain ⟨_, rfl, _⟩ := h
    rfl
  refine ⟨_, (pss_cons (ps_if (pt_chain op_le op_le (pe_un un_neg (C8.pe_gc rfl g_GREATEST)) (pv 0) (C8.pe_gc rfl g_GREATEST))
      (pss_one (ps_ret (pv 0)))
      pss_nil)
    (pss_one (ps_ret pe_non))), ?_⟩
  obtain ⟨n, rfl, q⟩ := h
  refine q_when (b := decide (-1000000000000000 ≤ n) && decide (n ≤ 1000000000000000)) (et_test (ev_chain (ev_un ev_c ru_neg) (ev_var rfl) rv_I0 (fun _ => ev_c) (fun _ => rv_I0))) (fun hb H1 e1 => s_ret (v := limV n) ?_ fun H2 e2 => q _ (e1.trans e2)) fun hb H1 e1 => s_ret (v := limV n) ?_ fun H2 e2 => q _ (e1.trans e2)
  · rw [Bool.and_eq_true, decide_eq_true_eq, decide_eq_true_eq] at hb
    refine ev_is (ev_var rfl) ?_
    unfold limV
    rw [if_pos hb]
  · refine ev_is ev_c ?_
    unfold limV
    rw [if_neg]
    intro z
    rw [decide_eq_true z.1, decide_eq_true z.2] at hb
    cases hb
theorem ok__add (D : Dn K mg "_add" s__add ["first", "second"]) (c_limited : C8.Cal P w K mg base 1 "limited" (sp_limited K) []) :
    C8.Cal P w K mg base 2 "_add" (sp__add K) [] := by
  refine cal_of D sc__add (fun vs H Q E h => ?_) (fun f cdv A outer s H vs Q E hr h => ?_)
  · obtain ⟨_, _, rfl, _⟩ := h
    rfl
  refine ⟨_, (pss_one (ps_ret (C8.pe_c c_limited hr (by decide) (by rfl) (pa_cons (pe_op op_add (pv 0) (pv 1)) pa_nil)))), ?_⟩
  obtain ⟨x, y, rfl, ⟨⟨a, rfl, _⟩, b, rfl, _⟩, q⟩ := h
  exact s_ret (ec_lim (ev_op (ev_var rfl) (ev_var rfl) rv_I0)) fun H2 e2 => q _ e2
theorem ok__subtract (D : Dn K mg "_subtract" s__subtract ["first", "second"]) (c_limited : C8.Cal P w K mg base 1 "limited" (sp_limited K) []) :
    C8.Cal P w K mg base 2 "_subtract" (sp__subtract K) [] := by
  refine cal_of D sc__subtract (fun vs H Q E h => ?_) (fun f cdv A outer s H vs Q E hr h => ?_)
  · obtain ⟨_, _, rfl, _⟩ := h
    rfl
  refine ⟨_, (pss_one (ps_ret (C8.pe_c c_limited hr (by decide) (by rfl) (pa_cons (pe_op op_sub (pv 0) (pv 1)) pa_nil)))), ?_⟩
  obtain ⟨x, y, rfl, ⟨⟨a, rfl, _⟩, b, rfl, _⟩, q⟩ := h
  exact s_ret (ec_lim (ev_op (ev_var rfl) (ev_var rfl) rv_I0)) fun H2 e2 => q _ e2
theorem ok__multiply (D : Dn K mg "_multiply" s__multiply ["first", "second"]) (c_limited : C8.Cal P w K mg base 1 "limited" (sp_limited K) []) :
    C8.Cal P w K mg base 2 "_multiply" (sp__multiply K) [] := by
  refine cal_of D sc__multiply (fun vs H Q E h => ?_) (fun f cdv A outer s H vs Q E hr h => ?_)
  · obtain ⟨_, _, rfl, _⟩ := h
    rfl
  refine ⟨_, (pss_one (ps_ret (C8.pe_c c_limited hr (by decide) (by rfl) (pa_cons (pe_op op_mul (pv 0) (pv 1)) pa_nil)))), ?_⟩
  obtain ⟨x, y, rfl, ⟨⟨a, rfl, ha⟩, b, rfl, _⟩, q⟩ := h
  exact s_ret (ec_lim (ev_op (ev_var rfl) (ev_var rfl) (rv_I (.inl ⟨by have := ha.1; show -(2 ^ 64) < a; omega, by have := ha.2; show a < 2 ^ 64; omega⟩)))) fun H2 e2 => q _ e2
theorem ok__add_days (D : Dn K mg "_add_days" s__add_days ["day", "many"]) (c_is_day : C8.Cal P w K mg base 2 "is_day" (sp_is_day K) []) :
    C8.Cal P w K mg base 3 "_add_days" (sp__add_days K) [] := by
  refine cal_of D sc__add_days (fun vs H Q E h => ?_) (fun f cdv A outer s H vs Q E hr h => ?_)
  · obtain ⟨_, _, rfl, _⟩ := h
    rfl
  refine ⟨_, (pss_cons (ps_set (i := 2) sc__add_days.nd rfl (.inl rfl) (pe_op op_add (pv 0) (pv 1)))
    (pss_one (ps_ret (pe_ifExp (pt_val (C8.pe_c c_is_day hr (by decide) (by rfl) (pa_cons (pv 2) pa_nil))) (pv 2) pe_non)))), ?_⟩
  obtain ⟨x, y, rfl, ⟨⟨a, rfl, _⟩, b, rfl, _⟩, q⟩ := h
  refine q_asg (v := .int (a + b)) (ev_op (ev_var rfl) (ev_var rfl) rv_I0) fun H1 e1 => ?_
  refine s_ret (v := dayV (.int (a + b))) (ev_if (b := isDayI (a + b)) (et_B (ec_isday (ev_var rfl) (.int _))) (fun hb => ev_is (ev_var rfl) ?_) fun hb => ev_is ev_c ?_) fun H2 e2 => q _ (e1.trans e2)
  · show _ = if isDayI (a + b) = true then _ else _
    rw [if_pos hb]
  · show _ = if isDayI (a + b) = true then _ else _
    rw [if_neg (by rw [hb]; decide)]
theorem ok__negate (D : Dn K mg "_negate" s__negate ["number"]) :
    C8.Cal P w K mg base 1 "_negate" (sp__negate K) [] := by
  refine cal_of D sc__negate (fun vs H Q E h => ?_) (fun f cdv A outer s H vs Q E hr h => ?_)
  · obtain ⟨_, rfl, _⟩ := h
    rfl
  refine ⟨_, (pss_one (ps_ret (pe_un un_neg (pv 0)))), ?_⟩
  obtain ⟨x, rfl, ⟨i, rfl, _⟩, q⟩ := h
  exact s_ret (ev_un (ev_var rfl) ru_neg) fun H1 e1 => q H1 e1
theorem ok__size (D : Dn K mg "_size" s__size ["number"]) (z_abs : mg "abs" = none) :
    C8.Cal P w K mg base 1 "_size" (sp__size K) [] := by
  refine cal_of D sc__size (fun vs H Q E h => ?_) (fun f cdv A outer s H vs Q E hr h => ?_)
  · obtain ⟨_, rfl, _⟩ := h
    rfl
  refine ⟨_, (pss_one (ps_ret (pe_callB call_abs (by rfl) z_abs (by decide +kernel) (pa_cons (pv 0) pa_nil)))), ?_⟩
  obtain ⟨x, rfl, ⟨i, rfl, _⟩, q⟩ := h
  exact s_ret (ev_abs (ev_var rfl)) fun H1 e1 => q H1 e1
theorem ok__value (D : Dn K mg "_value" s__value ["value"]) :
    C8.Cal P w K mg base 1 "_value" (sp__value K) [] := by
  refine cal_of D sc__value (fun vs H Q E h => ?_) (fun f cdv A outer s H vs Q E hr h => ?_)
  · obtain ⟨_, rfl, _⟩ := h
    rfl
  refine ⟨_, (pss_one (ps_ret (pv 0))), ?_⟩
  obtain ⟨x, rfl, _, q⟩ := h
  exact s_ret (ev_var rfl) fun H1 e1 => q H1 e1
theorem ok__to_decimal (D : Dn K mg "_to_decimal" s__to_decimal ["number"]) (c_limited : C8.Cal P w K mg base 1 "limited" (sp_limited K) []) :
    C8.Cal P w K mg base 2 "_to_decimal" (sp__to_decimal K) [] := by
  refine cal_of D sc__to_decimal (fun vs H Q E h => ?_) (fun f cdv A outer s H vs Q E hr h => ?_)
  · obtain ⟨_, rfl, _⟩ := h
    rfl
  refine ⟨_, (pss_one (ps_ret (C8.pe_c c_limited hr (by decide) (by rfl) (pa_cons (pe_op op_mul pe_int (pv 0)) pa_nil)))), ?_⟩
  obtain ⟨x, rfl, ⟨i, rfl, _⟩, q⟩ := h
  exact s_ret (ec_lim (ev_op ev_c (ev_var rfl) (rv_I (.inl ⟨by decide, by decide⟩)))) fun H1 e1 => q H1 e1
theorem ok__length (D : Dn K mg "_length" s__length ["text"]) (z_len : mg "len" = none) :
    C8.Cal P w K mg base 1 "_length" (sp__length K) [] := by
  refine cal_of D sc__length (fun vs H Q E h => ?_) (fun f cdv A outer s H vs Q E hr h => ?_)
  · obtain ⟨_, rfl, _⟩ := h
    rfl
  refine ⟨_, (pss_one (ps_ret (pe_callB call_len_str (by rfl) z_len PySem.boot_len (pa_cons (pv 0) pa_nil)))), ?_⟩
  obtain ⟨x, rfl, ⟨s, rfl, hs⟩, q⟩ := h
  exact s_ret (ev_lenS (ev_var rfl) (by omega)) fun H1 e1 => q H1 e1
end
section
variable {P : Program} {w : World} {K : PySem.W.Frag} {mg : Str → Option Value} {base : Heap}
theorem ok_value_of_two (D : Dn K mg "value_of_two" s_value_of_two ["name", "first", "second"]) (c__are_alike : C8.Cal P w K mg base 2 "_are_alike" (sp__are_alike K) []) (c_is_day : C8.Cal P w K mg base 2 "is_day" (sp_is_day K) []) (c_is_integer : C8.Cal P w K mg base 1 "is_integer" (sp_is_integer K) []) {p_OF_DATES_of_two : Addr} {es_OF_DATES_of_two : Array DictEntry} {n_OF_DATES_of_two : Nat} (g_OF_DATES_of_two : ∃ u, mg "OF_DATES_of_two" = some u ∧ RelV (.ref p_OF_DATES_of_two) u) (h_OF_DATES_of_two : KDict K w p_OF_DATES_of_two es_OF_DATES_of_two n_OF_DATES_of_two) {p_OF_INTEGERS_of_two : Addr} {es_OF_INTEGERS_of_two : Array DictEntry} {n_OF_INTEGERS_of_two : Nat} (g_OF_INTEGERS_of_two : ∃ u, mg "OF_INTEGERS_of_two" = some u ∧ RelV (.ref p_OF_INTEGERS_of_two) u) (h_OF_INTEGERS_of_two : KDict K w p_OF_INTEGERS_of_two es_OF_INTEGERS_of_two n_OF_INTEGERS_of_two) {p_OF_TEXTS_of_two : Addr} {es_OF_TEXTS_of_two : Array DictEntry} {n_OF_TEXTS_of_two : Nat} (g_OF_TEXTS_of_two : ∃ u, mg "OF_TEXTS_of_two" = some u ∧ RelV (.ref p_OF_TEXTS_of_two) u) (h_OF_TEXTS_of_two : KDict K w p_OF_TEXTS_of_two es_OF_TEXTS_of_two n_OF_TEXTS_of_two) {p__OF_ALIKE : Addr} {es__OF_ALIKE : Array DictEntry} {n__OF_ALIKE : Nat} (g__OF_ALIKE : ∃ u, mg "_OF_ALIKE" = some u ∧ RelV (.ref p__OF_ALIKE) u) (h__OF_ALIKE : KDict K w p__OF_ALIKE es__OF_ALIKE n__OF_ALIKE) {p__OF_ANY : Addr} {es__OF_ANY : Array DictEntry} {n__OF_ANY : Nat} (g__OF_ANY : ∃ u, mg "_OF_ANY" = some u ∧ RelV (.ref p__OF_ANY) u) (h__OF_ANY : KDict K w p__OF_ANY es__OF_ANY n__OF_ANY) (tab : ∀ nm x y, nm ∈ binL → Ok x → Ok y → Opr2 P w K mg base p__OF_ANY p__OF_ALIKE p_OF_INTEGERS_of_two p_OF_TEXTS_of_two p_OF_DATES_of_two nm x y (binV nm x y)) :
    C8.Cal P w K mg base 5 "value_of_two" (sp_value_of_two K) [] := by
  refine cal_of D sc_value_of_two (fun vs H Q E h => ?_) (fun f cdv A outer s H vs Q E hr h => ?_)
  · obtain ⟨_, _, _, rfl, _⟩ := h
    rfl
  refine ⟨_, (pss_cons (ps_if (pt_cmpR (op_in_kd h__OF_ANY) (pv 0) (C8.pe_gc rfl g__OF_ANY) (by with_unfolding_all rfl))
      (pss_cons (ps_set (i := 3) sc_value_of_two.nd rfl (.inl rfl) (pe_ix ix_kdict (C8.pe_gc rfl g__OF_ANY) (pv 0) (fun _ _ => rfl)))
    (pss_one (ps_ret (pe_callH (i := 3) hr rfl (Or.inl rfl) (pa_cons (pv 1) (pa_cons (pv 2) pa_nil))))))
      pss_nil)
    (pss_cons (ps_if (pt_cmpR (op_in_kd h__OF_ALIKE) (pv 0) (C8.pe_gc rfl g__OF_ALIKE) (by with_unfolding_all rfl))
      (pss_cons (ps_set (i := 3) sc_value_of_two.nd rfl (.inl rfl) (pe_ix ix_kdict (C8.pe_gc rfl g__OF_ALIKE) (pv 0) (fun _ _ => rfl)))
    (pss_one (ps_ret (pe_ifExp (pt_val (C8.pe_c c__are_alike hr (by decide) (by rfl) (pa_cons (pv 1) (pa_cons (pv 2) pa_nil)))) (pe_callH (i := 3) hr rfl (Or.inl rfl) (pa_cons (pv 1) (pa_cons (pv 2) pa_nil))) pe_non))))
      pss_nil)
    (pss_cons (ps_if (pt_cmpR (op_in_kd h_OF_INTEGERS_of_two) (pv 0) (C8.pe_gc rfl g_OF_INTEGERS_of_two) (by with_unfolding_all rfl))
      (pss_cons (ps_set (i := 3) sc_value_of_two.nd rfl (.inl rfl) (pe_ix ix_kdict (C8.pe_gc rfl g_OF_INTEGERS_of_two) (pv 0) (fun _ _ => rfl)))
    (pss_one (ps_ret (pe_ifExp (PW.pt (pw_and (pt_val (C8.pe_c c_is_integer hr (by decide) (by rfl) (pa_cons (pv 1) pa_nil))) (pw_and1 (pt_val (C8.pe_c c_is_integer hr (by decide) (by rfl) (pa_cons (pv 2) pa_nil)))))) (pe_callH (i := 3) hr rfl (Or.inl rfl) (pa_cons (pv 1) (pa_cons (pv 2) pa_nil))) pe_non))))
      pss_nil)
    (pss_cons (ps_if (pt_cmpR (op_in_kd h_OF_TEXTS_of_two) (pv 0) (C8.pe_gc rfl g_OF_TEXTS_of_two) (by with_unfolding_all rfl))
      (pss_cons ps_never
    (pss_one ps_never))
      pss_nil)
    (pss_cons (ps_set (i := 3) sc_value_of_two.nd rfl (.inl rfl) (pe_ix ix_kdict (C8.pe_gc rfl g_OF_DATES_of_two) (pv 0) (fun _ _ => rfl)))
    (pss_one (ps_ret (pe_ifExp (PW.pt (pw_and (pt_val (C8.pe_c c_is_day hr (by decide) (by rfl) (pa_cons (pv 1) pa_nil))) (pw_and1 (pt_val (C8.pe_c c_is_integer hr (by decide) (by rfl) (pa_cons (pv 2) pa_nil)))))) (pe_callH (i := 3) hr rfl (Or.inl rfl) (pa_cons (pv 1) (pa_cons (pv 2) pa_nil))) pe_non)))))))), ?_⟩
  obtain ⟨nm, x, y, rfl, hnm, ⟨hx, bx⟩, ⟨hy, hb⟩, q⟩ := h
  have T := tab nm x y hnm hx hy
  have no : ∀ {d : Addr} {H0 : Hp}, PySem.W.nsIn K d nm = some none → EvT (tTest (tOp (fun x y H Q => ∃ (z : Str) (r : Option Value), x = .str z ∧ y = .ref d ∧ PySem.W.nsIn K d z = some r ∧ Q (.bl r.isSome) H) (tVar 0) (tC (.ref d)))) (start n_value_of_two [.str nm, x, y]) H0 false := fun e => et_test (ev_op (ev_var rfl) ev_c (rv_inKD e))
  have yes : ∀ {d f : Addr} {H0 : Hp}, PySem.W.nsIn K d nm = some (some (.ref f)) → EvT (tTest (tOp (fun x y H Q => ∃ (z : Str) (r : Option Value), x = .str z ∧ y = .ref d ∧ PySem.W.nsIn K d z = some r ∧ Q (.bl r.isSome) H) (tVar 0) (tC (.ref d)))) (start n_value_of_two [.str nm, x, y]) H0 true := fun e => et_test (ev_op (ev_var rfl) ev_c (rv_inKD e))
  have isI : ∀ {z : V}, isInt z = true → Ok z → bdV z → intB z := fun h o b => by
    cases o <;> first | (simp [isInt] at h; done) | exact ⟨_, rfl, b.1, b.2⟩
  have isD : ∀ {z : V}, isDay z = true → Ok z → dayP z := fun h o => by
    cases o <;> first | (simp [isDay] at h; done) | exact ⟨_, rfl, h⟩
  generalize binV nm x y = z at T q
  cases T with
  | any e1 hh hp =>
    refine q_when (yes e1) (fun _ H1 x1 => ?_) fun hb => nomatch hb
    refine q_asg (ev_op ev_c (ev_var rfl) (rv_ixKD (v := .ref _) h__OF_ANY e1 rfl)) fun H2 x2 => ?_
    exact s_ret (ec_held rfl hh hp (ev_var rfl) (ev_var rfl)) fun H3 x3 => q _ ((x1.trans x2).trans x3)
  | alike e1 e2 hh =>
    refine q_when (no e1) (fun hb => nomatch hb) fun _ H1 x1 => ?_
    refine q_when (yes e2) (fun _ H2 x2 => ?_) fun hb => nomatch hb
    refine q_asg (ev_op ev_c (ev_var rfl) (rv_ixKD (v := .ref _) h__OF_ALIKE e2 rfl)) fun H3 x3 => ?_
    refine s_ret (ev_if (et_B (ec_alike (ev_var rfl) (ev_var rfl) hx hy)) (fun hb => ?_) fun hb => ?_) fun H4 x4 => q _ (((x1.trans x2).trans x3).trans x4)
    · exact ev_is (ec_held rfl hh ⟨hx, hy⟩ (ev_var rfl) (ev_var rfl)) (by unfold iff1; rw [if_pos hb])
    · exact ev_is ev_c (by unfold iff1; rw [if_neg (by rw [hb]; decide)])
  | nums e1 e2 e3 hh =>
    refine q_when (no e1) (fun hb => nomatch hb) fun _ H1 x1 => ?_
    refine q_when (no e2) (fun hb => nomatch hb) fun _ H2 x2 => ?_
    refine q_when (yes e3) (fun _ H3 x3 => ?_) fun hb => nomatch hb
    refine q_asg (ev_op ev_c (ev_var rfl) (rv_ixKD (v := .ref _) h_OF_INTEGERS_of_two e3 rfl)) fun H4 x4 => ?_
    refine s_ret (ev_if (b := isInt x && isInt y) (et_and (et_B (ec_isint0 (ev_var rfl) hx.pl)) fun _ => et_B (ec_isint0 (ev_var rfl) hy.pl)) (fun hc => ?_) fun hc => ?_) fun H5 x5 => q _ ((((x1.trans x2).trans x3).trans x4).trans x5)
    · have h2 := hc
      rw [Bool.and_eq_true] at h2
      exact ev_is (ec_held rfl hh ⟨isI h2.1 hx bx, isI h2.2 hy hb⟩ (ev_var rfl) (ev_var rfl)) (by unfold iff1; rw [if_pos hc])
    · exact ev_is ev_c (by unfold iff1; rw [if_neg (by rw [hc]; decide)])
  | days e1 e2 e3 e4 e5 hh =>
    refine q_when (no e1) (fun hb => nomatch hb) fun _ H1 x1 => ?_
    refine q_when (no e2) (fun hb => nomatch hb) fun _ H2 x2 => ?_
    refine q_when (no e3) (fun hb => nomatch hb) fun _ H3 x3 => ?_
    refine q_when (no e4) (fun hb => nomatch hb) fun _ H4 x4 => ?_
    refine q_asg (ev_op ev_c (ev_var rfl) (rv_ixKD (v := .ref _) h_OF_DATES_of_two e5 rfl)) fun H5 x5 => ?_
    refine s_ret (ev_if (b := isDay x && isInt y) (et_and (et_B (ec_isday (ev_var rfl) hx.pl)) fun _ => et_B (ec_isint0 (ev_var rfl) hy.pl)) (fun hc => ?_) fun hc => ?_) fun H6 x6 => q _ (((((x1.trans x2).trans x3).trans x4).trans x5).trans x6)
    · have h2 := hc
      rw [Bool.and_eq_true] at h2
      exact ev_is (ec_held rfl hh ⟨isD h2.1 hx, isI h2.2 hy hb⟩ (ev_var rfl) (ev_var rfl)) (by unfold iff1; rw [if_pos hc])
    · exact ev_is ev_c (by unfold iff1; rw [if_neg (by rw [hc]; decide)])
theorem ok_binary (D : Dn K mg "binary" s_binary ["name", "first", "second"]) (c_value_of_two : C8.Cal P w K mg base 5 "value_of_two" (sp_value_of_two K) []) :
    C8.Cal P w K mg base 6 "binary" (sp_binary K) [] := by
  refine cal_of D sc_binary (fun vs H Q E h => ?_) (fun f cdv A outer s H vs Q E hr h => ?_)
  · obtain ⟨_, _, _, rfl, _⟩ := h
    rfl
  refine ⟨_, (pss_one (ps_ret (C8.pe_c c_value_of_two hr (by decide) (by rfl) (pa_cons (pv 0) (pa_cons (pv 1) (pa_cons (pv 2) pa_nil)))))), ?_⟩
  obtain ⟨nm, x, y, rfl, hnm, hx, hy, q⟩ := h
  exact s_ret (ec_two hnm hx hy (ev_var rfl) (ev_var rfl) (ev_var rfl)) fun H2 e2 => q _ e2
theorem ok_value_of_one (D : Dn K mg "value_of_one" s_value_of_one ["name", "value"]) (c_is_day : C8.Cal P w K mg base 2 "is_day" (sp_is_day K) []) (c_is_integer : C8.Cal P w K mg base 1 "is_integer" (sp_is_integer K) []) (c_negated : C8.Cal P w K mg base 1 "negated" (sp_negated K) []) (z_isinstance : mg "isinstance" = none) (z_str : mg "str" = none) {p_OF_DATES_of_one : Addr} {es_OF_DATES_of_one : Array DictEntry} {n_OF_DATES_of_one : Nat} (g_OF_DATES_of_one : ∃ u, mg "OF_DATES_of_one" = some u ∧ RelV (.ref p_OF_DATES_of_one) u) (h_OF_DATES_of_one : KDict K w p_OF_DATES_of_one es_OF_DATES_of_one n_OF_DATES_of_one) {p_OF_INTEGERS_of_one : Addr} {es_OF_INTEGERS_of_one : Array DictEntry} {n_OF_INTEGERS_of_one : Nat} (g_OF_INTEGERS_of_one : ∃ u, mg "OF_INTEGERS_of_one" = some u ∧ RelV (.ref p_OF_INTEGERS_of_one) u) (h_OF_INTEGERS_of_one : KDict K w p_OF_INTEGERS_of_one es_OF_INTEGERS_of_one n_OF_INTEGERS_of_one) {p_OF_TEXTS_of_one : Addr} {es_OF_TEXTS_of_one : Array DictEntry} {n_OF_TEXTS_of_one : Nat} (g_OF_TEXTS_of_one : ∃ u, mg "OF_TEXTS_of_one" = some u ∧ RelV (.ref p_OF_TEXTS_of_one) u) (h_OF_TEXTS_of_one : KDict K w p_OF_TEXTS_of_one es_OF_TEXTS_of_one n_OF_TEXTS_of_one) (tab1 : ∀ nm x, nm ∈ unL → nm ≠ "not" → nm ≠ "is null" → Opr1 P w K mg base p_OF_INTEGERS_of_one p_OF_TEXTS_of_one p_OF_DATES_of_one nm x (unV nm x)) :
    C8.Cal P w K mg base 5 "value_of_one" (sp_value_of_one K) [] := by
  refine cal_of D sc_value_of_one (fun vs H Q E h => ?_) (fun f cdv A outer s H vs Q E hr h => ?_)
  · obtain ⟨_, _, rfl, _⟩ := h
    rfl
  refine ⟨_, (pss_cons (ps_if (pt_cmpR op_eq (pv 0) pe_str (nomark _))
      (pss_one (ps_ret (C8.pe_c c_negated hr (by decide) (by rfl) (pa_cons (pv 1) pa_nil))))
      pss_nil)
    (pss_cons (ps_if (pt_cmpR op_eq (pv 0) pe_str (nomark _))
      (pss_one (ps_ret (pe_cmpR op_isN (pv 1) pe_non (nomark _))))
      pss_nil)
    (pss_cons (ps_if (pt_cmpR (op_in_kd h_OF_INTEGERS_of_one) (pv 0) (C8.pe_gc rfl g_OF_INTEGERS_of_one) (by with_unfolding_all rfl))
      (pss_cons (ps_set (i := 2) sc_value_of_one.nd rfl (.inl rfl) (pe_ix ix_kdict (C8.pe_gc rfl g_OF_INTEGERS_of_one) (pv 0) (fun _ _ => rfl)))
    (pss_one (ps_ret (pe_ifExp (pt_val (C8.pe_c c_is_integer hr (by decide) (by rfl) (pa_cons (pv 1) pa_nil))) (pe_callH (i := 2) hr rfl (Or.inl rfl) (pa_cons (pv 1) pa_nil)) pe_non))))
      pss_nil)
    (pss_cons (ps_if (pt_cmpR (op_in_kd h_OF_TEXTS_of_one) (pv 0) (C8.pe_gc rfl g_OF_TEXTS_of_one) (by with_unfolding_all rfl))
      (pss_cons (ps_set (i := 2) sc_value_of_one.nd rfl (.inl rfl) (pe_ix ix_kdict (C8.pe_gc rfl g_OF_TEXTS_of_one) (pv 0) (fun _ _ => rfl)))
    (pss_one (ps_ret (pe_ifExp (pt_val (pe_callB call_isi (by rfl) z_isinstance (by decide +kernel) (pa_cons (pv 1) (pa_cons (pe_bltn (v := .ty "str") (u := .type "str") rfl z_str (by decide +kernel) rfl) pa_nil)))) (pe_callH (i := 2) hr rfl (Or.inl rfl) (pa_cons (pv 1) pa_nil)) pe_non))))
      pss_nil)
    (pss_cons (ps_set (i := 2) sc_value_of_one.nd rfl (.inl rfl) (pe_ix ix_kdict (C8.pe_gc rfl g_OF_DATES_of_one) (pv 0) (fun _ _ => rfl)))
    (pss_one (ps_ret (pe_ifExp (pt_val (C8.pe_c c_is_day hr (by decide) (by rfl) (pa_cons (pv 1) pa_nil))) (pe_callH (i := 2) hr rfl (Or.inl rfl) (pa_cons (pv 1) pa_nil)) pe_non)))))))), ?_⟩
  obtain ⟨nm, x, rfl, hnm, ⟨hx, bx⟩, q⟩ := h
  refine q_when (b := decide (V.str nm = V.str "not")) (et_test (ev_op (ev_var rfl) ev_c (rv_eq rfl))) (fun hb H1 e1 => ?_) fun hb1 H1 e1 => ?_
  · have hn : nm = "not" := V.str.inj (of_decide_eq_true hb)
    subst hn
    exact s_ret (v := unV "not" x) (ec_neg3 (ev_var rfl)) fun H2 e2 => q H2 (e1.trans e2)
  have hn1 : nm ≠ "not" := fun z => by rw [z] at hb1; exact absurd hb1 (by decide +kernel)
  refine q_when (b := decide (V.str nm = V.str "is null")) (et_test (ev_op (ev_var rfl) ev_c (rv_eq rfl))) (fun hb H2 e2 => ?_) fun hb2 H2 e2 => ?_
  · have hn : nm = "is null" := V.str.inj (of_decide_eq_true hb)
    subst hn
    exact s_ret (v := unV "is null" x) (ev_is (ev_op (ev_var rfl) ev_c rv_isN) rfl) fun H3 e3 => q H3 (e1.trans (e2.trans e3))
  have hn2 : nm ≠ "is null" := fun z => by rw [z] at hb2; exact absurd hb2 (by decide +kernel)
  have T := tab1 nm x hnm hn1 hn2
  generalize unV nm x = z at T q
  cases T with
  | inty e3 hh =>
    refine q_when (b := true) (et_test (ev_op (ev_var rfl) ev_c (rv_inKD e3))) (fun _ H3 x3 => ?_) fun h => nomatch h
    refine q_asg (ev_op ev_c (ev_var rfl) (rv_ixKD (v := .ref _) h_OF_INTEGERS_of_one e3 rfl)) fun H4 x4 => ?_
    refine s_ret (ev_if (b := isInt x) (et_B (ec_isint0 (ev_var rfl) hx.pl)) (fun hc => ?_) fun hc => ?_) fun H5 x5 => q _ ((e1.trans e2).trans ((x3.trans x4).trans x5))
    · refine ev_is (ec_held1 rfl hh ?_ (ev_var rfl)) (by unfold iff1; rw [if_pos hc])
      cases hx <;> first | (simp [isInt] at hc; done) | exact ⟨_, rfl, bx.1, bx.2⟩
    · exact ev_is ev_c (by unfold iff1; rw [if_neg (by rw [hc]; decide)])
  | wrds e3 e4 hh =>
    refine q_when (b := false) (et_test (ev_op (ev_var rfl) ev_c (rv_inKD e3))) (fun h => nomatch h) fun _ H3 x3 => ?_
    refine q_when (b := true) (et_test (ev_op (ev_var rfl) ev_c (rv_inKD e4))) (fun _ H4 x4 => ?_) fun h => nomatch h
    refine q_asg (ev_op ev_c (ev_var rfl) (rv_ixKD (v := .ref _) h_OF_TEXTS_of_one e4 rfl)) fun H5 x5 => ?_
    refine s_ret (ev_if (b := isStr x) (et_B (ev_isStr (ev_var rfl) hx)) (fun hc => ?_) fun hc => ?_) fun H6 x6 => q _ ((e1.trans e2).trans ((x3.trans x4).trans (x5.trans x6)))
    · refine ev_is (ec_held1 rfl hh ?_ (ev_var rfl)) (by unfold iff1; rw [if_pos hc])
      cases hx <;> first | (simp [isStr] at hc; done) | exact ⟨_, rfl, bx⟩
    · exact ev_is ev_c (by unfold iff1; rw [if_neg (by rw [hc]; decide)])
  | days e3 e4 e5 hh =>
    refine q_when (b := false) (et_test (ev_op (ev_var rfl) ev_c (rv_inKD e3))) (fun h => nomatch h) fun _ H3 x3 => ?_
    refine q_when (b := false) (et_test (ev_op (ev_var rfl) ev_c (rv_inKD e4))) (fun h => nomatch h) fun _ H4 x4 => ?_
    refine q_asg (ev_op ev_c (ev_var rfl) (rv_ixKD (v := .ref _) h_OF_DATES_of_one e5 rfl)) fun H5 x5 => ?_
    refine s_ret (ev_if (b := isDay x) (et_B (ec_isday (ev_var rfl) hx.pl)) (fun hc => ?_) fun hc => ?_) fun H6 x6 => q _ ((e1.trans e2).trans ((x3.trans x4).trans (x5.trans x6)))
    · exact ev_is (ec_held1 rfl hh trivial (ev_var rfl)) (by unfold iff1; rw [if_pos hc])
    · exact ev_is ev_c (by unfold iff1; rw [if_neg (by rw [hc]; decide)])
theorem ok_unary (D : Dn K mg "unary" s_unary ["name", "value"]) (c_value_of_one : C8.Cal P w K mg base 5 "value_of_one" (sp_value_of_one K) []) :
    C8.Cal P w K mg base 6 "unary" (sp_unary K) [] := by
  refine cal_of D sc_unary (fun vs H Q E h => ?_) (fun f cdv A outer s H vs Q E hr h => ?_)
  · obtain ⟨_, _, rfl, _⟩ := h
    rfl
  refine ⟨_, (pss_one (ps_ret (C8.pe_c c_value_of_one hr (by decide) (by rfl) (pa_cons (pv 0) (pa_cons (pv 1) pa_nil))))), ?_⟩
  obtain ⟨nm, x, rfl, hnm, hx, q⟩ := h
  exact s_ret (ec_one hnm hx (ev_var rfl) (ev_var rfl)) fun H2 e2 => q _ e2
theorem ok_evaluate {rn : Nat} (D : Dn K mg "evaluate" s_evaluate ["expression", "row"]) (c_binary : C8.Cal P w K mg base 6 "binary" (sp_binary K) []) (c_unary : C8.Cal P w K mg base 6 "unary" (sp_unary K) []) (z_len : mg "len" = none) (c_evaluate : C8.Cal P w K mg base (7 + rn) "evaluate" (spR_evaluate rn K) []) :
    C8.Cal P w K mg base (7 + rn + 1) "evaluate" (spR_evaluate (rn + 1) K) [] := by
  refine cal_of D sc_evaluate (fun vs H Q E h => ?_) (fun f cdv A outer s H vs Q E hr h => ?_)
  · obtain ⟨_, _, _, _, rfl, _⟩ := h
    rfl
  refine ⟨_, (pss_cons (ps_set (i := 2) sc_evaluate.nd rfl (.inl rfl) (pe_ix ix_tup (pv 0) pe_int (fun _ _ => rfl)))
    (pss_cons (ps_if (pt_cmpR op_eq (pv 2) pe_str (nomark _))
      (pss_one (ps_ret (pe_ix ix_tup (pv 0) pe_int (fun _ _ => rfl))))
      pss_nil)
    (pss_cons (ps_if (pt_cmpR op_eq (pv 2) pe_str (nomark _))
      (pss_cons (ps_set (i := 3) sc_evaluate.nd rfl (.inl rfl) (pe_ix ix_tup (pv 0) pe_int (fun _ _ => rfl)))
    (pss_one (ps_ret (pe_ifExp (pt_cmpR op_lt (pv 3) (pe_callB call_len_seq (by rfl) z_len PySem.boot_len (pa_cons (pv 1) pa_nil)) (nomark _)) (pe_ix ix_list (pv 1) (pv 3) (fun _ _ => rfl)) pe_non))))
      pss_nil)
    (pss_cons (ps_if (pt_cmpR op_eq (pv 2) pe_str (nomark _))
      (pss_one (ps_ret (C8.pe_c c_unary hr (by omega) (by rfl) (pa_cons (pe_ix ix_tup (pv 0) pe_int (fun _ _ => rfl)) (pa_cons (C8.pe_c c_evaluate hr (Nat.le_refl _) (by rfl) (pa_cons (pe_ix ix_tup (pv 0) pe_int (fun _ _ => rfl)) (pa_cons (pv 1) pa_nil))) pa_nil)))))
      pss_nil)
    (pss_cons (ps_if (pt_cmpR op_eq (pv 2) pe_str (nomark _))
      (pss_one (ps_ret (C8.pe_c c_binary hr (by omega) (by rfl) (pa_cons (pe_ix ix_tup (pv 0) pe_int (fun _ _ => rfl)) (pa_cons (C8.pe_c c_evaluate hr (Nat.le_refl _) (by rfl) (pa_cons (pe_ix ix_tup (pv 0) pe_int (fun _ _ => rfl)) (pa_cons (pv 1) pa_nil))) (pa_cons (C8.pe_c c_evaluate hr (Nat.le_refl _) (by rfl) (pa_cons (pe_ix ix_tup (pv 0) pe_int (fun _ _ => rfl)) (pa_cons (pv 1) pa_nil))) pa_nil))))))
      pss_nil)
    (pss_cons (ps_if (pt_cmpR op_eq (pv 2) pe_str (nomark _))
      (pss_cons (ps_set (i := 4) sc_evaluate.nd rfl (.inl rfl) (pe_ifExp (pt_cmpR op_isTF (C8.pe_c c_evaluate hr (Nat.le_refl _) (by rfl) (pa_cons (pe_ix ix_tup (pv 0) pe_int (fun _ _ => rfl)) (pa_cons (pv 1) pa_nil))) pe_bl (nomark _)) pe_int pe_int))
    (pss_one (ps_ret (C8.pe_c c_evaluate hr (Nat.le_refl _) (by rfl) (pa_cons (pe_ix ix_tup (pv 0) (pv 4) (fun _ _ => rfl)) (pa_cons (pv 1) pa_nil))))))
      pss_nil)
    (pss_cons ps_never
    (pss_one ps_never)))))))), ?_⟩
  obtain ⟨v, e, p, xs, rfl, ⟨hx, hN, hd⟩, hS, hw, hl, q⟩ := h
  obtain ⟨ad, ys, rfl, hT, hV⟩ := xa_at hx
  refine q_asg (v := .str e.hd) (ev_ix (i := 0) (ev_var rfl) hT ev_c hV.hd) fun H1 e1 => ?_
  have hT1 := ex_t e1 hT
  have no : ∀ {a b : Str} {H0 : Hp} {σ : L2.St} {r : Bool}, σ[2]? = some (some (.str a)) → isS a b = r → EvT (tTest (tOp rEq (tVar 2) (tC (.str b)))) σ H0 r := fun h hr => et_is (et_S (ev_var h) ev_c) hr
  have hpos := xdep_pos e
  cases hV with
  | cst x hxv =>
    refine q_when (b := true) (no rfl (by show isS "constant" "constant" = true; decide +kernel)) (fun _ H2 e2 => ?_) fun h => nomatch h
    exact s_ret (ev_ix (i := 1) (ev_var rfl) (ex_t e2 hT1) ev_c rfl) fun H3 e3 => q H3 (e1.trans (e2.trans e3))
  | col n =>
    refine q_when (b := false) (no rfl (by show isS "column" "constant" = false; decide +kernel)) (fun h => nomatch h) fun _ H2 e2 => ?_
    refine q_when (b := true) (no rfl (by show isS "column" "column" = true; decide +kernel)) (fun _ H3 e3 => ?_) fun h => nomatch h
    refine q_asg (v := .int (n : Int)) (ev_ix (i := 1) (ev_var rfl) (ex_t (e2.trans e3) hT1) ev_c rfl) fun H4 e4 => ?_
    have x4 := e1.trans (e2.trans (e3.trans e4))
    refine s_ret (v := evX xs (.col n)) (ev_if (b := decide ((n : Int) < (xs.length : Int))) (et_test (ev_op (ev_var rfl) (ev_len (ev_var rfl) (ex_l x4 hS)) rv_I0)) (fun hb => ?_) fun hb => ?_) fun H5 e5 => q H5 (x4.trans e5)
    · have hlt : n < xs.length := by have := of_decide_eq_true hb; omega
      exact ev_op (ev_var rfl) (ev_var rfl) (rv_ixL (ex_l x4 hS) (atI_nat (by rw [List.getElem?_eq_getElem hlt]; show some xs[n] = some (xs.getD n .non); rw [List.getD_eq_getElem?_getD, List.getElem?_eq_getElem hlt]; rfl)))
    · have hlt : ¬ n < xs.length := by have := of_decide_eq_false hb; omega
      refine ev_is ev_c ?_
      show V.non = xs.getD n .non
      rw [List.getD_eq_getElem?_getD, List.getElem?_eq_none (by omega)]
      rfl
  | un nm a y ha =>
    have hda : a.dep + 1 ≤ rn + 1 := hd
    have hpa := xdep_pos a
    cases rn with
    | zero => omega
    | succ n =>
    refine q_when (b := false) (no rfl (by show isS "unary" "constant" = false; decide +kernel)) (fun h => nomatch h) fun _ H2 e2 => ?_
    refine q_when (b := false) (no rfl (by show isS "unary" "column" = false; decide +kernel)) (fun h => nomatch h) fun _ H3 e3 => ?_
    refine q_when (b := true) (no rfl (by show isS "unary" "unary" = true; decide +kernel)) (fun _ H4 e4 => ?_) fun h => nomatch h
    have x4 := e1.trans (e2.trans (e3.trans e4))
    have hT4 := ex_t (e2.trans (e3.trans e4)) hT1
    exact s_ret (ec_one hN.1 (ev_vok hw ha.2) (ev_ix (i := 1) (ev_var rfl) hT4 ev_c rfl) (ec_evalR (n := n) (ev_ix (i := 2) (ev_var rfl) hT4 ev_c rfl) (ev_var rfl) (ha.ex x4) hN.2 (by omega) (ex_l x4 hS) hw hl)) fun H5 e5 => q H5 (x4.trans e5)
  | bin nm a b y z ha hb =>
    have hda : max a.dep b.dep + 1 ≤ rn + 1 := hd
    have hpa := xdep_pos a
    cases rn with
    | zero => omega
    | succ n =>
    refine q_when (b := false) (no rfl (by show isS "binary" "constant" = false; decide +kernel)) (fun h => nomatch h) fun _ H2 e2 => ?_
    refine q_when (b := false) (no rfl (by show isS "binary" "column" = false; decide +kernel)) (fun h => nomatch h) fun _ H3 e3 => ?_
    refine q_when (b := false) (no rfl (by show isS "binary" "unary" = false; decide +kernel)) (fun h => nomatch h) fun _ H4 e4 => ?_
    refine q_when (b := true) (no rfl (by show isS "binary" "binary" = true; decide +kernel)) (fun _ H5 e5 => ?_) fun h => nomatch h
    have x5 := e1.trans (e2.trans (e3.trans (e4.trans e5)))
    have hT5 := ex_t (e2.trans (e3.trans (e4.trans e5))) hT1
    exact s_ret (ec_two hN.1 (ev_vok hw ha.2) (ev_vok hw hb.2) (ev_ix (i := 1) (ev_var rfl) hT5 ev_c rfl) (ec_evalR (n := n) (ev_ix (i := 2) (ev_var rfl) hT5 ev_c rfl) (ev_var rfl) (ha.ex x5) hN.2.1 (by omega) (ex_l x5 hS) hw hl) (ec_evalR (n := n) (ev_ix (i := 3) (ev_var rfl) hT5 ev_c rfl) (ev_var rfl) (hb.ex x5) hN.2.2 (by omega) (ex_l x5 hS) hw hl)) fun H6 e6 => q H6 (x5.trans e6)
  | cho c a b x y z hc ha hb =>
    have hda : max c.dep (max a.dep b.dep) + 1 ≤ rn + 1 := hd
    have hpa := xdep_pos a
    cases rn with
    | zero => omega
    | succ n =>
    refine q_when (b := false) (no rfl (by show isS "choice" "constant" = false; decide +kernel)) (fun h => nomatch h) fun _ H2 e2 => ?_
    refine q_when (b := false) (no rfl (by show isS "choice" "column" = false; decide +kernel)) (fun h => nomatch h) fun _ H3 e3 => ?_
    refine q_when (b := false) (no rfl (by show isS "choice" "unary" = false; decide +kernel)) (fun h => nomatch h) fun _ H4 e4 => ?_
    refine q_when (b := false) (no rfl (by show isS "choice" "binary" = false; decide +kernel)) (fun h => nomatch h) fun _ H5 e5 => ?_
    refine q_when (b := true) (no rfl (by show isS "choice" "choice" = true; decide +kernel)) (fun _ H6 e6 => ?_) fun h => nomatch h
    have x6 := e1.trans (e2.trans (e3.trans (e4.trans (e5.trans e6))))
    have hT6 := ex_t (e2.trans (e3.trans (e4.trans (e5.trans e6)))) hT1
    refine q_asg (v := .int (if evX xs c = .bl true then 2 else 3)) (ev_if (b := decide (evX xs c = .bl true)) (et_test (ev_op (ec_evalR (n := n) (ev_ix (i := 1) (ev_var rfl) hT6 ev_c rfl) (ev_var rfl) (hc.ex x6) hN.1 (by omega) (ex_l x6 hS) hw hl) ev_c rv_isT)) (fun hz => ev_is ev_c (by rw [if_pos (of_decide_eq_true hz)])) fun hz => ev_is ev_c (by rw [if_neg (of_decide_eq_false hz)])) fun H7 e7 => ?_
    have x7 := x6.trans e7
    have hT7 := ex_t e7 hT6
    show tRet _ _ _ _
    have hq : (evX xs (.cho c a b)) = if evX xs c = .bl true then evX xs a else evX xs b := rfl
    rw [hq] at q
    by_cases hz : evX xs c = .bl true
    · rw [if_pos hz] at q ⊢
      exact s_ret (ec_evalR (n := n) (ev_ix (i := 2) (ev_var rfl) hT7 (ev_var rfl) rfl) (ev_var rfl) (ha.ex x7) hN.2.1 (by omega) (ex_l x7 hS) hw hl) fun H8 e8 => q H8 (x7.trans e8)
    · rw [if_neg hz] at q ⊢
      exact s_ret (ec_evalR (n := n) (ev_ix (i := 3) (ev_var rfl) hT7 (ev_var rfl) rfl) (ev_var rfl) (hb.ex x7) hN.2.2 (by omega) (ex_l x7 hS) hw hl) fun H8 e8 => q H8 (x7.trans e8)
theorem ok_holds (D : Dn K mg "holds" s_holds ["expression", "row"]) (c_evaluate : C8.Cal P w K mg base 13 "evaluate" (sp_evaluate K) []) :
    C8.Cal P w K mg base 14 "holds" (sp_holds K) [] := by
  refine cal_of D sc_holds (fun vs H Q E h => ?_) (fun f cdv A outer s H vs Q E hr h => ?_)
  · obtain ⟨_, _, _, _, rfl, _⟩ := h
    rfl
  refine ⟨_, (pss_one (ps_ret (pe_cmpR op_isTF (C8.pe_c c_evaluate hr (by decide) (by rfl) (pa_cons (pv 0) (pa_cons (pv 1) pa_nil))) pe_bl (nomark _)))), ?_⟩
  obtain ⟨v, e, a, xs, rfl, ⟨hx, hN, hd⟩, hS, hw, hl, q⟩ := h
  exact s_ret (ev_op (ec_eval (ev_var rfl) (ev_var rfl) hx hN hd hS hw hl) ev_c rv_isT) fun H1 e1 => q H1 e1
end
def Xp.kids : Xp → List Xp
  | .col _ => []
  | .cst _ => []
  | .un _ a => [a]
  | .bin _ a b => [a, b]
  | .cho c a b => [c, a, b]
def Xp.pre : Xp → List PyData
  | .col n => [.int (n : Int)]
  | .cst v => [vD v]
  | .un nm _ => [.str nm]
  | .bin nm _ _ => [.str nm]
  | .cho _ _ _ => []
def used : Xp → List Nat
  | .col n => [n]
  | .cst _ => []
  | .un _ a => used a
  | .bin _ a b => used a ++ used b
  | .cho c a b => used c ++ (used a ++ used b)
def Xp.sz : Xp → Nat
  | .col _ => 1
  | .cst _ => 1
  | .un _ a => a.sz + 1
  | .bin _ a b => a.sz + b.sz + 1
  | .cho c a b => c.sz + a.sz + b.sz + 1
def cparts : Xp → List Xp
  | .bin nm a b => if isS nm "and" = true then cparts a ++ cparts b else [.bin nm a b]
  | e => [e]
theorem xd_is (e : Xp) : e.d = .tuple (.str e.hd :: (e.pre ++ e.kids.map Xp.d)) := by cases e <;> rfl
theorem used_kids (e : Xp) (n : Nat) : n ∈ used e ↔ e = .col n ∨ ∃ c ∈ e.kids, n ∈ used c := by
  cases e with
  | col k => simp [used, Xp.kids]; exact ⟨fun h => h.symm, fun h => h.symm⟩
  | cst v => simp [used, Xp.kids]
  | un nm a => simp [used, Xp.kids]
  | bin nm a b => simp [used, Xp.kids]
  | cho c a b => simp [used, Xp.kids]
theorem sz_kids (e : Xp) : e.sz = (e.kids.map Xp.sz).sum + 1 := by cases e <;> simp [Xp.sz, Xp.kids]; omega
theorem sz_pos (e : Xp) : 1 ≤ e.sz := by rw [sz_kids]; omega
theorem xx_view {K : PySem.W.Frag} {G : Hp} {v : V} {e : Xp} (h : Dp K G v e.d) : ∃ b us ys, v = .ref b ∧ SqT K G b (.str e.hd :: (us ++ ys)) ∧ DpAll K G us e.pre ∧ DpAll K G ys (e.kids.map Xp.d) := by
  rw [xd_is] at h
  obtain ⟨b, zs, rfl, hS, hds⟩ := dp_tupD h
  cases hds with | cons h1 hds =>
  cases h1
  have split : ∀ {ds es : List PyData} {vs : List V}, DpAll K G vs (ds ++ es) → ∃ xs ys, vs = xs ++ ys ∧ DpAll K G xs ds ∧ DpAll K G ys es := by
    intro ds
    induction ds with
    | nil => intro es vs h; exact ⟨[], vs, rfl, .nil, h⟩
    | cons d ds ih =>
      intro es vs h
      cases h with | cons a t =>
      obtain ⟨xs, ys, rfl, h1, h2⟩ := ih t
      exact ⟨_ :: xs, ys, rfl, .cons a h1, h2⟩
  obtain ⟨us, ys, rfl, a, c⟩ := split hds
  exact ⟨b, us, ys, rfl, hS, a, c⟩
def isCol : Xp → Bool
  | .col _ => true
  | _ => false
def isCst : Xp → Bool
  | .cst _ => true
  | _ => false
def isBn : Xp → Bool
  | .bin _ _ _ => true
  | _ => false
def isUn1 : Xp → Bool
  | .un _ _ => true
  | _ => false
def isCho : Xp → Bool
  | .cho _ _ _ => true
  | _ => false
theorem hd_col (e : Xp) : isS e.hd "column" = isCol e := by
  cases e with
  | col n => exact (show isS ("column" : Str) "column" = true by decide +kernel)
  | cst v => exact (show isS ("constant" : Str) "column" = false by decide +kernel)
  | un nm a => exact (show isS ("unary" : Str) "column" = false by decide +kernel)
  | bin nm a b => exact (show isS ("binary" : Str) "column" = false by decide +kernel)
  | cho c a b => exact (show isS ("choice" : Str) "column" = false by decide +kernel)
theorem hd_cst (e : Xp) : isS e.hd "constant" = isCst e := by
  cases e with
  | col n => exact (show isS ("column" : Str) "constant" = false by decide +kernel)
  | cst v => exact (show isS ("constant" : Str) "constant" = true by decide +kernel)
  | un nm a => exact (show isS ("unary" : Str) "constant" = false by decide +kernel)
  | bin nm a b => exact (show isS ("binary" : Str) "constant" = false by decide +kernel)
  | cho c a b => exact (show isS ("choice" : Str) "constant" = false by decide +kernel)
theorem hd_bin (e : Xp) : isS e.hd "binary" = isBn e := by
  cases e with
  | col n => exact (show isS ("column" : Str) "binary" = false by decide +kernel)
  | cst v => exact (show isS ("constant" : Str) "binary" = false by decide +kernel)
  | un nm a => exact (show isS ("unary" : Str) "binary" = false by decide +kernel)
  | bin nm a b => exact (show isS ("binary" : Str) "binary" = true by decide +kernel)
  | cho c a b => exact (show isS ("choice" : Str) "binary" = false by decide +kernel)
theorem hd_un (e : Xp) : isS e.hd "unary" = isUn1 e := by
  cases e with
  | col n => exact (show isS ("column" : Str) "unary" = false by decide +kernel)
  | cst v => exact (show isS ("constant" : Str) "unary" = false by decide +kernel)
  | un nm a => exact (show isS ("unary" : Str) "unary" = true by decide +kernel)
  | bin nm a b => exact (show isS ("binary" : Str) "unary" = false by decide +kernel)
  | cho c a b => exact (show isS ("choice" : Str) "unary" = false by decide +kernel)
theorem hd_cho (e : Xp) : isS e.hd "choice" = isCho e := by
  cases e with
  | col n => exact (show isS ("column" : Str) "choice" = false by decide +kernel)
  | cst v => exact (show isS ("constant" : Str) "choice" = false by decide +kernel)
  | un nm a => exact (show isS ("unary" : Str) "choice" = false by decide +kernel)
  | bin nm a b => exact (show isS ("binary" : Str) "choice" = false by decide +kernel)
  | cho c a b => exact (show isS ("choice" : Str) "choice" = true by decide +kernel)
section
variable {K : PySem.W.Frag} {w : World} {σ : L2.St} {H : Hp} {ta tb tc te tl : TE} {tr : TA} {D : Ends} {tz : TS} {th tlo : TO} {v : V}
theorem et_truL {a : Addr} {xs : List V} (h : Ev te σ H (.ref a)) (hx : SqL K H a xs) : EvT (fun σ H Q => te σ H fun x H' => ∃ k, TruV K x H' k ∧ Q k H') σ H (!xs.isEmpty) := fun H1 e Q q => h H1 e _ fun H2 e2 => ⟨!xs.isEmpty, .inl ⟨xs, ex_l (e.trans e2) hx, rfl⟩, q H2 e2⟩
theorem q_asgE {i : Nat} (h : te σ H fun v H1 => tz D (σ.set i (some v)) H1) : tSeq (tAsg te (gName i)) tz D σ H := h
/-- t[lo:hi], not the whole of it -/
theorem eu_slA {a : Addr} {xs : List V} {lo hi : Option Int} (h : Ev te σ H (.ref a)) (h1 : EvO tlo σ H lo) (h2 : EvO th σ H hi) (hs : SqT K H a xs) (hw : ¬ (HT.sIx xs.length 0 lo = 0 ∧ HT.sIx xs.length xs.length hi = xs.length)) : EvU (tSl (rSlA K) te tlo th) σ H (cutV xs lo hi) := fun H1 e _ q =>
  h H1 e _ fun H2 e2 => h1 H2 (e.trans e2) _ fun H3 e3 => h2 H3 ((e.trans e2).trans e3) _ fun H4 e4 =>
    ⟨a, xs, rfl, ex_t (((e.trans e2).trans e3).trans e4) hs, fun z => (hw z).elim, fun _ p hp => q p _ (fresh_back ((e2.trans e3).trans e4) hp) (((e2.trans e3).trans e4).trans (Ex.new hp)) upd_same⟩
theorem q_pop {i : Nat} {l : Addr} {xs : List V} {y : V} (hl : H l = some (.lst (xs ++ [y]))) (ha : Ev ta σ H (.ref l)) (k : ∀ H1, Ex H H1 → tz D (σ.set i (some y)) (upd H1 l (.lst xs))) : tSeq (tAsg (tBM0 K "list" rPop ta) (gName i)) tz D σ H := ha H (Ex.refl H) _ fun H1 e1 =>
  ⟨Or.inl ⟨rfl, _, sq_of (e1 l _ hl)⟩, l, xs ++ [y], y, rfl, rfl, e1 l _ hl, by rw [List.length_append, List.length_singleton, Nat.add_sub_cancel, List.getElem?_append_right (Nat.le_refl _), Nat.sub_self]; rfl, by
    rw [List.dropLast_concat]
    exact k H1 e1⟩
theorem s_extL {l : Addr} {xs zs : List V} (hl : H l = some (.lst xs)) (ha : Ev ta σ H (.ref l)) (h : EvL te σ H zs) (hz : xs.length + zs.length ≤ 100000) (k : ∀ H1, Ex H H1 → D.nx σ (upd H1 l (.lst (xs ++ zs)))) : tDrop (tBM K "list" rExtend ta (tCons te tNil)) D σ H := ha H (Ex.refl H) _ fun H1 e1 =>
  ⟨Or.inl ⟨rfl, _, sq_of (e1 l _ hl)⟩, h H1 e1 _ fun p H2 hp e2 h2 => ⟨l, p, xs, zs, rfl, rfl, e2 l _ (e1 l _ hl), h2, sz_of hz, k H2 (e1.trans e2)⟩⟩
theorem q_dnew {i : Nat} (k : ∀ p, H p = none → tz D (σ.set i (some (.ref p))) (upd H p (.dK []))) : tSeq (tAsg tDNewK (gName i)) tz D σ H := fun p hp => k p hp
theorem s_dputI {d : Addr} {kvs : List (L2.Key × V)} {s : Int} (hv : Ev te σ H v) (hb : Ev tl σ H (.ref d)) (ha : Ev ta σ H (.int s)) (h : H d = some (.dK kvs)) (hz : kvs.length ≤ 100000) (k : ∀ H1, Ex H H1 → D.nx σ (upd H1 d (.dK (putK kvs (Sum.inl s) v)))) : sDPut tl ta te D σ H :=
  hv H (Ex.refl H) _ fun H1 e1 => hb H1 e1 _ fun H2 e2 => ha H2 (e1.trans e2) _ fun H3 e3 => ⟨d, _, rfl, .inl ⟨kvs, Sum.inl s, ((e1.trans e2).trans e3) _ _ h, rfl, Nat.lt_of_le_of_lt hz (by decide), rfl⟩, k H3 ((e1.trans e2).trans e3)⟩
theorem put_keys {kvs : List (L2.Key × V)} {ks : List Int} {s : Int} {v : V} (h : kvs.map (·.1) = ks.map Sum.inl) : ∃ ks' : List Int, (putK kvs (Sum.inl s) v).map (·.1) = ks'.map Sum.inl ∧ ks'.length ≤ ks.length + 1 ∧ ∀ x, x ∈ ks' ↔ x ∈ ks ∨ x = s := by
  unfold putK
  split
  · rename_i ha
    refine ⟨ks, ?_, by omega, fun x => ⟨.inl, fun hx => ?_⟩⟩
    · rw [← h, List.map_map]
      refine List.map_congr_left fun kv _ => ?_
      show (if kv.1 = Sum.inl s then (kv.1, v) else kv).1 = kv.1
      split <;> rfl
    · rcases hx with hx | rfl
      · exact hx
      · obtain ⟨kv, hkv, e⟩ := List.any_eq_true.mp ha
        have e2 : kv.1 = Sum.inl x := of_decide_eq_true e
        have : (Sum.inl x : L2.Key) ∈ ks.map Sum.inl := by rw [← h, ← e2]; exact List.mem_map.mpr ⟨kv, hkv, rfl⟩
        obtain ⟨y, hy, ey⟩ := List.mem_map.mp this
        cases ey
        exact hy
  · refine ⟨ks ++ [s], by rw [List.map_append, h, List.map_append]; rfl, by rw [List.length_append]; exact Nat.le_refl _, fun x => ?_⟩
    rw [List.mem_append, List.mem_singleton]
end
theorem dps_app {K : PySem.W.Frag} {H : Hp} : ∀ {xs ys : List V} {ds es : List PyData}, DpAll K H xs ds → DpAll K H ys es → DpAll K H (xs ++ ys) (ds ++ es)
  | _, _, _, _, .nil, h => h
  | _, _, _, _, .cons a t, h => .cons a (dps_app t h)
theorem dps_unsnoc {K : PySem.W.Frag} {H : Hp} : ∀ {vs : List V} {ds : List PyData} {d : PyData}, DpAll K H vs (ds ++ [d]) → ∃ ws y, vs = ws ++ [y] ∧ DpAll K H ws ds ∧ Dp K H y d
  | _, [], _, .cons h .nil => ⟨[], _, rfl, .nil, h⟩
  | _, _ :: _, _, .cons h t => by
    obtain ⟨ws, y, rfl, h1, h2⟩ := dps_unsnoc t
    exact ⟨_ :: ws, y, rfl, .cons h h1, h2⟩
theorem no_whole {n : Nat} {hi : Option Int} (k : Nat) (h : k + 1 ≤ n) : ¬ (HT.sIx n 0 (some ((k + 1 : Nat) : Int)) = 0 ∧ HT.sIx n n hi = n) := fun z => by
  have := z.1
  rw [HT.sIx_nat] at this
  omega
def EvPt (R : List V → Prop) (te : TE) (σ : L2.St) (H : Hp) : Prop := ∀ H1, Ex H H1 → ∀ Q : VK, (∀ p H2 ys, H1 p = none → Ex H1 H2 → H2 p = some (.tup ys) → R ys → Q (.ref p) H2) → te σ H1 Q
def EvLt (R : Hp → List V → Prop) (te : TE) (σ : L2.St) (H : Hp) : Prop := ∀ H1, Ex H H1 → ∀ Q : VK, (∀ p H2 ys, H1 p = none → Ex H1 H2 → H2 p = some (.lst ys) → R H2 ys → Q (.ref p) H2) → te σ H1 Q
section
variable {K : PySem.W.Frag} {σ : L2.St} {H : Hp} {ta tb tc te tl : TE} {tr : TA} {D : Ends} {tz tu : TS} {v : V} {R : List V → Prop} {d : PyData} {ds : List PyData}
theorem q_forPt {j : Nat} (h : EvPt R te σ H) (k : ∀ p H1 xs, H p = none → Ex H H1 → H1 p = some (.tup xs) → R xs → ∃ Pv : Nat → L2.St → Hp → Prop, Pv 0 σ H1 ∧ (∀ i σ' H', Pv i σ' H' → SqT K H' p xs) ∧ (∀ i x σ' H', xs[i]? = some x → Pv i σ' H' → tu { D with nx := Pv (i + 1), ct := Pv (i + 1), bk := tz D } (σ'.set j (some x)) H') ∧ ∀ σ' H', Pv xs.length σ' H' → tz D σ' H') :
    tSeq (tFor (iTup K te) (gName j) tu) tz D σ H := h H (Ex.refl H) _ fun p H1 xs hp e h1 hR => by
  obtain ⟨Pv, a, b, c, d⟩ := k p H1 xs hp e h1 hR
  exact ⟨p, rfl, ⟨xs, st_of h1⟩, for_tup (D := { D with nx := tz D }) Pv a (fun i σ' H' _ => b i σ' H') c d⟩
theorem s_retD (h : EvD K te σ H d) (k : ∀ y H1, Ex H H1 → Dp K H1 y d → D.rt y H1) : tRet te D σ H := h H (Ex.refl H) _ k
end
theorem dps_get {K : PySem.W.Frag} {H : Hp} : ∀ {ys : List V} {ds : List PyData} {i : Nat} {x : V}, DpAll K H ys ds → ys[i]? = some x → ∃ d, ds[i]? = some d ∧ Dp K H x d
  | _, _, _, _, .nil, h => by simp at h
  | _, _, 0, _, .cons h _, e => by
    cases e
    exact ⟨_, rfl, h⟩
  | _, _, i + 1, _, .cons _ t, e => by
    obtain ⟨d, h1, h2⟩ := dps_get (i := i) t (by simpa using e)
    exact ⟨d, by simpa using h1, h2⟩
theorem take_snoc {α : Type} {L : List α} {i : Nat} {l : α} (h : L[i]? = some l) : L.take (i + 1) = L.take i ++ [l] := by rw [List.take_add_one, h]; rfl
theorem cutV_drop {xs : List V} {k : Nat} : cutV xs (some (k : Int)) none = xs.drop k := by
  unfold cutV
  rw [HT.sIx_nat, HT.sIx_none]
  by_cases h : k ≤ xs.length
  · rw [Nat.min_eq_left h, List.take_of_length_le (by rw [List.length_drop]; omega)]
  · rw [Nat.min_eq_right (by omega), List.drop_eq_nil_of_le (Nat.le_refl _), List.drop_eq_nil_of_le (show xs.length ≤ k by omega)]
    simp
theorem len_sz : ∀ l : List Xp, l.length ≤ (l.map Xp.sz).sum
  | [] => Nat.le_refl _
  | c :: l => by
    have := len_sz l
    have := sz_pos c
    simp only [List.length_cons, List.map_cons, List.sum_cons]
    omega
def sp_parts_of (K : PySem.W.Frag) : Sp := fun vs H Q _ => ∃ (v : V) (e : Xp) (G : Hp), vs = [v] ∧ Ex G H ∧ Dp K G v e.d ∧ ∀ p H' ys, H p = none → Ex H H' → H' p = some (.tup ys) → DpAll K G ys (e.kids.map Xp.d) → Q (.ref p) H'
def UsedIs (e : Xp) (ns : List Int) : Prop := ∀ x : Int, x ∈ ns ↔ ∃ n ∈ used e, x = (n : Int)
def sp_columns_of (K : PySem.W.Frag) : Sp := fun vs H Q _ => ∃ (v : V) (e : Xp), vs = [v] ∧ Dp K H v e.d ∧ e.sz ≤ 60 ∧ ∀ p H' (ns : List Int), H p = none → Ex H H' → H' p = some (.lst (ns.map V.int)) → ns.Pairwise (· ≤ ·) → UsedIs e ns → ns.length ≤ 60 → Q (.ref p) H'
theorem pre_len (e : Xp) : e.pre.length = if isCho e = true then 0 else 1 := by cases e <;> rfl
def ColW (K : PySem.W.Frag) (H : Hp) (v : V) (e : Xp) (pf pw : Addr) (m : Nat) (σ' : L2.St) (H' : Hp) : Prop := ∃ (pv : Option V) (vs : List V) (st : List Xp) (kvs : List (L2.Key × V)) (ks : List Int), σ' = [some v, some (.ref pf), some (.ref pw), pv] ∧ Ex H H' ∧ H' pw = some (.lst vs) ∧ DpAll K H vs (st.map Xp.d) ∧ H' pf = some (.dK kvs) ∧ kvs.map (·.1) = ks.map Sum.inl ∧ ks.length + (st.map Xp.sz).sum ≤ 60 ∧ (∀ x : Int, (x ∈ ks ∨ ∃ c ∈ st, ∃ n ∈ used c, x = (n : Int)) ↔ ∃ n ∈ used e, x = (n : Int)) ∧ (st.map Xp.sz).sum ≤ m
section
variable {P : Program} {w : World} {K : PySem.W.Frag} {mg : Str → Option Value} {base : Heap}
theorem ok_parts_of (D : Dn K mg "parts_of" s_parts_of ["expression"]) {p__FIRST_PART : Addr} {es__FIRST_PART : Array DictEntry} {n__FIRST_PART : Nat} (g__FIRST_PART : ∃ u, mg "_FIRST_PART" = some u ∧ RelV (.ref p__FIRST_PART) u) (h__FIRST_PART : KDict K w p__FIRST_PART es__FIRST_PART n__FIRST_PART) (i__FIRST_PART : DInts K p__FIRST_PART [("constant", 2), ("column", 2), ("unary", 2), ("binary", 2), ("ternary", 2), ("choice", 1)]) :
    C8.Cal P w K mg base 1 "parts_of" (sp_parts_of K) [] := by
  refine cal_of D sc_parts_of (fun vs H Q E h => ?_) (fun f cdv A outer s H vs Q E hr h => ?_)
  · obtain ⟨_, _, _, rfl, _⟩ := h
    rfl
  refine ⟨_, (pss_one (ps_ret (pe_slice sl_tupA (pv 0) (po_some (pe_ix ix_kdict (C8.pe_gc rfl g__FIRST_PART) (pe_ix ix_tup (pv 0) pe_int (fun _ _ => rfl)) (fun _ _ => rfl))) po_none))), ?_⟩
  obtain ⟨v, e, G, rfl, g, hd, q⟩ := h
  obtain ⟨b, us, ys, rfl, hS, hu, hds⟩ := xx_view hd
  have hul := dps_len hu
  rw [pre_len] at hul
  have hF : ∃ t, PySem.W.nsIn K p__FIRST_PART e.hd = some (some (.int ((us.length + 1 : Nat) : Int) t)) := by
    cases e with
    | col n => rw [hul]; exact i__FIRST_PART ("column", 2) (by simp)
    | cst n => rw [hul]; exact i__FIRST_PART ("constant", 2) (by simp)
    | un nm a => rw [hul]; exact i__FIRST_PART ("unary", 2) (by simp)
    | bin nm a b => rw [hul]; exact i__FIRST_PART ("binary", 2) (by simp)
    | cho c a b => rw [hul]; exact i__FIRST_PART ("choice", 1) (by simp)
  obtain ⟨t, hF⟩ := hF
  refine (eu_slA (K := K) (lo := some ((us.length + 1 : Nat) : Int)) (hi := none) (ev_var rfl) (eo_some (ev_op ev_c (ev_op (ev_var rfl) ev_c (rv_ixT (ex_t g hS) (atI_nat (j := 0) rfl))) (rv_ixKD h__FIRST_PART hF ⟨t, rfl⟩))) eo_none (ex_t g hS) (no_whole us.length (by rw [List.length_cons, List.length_append]; omega))) H (Ex.refl H) _ fun p H1 hp e1 h1 => q p H1 ys hp e1 ?_ hds
  rw [h1, cutV_drop]
  show some (HO.tup ((us ++ ys).drop us.length)) = _
  rw [List.drop_left' rfl]
theorem ok_columns_of (D : Dn K mg "columns_of" s_columns_of ["expression"]) (c_parts_of : C8.Cal P w K mg base 1 "parts_of" (sp_parts_of K) []) (z_sorted : mg "sorted" = none) :
    C8.Cal P w K mg base 2 "columns_of" (sp_columns_of K) [] := by
  refine cal_of D sc_columns_of (fun vs H Q E h => ?_) (fun f cdv A outer s H vs Q E hr h => ?_)
  · obtain ⟨_, _, rfl, _⟩ := h
    rfl
  refine ⟨_, (pss_cons (ps_set (i := 1) sc_columns_of.nd rfl (.inl rfl) pe_dnewK)
    (pss_cons (ps_set (i := 2) sc_columns_of.nd rfl (.inl rfl) (pe_lst (pa_cons (pv 0) pa_nil)))
    (pss_cons (ps_while PassesOwn.never (pt_truth (pv 2) (by intro _; rfl))
      (pss_cons (ps_set (i := 3) sc_columns_of.nd rfl (.inl rfl) (pe_bm0 PySem.F.plainAttrs_list PySem.F.slot_list_pop PySem.F.type_list_pop mt_pop (pv 2)))
    (pss_cons (ps_if (pt_cmpR op_eq (pe_ix ix_tup (pv 3) pe_int (fun _ _ => rfl)) pe_str (nomark _))
      (pss_one (ps_dput (hu_of hr) (pv 1) (pe_ix ix_tup (pv 3) pe_int (fun _ _ => rfl)) pe_bl rfl))
      pss_nil)
    (pss_one (ps_expr (pe_bm PySem.F.plainAttrs_list PySem.F.slot_list_extend PySem.F.type_list_extend mt_extT (pv 2) (pa_cons (C8.pe_c c_parts_of hr (by decide) (by rfl) (pa_cons (pv 3) pa_nil)) pa_nil)))))))
    (pss_one (ps_ret (pe_callB (call_sortedDI rfl) (by rfl) z_sorted (by decide +kernel) (pa_cons (pv 1) pa_nil))))))), ?_⟩
  obtain ⟨v, e, rfl, hd, hz, q⟩ := h
  refine q_dnew fun pf hpf => ?_
  refine q_asgL (el_lst (ea_cons (ev_var rfl) ea_nil) (by show 1 ≤ 100000; decide)) fun pw H2 hpw e2 h2 => ?_
  have x0 : Ex H (upd H pf (.dK [])) := Ex.new hpf
  have hpfw : pf ≠ pw := fun z => by rw [← z, upd_same] at hpw; cases hpw
  have hpwH : H pw = none := fresh_back x0 hpw
  refine q_while (ColW K H v e pf pw) e.sz ⟨none, [v], [e], [], [], rfl, x0.trans e2, h2, .cons hd .nil, e2 _ _ upd_same, rfl, by simpa using hz, fun x => by simp, by simp⟩ fun m σ' H' hW => ?_
  obtain ⟨pv, vs, st, kvs, ks, rfl, x, hvs, hds, hkv, hks, hsz, hu, hm⟩ := hW
  refine ⟨!vs.isEmpty, et_truL (ev_var rfl) (sq_of hvs), fun hb H1 e1 => ⟨fun σ2 H2 => ∃ m', m' < m ∧ ColW K H v e pf pw m' σ2 H2, fun _ _ h => h, ?_⟩, fun hb H1 e1 => ?_⟩
  · obtain ⟨st0, c, rfl⟩ : ∃ st0 c, st = st0 ++ [c] := by
      rcases List.eq_nil_or_concat st with rfl | ⟨a, b, rfl⟩
      · cases hds
        cases hb
      · exact ⟨a, b, by rw [List.concat_eq_append]⟩
    rw [List.map_append] at hds
    obtain ⟨ws, y, rfl, hds0, hdc⟩ := dps_unsnoc hds
    obtain ⟨b, us, ys, rfl, hS, h2', hdk⟩ := xx_view hdc
    refine q_pop (e1 _ _ hvs) (ev_var rfl) fun H3 e3 => ?_
    have x3 : Ex H (upd H3 pw (.lst ws)) := Ex.mut (x.trans (e1.trans e3)) hpwH
    have hwl : ws.length = st0.length := by have := dps_len hds0; rw [List.length_map] at this; exact this
    have hsz2 := sz_kids c
    have hpos := sz_pos c
    have hsum : ((st0 ++ [c]).map Xp.sz).sum = (st0.map Xp.sz).sum + c.sz := by simp
    have hl0 : st0.length ≤ (st0.map Xp.sz).sum := len_sz st0
    have hl1 : c.kids.length ≤ (c.kids.map Xp.sz).sum := len_sz c.kids
    have tail : ∀ {H4 : Hp} {kvs4 : List (L2.Key × V)} {ks4 : List Int}, Ex H H4 → H4 pw = some (.lst ws) → H4 pf = some (.dK kvs4) → kvs4.map (·.1) = ks4.map Sum.inl → ks4.length ≤ ks.length + 1 → (∀ z : Int, (z ∈ ks4 ∨ ∃ c' ∈ st0 ++ c.kids, ∃ n ∈ used c', z = (n : Int)) ↔ ∃ n ∈ used e, z = (n : Int)) →
        tBM K "list" (rExtT K) (tVar 2) (tCons (tCall (sp_parts_of K) [] C8.E0 (tCons (tVar 3) tNil)) tNil) [some v, some (.ref pf), some (.ref pw), some (.ref b)] H4 (fun _ H5 => ∃ m', m' < m ∧ ColW K H v e pf pw m' [some v, some (.ref pf), some (.ref pw), some (.ref b)] H5) := fun {H4 kvs4 ks4} x4 hw4 hf4 hk4 hl4 hu4 => by
      refine ⟨.ref pw, rfl, Or.inl ⟨rfl, _, sq_of hw4⟩, .ref b, rfl, .ref b, c, H, rfl, x4, hdc, fun p H5 ys5 hp5 e5 h5 hd5 => ⟨pw, p, ws, ys5, rfl, rfl, e5 _ _ hw4, st_of h5, sz_of ?_, m - 1, ?_, some (.ref b), ws ++ ys5, st0 ++ c.kids, kvs4, ks4, rfl, Ex.mut (x4.trans e5) hpwH, upd_same, ?_, ?_, hk4, ?_, hu4, ?_⟩⟩
      · have := dps_len hd5
        rw [List.length_map] at this
        omega
      · omega
      · rw [List.map_append]
        exact dps_app hds0 hd5
      · rw [upd_ne hpfw]
        exact e5 _ _ hf4
      · rw [List.map_append, List.sum_append]
        omega
      · rw [List.map_append, List.sum_append]
        omega
    have hpf3 : upd H3 pw (.lst ws) pf = some (.dK kvs) := by rw [upd_ne hpfw]; exact (e1.trans e3) _ _ hkv
    refine q_when (et_test (ev_is (ev_op (ev_op (ev_var rfl) ev_c (rv_ixT (ex_t x3 hS) (atI_nat (j := 0) rfl))) ev_c (rv_eq rfl)) (by rw [show decide (V.str c.hd = V.str "column") = isCol c from hd_col c]))) (fun hb4 H4 e4 => ?_) fun hb4 H4 e4 => ?_
    · cases c with
      | cst _ => cases hb4
      | un _ _ => cases hb4
      | bin _ _ _ => cases hb4
      | cho _ _ _ => cases hb4
      | col n =>
        cases h2' with | cons hy hn =>
        cases hn
        obtain rfl := dp_intD hy
        obtain ⟨ks', hk', hl', hm'⟩ := put_keys (s := (n : Int)) (v := .bl true) hks
        have hkl : kvs.length = ks.length := by have := congrArg List.length hks; rw [List.length_map, List.length_map] at this; exact this
        refine s_dputI ev_c (ev_var rfl) (ev_op (ev_var rfl) ev_c (rv_ixT (ex_t (x3.trans e4) hS) (atI_nat (j := 1) rfl))) (e4 _ _ hpf3) (by omega) fun H5 e5 => tail (Ex.mut (x3.trans (e4.trans e5)) hpf) (by rw [upd_ne (Ne.symm hpfw)]; exact (e4.trans e5) _ _ upd_same) upd_same hk' hl' fun z => ?_
        rw [← hu z]
        constructor
        · rintro (h | ⟨c', hc', n', hn', rfl⟩)
          · rcases (hm' z).mp h with h | rfl
            · exact .inl h
            · exact .inr ⟨.col n, by simp, n, by simp [used], rfl⟩
          · exact .inr ⟨c', by simp [Xp.kids] at hc'; simp [hc'], n', hn', rfl⟩
        · rintro (h | ⟨c', hc', n', hn', rfl⟩)
          · exact .inl ((hm' z).mpr (.inl h))
          · rcases List.mem_append.mp hc' with h | h
            · exact .inr ⟨c', List.mem_append.mpr (.inl h), n', hn', rfl⟩
            · rw [List.mem_singleton.mp h] at hn'
              have : n' = n := by simpa [used] using hn'
              exact .inl ((hm' _).mpr (.inr (by rw [this])))
    · refine tail (x3.trans e4) (e4 _ _ upd_same) (e4 _ _ hpf3) hks (Nat.le_succ _) fun z => ?_
      rw [← hu z]
      have hnc : ∀ n, c ≠ .col n := fun n z => by rw [z] at hb4; cases hb4
      constructor
      · rintro (h | ⟨c', hc', n', hn', rfl⟩)
        · exact .inl h
        · rcases List.mem_append.mp hc' with h | h
          · exact .inr ⟨c', List.mem_append.mpr (.inl h), n', hn', rfl⟩
          · exact .inr ⟨c, by simp, n', (used_kids c n').mpr (.inr ⟨c', h, hn'⟩), rfl⟩
      · rintro (h | ⟨c', hc', n', hn', rfl⟩)
        · exact .inl h
        · rcases List.mem_append.mp hc' with h | h
          · exact .inr ⟨c', List.mem_append.mpr (.inl h), n', hn', rfl⟩
          · rw [List.mem_singleton.mp h] at hn'
            rcases (used_kids c n').mp hn' with h | ⟨c2, h2, hn2⟩
            · exact (hnc _ h).elim
            · exact .inr ⟨c2, List.mem_append.mpr (.inr h2), n', hn2, rfl⟩
  · have hv0 : vs = [] := by
      cases vs with
      | nil => rfl
      | cons _ _ => cases hb
    subst hv0
    have hst : st = [] := by have := dps_len hds; rw [List.length_map] at this; exact List.eq_nil_of_length_eq_zero this.symm
    subst hst
    refine ⟨.ref pf, rfl, pf, kvs, ks, rfl, .inl (e1 _ _ hkv), hks, by omega, fun ys p hperm hsort hp => q p _ ys (fresh_back (x.trans e1) hp) ((x.trans e1).trans (Ex.new hp)) upd_same hsort (fun z => ?_) (by rw [hperm.length_eq]; omega)⟩
    rw [hperm.mem_iff, ← hu z]
    simp
end
theorem cutV_take {xs : List V} {k : Nat} : cutV xs none (some (k : Int)) = xs.take k := by
  unfold cutV
  rw [HT.sIx_nat, HT.sIx_none, List.drop_zero, Nat.sub_zero]
  by_cases h : k ≤ xs.length
  · rw [Nat.min_eq_left h]
  · rw [Nat.min_eq_right (by omega), List.take_of_length_le (Nat.le_refl _), List.take_of_length_le (by omega)]
theorem dps_take {K : PySem.W.Frag} : ∀ {ys : List V} {ds : List PyData} {H : Hp} (n : Nat), DpAll K H ys ds → DpAll K H (ys.take n) (ds.take n)
  | _, _, _, 0, _ => by rw [List.take_zero, List.take_zero]; exact .nil
  | _, _, _, _ + 1, .nil => .nil
  | _, _, _, n + 1, .cons h t => .cons h (dps_take n t)
theorem dps_drop {K : PySem.W.Frag} : ∀ {ys : List V} {ds : List PyData} {H : Hp} (n : Nat), DpAll K H ys ds → DpAll K H (ys.drop n) (ds.drop n)
  | _, _, _, 0, h => h
  | _, _, _, _ + 1, .nil => .nil
  | _, _, _, n + 1, .cons _ t => dps_drop n t
theorem atI_end {xs : List V} {z : V} (h : xs[xs.length - 1]? = some z) : atI xs (-1) = some z := by
  rcases List.eq_nil_or_concat xs with rfl | ⟨ys, b, rfl⟩
  · cases h
  · rw [List.concat_eq_append] at h ⊢
    rw [List.length_append, List.length_singleton, Nat.add_sub_cancel, List.getElem?_append_right (Nat.le_refl _), Nat.sub_self] at h
    cases h
    exact atI_last ys _
theorem ev_notT {K : PySem.W.Frag} {σ : L2.St} {H : Hp} {te : TE} {a : Addr} {xs : List V} (h : Ev te σ H (.ref a)) (hx : SqL K H a xs) : Ev (tNotT K te) σ H (.bl (!(!xs.isEmpty))) := fun H1 e Q q => h H1 e _ fun H2 e2 => ⟨!xs.isEmpty, .inl ⟨xs, ex_l (e.trans e2) hx, rfl⟩, q H2 e2⟩
def isBin (nm : Str) : Xp → Bool
  | .bin x _ _ => isS x nm
  | _ => false
theorem et_isBin {K : PySem.W.Frag} {σ : L2.St} {H : Hp} {e : Xp} {nm : Str} {b : Addr} {us ys : List V} {i : Nat} (h0 : σ[i]? = some (some (.ref b))) (hS : SqT K H b (.str e.hd :: (us ++ ys))) {G : Hp} (hu : DpAll K G us e.pre) : EvT (tAnd (tTest (tOp rEq (tOp (rIxT K) (tVar i) (tC (.int 0))) (tC (.str "binary")))) (tTest (tOp rEq (tOp (rIxT K) (tVar i) (tC (.int 1))) (tC (.str nm))))) σ H (isBin nm e) := by
  have t0 : EvT (tTest (tOp rEq (tOp (rIxT K) (tVar i) (tC (.int 0))) (tC (.str "binary")))) σ H (isBn e) := et_test (ev_is (ev_op (ev_op (ev_var h0) ev_c (rv_ixT hS (atI_nat (j := 0) rfl))) ev_c (rv_eq rfl)) (by rw [show decide (V.str e.hd = V.str "binary") = isBn e from hd_bin e]))
  cases e with
  | col n => exact et_is (et_and t0 fun h => nomatch h) (show (false && false) = false from rfl)
  | cst n => exact et_is (et_and t0 fun h => nomatch h) (show (false && false) = false from rfl)
  | un x a => exact et_is (et_and t0 fun h => nomatch h) (show (false && false) = false from rfl)
  | cho c a d => exact et_is (et_and t0 fun h => nomatch h) (show (false && false) = false from rfl)
  | bin x a d =>
    cases hu with | cons hx hu =>
    cases hu
    obtain rfl := dp_strD hx
    exact et_is (et_and t0 fun _ => et_test (ev_op (ev_op (ev_var h0) ev_c (rv_ixT hS (atI_nat (j := 1) rfl))) ev_c (rv_eq rfl))) rfl
theorem et_isUn {K : PySem.W.Frag} {σ : L2.St} {H : Hp} {e : Xp} {nm : Str} {b : Addr} {us ys : List V} {i : Nat} (h0 : σ[i]? = some (some (.ref b))) (hS : SqT K H b (.str e.hd :: (us ++ ys))) {G : Hp} (hu : DpAll K G us e.pre) : EvT (tAnd (tTest (tOp rEq (tOp (rIxT K) (tVar i) (tC (.int 0))) (tC (.str "unary")))) (tTest (tOp rEq (tOp (rIxT K) (tVar i) (tC (.int 1))) (tC (.str nm))))) σ H (match e with | .un x _ => isS x nm | _ => false) := by
  have t0 : EvT (tTest (tOp rEq (tOp (rIxT K) (tVar i) (tC (.int 0))) (tC (.str "unary")))) σ H (isUn1 e) := et_test (ev_is (ev_op (ev_op (ev_var h0) ev_c (rv_ixT hS (atI_nat (j := 0) rfl))) ev_c (rv_eq rfl)) (by rw [show decide (V.str e.hd = V.str "unary") = isUn1 e from hd_un e]))
  cases e with
  | col n => exact et_is (et_and t0 fun h => nomatch h) (show (false && false) = false from rfl)
  | cst n => exact et_is (et_and t0 fun h => nomatch h) (show (false && false) = false from rfl)
  | bin x a d => exact et_is (et_and t0 fun h => nomatch h) (show (false && false) = false from rfl)
  | cho c a d => exact et_is (et_and t0 fun h => nomatch h) (show (false && false) = false from rfl)
  | un x a =>
    cases hu with | cons hx hu =>
    cases hu
    obtain rfl := dp_strD hx
    exact et_is (et_and t0 fun _ => et_test (ev_op (ev_op (ev_var h0) ev_c (rv_ixT hS (atI_nat (j := 1) rfl))) ev_c (rv_eq rfl))) rfl
def joined : Nat → List Xp → Xp
  | 0, _ => .cst (.bl true)
  | _ + 1, [] => .cst (.bl true)
  | _ + 1, [x] => x
  | n + 1, x :: y :: r => .bin "and" (joined n ((x :: y :: r).take ((x :: y :: r).length / 2))) (joined n ((x :: y :: r).drop ((x :: y :: r).length / 2)))
def XpsAt (K : PySem.W.Frag) (H : Hp) (a : Addr) (es : List Xp) : Prop := ∃ ws, SqL K H a ws ∧ DpAll K H ws (es.map Xp.d)
theorem XpsAt.ex {K : PySem.W.Frag} {H H' : Hp} {a : Addr} {es : List Xp} (e : Ex H H') (h : XpsAt K H a es) : XpsAt K H' a es := by
  obtain ⟨ws, h1, h2⟩ := h
  exact ⟨ws, ex_l e h1, ex_dps e h2⟩
def CpW (K : PySem.W.Frag) (G H : Hp) (v : V) (e : Xp) (pf pw : Addr) (m : Nat) (σ' : L2.St) (H' : Hp) : Prop := ∃ (pv : Option V) (vs : List V) (st : List Xp) (fs : List V) (dn : List Xp), σ' = [some v, some (.ref pf), some (.ref pw), pv] ∧ Ex H H' ∧ H' pw = some (.lst vs) ∧ DpAll K G vs (st.map Xp.d) ∧ H' pf = some (.lst fs) ∧ DpAll K G fs (dn.map Xp.d) ∧ dn ++ (st.reverse.map cparts).flatten = cparts e ∧ dn.length + (st.map Xp.sz).sum ≤ 60 ∧ (st.map Xp.sz).sum ≤ m
theorem cparts_len : ∀ e : Xp, (cparts e).length ≤ e.sz
  | .col _ => Nat.le_refl _
  | .cst _ => Nat.le_refl _
  | .un _ _ => by show 1 ≤ _ + 1; omega
  | .cho _ _ _ => by show 1 ≤ _ + 1; omega
  | .bin nm a b => by
    have h1 := cparts_len a
    have h2 := cparts_len b
    unfold cparts
    split
    · rw [List.length_append]
      show _ ≤ a.sz + b.sz + 1
      omega
    · show 1 ≤ a.sz + b.sz + 1
      omega
def sp_condition_parts (K : PySem.W.Frag) : Sp := fun vs H Q _ => ∃ (v : V) (e : Xp) (G : Hp), vs = [v] ∧ Ex G H ∧ Dp K G v e.d ∧ e.sz ≤ 60 ∧ ∀ p H' ws, H p = none → Ex H H' → H' p = some (.lst ws) → DpAll K G ws ((cparts e).map Xp.d) → Q (.ref p) H'
def spR_conjunction : Nat → PySem.W.Frag → Sp
  | 0, _ => fun _ _ _ _ => False
  | n + 1, K => fun vs H Q _ => ∃ (a : Addr) (es : List Xp), vs = [.ref a] ∧ XpsAt K H a es ∧ es.length ≤ 2 ^ n ∧ es.length ≤ 200 ∧ ∀ v' H', Ex H H' → Dp K H' v' (joined (n + 1) es).d → Q v' H'
def sp_conjunction (K : PySem.W.Frag) : Sp := spR_conjunction 8 K
def sp_together (K : PySem.W.Frag) : Sp := fun vs H Q _ => ∃ (v u : V) (e f : Xp), vs = [v, u] ∧ Dp K H v e.d ∧ Dp K H u f.d ∧ e.sz ≤ 60 ∧ f.sz ≤ 60 ∧ ∀ v' H', Ex H H' → Dp K H' v' (joined 8 (cparts e ++ cparts f)).d → Q v' H'
def onlyB (l m : Nat) (e : Xp) : Bool := (used e).all fun n => decide (l ≤ n) && decide (n < m)
def sp_uses_only (K : PySem.W.Frag) : Sp := fun vs H Q _ => ∃ (v : V) (e : Xp) (l m : Nat), vs = [v, .int (l : Int), .int (m : Int)] ∧ Dp K H v e.d ∧ e.sz ≤ 60 ∧ ∀ H', Ex H H' → Q (.bl (onlyB l m e)) H'
def plainB (e : Xp) : Bool := isCol e || isCst e
def sp_is_plain (K : PySem.W.Frag) : Sp := fun vs H Q _ => ∃ (v : V) (e : Xp), vs = [v] ∧ Dp K H v e.d ∧ ∀ H', Ex H H' → Q (.bl (plainB e)) H'
theorem used_nil {e : Xp} {ns : List Int} (h : UsedIs e ns) : ns.isEmpty = (used e).isEmpty := by
  cases hn : ns with
  | nil =>
    cases hu : used e with
    | nil => rfl
    | cons n r =>
      have := (h (n : Int)).mpr ⟨n, by rw [hu]; exact List.mem_cons_self .., rfl⟩
      rw [hn] at this
      cases this
  | cons x r =>
    obtain ⟨n, h1, _⟩ := (h x).mp (by rw [hn]; exact List.mem_cons_self ..)
    cases hu : used e with
    | nil => rw [hu] at h1; cases h1
    | cons _ _ => rfl
theorem only_is {e : Xp} {x z : Int} {r : List Int} {l m : Nat} (hs : (x :: r).Pairwise (· ≤ ·)) (hu : UsedIs e (x :: r)) (hz : (x :: r)[(x :: r).length - 1]? = some z) : (decide ((l : Int) ≤ x) && decide (z < (m : Int))) = onlyB l m e := by
  have hlast : (x :: r).getLast? = some z := by rw [List.getLast?_eq_getElem?]; exact hz
  obtain ⟨ys, hys⟩ : ∃ ys, x :: r = ys ++ [z] := by
    rcases List.eq_nil_or_concat (x :: r) with h | ⟨a, b, h⟩
    · cases h
    · rw [List.concat_eq_append] at h
      rw [h] at hlast
      have : b = z := by simpa using hlast
      exact ⟨a, by rw [h, this]⟩
  have hle : ∀ y ∈ x :: r, x ≤ y ∧ y ≤ z := fun y hy => by
    refine ⟨?_, ?_⟩
    · rcases List.mem_cons.mp hy with rfl | h
      · exact Int.le_refl _
      · exact (List.pairwise_cons.mp hs).1 y h
    · rw [hys] at hy hs
      rcases List.mem_append.mp hy with h | h
      · exact (List.pairwise_append.mp hs).2.2 y h z (by simp)
      · rw [List.mem_singleton.mp h]; exact Int.le_refl _
  obtain ⟨n0, hn0, hx0⟩ := (hu x).mp (List.mem_cons_self ..)
  obtain ⟨n1, hn1, hz1⟩ := (hu z).mp (by rw [hys]; simp)
  unfold onlyB
  rw [Bool.eq_iff_iff, Bool.and_eq_true, decide_eq_true_eq, decide_eq_true_eq, List.all_eq_true]
  constructor
  · rintro ⟨h1, h2⟩ n hn
    have := hle (n : Int) ((hu (n : Int)).mpr ⟨n, hn, rfl⟩)
    rw [Bool.and_eq_true, decide_eq_true_eq, decide_eq_true_eq]
    omega
  · intro h
    have h1 := h n0 hn0
    have h2 := h n1 hn1
    rw [Bool.and_eq_true, decide_eq_true_eq, decide_eq_true_eq] at h1 h2
    omega
section
variable {P : Program} {w : World} {K : PySem.W.Frag} {mg : Str → Option Value} {base : Heap}
theorem lt_parts {σ : L2.St} {H G : Hp} {ta : TE} {E : XK} {v : V} {e : Xp} (ha : Ev ta σ H v) (g : Ex G H) (hd : Dp K G v e.d) (hz : e.sz ≤ 60) : EvLt (fun _ ys => DpAll K G ys ((cparts e).map Xp.d)) (tCall (sp_condition_parts K) [] E (tCons ta tNil)) σ H := fun H1 e1 Q q =>
  ha H1 e1 _ fun H2 e2 => ⟨v, e, G, rfl, g.trans (e1.trans e2), hd, hz, fun p H3 ws hp e3 h3 hds => q p H3 ws (fresh_back e2 hp) (e2.trans e3) h3 hds⟩
theorem ed_conj {σ : L2.St} {H : Hp} {ta : TE} {E : XK} {ws : List V} {es : List Xp} {n : Nat} (ha : EvL ta σ H ws) (hd : DpAll K H ws (es.map Xp.d)) (h1 : es.length ≤ 2 ^ n) (h2 : es.length ≤ 200) : EvD K (tCall (spR_conjunction (n + 1) K) [] E (tCons ta tNil)) σ H (joined (n + 1) es).d := fun H1 e1 Q q =>
  ha H1 e1 _ fun p H2 hp e2 hl => ⟨p, es, rfl, ⟨ws, sq_of hl, ex_dps (e1.trans e2) hd⟩, h1, h2, fun v' H4 e4 h4 => q v' H4 (e2.trans e4) h4⟩
theorem ok_condition_parts (D : Dn K mg "condition_parts" s_condition_parts ["condition"]) :
    C8.Cal P w K mg base 1 "condition_parts" (sp_condition_parts K) [] := by
  refine cal_of D sc_condition_parts (fun vs H Q E h => ?_) (fun f cdv A outer s H vs Q E hr h => ?_)
  · obtain ⟨_, _, _, rfl, _⟩ := h
    rfl
  refine ⟨_, (pss_cons (ps_set (i := 1) sc_condition_parts.nd rfl (.inl rfl) (pe_lst pa_nil))
    (pss_cons (ps_set (i := 2) sc_condition_parts.nd rfl (.inl rfl) (pe_lst (pa_cons (pv 0) pa_nil)))
    (pss_cons (ps_while PassesOwn.never (pt_truth (pv 2) (by intro _; rfl))
      (pss_cons (ps_set (i := 3) sc_condition_parts.nd rfl (.inl rfl) (pe_bm0 PySem.F.plainAttrs_list PySem.F.slot_list_pop PySem.F.type_list_pop mt_pop (pv 2)))
    (pss_one (ps_if (PW.pt (pw_and (pt_cmpR op_eq (pe_ix ix_tup (pv 3) pe_int (fun _ _ => rfl)) pe_str (nomark _)) (pw_and1 (pt_cmpR op_eq (pe_ix ix_tup (pv 3) pe_int (fun _ _ => rfl)) pe_str (nomark _)))))
      (pss_one (ps_expr (pe_bm PySem.F.plainAttrs_list PySem.F.slot_list_extend PySem.F.type_list_extend mt_extend (pv 2) (pa_cons (pe_lst (pa_cons (pe_ix ix_tup (pv 3) pe_int (fun _ _ => rfl)) (pa_cons (pe_ix ix_tup (pv 3) pe_int (fun _ _ => rfl)) pa_nil))) pa_nil))))
      (pss_one (ps_expr (pe_bm PySem.F.plainAttrs_list PySem.F.slot_list_append PySem.F.type_list_append mt_append (pv 1) (pa_cons (pv 3) pa_nil))))))))
    (pss_one (ps_ret (pv 1)))))), ?_⟩
  obtain ⟨v, e, G, rfl, g, hd, hz, q⟩ := h
  refine q_asgL (el_lst ea_nil (by decide)) fun pf H1 hpf e1 h1 => ?_
  refine q_asgL (el_lst (ea_cons (ev_var rfl) ea_nil) (by show 1 ≤ 100000; decide)) fun pw H2 hpw e2 h2 => ?_
  have hpfw : pf ≠ pw := fun z => by rw [← z, h1] at hpw; cases hpw
  have hpwH : H pw = none := fresh_back e1 hpw
  refine q_while (CpW K G H v e pf pw) e.sz ⟨none, [v], [e], [], [], rfl, e1.trans e2, h2, .cons hd .nil, e2 _ _ h1, .nil, by simp, by simpa using hz, by simp⟩ fun m σ' H' hW => ?_
  obtain ⟨pv, vs, st, fs, dn, rfl, x, hvs, hds, hfs, hdn, hu, hsz, hm⟩ := hW
  refine ⟨!vs.isEmpty, et_truL (ev_var rfl) (sq_of hvs), fun hb H3 e3 => ⟨fun σ2 H2 => ∃ m', m' < m ∧ CpW K G H v e pf pw m' σ2 H2, fun _ _ h => h, ?_⟩, fun hb H3 e3 => ?_⟩
  · obtain ⟨st0, c, rfl⟩ : ∃ st0 c, st = st0 ++ [c] := by
      rcases List.eq_nil_or_concat st with rfl | ⟨a, b, rfl⟩
      · cases hds
        cases hb
      · exact ⟨a, b, by rw [List.concat_eq_append]⟩
    rw [List.map_append] at hds
    obtain ⟨ws, y, rfl, hds0, hdc⟩ := dps_unsnoc hds
    obtain ⟨b, us, ys, rfl, hS, h2', hdk⟩ := xx_view hdc
    refine q_pop (e3 _ _ hvs) (ev_var rfl) fun H4 e4 => ?_
    have x4 : Ex H (upd H4 pw (.lst ws)) := Ex.mut (x.trans (e3.trans e4)) hpwH
    have hwl : ws.length = st0.length := by have := dps_len hds0; rw [List.length_map] at this; exact this
    have hfl : fs.length = dn.length := by have := dps_len hdn; rw [List.length_map] at this; exact this
    have hsum : ((st0 ++ [c]).map Xp.sz).sum = (st0.map Xp.sz).sum + c.sz := by simp
    have hl0 : st0.length ≤ (st0.map Xp.sz).sum := len_sz st0
    have hpos := sz_pos c
    have hpf4 : upd H4 pw (.lst ws) pf = some (.lst fs) := by rw [upd_ne hpfw]; exact (e3.trans e4) _ _ hfs
    have hu2 : dn ++ (cparts c ++ (st0.reverse.map cparts).flatten) = cparts e := by
      rw [← hu, List.reverse_append]
      rfl
    refine s_if (et_isBin (nm := "and") rfl (ex_t (g.trans x4) hS) h2') (fun hb4 H5 e5 => ?_) fun hb4 H5 e5 => ?_
    · cases c with
      | col _ => cases hb4
      | cst _ => cases hb4
      | un _ _ => cases hb4
      | cho _ _ _ => cases hb4
      | bin nm a b2 =>
        obtain rfl := isS_eq hb4
        have hcp : cparts (.bin "and" a b2) = cparts a ++ cparts b2 := if_pos (decide_eq_true rfl)
        cases h2' with | cons hx2 hn2 =>
        cases hn2
        cases hdk with | cons ha hdk =>
        cases hdk with | cons hb5 hdk =>
        cases hdk
        have hs3 : (Xp.bin "and" a b2).sz = a.sz + b2.sz + 1 := rfl
        have x5 := x4.trans e5
        refine s_extL (e5 _ _ upd_same) (ev_var rfl) (el_lst (ea_cons (ev_op (ev_var rfl) ev_c (rv_ixT (ex_t (g.trans x5) hS) (atI_nat (j := 3) rfl))) (ea_cons (ev_op (ev_var rfl) ev_c (rv_ixT (ex_t (g.trans x5) hS) (atI_nat (j := 2) rfl))) ea_nil)) (by show 2 ≤ 100000; decide)) (by show ws.length + 2 ≤ 100000; omega) fun H6 e6 => ⟨m - 1, by omega, some (.ref b), _, st0 ++ [b2, a], fs, dn, rfl, Ex.mut (x5.trans e6) hpwH, upd_same, ?_, ?_, hdn, ?_, ?_, ?_⟩
        · rw [List.map_append]
          exact dps_app hds0 (.cons hb5 (.cons ha .nil))
        · rw [upd_ne hpfw]
          exact (e5.trans e6) _ _ hpf4
        · rw [← hu2, hcp, List.reverse_append]
          simp
        · rw [List.map_append, List.sum_append]
          simp only [List.map_cons, List.map_nil, List.sum_cons, List.sum_nil]
          omega
        · rw [List.map_append, List.sum_append]
          simp only [List.map_cons, List.map_nil, List.sum_cons, List.sum_nil]
          omega
    · have hcp : cparts c = [c] := by
        cases c with
        | col _ => rfl
        | cst _ => rfl
        | un _ _ => rfl
        | cho _ _ _ => rfl
        | bin nm a b2 => exact if_neg (by rw [show isS nm "and" = false from hb4]; decide)
      have x5 := x4.trans e5
      refine s_app (v := .ref b) (e5 _ _ hpf4) (ev_var rfl) (ev_var rfl) (by omega) fun H6 e6 => ⟨m - 1, by omega, some (.ref b), ws, st0, fs ++ [.ref b], dn ++ [c], rfl, Ex.mut (x5.trans e6) (fresh_back (Ex.refl H) hpf), ?_, hds0, upd_same, ?_, ?_, ?_, ?_⟩
      · rw [upd_ne (Ne.symm hpfw)]
        exact (e5.trans e6) _ _ upd_same
      · rw [List.map_append]
        exact dps_snoc hdn hdc
      · rw [← hu2, hcp, List.append_assoc]
      · rw [List.length_append, List.length_singleton]
        omega
      · omega
  · have hv0 : vs = [] := by
      cases vs with
      | nil => rfl
      | cons _ _ => cases hb
    subst hv0
    have hst : st = [] := by have := dps_len hds; rw [List.length_map] at this; exact List.eq_nil_of_length_eq_zero this.symm
    subst hst
    have hdn2 : dn = cparts e := by simpa using hu
    subst hdn2
    exact s_ret (ev_var rfl) fun H4 e4 => q pf H4 fs hpf (x.trans (e3.trans e4)) ((e3.trans e4) _ _ hfs) hdn
theorem ok_conjunction {rn : Nat} (D : Dn K mg "conjunction" s_conjunction ["conditions"]) (z_len : mg "len" = none) {p__TRUE : Addr} (g__TRUE : ∃ u, mg "_TRUE" = some u ∧ RelV (.ref p__TRUE) u) (h__TRUE : ∀ H : Hp, SqT K H p__TRUE ([.str "constant", .bl true])) (c_conjunction : C8.Cal P w K mg base (1 + rn) "conjunction" (spR_conjunction rn K) []) :
    C8.Cal P w K mg base (1 + rn + 1) "conjunction" (spR_conjunction (rn + 1) K) [] := by
  refine cal_of D sc_conjunction (fun vs H Q E h => ?_) (fun f cdv A outer s H vs Q E hr h => ?_)
  · obtain ⟨_, _, rfl, _⟩ := h
    rfl
  refine ⟨_, (pss_cons (ps_if (pt_not (pt_truth (pv 0) (by intro _; rfl)))
      (pss_one (ps_ret (C8.pe_gc rfl g__TRUE)))
      pss_nil)
    (pss_cons (ps_if (pt_cmpR op_eq (pe_callB call_len_seq (by rfl) z_len PySem.boot_len (pa_cons (pv 0) pa_nil)) pe_int (nomark _))
      (pss_one (ps_ret (pe_ix ix_list (pv 0) pe_int (fun _ _ => rfl))))
      pss_nil)
    (pss_cons (ps_set (i := 1) sc_conjunction.nd rfl (.inl rfl) (pe_op op_fdiv (pe_callB call_len_seq (by rfl) z_len PySem.boot_len (pa_cons (pv 0) pa_nil)) pe_int))
    (pss_one (ps_ret (pe_tup (pa_cons pe_str (pa_cons pe_str (pa_cons (C8.pe_c c_conjunction hr (Nat.le_refl _) (by rfl) (pa_cons (pe_slice sl_list (pv 0) po_none (po_some (pv 1))) pa_nil)) (pa_cons (C8.pe_c c_conjunction hr (Nat.le_refl _) (by rfl) (pa_cons (pe_slice sl_list (pv 0) (po_some (pv 1)) po_none) pa_nil)) pa_nil)))))))))), ?_⟩
  obtain ⟨a, es, rfl, ⟨ws, hS, hds⟩, h1, h2, q⟩ := h
  have hl := dps_len hds
  rw [List.length_map] at hl
  cases es with
  | nil =>
    obtain rfl : ws = [] := List.eq_nil_of_length_eq_zero hl
    refine q_when (b := !(!([] : List V).isEmpty)) (et_not (et_truL (ev_var rfl) hS)) (fun _ H1 e1 => s_ret ev_c fun H2 e2 => q _ H2 (e1.trans e2) (.tup (h__TRUE _) (.cons (.str _) (.cons (.bl true) .nil)))) fun hb => nomatch hb
  | cons c r =>
  cases ws with
  | nil => simp at hl
  | cons y ws =>
  refine q_when (b := !(!(y :: ws).isEmpty)) (et_not (et_truL (ev_var rfl) hS)) (fun hb => nomatch hb) fun _ H1 e1 => ?_
  refine q_when (b := decide (V.int (((y :: ws).length : Nat) : Int) = V.int 1)) (et_test (ev_op (ev_len (ev_var rfl) (ex_l e1 hS)) ev_c (rv_eq rfl))) (fun hb H2 e2 => ?_) fun hb H2 e2 => ?_
  · have hw : ws = [] := by
      have := V.int.inj (of_decide_eq_true hb)
      refine List.eq_nil_of_length_eq_zero ?_
      rw [List.length_cons] at this
      omega
    subst hw
    have hr : r = [] := List.eq_nil_of_length_eq_zero (by have h9 : 1 = r.length + 1 := hl; omega)
    subst hr
    cases hds with | cons hy _ =>
    exact s_ret (v := y) (ev_op (ev_var rfl) ev_c (rv_ixL (i := ((0 : Nat) : Int)) (ex_l (e1.trans e2) hS) (atI_nat rfl))) fun H3 e3 => q _ H3 ((e1.trans e2).trans e3) (ex_dp ((e1.trans e2).trans e3) hy)
  · cases r with
    | nil =>
      exfalso
      have := of_decide_eq_false hb
      rw [hl] at this
      exact this rfl
    | cons c2 r =>
    have hlen : (c :: c2 :: r).length = r.length + 2 := rfl
    refine q_asg (v := .int (((c :: c2 :: r).length / 2 : Nat) : Int)) (ev_is (ev_op (ev_len (ev_var rfl) (ex_l (e1.trans e2) hS)) ev_c (rv_I ⟨by decide, by decide⟩)) (by rw [hl]; rfl)) fun H3 e3 => ?_
    have x3 := (e1.trans e2).trans e3
    cases rn with
    | zero => exfalso; simp at h1
    | succ n =>
    have hp : 2 ^ (n + 1) = 2 * 2 ^ n := by rw [Nat.pow_succ, Nat.mul_comm]
    have d1 := dps_take ((c :: c2 :: r).length / 2) (ex_dps x3 hds)
    have d2 := dps_drop ((c :: c2 :: r).length / 2) (ex_dps x3 hds)
    rw [← List.map_take] at d1
    rw [← List.map_drop] at d2
    refine (ud_tup (K := K) (ad_cons (ed_val ev_c (.str _)) (ad_cons (ed_val ev_c (.str _)) (ad_cons (ed_conj (n := n) (el_sl (ev_var rfl) eo_none (eo_some (ev_var rfl)) (ex_l x3 hS)) (by rw [cutV_take]; exact d1) (by rw [List.length_take]; omega) (by rw [List.length_take]; omega)) (ad_cons (ed_conj (n := n) (el_sl (ev_var rfl) (eo_some (ev_var rfl)) eo_none (ex_l x3 hS)) (by rw [cutV_drop]; exact d2) (by rw [List.length_drop]; omega) (by rw [List.length_drop]; omega)) ad_nil)))) (by show 4 ≤ 100000; decide)) H3 (Ex.refl H3) _ fun p H4 ys2 hp e4 h4 hd2 => q (.ref p) H4 (x3.trans e4) (.tup (st_of h4) hd2)
theorem ok_together (D : Dn K mg "together" s_together ["first", "second"]) (c_condition_parts : C8.Cal P w K mg base 1 "condition_parts" (sp_condition_parts K) []) (c_conjunction : C8.Cal P w K mg base 9 "conjunction" (sp_conjunction K) []) :
    C8.Cal P w K mg base 10 "together" (sp_together K) [] := by
  refine cal_of D sc_together (fun vs H Q E h => ?_) (fun f cdv A outer s H vs Q E hr h => ?_)
  · obtain ⟨_, _, _, _, rfl, _⟩ := h
    rfl
  refine ⟨_, (pss_one (ps_ret (C8.pe_c c_conjunction hr (by decide) (by rfl) (pa_cons (pe_op op_cat (C8.pe_c c_condition_parts hr (by decide) (by rfl) (pa_cons (pv 0) pa_nil)) (C8.pe_c c_condition_parts hr (by decide) (by rfl) (pa_cons (pv 1) pa_nil))) pa_nil)))), ?_⟩
  obtain ⟨v, u, e, f, rfl, hd, hf, hz, hy, q⟩ := h
  have hl1 := cparts_len e
  have hl2 := cparts_len f
  refine (lt_parts (ev_var rfl) (Ex.refl H) hd hz) H (Ex.refl H) _ fun p1 H1 ws1 hp1 e1 h1 hd1 => ?_
  refine (lt_parts (ev_var rfl) e1 hf hy) H1 (Ex.refl H1) _ fun p2 H2 ws2 hp2 e2 h2 hd2 => ?_
  have hw1 := dps_len hd1
  have hw2 := dps_len hd2
  rw [List.length_map] at hw1 hw2
  refine ⟨p1, p2, ws1, ws2, rfl, rfl, e2 _ _ h1, h2, sz_of (by omega), fun p hp => ⟨p, cparts e ++ cparts f, rfl, ⟨ws1 ++ ws2, sq_of upd_same, ?_⟩, by show _ ≤ 128; rw [List.length_append]; omega, by rw [List.length_append]; omega, fun v' H4 e4 h4 => q v' H4 ((e1.trans e2).trans ((Ex.new hp).trans e4)) h4⟩⟩
  rw [List.map_append]
  exact ex_dps ((e1.trans e2).trans (Ex.new hp)) (dps_app hd1 hd2)
theorem ok_uses_only (D : Dn K mg "uses_only" s_uses_only ["expression", "low", "high"]) (c_columns_of : C8.Cal P w K mg base 2 "columns_of" (sp_columns_of K) []) :
    C8.Cal P w K mg base 3 "uses_only" (sp_uses_only K) [] := by
  refine cal_of D sc_uses_only (fun vs H Q E h => ?_) (fun f cdv A outer s H vs Q E hr h => ?_)
  · obtain ⟨_, _, _, _, rfl, _⟩ := h
    rfl
  refine ⟨_, (pss_cons (ps_set (i := 3) sc_uses_only.nd rfl (.inl rfl) (C8.pe_c c_columns_of hr (by decide) (by rfl) (pa_cons (pv 0) pa_nil)))
    (pss_one (ps_ret (pe_or (pe_notT (pv 3)) (pe_one (pe_and (pe_cmpR op_le (pv 1) (pe_ix ix_list (pv 3) pe_int (fun _ _ => rfl)) (nomark _)) (pe_one (pe_cmpR op_lt (pe_ix ix_list (pv 3) (pe_un un_neg pe_int) (fun _ _ => rfl)) (pv 2) (nomark _))))))))), ?_⟩
  obtain ⟨v, e, l, m, rfl, hd, hz, q⟩ := h
  refine q_asgE ⟨v, rfl, v, e, rfl, hd, hz, fun p H1 ns hp e1 h1 hs hu hl => ?_⟩
  refine s_ret (v := .bl (onlyB l m e)) (ev_is (ev_orV (a := !(!(ns.map V.int).isEmpty)) (b := decide ((l : Int) ≤ ns.getD 0 0) && decide (ns.getD (ns.length - 1) 0 < (m : Int))) (ev_notT (ev_var rfl) (sq_of h1)) fun hb => ?_) ?_) fun H2 e2 => q H2 (e1.trans e2)
  · cases hn : ns with
    | nil => rw [hn] at hb; cases hb
    | cons x r =>
      rw [hn] at h1 hu
      obtain ⟨z, hz⟩ : ∃ z, (x :: r)[(x :: r).length - 1]? = some z := ⟨_, List.getElem?_eq_getElem (by simp)⟩
      have hg : (x :: r).getD ((x :: r).length - 1) 0 = z := by rw [List.getD_eq_getElem?_getD, hz]; rfl
      rw [hg]
      refine ev_andV (ev_op (ev_var rfl) (ev_op (ev_var rfl) ev_c (rv_ixL (i := ((0 : Nat) : Int)) (sq_of h1) (atI_nat rfl))) rv_I0) fun _ => ev_op (ev_op (ev_var rfl) (ev_un ev_c ru_neg) (rv_ixL (i := -1) (sq_of h1) (atI_end ?_))) (ev_var rfl) rv_I0
      rw [List.length_map, List.getElem?_map, hz]
      rfl
  · have hue := used_nil hu
    cases hn : ns with
    | nil =>
      rw [hn] at hue
      have h0 : used e = [] := by
        cases h : used e with
        | nil => rfl
        | cons _ _ => rw [h] at hue; cases hue
      unfold onlyB
      rw [h0]
      rfl
    | cons x r =>
      rw [hn] at hu hs
      obtain ⟨z, hz⟩ : ∃ z, (x :: r)[(x :: r).length - 1]? = some z := ⟨_, List.getElem?_eq_getElem (by simp)⟩
      have hg : (x :: r).getD ((x :: r).length - 1) 0 = z := by rw [List.getD_eq_getElem?_getD, hz]; rfl
      rw [hg, show (x :: r).getD 0 0 = x from rfl, only_is hs hu hz]
      rfl
theorem ok_is_plain (D : Dn K mg "is_plain" s_is_plain ["expression"]) :
    C8.Cal P w K mg base 1 "is_plain" (sp_is_plain K) [] := by
  refine cal_of D sc_is_plain (fun vs H Q E h => ?_) (fun f cdv A outer s H vs Q E hr h => ?_)
  · obtain ⟨_, _, rfl, _⟩ := h
    rfl
  refine ⟨_, (pss_one (ps_ret (pe_cmpR op_in_seq (pe_ix ix_tup (pv 0) pe_int (fun _ _ => rfl)) (pe_tup (pa_cons pe_str (pa_cons pe_str pa_nil))) (by with_unfolding_all rfl)))), ?_⟩
  obtain ⟨v, e, rfl, hd, q⟩ := h
  obtain ⟨b, us, ys, rfl, hS, hu, hk⟩ := xx_view hd
  refine s_ret (v := .bl (plainB e)) (ev_is (ev_inU (ev_op (ev_var rfl) ev_c (rv_ixT hS (atI_nat (j := 0) rfl))) (eu_tup (ea_cons ev_c (ea_cons ev_c ea_nil)) (by show 2 ≤ 100000; decide)) rfl rfl) ?_) fun H1 e1 => q H1 e1
  cases e with
  | col n => exact congrArg V.bl (show inV (.str ("column" : Str)) [.str "column", .str "constant"] = true by decide +kernel)
  | cst v => exact congrArg V.bl (show inV (.str ("constant" : Str)) [.str "column", .str "constant"] = true by decide +kernel)
  | un nm a => exact congrArg V.bl (show inV (.str ("unary" : Str)) [.str "column", .str "constant"] = false by decide +kernel)
  | bin nm a b => exact congrArg V.bl (show inV (.str ("binary" : Str)) [.str "column", .str "constant"] = false by decide +kernel)
  | cho c a b => exact congrArg V.bl (show inV (.str ("choice" : Str)) [.str "column", .str "constant"] = false by decide +kernel)
end
def CntIs (kvs : List (L2.Key × V)) (us : List Nat) : Prop := ∀ n : Nat, valV kvs (Sum.inl (n : Int)) = if us.count n = 0 then none else some (.int (us.count n : Int))
theorem cnt_nil : CntIs [] [] := fun n => rfl
theorem cnt_cons {kvs : List (L2.Key × V)} {us : List Nat} {k : Nat} (h : CntIs kvs us) : CntIs (putK kvs (Sum.inl (k : Int)) (.int ((us.count k + 1 : Nat) : Int))) (k :: us) := fun n => by
  rw [valV_put, List.count_cons]
  by_cases e : n = k
  · subst e
    rw [if_pos rfl, beq_self_eq_true, if_pos rfl, if_neg (by omega)]
  · rw [if_neg (fun z => e (by have := Sum.inl.inj z; omega)), h n, show (k == n) = false from beq_eq_false_iff_ne.mpr (Ne.symm e)]
    rfl
theorem cnt_get {kvs : List (L2.Key × V)} {us : List Nat} (h : CntIs kvs us) (n : Nat) : (valV kvs (Sum.inl (n : Int))).getD (.int 0) = .int (us.count n : Int) := by
  rw [h n]
  split
  · rename_i z
    rw [z]
    rfl
  · rfl
theorem put_len {kvs : List (L2.Key × V)} {k : L2.Key} {v : V} : (putK kvs k v).length ≤ kvs.length + 1 := by
  unfold putK
  split
  · rw [List.length_map]; omega
  · rw [List.length_append, List.length_singleton]; exact Nat.le_refl _
theorem used_flat {e : Xp} (h : isCol e = false) : e.kids.flatMap used = used e := by
  cases e with
  | col n => cases h
  | cst v => rfl
  | un nm a => simp [Xp.kids, used]
  | bin nm a b => simp [Xp.kids, used]
  | cho c a b => simp [Xp.kids, used]
def sp__columns_in (K : PySem.W.Frag) : Sp := fun vs H Q _ => ∃ (a : Addr) (es : List Xp), vs = [.ref a] ∧ XpsAt K H a es ∧ (es.map Xp.sz).sum ≤ 300 ∧ ∀ d H' kvs, H d = none → Ex H H' → H' d = some (.dK kvs) → CntIs kvs (es.flatMap used) → Q (.ref d) H'
def mergeB (es : List Xp) (us : List Nat) : Bool := (List.range es.length).all fun i => plainB (es.getD i (.col 0)) || decide (us.count i ≤ 1)
def sp_can_merge (K : PySem.W.Frag) : Sp := fun vs H Q _ => ∃ (a b : Addr) (es fs : List Xp), vs = [.ref a, .ref b] ∧ XpsAt K H a es ∧ XpsAt K H b fs ∧ es.length ≤ 100 ∧ (fs.map Xp.sz).sum ≤ 300 ∧ ∀ H', Ex H H' → Q (.bl (mergeB es (fs.flatMap used))) H'
theorem cnt_perm {us vs : List Nat} {kvs : List (L2.Key × V)} (h : CntIs kvs us) (e : ∀ n, us.count n = vs.count n) : CntIs kvs vs := fun n => by rw [← e n]; exact h n
section
variable {K : PySem.W.Frag} {σ : L2.St} {H : Hp} {ta tb tc te tl : TE} {tr : TA} {E : XK} {x y z v : V}
theorem ev_dget2 {d : Addr} {kvs : List (L2.Key × V)} {n : Int} (ha : Ev ta σ H (.ref d)) (hd : H d = some (.dK kvs)) (hb : Ev tb σ H (.int n)) (hc : Ev tc σ H z) : Ev (tDGet2 ta tb tc) σ H ((valV kvs (Sum.inl n)).getD z) := fun H1 e Q q =>
  ha H1 e _ fun H2 e2 => ⟨d, rfl, .inl ⟨kvs, .inl ((e.trans e2) _ _ hd)⟩, hb H2 (e.trans e2) _ fun H3 e3 => hc H3 ((e.trans e2).trans e3) _ fun H4 e4 => ⟨_, .inl ⟨kvs, Sum.inl n, .inl ((((e.trans e2).trans e3).trans e4) _ _ hd), rfl, rfl⟩, q H4 ((e2.trans e3).trans e4)⟩⟩
/-- [f for i, x in enumerate(xs)] -/
theorem el_lcEn {a : Addr} {xs : List V} {i j : Nat} {vs : List Nat} (f : Nat → V) (h : EvA tr σ H [.ref a]) (hx : SqL K H a xs) (hz : xs.length ≤ 40000) (hw : ∀ u v, wipe (((wipe σ vs).set i (some u)).set j (some v)) vs = wipe σ vs)
    (he : ∀ (k : Nat) (x : V) (H1 : Hp), Ex H H1 → xs[k]? = some x → Ev te (((wipe σ vs).set i (some (.int (k : Int)))).set j (some x)) H1 (f k)) :
    EvL (tLc (iEnum K tr) (gTup K 2 (gCons (gName i) (gCons (gName j) gNil))) tYes te vs) σ H ((List.range xs.length).map f) := fun H0 e0 Q q => h H0 e0 _ fun H1 e1 => ⟨a, xs, rfl, ex_l (e0.trans e1) hx, fun D hD =>
  lc_it (walk_enum (K := K) (a := a) (xs := xs)) (fun i H' => H1 D = none ∧ Ex H1 H' ∧ H' D = some (.lst ((List.range i).map f))) ⟨hD, Ex.new hD, upd_same⟩ (fun i H' _ p => ex_l ((e0.trans e1).trans p.2.1) hx)
    (fun k x H' H'' hk p hy => by
      obtain ⟨p1, p2, p3⟩ := p
      obtain ⟨T, u, w, rfl, hT, rfl, hu, hw2⟩ := hy
      cases hu
      have x3 : Ex H1 (upd H' T (.tup [.int (k : Int), w])) := p2.trans (Ex.new hT)
      refine gt2 (st_of upd_same) ⟨hw _ _, ?_⟩
      show te (((wipe σ vs).set i (some (.int (k : Int)))).set j (some w)) _ fun y H4 => ∃ acc, H4 D = some (.lst acc) ∧ acc.length < sizeLine ∧ _
      refine he k w _ ((e0.trans e1).trans x3) hw2 _ (Ex.refl _) _ fun H4 e4 => ⟨_, ((Ex.new hT).trans e4) _ _ p3, sz_lt ?_, p1, Ex.mut (x3.trans e4) p1, by rw [upd_same, List.range_succ, List.map_append]; rfl⟩
      rw [List.length_map, List.length_range]
      omega)
    (fun H' p => q D H' (fresh_back e1 p.1) (e1.trans p.2.1) p.2.2)⟩
theorem ec_plain {v : V} {e : Xp} (ha : Ev ta σ H v) (hd : Dp K H v e.d) : Ev (tCall (sp_is_plain K) [] E (tCons ta tNil)) σ H (.bl (plainB e)) := ev_call (ea_cons ha ea_nil) fun H1 e1 Q q E => ⟨v, e, rfl, ex_dp e1 hd, q⟩
theorem ev_all {bs : List Bool} (ha : EvL ta σ H (bs.map V.bl)) : Ev (tCB (rAll K) (tCons ta tNil)) σ H (.bl (bs.all id)) := fun H1 e Q q =>
  ha H1 e _ fun p H2 _ e2 h2 => ⟨p, bs, rfl, sq_of h2, q H2 e2⟩
theorem ev_any {bs : List Bool} (ha : EvL ta σ H (bs.map V.bl)) : Ev (tCB (rAny K) (tCons ta tNil)) σ H (.bl (bs.any id)) := fun H1 e Q q =>
  ha H1 e _ fun p H2 _ e2 h2 => ⟨p, bs, rfl, sq_of h2, q H2 e2⟩
end
def CcW (K : PySem.W.Frag) (G H : Hp) (a pf pw : Addr) (es : List Xp) (m : Nat) (σ' : L2.St) (H' : Hp) : Prop := ∃ (pv : Option V) (vs : List V) (st : List Xp) (kvs : List (L2.Key × V)) (us : List Nat), σ' = [some (.ref a), some (.ref pf), some (.ref pw), pv] ∧ Ex H H' ∧ H' pw = some (.lst vs) ∧ DpAll K G vs (st.map Xp.d) ∧ H' pf = some (.dK kvs) ∧ CntIs kvs us ∧ (∀ n, us.count n + (st.flatMap used).count n = (es.flatMap used).count n) ∧ kvs.length + (st.map Xp.sz).sum ≤ 300 ∧ (st.map Xp.sz).sum ≤ m
section
variable {P : Program} {w : World} {K : PySem.W.Frag} {mg : Str → Option Value} {base : Heap}
theorem ok__columns_in (D : Dn K mg "_columns_in" s__columns_in ["expressions"]) (c_parts_of : C8.Cal P w K mg base 1 "parts_of" (sp_parts_of K) []) (z_list : mg "list" = none) :
    C8.Cal P w K mg base 2 "_columns_in" (sp__columns_in K) [] := by
  refine cal_of D sc__columns_in (fun vs H Q E h => ?_) (fun f cdv A outer s H vs Q E hr h => ?_)
  · obtain ⟨_, _, rfl, _⟩ := h
    rfl
  refine ⟨_, (pss_cons (ps_set (i := 1) sc__columns_in.nd rfl (.inl rfl) pe_dnewK)
    (pss_cons (ps_set (i := 2) sc__columns_in.nd rfl (.inl rfl) (pe_callTy call_list_of (by rfl) z_list (by decide +kernel) (pa_cons (pv 0) pa_nil)))
    (pss_cons (ps_while PassesOwn.never (pt_truth (pv 2) (by intro _; rfl))
      (pss_cons (ps_set (i := 3) sc__columns_in.nd rfl (.inl rfl) (pe_bm0 PySem.F.plainAttrs_list PySem.F.slot_list_pop PySem.F.type_list_pop mt_pop (pv 2)))
    (pss_cons (ps_if (pt_cmpR op_eq (pe_ix ix_tup (pv 3) pe_int (fun _ _ => rfl)) pe_str (nomark _))
      (pss_one (ps_dput (hu_of hr) (pv 1) (pe_ix ix_tup (pv 3) pe_int (fun _ _ => rfl)) (pe_op op_add (pe_dget2 (hu_of hr) (pv 1) (pe_ix ix_tup (pv 3) pe_int (fun _ _ => rfl)) pe_int ⟨by rfl, by rfl, by rfl, by rfl⟩) pe_int) rfl))
      pss_nil)
    (pss_one (ps_expr (pe_bm PySem.F.plainAttrs_list PySem.F.slot_list_extend PySem.F.type_list_extend mt_extT (pv 2) (pa_cons (C8.pe_c c_parts_of hr (by decide) (by rfl) (pa_cons (pv 3) pa_nil)) pa_nil)))))))
    (pss_one (ps_ret (pv 1)))))), ?_⟩
  obtain ⟨a, es, rfl, ⟨vs0, hS, hds0⟩, hz, q⟩ := h
  refine q_dnew fun pf hpf => ?_
  have x0 : Ex H (upd H pf (.dK [])) := Ex.new hpf
  refine q_asgL (el_list (ev_var rfl) (ex_l x0 hS)) fun pw H2 hpw e2 h2 => ?_
  have hpfw : pf ≠ pw := fun z => by rw [← z, upd_same] at hpw; cases hpw
  have hpwH : H pw = none := fresh_back x0 hpw
  refine q_while (CcW K H H a pf pw es) (es.map Xp.sz).sum ⟨none, vs0, es, [], [], rfl, x0.trans e2, h2, hds0, e2 _ _ upd_same, cnt_nil, fun n => by simp, by simpa using hz, Nat.le_refl _⟩ fun m σ' H' hW => ?_
  obtain ⟨pv, vs, st, kvs, us, rfl, x, hvs, hds, hkv, hcn, hcs, hsz, hm⟩ := hW
  refine ⟨!vs.isEmpty, et_truL (ev_var rfl) (sq_of hvs), fun hb H1 e1 => ⟨fun σ2 H2 => ∃ m', m' < m ∧ CcW K H H a pf pw es m' σ2 H2, fun _ _ h => h, ?_⟩, fun hb H1 e1 => ?_⟩
  · obtain ⟨st0, c, rfl⟩ : ∃ st0 c, st = st0 ++ [c] := by
      rcases List.eq_nil_or_concat st with rfl | ⟨a, b, rfl⟩
      · cases hds
        cases hb
      · exact ⟨a, b, by rw [List.concat_eq_append]⟩
    rw [List.map_append] at hds
    obtain ⟨ws, y, rfl, hds0, hdc⟩ := dps_unsnoc hds
    obtain ⟨b, xs1, ys, rfl, hT, h2', hdk⟩ := xx_view hdc
    refine q_pop (e1 _ _ hvs) (ev_var rfl) fun H3 e3 => ?_
    have x3 : Ex H (upd H3 pw (.lst ws)) := Ex.mut (x.trans (e1.trans e3)) hpwH
    have hwl : ws.length = st0.length := by have := dps_len hds0; rw [List.length_map] at this; exact this
    have hsz2 := sz_kids c
    have hpos := sz_pos c
    have hsum : ((st0 ++ [c]).map Xp.sz).sum = (st0.map Xp.sz).sum + c.sz := by simp
    have hl0 : st0.length ≤ (st0.map Xp.sz).sum := len_sz st0
    have hl1 : c.kids.length ≤ (c.kids.map Xp.sz).sum := len_sz c.kids
    have tail : ∀ {H4 : Hp} {kvs4 : List (L2.Key × V)} {us4 : List Nat}, Ex H H4 → H4 pw = some (.lst ws) → H4 pf = some (.dK kvs4) → CntIs kvs4 us4 → kvs4.length ≤ kvs.length + 1 → (∀ n, us4.count n + ((st0 ++ c.kids).flatMap used).count n = (es.flatMap used).count n) →
        tBM K "list" (rExtT K) (tVar 2) (tCons (tCall (sp_parts_of K) [] C8.E0 (tCons (tVar 3) tNil)) tNil) [some (.ref a), some (.ref pf), some (.ref pw), some (.ref b)] H4 (fun _ H5 => ∃ m', m' < m ∧ CcW K H H a pf pw es m' [some (.ref a), some (.ref pf), some (.ref pw), some (.ref b)] H5) := fun {H4 kvs4 us4} x4 hw4 hf4 hk4 hl4 hu4 => by
      refine ⟨.ref pw, rfl, Or.inl ⟨rfl, _, sq_of hw4⟩, .ref b, rfl, .ref b, c, H, rfl, x4, hdc, fun p H5 ys5 hp5 e5 h5 hd5 => ⟨pw, p, ws, ys5, rfl, rfl, e5 _ _ hw4, st_of h5, sz_of ?_, m - 1, ?_, some (.ref b), ws ++ ys5, st0 ++ c.kids, kvs4, us4, rfl, Ex.mut (x4.trans e5) hpwH, upd_same, ?_, ?_, hk4, hu4, ?_, ?_⟩⟩
      · have := dps_len hd5
        rw [List.length_map] at this
        omega
      · omega
      · rw [List.map_append]
        exact dps_app hds0 hd5
      · rw [upd_ne hpfw]
        exact e5 _ _ hf4
      · rw [List.map_append, List.sum_append]
        omega
      · rw [List.map_append, List.sum_append]
        omega
    have hpf3 : upd H3 pw (.lst ws) pf = some (.dK kvs) := by rw [upd_ne hpfw]; exact (e1.trans e3) _ _ hkv
    refine q_when (et_test (ev_is (ev_op (ev_op (ev_var rfl) ev_c (rv_ixT (ex_t x3 hT) (atI_nat (j := 0) rfl))) ev_c (rv_eq rfl)) (by rw [show decide (V.str c.hd = V.str "column") = isCol c from hd_col c]))) (fun hb4 H4 e4 => ?_) fun hb4 H4 e4 => ?_
    · cases c with
      | cst _ => cases hb4
      | un _ _ => cases hb4
      | bin _ _ _ => cases hb4
      | cho _ _ _ => cases hb4
      | col n =>
        cases h2' with | cons hy hn =>
        cases hn
        obtain rfl := dp_intD hy
        have hf4 : H4 pf = some (.dK kvs) := e4 _ _ hpf3
        refine s_dputI (ev_op (ev_is (ev_dget2 (ev_var rfl) hf4 (ev_op (ev_var rfl) ev_c (rv_ixT (ex_t (x3.trans e4) hT) (atI_nat (j := 1) rfl))) ev_c) (cnt_get hcn n)) ev_c rv_I0) (ev_var rfl) (ev_op (ev_var rfl) ev_c (rv_ixT (ex_t (x3.trans e4) hT) (atI_nat (j := 1) rfl))) hf4 (by omega) fun H5 e5 => tail (us4 := n :: us) (Ex.mut (x3.trans (e4.trans e5)) hpf) (by rw [upd_ne (Ne.symm hpfw)]; exact (e4.trans e5) _ _ upd_same) upd_same ?_ put_len fun k => ?_
        · have := cnt_cons (k := n) hcn
          rw [Int.natCast_add] at this
          exact this
        · have := hcs k
          rw [List.flatMap_append, List.count_append] at this
          show (n :: us).count k + ((st0 ++ []).flatMap used).count k = _
          rw [List.append_nil, List.count_cons]
          have e2 : ([Xp.col n].flatMap used).count k = if (n == k) = true then 1 else 0 := by
            show ([n] : List Nat).count k = _
            rw [List.count_cons]
            simp
          rw [e2] at this
          omega
    · refine tail (x3.trans e4) (e4 _ _ upd_same) (e4 _ _ hpf3) hcn (Nat.le_succ _) fun k => ?_
      have := hcs k
      rw [List.flatMap_append, List.count_append] at this ⊢
      rw [used_flat hb4]
      have e2 : [c].flatMap used = used c := by simp
      rw [e2] at this
      exact this
  · have hv0 : vs = [] := by
      cases vs with
      | nil => rfl
      | cons _ _ => cases hb
    subst hv0
    have hst : st = [] := by have := dps_len hds; rw [List.length_map] at this; exact List.eq_nil_of_length_eq_zero this.symm
    subst hst
    exact s_ret (ev_var rfl) fun H4 e4 => q pf H4 kvs hpf (x.trans (e1.trans e4)) ((e1.trans e4) _ _ hkv) (cnt_perm hcn fun n => by have := hcs n; simpa using this)
theorem ok_can_merge (D : Dn K mg "can_merge" s_can_merge ["expressions", "others"]) (c__columns_in : C8.Cal P w K mg base 2 "_columns_in" (sp__columns_in K) []) (c_is_plain : C8.Cal P w K mg base 1 "is_plain" (sp_is_plain K) []) (z_all : mg "all" = none) (z_enumerate : mg "enumerate" = none) :
    C8.Cal P w K mg base 3 "can_merge" (sp_can_merge K) [] := by
  refine cal_of D sc_can_merge (fun vs H Q E h => ?_) (fun f cdv A outer s H vs Q E hr h => ?_)
  · obtain ⟨_, _, _, _, rfl, _⟩ := h
    rfl
  refine ⟨_, (pss_cons (ps_set (i := 2) sc_can_merge.nd rfl (.inr rfl) (C8.pe_c c__columns_in hr (by decide) (by rfl) (pa_cons (pv 1) pa_nil)))
    (pss_one (ps_ret (pe_callB (cr_all rfl) (by rfl) z_all (by decide +kernel) (pa_cons (pe_lc (own := [("column", 3), ("expression", 4)]) (g := gTup K 2 (gCons (gName 3) (gCons (gName 4) gNil))) (tt := tYes) rfl sc_can_merge.nd (pi_enum (by rfl) z_enumerate (pa_cons (pv 0) pa_nil)) (blkOk_by (N := n_can_merge) (sc := C8.fnScope s_can_merge) (by decide +kernel)) (fun _ _ _ _ _ => pg_tup rfl (pgs_cons (pg_name (i := 3) sc_can_merge.nd rfl (Or.inl rfl)) (pgs_cons (pg_name (i := 4) sc_can_merge.nd rfl (Or.inl rfl)) pgs_nil))) (fun _ _ _ _ _ => pts_nil) (fun _ _ _ _ _ => (pe_or (C8.pe_c c_is_plain hr (by decide) (by rfl) (pa_cons (pv 4) pa_nil)) (pe_one (pe_cmpR op_le (pe_dget2 (hu_of hr) (pv 2) (pv 3) pe_int ⟨by rfl, by rfl, by rfl, by rfl⟩) pe_int (nomark _)))))) pa_nil))))), ?_⟩
  obtain ⟨a, b, es, fs, rfl, ⟨ws, hS, hds⟩, hf, hl, hz, q⟩ := h
  have hwl : ws.length = es.length := by have := dps_len hds; rw [List.length_map] at this; exact this
  refine q_asgE ⟨.ref b, rfl, b, fs, rfl, hf, hz, fun d H1 kvs hd e1 h1 hcn => ?_⟩
  have hlist : (List.range ws.length).map (fun i => V.bl (plainB (es.getD i (.col 0)) || decide ((fs.flatMap used).count i ≤ 1))) = ((List.range es.length).map fun i => plainB (es.getD i (.col 0)) || decide ((fs.flatMap used).count i ≤ 1)).map V.bl := by
    rw [hwl, List.map_map]
    rfl
  refine s_ret (v := .bl (mergeB es (fs.flatMap used))) (ev_is (ev_all (bs := (List.range es.length).map fun i => plainB (es.getD i (.col 0)) || decide ((fs.flatMap used).count i ≤ 1)) ?_) (by unfold mergeB; rw [List.all_map]; rfl)) fun H2 e2 => q H2 (e1.trans e2)
  rw [← hlist]
  refine el_lcEn _ (ea_cons (ev_var rfl) ea_nil) (ex_l e1 hS) (by omega) (fun _ _ => rfl) fun k x H3 e3 hx => ?_
  obtain ⟨dd, hdd, hxd⟩ := dps_get hds hx
  rw [List.getElem?_map] at hdd
  obtain ⟨c, hc, rfl⟩ := Option.map_eq_some_iff.mp hdd
  have hg : es.getD k (.col 0) = c := by rw [List.getD_eq_getElem?_getD, hc]; rfl
  rw [hg]
  refine ev_orV (ec_plain (ev_var rfl) (ex_dp (e1.trans e3) hxd)) fun _ => ev_is (ev_op (ev_is (ev_dget2 (ev_var rfl) (e3 _ _ h1) (ev_var rfl) ev_c) (cnt_get hcn k)) ev_c rv_I0) ?_
  show V.bl (decide (((fs.flatMap used).count k : Int) ≤ 1)) = _
  congr 1
  rw [decide_eq_decide]
  omega
end
def inL3 (nm : Str) : Bool := inV (.str nm) [.str "and", .str "or", .str "coalesce"]
def inL2 (nm : Str) : Bool := inV (.str nm) [.str "is null", .str "same"]
def noneB (m : Nat) : Xp → Bool
  | .col n => decide (m ≤ n)
  | .cst v => decide (v = .non)
  | .un nm a => if inL2 nm = true then false else noneB m a
  | .bin nm a b => if inL3 nm = true then noneB m a && noneB m b else if inL2 nm = true then false else noneB m a || noneB m b
  | .cho _ a b => noneB m a && noneB m b
def refB (m : Nat) : Xp → Bool
  | .col n => noneB m (.col n)
  | .cst v => noneB m (.cst v)
  | .un nm a => if isS nm "not" = true then (match a with
      | .un nm2 x => if isS nm2 "is null" = true then noneB m x else noneB m (.un nm a)
      | _ => noneB m (.un nm a)) else noneB m (.un nm a)
  | .bin nm a b => if isS nm "and" = true then refB m a || (refB m b || noneB m (.bin nm a b)) else if isS nm "or" = true then refB m a && refB m b else noneB m (.bin nm a b)
  | .cho c a b => noneB m (.cho c a b)
theorem un_no3 {nm : Str} (h : nm ∈ unL) : inL3 nm = false := by
  simp only [unL, List.mem_cons, List.not_mem_nil, or_false] at h
  rcases h with rfl | rfl | rfl | rfl | rfl | rfl | rfl | rfl | rfl <;> decide +kernel
def spR_none_from : Nat → PySem.W.Frag → Sp
  | 0, _ => fun _ _ _ _ => False
  | n + 1, K => fun vs H Q _ => ∃ (v : V) (e : Xp) (m : Nat), vs = [v, .int (m : Int)] ∧ Dp K H v e.d ∧ XOk e ∧ XN e ∧ e.dep ≤ n + 1 ∧ ∀ H', Ex H H' → Q (.bl (noneB m e)) H'
def sp_none_from (K : PySem.W.Frag) : Sp := spR_none_from 8 K
def spR_refuses : Nat → PySem.W.Frag → Sp
  | 0, _ => fun _ _ _ _ => False
  | n + 1, K => fun vs H Q _ => ∃ (v : V) (e : Xp) (m : Nat), vs = [v, .int (m : Int)] ∧ Dp K H v e.d ∧ XOk e ∧ XN e ∧ e.dep ≤ n + 1 ∧ e.dep ≤ 8 ∧ ∀ H', Ex H H' → Q (.bl (refB m e)) H'
def sp_refuses (K : PySem.W.Frag) : Sp := spR_refuses 8 K
section
variable {K : PySem.W.Frag} {σ : L2.St} {H : Hp} {ta tb tc te tl : TE} {tr : TA} {E : XK} {x y z v : V} {a b c d : V}
theorem gt4 {p : Addr} {a b c d : V} {i j k l : Nat} (h : SqT K H p [a, b, c, d]) {Q : L2.St → Hp → Prop} (q : Q ((((σ.set i (some a)).set j (some b)).set k (some c)).set l (some d)) H) : gTup K 4 (gCons (gName i) (gCons (gName j) (gCons (gName k) (gCons (gName l) gNil)))) (.ref p) σ H Q :=
  ⟨p, [a, b, c, d], rfl, h, rfl, a, [b, c, d], rfl, b, [c, d], rfl, c, [d], rfl, d, [], rfl, rfl, q⟩
theorem el_lcT {a : Addr} {xs : List V} {j : Nat} {vs : List Nat} (f : Nat → V) (h : Ev tl σ H (.ref a)) (hx : SqT K H a xs) (hz : xs.length ≤ 40000) (hw : ∀ x, wipe ((wipe σ vs).set j (some x)) vs = wipe σ vs)
    (he : ∀ (i : Nat) (x : V) (H1 : Hp), Ex H H1 → xs[i]? = some x → Ev te ((wipe σ vs).set j (some x)) H1 (f i)) :
    EvL (tLc (iTup K tl) (gName j) tYes te vs) σ H ((List.range xs.length).map f) := fun H0 e0 Q q => h H0 e0 _ fun H1 e1 => ⟨a, rfl, ⟨xs, ex_t (e0.trans e1) hx⟩, fun D hD =>
  lc_tup (xs := xs) (fun i H' => H1 D = none ∧ Ex H1 H' ∧ H' D = some (.lst ((List.range i).map f))) ⟨hD, Ex.new hD, upd_same⟩ (fun i H' _ p => ex_t ((e0.trans e1).trans p.2.1) hx)
    (fun i x H' hi p => by
      obtain ⟨p1, p2, p3⟩ := p
      refine ⟨hw x, ?_⟩
      show te ((wipe σ vs).set j (some x)) H' fun y H4 => ∃ acc, H4 D = some (.lst acc) ∧ acc.length < sizeLine ∧ _
      refine he i x H' ((e0.trans e1).trans p2) hi H' (Ex.refl H') _ fun H4 e4 => ⟨_, e4 _ _ p3, sz_lt ?_, p1, Ex.mut (p2.trans e4) p1, by rw [upd_same, List.range_succ, List.map_append]; rfl⟩
      have := (List.getElem?_eq_some_iff.mp hi).1
      rw [List.length_map, List.length_range]
      omega)
    (fun H' p => q D H' (fresh_back e1 p.1) (e1.trans p.2.1) p.2.2)⟩
theorem ec_noneR {v : V} {e : Xp} {m n : Nat} (ha : Ev ta σ H v) (hb : Ev tb σ H (.int (m : Int))) (hd : Dp K H v e.d) (ho : XOk e) (hN : XN e) (hn : e.dep ≤ n + 1) : Ev (tCall (spR_none_from (n + 1) K) [] E (tCons ta (tCons tb tNil))) σ H (.bl (noneB m e)) := ev_call (ea_cons ha (ea_cons hb ea_nil)) fun H1 e1 Q q E => ⟨v, e, m, rfl, ex_dp e1 hd, ho, hN, hn, q⟩
theorem ec_none {v : V} {e : Xp} {m : Nat} (ha : Ev ta σ H v) (hb : Ev tb σ H (.int (m : Int))) (hd : Dp K H v e.d) (ho : XOk e) (hN : XN e) (hn : e.dep ≤ 8) : Ev (tCall (sp_none_from K) [] E (tCons ta (tCons tb tNil))) σ H (.bl (noneB m e)) := ec_noneR ha hb hd ho hN hn
theorem ec_refR {v : V} {e : Xp} {m n : Nat} (ha : Ev ta σ H v) (hb : Ev tb σ H (.int (m : Int))) (hd : Dp K H v e.d) (ho : XOk e) (hN : XN e) (hn : e.dep ≤ n + 1) (h8 : e.dep ≤ 8) : Ev (tCall (spR_refuses (n + 1) K) [] E (tCons ta (tCons tb tNil))) σ H (.bl (refB m e)) := ev_call (ea_cons ha (ea_cons hb ea_nil)) fun H1 e1 Q q E => ⟨v, e, m, rfl, ex_dp e1 hd, ho, hN, hn, h8, q⟩
end
section
variable {P : Program} {w : World} {K : PySem.W.Frag} {mg : Str → Option Value} {base : Heap}
theorem ok_none_from {rn : Nat} (D : Dn K mg "none_from" s_none_from ["expression", "m"]) (z_any : mg "any" = none) (c_none_from : C8.Cal P w K mg base (1 + rn) "none_from" (spR_none_from rn K) []) :
    C8.Cal P w K mg base (1 + rn + 1) "none_from" (spR_none_from (rn + 1) K) [] := by
  refine cal_of D sc_none_from (fun vs H Q E h => ?_) (fun f cdv A outer s H vs Q E hr h => ?_)
  · obtain ⟨_, _, _, rfl, _⟩ := h
    rfl
  refine ⟨_, (pss_cons (ps_set (i := 2) sc_none_from.nd rfl (.inl rfl) (pe_ix ix_tup (pv 0) pe_int (fun _ _ => rfl)))
    (pss_cons (ps_if (pt_cmpR op_eq (pv 2) pe_str (nomark _))
      (pss_one (ps_ret (pe_cmpR op_isN (pe_ix ix_tup (pv 0) pe_int (fun _ _ => rfl)) pe_non (nomark _))))
      pss_nil)
    (pss_cons (ps_if (pt_cmpR op_eq (pv 2) pe_str (nomark _))
      (pss_one (ps_ret (pe_cmpR op_ge (pe_ix ix_tup (pv 0) pe_int (fun _ _ => rfl)) (pv 1) (nomark _))))
      pss_nil)
    (pss_cons (ps_set (i := 3) sc_none_from.nd rfl (.inl rfl) (pe_ix ix_tup (pv 0) pe_int (fun _ _ => rfl)))
    (pss_cons (ps_set (i := 4) sc_none_from.nd rfl (.inl rfl) (pe_slice sl_tupA (pv 0) (po_some pe_int) po_none))
    (pss_cons (ps_if (PW.pt (pw_or (pt_cmpR op_eq (pv 2) pe_str (nomark _)) (pw_or1 (pt_cmpR op_in_seq (pv 3) (pe_tup (pa_cons pe_str (pa_cons pe_str (pa_cons pe_str pa_nil)))) (by with_unfolding_all rfl)))))
      (pss_one (ps_ret (pe_and (C8.pe_c c_none_from hr (Nat.le_refl _) (by rfl) (pa_cons (pe_ix ix_tup (pv 4) pe_int (fun _ _ => rfl)) (pa_cons (pv 1) pa_nil))) (pe_one (C8.pe_c c_none_from hr (Nat.le_refl _) (by rfl) (pa_cons (pe_ix ix_tup (pv 4) pe_int (fun _ _ => rfl)) (pa_cons (pv 1) pa_nil)))))))
      pss_nil)
    (pss_cons (ps_if (pt_cmpR op_in_seq (pv 3) (pe_tup (pa_cons pe_str (pa_cons pe_str pa_nil))) (by with_unfolding_all rfl))
      (pss_one (ps_ret pe_bl))
      pss_nil)
    (pss_one (ps_ret (pe_callB (cr_any rfl) (by rfl) z_any (by decide +kernel) (pa_cons (pe_lc (own := [("part", 5)]) (g := gName 5) (tt := tYes) rfl sc_none_from.nd (pi_tup (pv 4)) (blkOk_by (N := n_none_from) (sc := C8.fnScope s_none_from) (by decide +kernel)) (fun _ _ _ _ _ => pg_name (i := 5) sc_none_from.nd rfl (Or.inl rfl)) (fun _ _ _ _ _ => pts_nil) (fun _ _ _ _ _ => (C8.pe_c c_none_from hr (Nat.le_refl _) (by rfl) (pa_cons (pv 5) (pa_cons (pv 1) pa_nil))))) pa_nil))))))))))), ?_⟩
  obtain ⟨v, e, m, rfl, hd, ho, hN, hdep, q⟩ := h
  obtain ⟨ad, zs, rfl, hT, hV⟩ := xa_at ⟨hd, ho⟩
  refine q_asg (v := .str e.hd) (ev_ix (i := 0) (ev_var rfl) hT ev_c hV.hd) fun H1 e1 => ?_
  have hT1 := ex_t e1 hT
  have no : ∀ {a b : Str} {H0 : Hp} {σ : L2.St} {r : Bool}, σ[2]? = some (some (.str a)) → isS a b = r → EvT (tTest (tOp rEq (tVar 2) (tC (.str b)))) σ H0 r := fun h hr => et_is (et_S (ev_var h) ev_c) hr
  cases hV with
  | cst x hxv =>
    refine q_when (b := true) (no rfl (by show isS "constant" "constant" = true; decide +kernel)) (fun _ H2 e2 => ?_) fun h => nomatch h
    exact s_ret (ev_op (ev_ix (i := 1) (ev_var rfl) (ex_t e2 hT1) ev_c rfl) ev_c rv_isN) fun H3 e3 => q H3 (e1.trans (e2.trans e3))
  | col n =>
    refine q_when (b := false) (no rfl (by show isS "column" "constant" = false; decide +kernel)) (fun h => nomatch h) fun _ H2 e2 => ?_
    refine q_when (b := true) (no rfl (by show isS "column" "column" = true; decide +kernel)) (fun _ H3 e3 => ?_) fun h => nomatch h
    refine s_ret (ev_is (ev_op (ev_ix (i := 1) (ev_var rfl) (ex_t (e2.trans e3) hT1) ev_c rfl) (ev_var rfl) rv_I0) ?_) fun H4 e4 => q H4 (e1.trans (e2.trans (e3.trans e4)))
    show V.bl (decide ((m : Int) ≤ (n : Int))) = .bl (decide (m ≤ n))
    congr 1
    rw [decide_eq_decide]
    omega
  | un nm a y ha =>
    have hda : a.dep + 1 ≤ rn + 1 := hdep
    have hpa := xdep_pos a
    cases rn with
    | zero => omega
    | succ n =>
    refine q_when (b := false) (no rfl (by show isS "unary" "constant" = false; decide +kernel)) (fun h => nomatch h) fun _ H2 e2 => ?_
    refine q_when (b := false) (no rfl (by show isS "unary" "column" = false; decide +kernel)) (fun h => nomatch h) fun _ H3 e3 => ?_
    refine q_asg (v := .str nm) (ev_ix (i := 1) (ev_var rfl) (ex_t (e2.trans e3) hT1) ev_c rfl) fun H4 e4 => ?_
    refine q_asgU (xs := [y]) (by
      have := eu_slA (K := K) (H := H4) (lo := some ((2 : Nat) : Int)) (hi := none) (te := tVar 0) (tlo := tPart (tC (.int 2))) (th := tNoPart) (σ := [some (.ref ad), some (.int (m : Int)), some (.str "unary"), some (.str nm), none, none]) (ev_var rfl) (eo_some ev_c) eo_none (ex_t ((e2.trans e3).trans e4) hT1) (no_whole 1 (by show 2 ≤ 3; decide))
      rw [cutV_drop] at this
      exact this) fun pp H5 hpp e5 h5 => ?_
    have x5 := e1.trans ((e2.trans e3).trans (e4.trans e5))
    refine q_when (b := false || inL3 nm) (et_or (no rfl (by show isS "unary" "choice" = false; decide +kernel)) fun _ => et_test (ev_inU (ev_var rfl) (eu_tup (ea_cons ev_c (ea_cons ev_c (ea_cons ev_c ea_nil))) (by show 3 ≤ 100000; decide)) rfl rfl)) (fun hb => by rw [un_no3 hN.1] at hb; cases hb) fun _ H6 e6 => ?_
    refine q_when (b := inL2 nm) (et_test (ev_inU (ev_var rfl) (eu_tup (ea_cons ev_c (ea_cons ev_c ea_nil)) (by show 2 ≤ 100000; decide)) rfl rfl)) (fun hb H7 e7 => ?_) fun hb H7 e7 => ?_
    · refine s_ret (v := .bl (noneB m (.un nm a))) (ev_is ev_c ?_) fun H8 e8 => q H8 (x5.trans ((e6.trans e7).trans e8))
      show V.bl false = .bl (if inL2 nm = true then false else noneB m a)
      rw [if_pos hb]
    · have x7 := x5.trans (e6.trans e7)
      refine s_ret (v := .bl (noneB m (.un nm a))) (ev_is (ev_any (bs := [noneB m a]) (el_lcT (fun _ => .bl (noneB m a)) (ev_var rfl) (st_of ((e6.trans e7) _ _ h5)) (by show 1 ≤ 40000; decide) (fun _ => rfl) fun i x H8 e8 hx => ?_)) ?_) fun H8 e8 => q H8 (x7.trans e8)
      · have hxy : x = y := by
          cases i with
          | zero => cases hx; rfl
          | succ i => simp at hx
        subst hxy
        exact ec_noneR (n := n) (ev_var rfl) (ev_var rfl) (ha.ex (x7.trans e8)).1 ha.2 hN.2 (by omega)
      · show V.bl ([noneB m a].any id) = .bl (if inL2 nm = true then false else noneB m a)
        rw [if_neg (by rw [hb]; decide)]
        simp
  | bin nm a b y z ha hb =>
    have hda : max a.dep b.dep + 1 ≤ rn + 1 := hdep
    have hpa := xdep_pos a
    cases rn with
    | zero => omega
    | succ n =>
    refine q_when (b := false) (no rfl (by show isS "binary" "constant" = false; decide +kernel)) (fun h => nomatch h) fun _ H2 e2 => ?_
    refine q_when (b := false) (no rfl (by show isS "binary" "column" = false; decide +kernel)) (fun h => nomatch h) fun _ H3 e3 => ?_
    refine q_asg (v := .str nm) (ev_ix (i := 1) (ev_var rfl) (ex_t (e2.trans e3) hT1) ev_c rfl) fun H4 e4 => ?_
    refine q_asgU (xs := [y, z]) (by
      have := eu_slA (K := K) (H := H4) (lo := some ((2 : Nat) : Int)) (hi := none) (te := tVar 0) (tlo := tPart (tC (.int 2))) (th := tNoPart) (σ := [some (.ref ad), some (.int (m : Int)), some (.str "binary"), some (.str nm), none, none]) (ev_var rfl) (eo_some ev_c) eo_none (ex_t ((e2.trans e3).trans e4) hT1) (no_whole 1 (by show 2 ≤ 4; decide))
      rw [cutV_drop] at this
      exact this) fun pp H5 hpp e5 h5 => ?_
    have x5 := e1.trans ((e2.trans e3).trans (e4.trans e5))
    refine q_when (b := false || inL3 nm) (et_or (no rfl (by show isS "binary" "choice" = false; decide +kernel)) fun _ => et_test (ev_inU (ev_var rfl) (eu_tup (ea_cons ev_c (ea_cons ev_c (ea_cons ev_c ea_nil))) (by show 3 ≤ 100000; decide)) rfl rfl)) (fun hc H6 e6 => ?_) fun hc H6 e6 => ?_
    · have x6 := x5.trans e6
      refine s_ret (v := .bl (noneB m (.bin nm a b))) (ev_is (ev_andV (ec_noneR (n := n) (ev_ix (i := 0) (ev_var rfl) (st_of (e6 _ _ h5)) ev_c rfl) (ev_var rfl) (ha.ex x6).1 ha.2 hN.2.1 (by omega)) fun _ => ec_noneR (n := n) (ev_ix (i := 1) (ev_var rfl) (st_of (e6 _ _ h5)) ev_c rfl) (ev_var rfl) (hb.ex x6).1 hb.2 hN.2.2 (by omega)) ?_) fun H7 e7 => q H7 (x6.trans e7)
      show _ = V.bl (if inL3 nm = true then noneB m a && noneB m b else _)
      rw [if_pos (show inL3 nm = true from hc)]
    refine q_when (b := inL2 nm) (et_test (ev_inU (ev_var rfl) (eu_tup (ea_cons ev_c (ea_cons ev_c ea_nil)) (by show 2 ≤ 100000; decide)) rfl rfl)) (fun hb2 H7 e7 => ?_) fun hb2 H7 e7 => ?_
    · refine s_ret (v := .bl (noneB m (.bin nm a b))) (ev_is ev_c ?_) fun H8 e8 => q H8 (x5.trans ((e6.trans e7).trans e8))
      show V.bl false = .bl (if inL3 nm = true then noneB m a && noneB m b else if inL2 nm = true then false else noneB m a || noneB m b)
      rw [if_neg (by rw [show inL3 nm = false from hc]; decide), if_pos hb2]
    · have x7 := x5.trans (e6.trans e7)
      refine s_ret (v := .bl (noneB m (.bin nm a b))) (ev_is (ev_any (bs := [noneB m a, noneB m b]) (el_lcT (fun i => .bl ([noneB m a, noneB m b].getD i false)) (ev_var rfl) (st_of ((e6.trans e7) _ _ h5)) (by show 2 ≤ 40000; decide) (fun _ => rfl) fun i x H8 e8 hx => ?_)) ?_) fun H8 e8 => q H8 (x7.trans e8)
      · have hxy : (i = 0 ∧ x = y) ∨ (i = 1 ∧ x = z) := by
          cases i with
          | zero => cases hx; exact .inl ⟨rfl, rfl⟩
          | succ i => cases i with
            | zero => cases hx; exact .inr ⟨rfl, rfl⟩
            | succ i => simp at hx
        rcases hxy with ⟨rfl, rfl⟩ | ⟨rfl, rfl⟩
        · exact ec_noneR (n := n) (ev_var rfl) (ev_var rfl) (ha.ex (x7.trans e8)).1 ha.2 hN.2.1 (by omega)
        · exact ec_noneR (n := n) (ev_var rfl) (ev_var rfl) (hb.ex (x7.trans e8)).1 hb.2 hN.2.2 (by omega)
      · show V.bl ([noneB m a, noneB m b].any id) = .bl (if inL3 nm = true then noneB m a && noneB m b else if inL2 nm = true then false else noneB m a || noneB m b)
        rw [if_neg (by rw [show inL3 nm = false from hc]; decide), if_neg (by rw [hb2]; decide)]
        simp
  | cho c a b x y z hc ha hb =>
    have hda : max c.dep (max a.dep b.dep) + 1 ≤ rn + 1 := hdep
    have hpa := xdep_pos a
    cases rn with
    | zero => omega
    | succ n =>
    refine q_when (b := false) (no rfl (by show isS "choice" "constant" = false; decide +kernel)) (fun h => nomatch h) fun _ H2 e2 => ?_
    refine q_when (b := false) (no rfl (by show isS "choice" "column" = false; decide +kernel)) (fun h => nomatch h) fun _ H3 e3 => ?_
    refine q_asg (v := x) (ev_ix (i := 1) (ev_var rfl) (ex_t (e2.trans e3) hT1) ev_c rfl) fun H4 e4 => ?_
    refine q_asgU (xs := [y, z]) (by
      have := eu_slA (K := K) (H := H4) (lo := some ((2 : Nat) : Int)) (hi := none) (te := tVar 0) (tlo := tPart (tC (.int 2))) (th := tNoPart) (σ := [some (.ref ad), some (.int (m : Int)), some (.str "choice"), some x, none, none]) (ev_var rfl) (eo_some ev_c) eo_none (ex_t ((e2.trans e3).trans e4) hT1) (no_whole 1 (by show 2 ≤ 4; decide))
      rw [cutV_drop] at this
      exact this) fun pp H5 hpp e5 h5 => ?_
    have x5 := e1.trans ((e2.trans e3).trans (e4.trans e5))
    refine q_when (b := true || true) (et_or (no rfl (by show isS "choice" "choice" = true; decide +kernel)) fun h => nomatch h) (fun _ H6 e6 => ?_) fun h => nomatch h
    have x6 := x5.trans e6
    exact s_ret (v := .bl (noneB m (.cho c a b))) (ev_andV (ec_noneR (n := n) (ev_ix (i := 0) (ev_var rfl) (st_of (e6 _ _ h5)) ev_c rfl) (ev_var rfl) (ha.ex x6).1 ha.2 hN.2.1 (by omega)) fun _ => ec_noneR (n := n) (ev_ix (i := 1) (ev_var rfl) (st_of (e6 _ _ h5)) ev_c rfl) (ev_var rfl) (hb.ex x6).1 hb.2 hN.2.2 (by omega)) fun H7 e7 => q H7 (x6.trans e7)
theorem ok_refuses {rn : Nat} (D : Dn K mg "refuses" s_refuses ["condition", "m"]) (c_none_from : C8.Cal P w K mg base 9 "none_from" (sp_none_from K) []) (c_refuses : C8.Cal P w K mg base (10 + rn) "refuses" (spR_refuses rn K) []) :
    C8.Cal P w K mg base (10 + rn + 1) "refuses" (spR_refuses (rn + 1) K) [] := by
  refine cal_of D sc_refuses (fun vs H Q E h => ?_) (fun f cdv A outer s H vs Q E hr h => ?_)
  · obtain ⟨_, _, _, rfl, _⟩ := h
    rfl
  refine ⟨_, (pss_cons (ps_if (PW.pt (pw_and (pt_cmpR op_eq (pe_ix ix_tup (pv 0) pe_int (fun _ _ => rfl)) pe_str (nomark _)) (pw_and1 (pt_cmpR op_eq (pe_ix ix_tup (pv 0) pe_int (fun _ _ => rfl)) pe_str (nomark _)))))
      (pss_cons (ps_asg (pv 0) (pg_tup rfl (pgs_cons (pg_name (i := 2) sc_refuses.nd rfl (.inl rfl)) (pgs_cons (pg_name (i := 2) sc_refuses.nd rfl (.inl rfl)) (pgs_cons (pg_name (i := 3) sc_refuses.nd rfl (.inl rfl)) (pgs_cons (pg_name (i := 4) sc_refuses.nd rfl (.inl rfl)) pgs_nil))))))
    (pss_one (ps_ret (pe_or (C8.pe_c c_refuses hr (Nat.le_refl _) (by rfl) (pa_cons (pv 3) (pa_cons (pv 1) pa_nil))) (pe_or (C8.pe_c c_refuses hr (Nat.le_refl _) (by rfl) (pa_cons (pv 4) (pa_cons (pv 1) pa_nil))) (pe_one (C8.pe_c c_none_from hr (by omega) (by rfl) (pa_cons (pv 0) (pa_cons (pv 1) pa_nil)))))))))
      pss_nil)
    (pss_cons (ps_if (PW.pt (pw_and (pt_cmpR op_eq (pe_ix ix_tup (pv 0) pe_int (fun _ _ => rfl)) pe_str (nomark _)) (pw_and1 (pt_cmpR op_eq (pe_ix ix_tup (pv 0) pe_int (fun _ _ => rfl)) pe_str (nomark _)))))
      (pss_cons (ps_asg (pv 0) (pg_tup rfl (pgs_cons (pg_name (i := 2) sc_refuses.nd rfl (.inl rfl)) (pgs_cons (pg_name (i := 2) sc_refuses.nd rfl (.inl rfl)) (pgs_cons (pg_name (i := 3) sc_refuses.nd rfl (.inl rfl)) (pgs_cons (pg_name (i := 4) sc_refuses.nd rfl (.inl rfl)) pgs_nil))))))
    (pss_one (ps_ret (pe_and (C8.pe_c c_refuses hr (Nat.le_refl _) (by rfl) (pa_cons (pv 3) (pa_cons (pv 1) pa_nil))) (pe_one (C8.pe_c c_refuses hr (Nat.le_refl _) (by rfl) (pa_cons (pv 4) (pa_cons (pv 1) pa_nil))))))))
      pss_nil)
    (pss_cons (ps_if (PW.pt (pw_and (pt_cmpR op_eq (pe_ix ix_tup (pv 0) pe_int (fun _ _ => rfl)) pe_str (nomark _)) (pw_and1 (pt_cmpR op_eq (pe_ix ix_tup (pv 0) pe_int (fun _ _ => rfl)) pe_str (nomark _)))))
      (pss_cons (ps_set (i := 5) sc_refuses.nd rfl (.inl rfl) (pe_ix ix_tup (pv 0) pe_int (fun _ _ => rfl)))
    (pss_one (ps_if (PW.pt (pw_and (pt_cmpR op_eq (pe_ix ix_tup (pv 5) pe_int (fun _ _ => rfl)) pe_str (nomark _)) (pw_and1 (pt_cmpR op_eq (pe_ix ix_tup (pv 5) pe_int (fun _ _ => rfl)) pe_str (nomark _)))))
      (pss_one (ps_ret (C8.pe_c c_none_from hr (by omega) (by rfl) (pa_cons (pe_ix ix_tup (pv 5) pe_int (fun _ _ => rfl)) (pa_cons (pv 1) pa_nil)))))
      pss_nil)))
      pss_nil)
    (pss_one (ps_ret (C8.pe_c c_none_from hr (by omega) (by rfl) (pa_cons (pv 0) (pa_cons (pv 1) pa_nil)))))))), ?_⟩
  obtain ⟨v, e, m, rfl, hd, ho, hN, hdep, h8, q⟩ := h
  obtain ⟨b, us, ys, rfl, hS, hu, hk⟩ := xx_view hd
  have fin : ∀ {H1 : Hp} {x2 x3 x4 x5 : Option V}, Ex H H1 → refB m e = noneB m e → tRet (tCall (sp_none_from K) [] C8.E0 (tCons (tVar 0) (tCons (tVar 1) tNil))) { nx := fun _ H' => Q .non H', rt := Q } [some (.ref b), some (.int (m : Int)), x2, x3, x4, x5] H1 := fun {H1 x2 x3 x4 x5} e1 hr => by
    rw [hr] at q
    exact s_ret (ec_none (ev_var rfl) (ev_var rfl) (ex_dp e1 hd) ho hN h8) fun H2 e2 => q H2 (e1.trans e2)
  refine q_when (et_isBin (nm := "and") rfl hS hu) (fun hb H1 e1 => ?_) fun hb1 H1 e1 => ?_
  · cases e with
    | col _ => cases hb
    | cst _ => cases hb
    | un _ _ => cases hb
    | cho _ _ _ => cases hb
    | bin nm a b2 =>
      cases ho with | bin _ _ _ oa ob =>
      cases hu with | cons hx hu =>
      cases hu
      obtain rfl := dp_strD hx
      cases hk with | cons ha hk =>
      cases hk with | cons hb2 hk =>
      cases hk
      have hda : max a.dep b2.dep + 1 ≤ rn + 1 := hdep
      have hd8 : max a.dep b2.dep + 1 ≤ 8 := h8
      have hpa := xdep_pos a
      cases rn with
      | zero => omega
      | succ n =>
      refine q_asgV (ev_var rfl) fun Hq eq => gt4 (ex_t (e1.trans eq) hS) ?_
      have e1 := e1.trans eq
      refine s_ret (v := .bl (refB m (.bin nm a b2))) (ev_is (ev_orV (ec_refR (n := n) (ev_var rfl) (ev_var rfl) (ex_dp e1 ha) oa hN.2.1 (by omega) (by omega)) fun _ => ev_orV (ec_refR (n := n) (ev_var rfl) (ev_var rfl) (ex_dp e1 hb2) ob hN.2.2 (by omega) (by omega)) fun _ => ec_none (ev_var rfl) (ev_var rfl) (ex_dp e1 hd) (.bin _ _ _ oa ob) hN h8) ?_) fun H2 e2 => q H2 (e1.trans e2)
      show _ = V.bl (if isS nm "and" = true then refB m a || (refB m b2 || noneB m (.bin nm a b2)) else _)
      rw [if_pos (show isS nm "and" = true from hb)]
  refine q_when (et_isBin (nm := "or") rfl (ex_t e1 hS) hu) (fun hb H2 e2 => ?_) fun hb2 H2 e2 => ?_
  · cases e with
    | col _ => cases hb
    | cst _ => cases hb
    | un _ _ => cases hb
    | cho _ _ _ => cases hb
    | bin nm a b2 =>
      cases ho with | bin _ _ _ oa ob =>
      cases hu with | cons hx hu =>
      cases hu
      obtain rfl := dp_strD hx
      cases hk with | cons ha hk =>
      cases hk with | cons hb5 hk =>
      cases hk
      have hda : max a.dep b2.dep + 1 ≤ rn + 1 := hdep
      have hd8 : max a.dep b2.dep + 1 ≤ 8 := h8
      have hpa := xdep_pos a
      cases rn with
      | zero => omega
      | succ n =>
      have x2 := e1.trans e2
      refine q_asgV (ev_var rfl) fun Hq eq => gt4 (ex_t (x2.trans eq) hS) ?_
      have x2 := x2.trans eq
      refine s_ret (v := .bl (refB m (.bin nm a b2))) (ev_is (ev_andV (ec_refR (n := n) (ev_var rfl) (ev_var rfl) (ex_dp x2 ha) oa hN.2.1 (by omega) (by omega)) fun _ => ec_refR (n := n) (ev_var rfl) (ev_var rfl) (ex_dp x2 hb5) ob hN.2.2 (by omega) (by omega)) ?_) fun H3 e3 => q H3 (x2.trans e3)
      show _ = V.bl (if isS nm "and" = true then _ else if isS nm "or" = true then refB m a && refB m b2 else _)
      rw [if_neg (by rw [show isS nm "and" = false from hb1]; decide), if_pos (show isS nm "or" = true from hb)]
  have x2 := e1.trans e2
  refine q_when (et_isUn (nm := "not") rfl (ex_t x2 hS) hu) (fun hb H3 e3 => ?_) fun hb3 H3 e3 => ?_
  · have x3 := x2.trans e3
    cases e with
    | col _ => cases hb
    | cst _ => cases hb
    | bin _ _ _ => cases hb
    | cho _ _ _ => cases hb
    | un nm a =>
      have hnm : isS nm "not" = true := hb
      cases ho with | un _ _ oa =>
      cases hk with | cons ha hk =>
      cases hk
      cases hu with | cons hx hu =>
      cases hu
      obtain ⟨b2, us2, ys2, rfl, hS2, hu2, hk2⟩ := xx_view ha
      refine q_asg (v := .ref b2) (ev_op (ev_var rfl) ev_c (rv_ixT (ex_t x3 hS) (atI_nat (j := 2) rfl))) fun H4 e4 => ?_
      have x4 := x3.trans e4
      refine q_when (et_isUn (nm := "is null") rfl (ex_t x4 hS2) hu2) (fun hb4 H5 e5 => ?_) fun hb4 H5 e5 => ?_
      · cases a with
        | col _ => cases hb4
        | cst _ => cases hb4
        | bin _ _ _ => cases hb4
        | cho _ _ _ => cases hb4
        | un nm2 x =>
          cases oa with | un _ _ ox =>
          cases hk2 with | cons hx2 hk2 =>
          cases hk2
          cases hu2 with | cons hx3 hu2 =>
          cases hu2
          have hd8 : x.dep + 1 + 1 ≤ 8 := h8
          have x5 := x4.trans e5
          refine s_ret (v := .bl (refB m (.un nm (.un nm2 x)))) (ev_is (ec_none (ev_op (ev_var rfl) ev_c (rv_ixT (ex_t x5 hS2) (atI_nat (j := 2) rfl))) (ev_var rfl) (ex_dp x5 hx2) ox hN.2.2 (by omega)) ?_) fun H6 e6 => q H6 (x5.trans e6)
          show _ = V.bl (if isS nm "not" = true then (if isS nm2 "is null" = true then noneB m x else _) else _)
          rw [if_pos hnm, if_pos (show isS nm2 "is null" = true from hb4)]
      · refine fin (x4.trans e5) ?_
        show (if isS nm "not" = true then _ else _) = _
        rw [if_pos hnm]
        cases a with
        | col _ => rfl
        | cst _ => rfl
        | bin _ _ _ => rfl
        | cho _ _ _ => rfl
        | un nm2 x =>
          show (if isS nm2 "is null" = true then _ else _) = _
          rw [if_neg (by rw [show isS nm2 "is null" = false from hb4]; decide)]
  · refine fin (x2.trans e3) ?_
    cases e with
    | col _ => rfl
    | cst _ => rfl
    | cho _ _ _ => rfl
    | un nm a =>
      show (if isS nm "not" = true then _ else _) = _
      rw [if_neg (by rw [show isS nm "not" = false from hb3]; decide)]
    | bin nm a b2 =>
      show (if isS nm "and" = true then _ else if isS nm "or" = true then _ else _) = _
      rw [if_neg (by rw [show isS nm "and" = false from hb1]; decide), if_neg (by rw [show isS nm "or" = false from hb2]; decide)]
end
def spR__law_parts : Nat → PySem.W.Frag → Sp
  | 0, _ => fun _ _ _ _ => False
  | n + 1, K => fun vs H Q _ => ∃ (v : V) (e : Xp) (G : Hp), vs = [v] ∧ Ex G H ∧ Dp K G v e.d ∧ e.dep ≤ n + 1 ∧ e.sz ≤ 60 ∧ ∀ p H' ws, H p = none → Ex H H' → H' p = some (.lst ws) → DpAll K G ws ((cparts e).map Xp.d) → Q (.ref p) H'
def sp__law_parts (K : PySem.W.Frag) : Sp := spR__law_parts 8 K
def spR__law_joined : Nat → PySem.W.Frag → Sp := spR_conjunction
def sp__law_joined (K : PySem.W.Frag) : Sp := spR__law_joined 8 K
def spR__law_columns_in : Nat → PySem.W.Frag → Sp
  | 0, _ => fun _ _ _ _ => False
  | n + 1, K => fun vs H Q _ => ∃ (v : V) (e : Xp), vs = [v] ∧ Dp K H v e.d ∧ e.dep ≤ n + 1 ∧ e.sz ≤ 60 ∧ ∀ p H', H p = none → Ex H H' → H' p = some (.lst ((used e).map fun n : Nat => V.int (n : Int))) → Q (.ref p) H'
def sp__law_columns_in (K : PySem.W.Frag) : Sp := spR__law_columns_in 8 K
def spR__law_none : Nat → PySem.W.Frag → Sp := spR_none_from
def sp__law_none (K : PySem.W.Frag) : Sp := spR__law_none 8 K
def spR__law_refuses : Nat → PySem.W.Frag → Sp := spR_refuses
def sp__law_refuses (K : PySem.W.Frag) : Sp := spR__law_refuses 8 K
def sp__law_merges (K : PySem.W.Frag) : Sp := fun vs H Q _ => ∃ (a b : Addr) (es fs : List Xp), vs = [.ref a, .ref b] ∧ XpsAt K H a es ∧ XpsAt K H b fs ∧ es.length ≤ 100 ∧ (∀ f ∈ fs, f.dep ≤ 8 ∧ f.sz ≤ 60) ∧ fs.length ≤ 10 ∧ ∀ H', Ex H H' → Q (.bl (mergeB es (fs.flatMap used))) H'
theorem used_len : ∀ e : Xp, (used e).length ≤ e.sz
  | .col _ => Nat.le_refl _
  | .cst _ => Nat.zero_le _
  | .un _ a => by have := used_len a; show _ ≤ a.sz + 1; unfold used; omega
  | .bin _ a b => by have := used_len a; have := used_len b; show _ ≤ a.sz + b.sz + 1; unfold used; rw [List.length_append]; omega
  | .cho c a b => by have := used_len c; have := used_len a; have := used_len b; show _ ≤ c.sz + a.sz + b.sz + 1; unfold used; rw [List.length_append, List.length_append]; omega
theorem kids_used (e : Xp) (i : Nat) : ((e.kids.take i).flatMap used).length ≤ e.sz := by
  have h : ∀ l : List Xp, (l.flatMap used).length ≤ (l.map Xp.sz).sum := by
    intro l
    induction l with
    | nil => exact Nat.le_refl _
    | cons c r ih =>
      have := used_len c
      simp only [List.flatMap_cons, List.length_append, List.map_cons, List.sum_cons]
      omega
  have h1 := h (e.kids.take i)
  have h2 : ((e.kids.take i).map Xp.sz).sum ≤ (e.kids.map Xp.sz).sum := by
    have : (e.kids.map Xp.sz).sum = ((e.kids.take i).map Xp.sz).sum + ((e.kids.drop i).map Xp.sz).sum := by rw [← List.sum_append, ← List.map_append, List.take_append_drop]
    omega
  have := sz_kids e
  omega
theorem dep_kid {e c : Xp} (h : c ∈ e.kids) : c.dep + 1 ≤ e.dep := by
  cases e with
  | col n => cases h
  | cst v => cases h
  | un nm a => rw [List.mem_singleton.mp h]; exact Nat.le_refl _
  | bin nm a b =>
    have h' : c = a ∨ c = b := by simpa [Xp.kids] using h
    show c.dep + 1 ≤ max a.dep b.dep + 1
    rcases h' with rfl | rfl <;> omega
  | cho x a b =>
    have h' : c = x ∨ c = a ∨ c = b := by simpa [Xp.kids] using h
    show c.dep + 1 ≤ max x.dep (max a.dep b.dep) + 1
    rcases h' with rfl | rfl | rfl <;> omega
theorem sz_kid {e c : Xp} (h : c ∈ e.kids) : c.sz ≤ e.sz := by
  cases e with
  | col n => cases h
  | cst v => cases h
  | un nm a => rw [List.mem_singleton.mp h]; exact Nat.le_succ _
  | bin nm a b =>
    have h' : c = a ∨ c = b := by simpa [Xp.kids] using h
    show c.sz ≤ a.sz + b.sz + 1
    rcases h' with rfl | rfl <;> omega
  | cho x a b =>
    have h' : c = x ∨ c = a ∨ c = b := by simpa [Xp.kids] using h
    show c.sz ≤ x.sz + a.sz + b.sz + 1
    rcases h' with rfl | rfl | rfl <;> omega
theorem kids_le (e : Xp) : e.kids.length ≤ 3 := by cases e <;> simp [Xp.kids]
section
variable {K : PySem.W.Frag} {σ : L2.St} {H : Hp} {ta tb tl te : TE} {E : XK}
theorem ev_part {e : Xp} {b : Addr} {zs : List V} (ha : Ev ta σ H (.ref b)) (hS : SqT K H b (.str e.hd :: zs)) : Ev (tOp (rI0 fun i j => V.int (i + j)) (tC (.int 1)) (tCB (fun xs H Q => (∃ i, xs = [.int i] ∧ Q (.int i) H) ∨ ∃ k, xs = [.bl k] ∧ Q (.int (if k = true then 1 else 0)) H) (tCons (tOp rNe (tOp (rIxT K) ta (tC (.int 0))) (tC (.str "choice"))) tNil))) σ H (.int ((e.pre.length + 1 : Nat) : Int)) :=
  ev_op (y := .int (e.pre.length : Int)) ev_c (fun H1 e1 Q q => (ev_op (ev_op ha ev_c (rv_ixT hS (atI_nat (j := 0) rfl))) ev_c (rv_ne rfl)) H1 e1 _ fun H2 e2 => .inr ⟨_, rfl, by
    have h9 : (if (!decide (V.str e.hd = V.str "choice")) = true then (1 : Int) else 0) = (e.pre.length : Int) := by
      rw [show decide (V.str e.hd = V.str "choice") = isCho e from hd_cho e, pre_len]
      cases isCho e <;> rfl
    rw [h9]
    exact q H2 e2⟩) (by
    rw [show ((e.pre.length + 1 : Nat) : Int) = 1 + (e.pre.length : Int) by omega]
    exact rv_I0)
theorem el_catX {l : Addr} {xs ys : List V} (ha : Ev ta σ H (.ref l)) (h1 : H l = some (.lst xs)) (hb : EvL tb σ H ys) (hz : xs.length + ys.length ≤ 100000) : EvL (tOp rCat ta tb) σ H (xs ++ ys) := fun H1 e Q q =>
  ha H1 e _ fun H2 e2 => hb H2 (e.trans e2) _ fun b H3 _ e3 hb3 => ⟨l, b, xs, ys, rfl, rfl, ((e.trans e2).trans e3) _ _ h1, hb3, sz_of hz, fun p hp => q p _ (fresh_back (e2.trans e3) hp) ((e2.trans e3).trans (Ex.new hp)) upd_same⟩
theorem el_used {v : V} {e : Xp} {n : Nat} (ha : Ev ta σ H v) (hd : Dp K H v e.d) (hn : e.dep ≤ n + 1) (hz : e.sz ≤ 60) : EvL (tCall (spR__law_columns_in (n + 1) K) [] E (tCons ta tNil)) σ H ((used e).map fun n : Nat => V.int (n : Int)) := fun H1 e1 Q q =>
  ha H1 e1 _ fun H2 e2 => ⟨v, e, rfl, ex_dp (e1.trans e2) hd, hn, hz, fun p H3 hp e3 h3 => q p H3 (fresh_back e2 hp) (e2.trans e3) h3⟩
theorem ed_ljoin {ws : List V} {es : List Xp} {n : Nat} (ha : EvL ta σ H ws) (hd : DpAll K H ws (es.map Xp.d)) (h1 : es.length ≤ 2 ^ n) (h2 : es.length ≤ 200) : EvD K (tCall (spR__law_joined (n + 1) K) [] E (tCons ta tNil)) σ H (joined (n + 1) es).d := ed_conj ha hd h1 h2
theorem lt_lparts {G : Hp} {v : V} {e : Xp} (ha : Ev ta σ H v) (g : Ex G H) (hd : Dp K G v e.d) (hn : e.dep ≤ 8) (hz : e.sz ≤ 60) : EvLt (fun _ ys => DpAll K G ys ((cparts e).map Xp.d)) (tCall (sp__law_parts K) [] E (tCons ta tNil)) σ H := fun H1 e1 Q q =>
  ha H1 e1 _ fun H2 e2 => ⟨v, e, G, rfl, g.trans (e1.trans e2), hd, hn, hz, fun p H3 ws hp e3 h3 hds => q p H3 ws (fresh_back e2 hp) (e2.trans e3) h3 hds⟩
theorem ec_lnoneR {v : V} {e : Xp} {m n : Nat} (ha : Ev ta σ H v) (hb : Ev tb σ H (.int (m : Int))) (hd : Dp K H v e.d) (ho : XOk e) (hN : XN e) (hn : e.dep ≤ n + 1) : Ev (tCall (spR__law_none (n + 1) K) [] E (tCons ta (tCons tb tNil))) σ H (.bl (noneB m e)) := ec_noneR ha hb hd ho hN hn
theorem ec_lrefR {v : V} {e : Xp} {m n : Nat} (ha : Ev ta σ H v) (hb : Ev tb σ H (.int (m : Int))) (hd : Dp K H v e.d) (ho : XOk e) (hN : XN e) (hn : e.dep ≤ n + 1) (h8 : e.dep ≤ 8) : Ev (tCall (spR__law_refuses (n + 1) K) [] E (tCons ta (tCons tb tNil))) σ H (.bl (refB m e)) := ec_refR ha hb hd ho hN hn h8
end
section
variable {P : Program} {w : World} {K : PySem.W.Frag} {mg : Str → Option Value} {base : Heap}
theorem ok__law_parts {rn : Nat} (D : Dn K mg "_law_parts" s__law_parts ["condition"]) (c__law_parts : C8.Cal P w K mg base (1 + rn) "_law_parts" (spR__law_parts rn K) []) :
    C8.Cal P w K mg base (1 + rn + 1) "_law_parts" (spR__law_parts (rn + 1) K) [] := by
  refine cal_of D sc__law_parts (fun vs H Q E h => ?_) (fun f cdv A outer s H vs Q E hr h => ?_)
  · obtain ⟨_, _, _, rfl, _⟩ := h
    rfl
  refine ⟨_, (pss_cons (ps_if (PW.pt (pw_and (pt_cmpR op_eq (pe_ix ix_tup (pv 0) pe_int (fun _ _ => rfl)) pe_str (nomark _)) (pw_and1 (pt_cmpR op_eq (pe_ix ix_tup (pv 0) pe_int (fun _ _ => rfl)) pe_str (nomark _)))))
      (pss_one (ps_ret (pe_op op_cat (C8.pe_c c__law_parts hr (Nat.le_refl _) (by rfl) (pa_cons (pe_ix ix_tup (pv 0) pe_int (fun _ _ => rfl)) pa_nil)) (C8.pe_c c__law_parts hr (Nat.le_refl _) (by rfl) (pa_cons (pe_ix ix_tup (pv 0) pe_int (fun _ _ => rfl)) pa_nil)))))
      pss_nil)
    (pss_one (ps_ret (pe_lst (pa_cons (pv 0) pa_nil))))), ?_⟩
  obtain ⟨v, e, G, rfl, g, hd, hdep, hz, q⟩ := h
  obtain ⟨b, us, ys, rfl, hS, hu, hdk⟩ := xx_view hd
  refine q_when (et_isBin (nm := "and") rfl (ex_t g hS) hu) (fun hb H1 e1 => ?_) fun hb H1 e1 => ?_
  · cases e with
    | col _ => cases hb
    | cst _ => cases hb
    | un _ _ => cases hb
    | cho _ _ _ => cases hb
    | bin nm a b2 =>
      obtain rfl := isS_eq hb
      have hcp : cparts (.bin "and" a b2) = cparts a ++ cparts b2 := if_pos (decide_eq_true rfl)
      cases hu with | cons hx hu =>
      cases hu
      cases hdk with | cons ha hdk =>
      cases hdk with | cons hb5 hdk =>
      cases hdk
      have hz2 : a.sz + b2.sz + 1 ≤ 60 := hz
      have hdp2 : max a.dep b2.dep + 1 ≤ rn + 1 := hdep
      have hpa := xdep_pos a
      cases rn with
      | zero => omega
      | succ n =>
      have hla := cparts_len a
      have hlb := cparts_len b2
      refine (fun H2 => ev_op (ev_var rfl) ev_c (rv_ixT (ex_t (g.trans e1) hS) (atI_nat (j := 2) rfl)) H2 : ∀ H2, _) H1 (Ex.refl H1) _ fun H2 e2 => ⟨_, a, G, rfl, g.trans (e1.trans e2), ha, by omega, by omega, fun p1 H3 ws1 hp1 e3 h3 hd3 => ?_⟩
      refine (fun H2 => ev_op (ev_var rfl) ev_c (rv_ixT (ex_t (g.trans (e1.trans (e2.trans e3))) hS) (atI_nat (j := 3) rfl)) H2 : ∀ H2, _) H3 (Ex.refl H3) _ fun H4 e4 => ⟨_, b2, G, rfl, g.trans (e1.trans (e2.trans (e3.trans e4))), hb5, by omega, by omega, fun p2 H5 ws2 hp2 e5 h5 hd5 => ?_⟩
      have hw1 := dps_len hd3
      have hw2 := dps_len hd5
      rw [List.length_map] at hw1 hw2
      have x5 := e1.trans (e2.trans (e3.trans (e4.trans e5)))
      exact ⟨p1, p2, ws1, ws2, rfl, rfl, (e4.trans e5) _ _ h3, h5, sz_of (by omega), fun p hp => q p _ (ws1 ++ ws2) (fresh_back x5 hp) (x5.trans (Ex.new hp)) upd_same (by rw [hcp, List.map_append]; exact dps_app hd3 hd5)⟩
  · have hcp : cparts e = [e] := by
      cases e with
      | col _ => rfl
      | cst _ => rfl
      | un _ _ => rfl
      | cho _ _ _ => rfl
      | bin nm a b2 => exact if_neg (by rw [show isS nm "and" = false from hb]; decide)
    refine (el_lst (ea_cons (ev_var rfl) ea_nil) (by show 1 ≤ 100000; decide)) H1 (Ex.refl H1) _ fun p H2 hp e2 h2 => q p H2 _ (fresh_back e1 hp) (e1.trans e2) h2 (by rw [hcp]; exact .cons hd .nil)
theorem ok__law_joined {rn : Nat} (D : Dn K mg "_law_joined" s__law_joined ["conditions"]) (z_len : mg "len" = none) (c__law_joined : C8.Cal P w K mg base (1 + rn) "_law_joined" (spR__law_joined rn K) []) :
    C8.Cal P w K mg base (1 + rn + 1) "_law_joined" (spR__law_joined (rn + 1) K) [] := by
  refine cal_of D sc__law_joined (fun vs H Q E h => ?_) (fun f cdv A outer s H vs Q E hr h => ?_)
  · obtain ⟨_, _, rfl, _⟩ := h
    rfl
  refine ⟨_, (pss_cons (ps_if (pt_cmpR op_eq (pe_callB call_len_seq (by rfl) z_len PySem.boot_len (pa_cons (pv 0) pa_nil)) pe_int (nomark _))
      (pss_one (ps_ret (pe_tup (pa_cons pe_str (pa_cons pe_bl pa_nil)))))
      pss_nil)
    (pss_cons (ps_if (pt_cmpR op_eq (pe_callB call_len_seq (by rfl) z_len PySem.boot_len (pa_cons (pv 0) pa_nil)) pe_int (nomark _))
      (pss_one (ps_ret (pe_ix ix_list (pv 0) pe_int (fun _ _ => rfl))))
      pss_nil)
    (pss_cons (ps_set (i := 1) sc__law_joined.nd rfl (.inl rfl) (pe_op op_fdiv (pe_callB call_len_seq (by rfl) z_len PySem.boot_len (pa_cons (pv 0) pa_nil)) pe_int))
    (pss_one (ps_ret (pe_tup (pa_cons pe_str (pa_cons pe_str (pa_cons (C8.pe_c c__law_joined hr (Nat.le_refl _) (by rfl) (pa_cons (pe_slice sl_list (pv 0) po_none (po_some (pv 1))) pa_nil)) (pa_cons (C8.pe_c c__law_joined hr (Nat.le_refl _) (by rfl) (pa_cons (pe_slice sl_list (pv 0) (po_some (pv 1)) po_none) pa_nil)) pa_nil)))))))))), ?_⟩
  obtain ⟨a, es, rfl, ⟨ws, hS, hds⟩, h1, h2, q⟩ := h
  have hl := dps_len hds
  rw [List.length_map] at hl
  refine q_when (b := decide (V.int ((ws.length : Nat) : Int) = V.int 0)) (et_test (ev_op (ev_len (ev_var rfl) hS) ev_c (rv_eq rfl))) (fun hb H1 e1 => ?_) fun hb H1 e1 => ?_
  · have hw : ws = [] := List.eq_nil_of_length_eq_zero (by have := V.int.inj (of_decide_eq_true hb); omega)
    subst hw
    obtain rfl : es = [] := List.eq_nil_of_length_eq_zero hl.symm
    refine s_retD (ed_tupU (ud_tup (ad_cons (ed_val ev_c (.str _)) (ad_cons (ed_val ev_c (.bl true)) ad_nil)) (by show 2 ≤ 100000; decide))) fun z H2 e2 hz => q z H2 (e1.trans e2) hz
  cases es with
  | nil =>
    exfalso
    have := of_decide_eq_false hb
    rw [hl] at this
    exact this rfl
  | cons c r =>
  cases ws with
  | nil => simp at hl
  | cons y ws =>
  refine q_when (b := decide (V.int (((y :: ws).length : Nat) : Int) = V.int 1)) (et_test (ev_op (ev_len (ev_var rfl) (ex_l e1 hS)) ev_c (rv_eq rfl))) (fun hb H2 e2 => ?_) fun hb H2 e2 => ?_
  · have hw : ws = [] := by
      have := V.int.inj (of_decide_eq_true hb)
      refine List.eq_nil_of_length_eq_zero ?_
      rw [List.length_cons] at this
      omega
    subst hw
    have hr : r = [] := List.eq_nil_of_length_eq_zero (by have h9 : 1 = r.length + 1 := hl; omega)
    subst hr
    cases hds with | cons hy _ =>
    exact s_ret (v := y) (ev_op (ev_var rfl) ev_c (rv_ixL (i := ((0 : Nat) : Int)) (ex_l (e1.trans e2) hS) (atI_nat rfl))) fun H3 e3 => q _ H3 ((e1.trans e2).trans e3) (ex_dp ((e1.trans e2).trans e3) hy)
  · cases r with
    | nil =>
      exfalso
      have := of_decide_eq_false hb
      rw [hl] at this
      exact this rfl
    | cons c2 r =>
    have hlen : (c :: c2 :: r).length = r.length + 2 := rfl
    refine q_asg (v := .int (((c :: c2 :: r).length / 2 : Nat) : Int)) (ev_is (ev_op (ev_len (ev_var rfl) (ex_l (e1.trans e2) hS)) ev_c (rv_I ⟨by decide, by decide⟩)) (by rw [hl]; rfl)) fun H3 e3 => ?_
    have x3 := (e1.trans e2).trans e3
    cases rn with
    | zero => exfalso; simp at h1
    | succ n =>
    have hp : 2 ^ (n + 1) = 2 * 2 ^ n := by rw [Nat.pow_succ, Nat.mul_comm]
    have d1 := dps_take ((c :: c2 :: r).length / 2) (ex_dps x3 hds)
    have d2 := dps_drop ((c :: c2 :: r).length / 2) (ex_dps x3 hds)
    rw [← List.map_take] at d1
    rw [← List.map_drop] at d2
    refine (ud_tup (K := K) (ad_cons (ed_val ev_c (.str _)) (ad_cons (ed_val ev_c (.str _)) (ad_cons (ed_ljoin (n := n) (el_sl (ev_var rfl) eo_none (eo_some (ev_var rfl)) (ex_l x3 hS)) (by rw [cutV_take]; exact d1) (by rw [List.length_take]; omega) (by rw [List.length_take]; omega)) (ad_cons (ed_ljoin (n := n) (el_sl (ev_var rfl) (eo_some (ev_var rfl)) eo_none (ex_l x3 hS)) (by rw [cutV_drop]; exact d2) (by rw [List.length_drop]; omega) (by rw [List.length_drop]; omega)) ad_nil)))) (by show 4 ≤ 100000; decide)) H3 (Ex.refl H3) _ fun p H4 ys2 hp e4 h4 hd2 => q (.ref p) H4 (x3.trans e4) (.tup (st_of h4) hd2)
theorem ok__law_columns_in {rn : Nat} (D : Dn K mg "_law_columns_in" s__law_columns_in ["expression"]) (z_int : mg "int" = none) (c__law_columns_in : C8.Cal P w K mg base (1 + rn) "_law_columns_in" (spR__law_columns_in rn K) []) :
    C8.Cal P w K mg base (1 + rn + 1) "_law_columns_in" (spR__law_columns_in (rn + 1) K) [] := by
  refine cal_of D sc__law_columns_in (fun vs H Q E h => ?_) (fun f cdv A outer s H vs Q E hr h => ?_)
  · obtain ⟨_, _, rfl, _⟩ := h
    rfl
  refine ⟨_, (pss_cons (ps_if (pt_cmpR op_eq (pe_ix ix_tup (pv 0) pe_int (fun _ _ => rfl)) pe_str (nomark _))
      (pss_one (ps_ret (pe_lst (pa_cons (pe_ix ix_tup (pv 0) pe_int (fun _ _ => rfl)) pa_nil))))
      pss_nil)
    (pss_cons (ps_if (pt_cmpR op_eq (pe_ix ix_tup (pv 0) pe_int (fun _ _ => rfl)) pe_str (nomark _))
      (pss_one (ps_ret (pe_lst pa_nil)))
      pss_nil)
    (pss_cons (ps_set (i := 1) sc__law_columns_in.nd rfl (.inl rfl) (pe_lst pa_nil))
    (pss_cons (ps_for PassesOwn.never rfl (pi_tup (pe_slice sl_tupA (pv 0) (po_some (pe_op op_add pe_int (pe_callTy call_int1 (by rfl) z_int (by decide +kernel) (pa_cons (pe_cmpR op_ne (pe_ix ix_tup (pv 0) pe_int (fun _ _ => rfl)) pe_str (nomark _)) pa_nil)))) po_none)) (pg_name (i := 2) sc__law_columns_in.nd rfl (.inl rfl))
      (pss_one (ps_set (i := 1) sc__law_columns_in.nd rfl (.inl rfl) (pe_op op_cat (pv 1) (C8.pe_c c__law_columns_in hr (Nat.le_refl _) (by rfl) (pa_cons (pv 2) pa_nil))))))
    (pss_one (ps_ret (pv 1))))))), ?_⟩
  obtain ⟨v, e, rfl, hd, hdep, hz, q⟩ := h
  obtain ⟨b, us, ys, rfl, hS, hu, hdk⟩ := xx_view hd
  refine q_when (et_test (ev_is (ev_op (ev_op (ev_var rfl) ev_c (rv_ixT hS (atI_nat (j := 0) rfl))) ev_c (rv_eq rfl)) (by rw [show decide (V.str e.hd = V.str "column") = isCol e from hd_col e]))) (fun hb H1 e1 => ?_) fun hb H1 e1 => ?_
  · cases e with
    | cst _ => cases hb
    | un _ _ => cases hb
    | bin _ _ _ => cases hb
    | cho _ _ _ => cases hb
    | col n =>
      cases hu with | cons hx hu =>
      cases hu
      obtain rfl := dp_intD hx
      exact (el_lst (ea_cons (ev_op (ev_var rfl) ev_c (rv_ixT (ex_t e1 hS) (atI_nat (j := 1) rfl))) ea_nil) (by show 1 ≤ 100000; decide)) H1 (Ex.refl H1) _ fun p H2 hp e2 h2 => q p H2 (fresh_back e1 hp) (e1.trans e2) h2
  refine q_when (et_test (ev_is (ev_op (ev_op (ev_var rfl) ev_c (rv_ixT (ex_t e1 hS) (atI_nat (j := 0) rfl))) ev_c (rv_eq rfl)) (by rw [show decide (V.str e.hd = V.str "constant") = isCst e from hd_cst e]))) (fun hb2 H2 e2 => ?_) fun hb2 H2 e2 => ?_
  · cases e with
    | col _ => cases hb2
    | un _ _ => cases hb2
    | bin _ _ _ => cases hb2
    | cho _ _ _ => cases hb2
    | cst n => exact (el_lst ea_nil (by decide)) H2 (Ex.refl H2) _ fun p H3 hp e3 h3 => q p H3 (fresh_back (e1.trans e2) hp) ((e1.trans e2).trans e3) h3
  have x2 := e1.trans e2
  have hyl := dps_len hdk
  have hul := dps_len hu
  rw [List.length_map] at hyl
  refine q_asgL (el_lst ea_nil (by decide)) fun pf H3 hpf e3 h3 => ?_
  have x3 := x2.trans e3
  have hkl := kids_le e
  refine q_forPt (R := fun xs => xs = ys) (fun H4 e4 Q k => (eu_slA (K := K) (lo := some ((e.pre.length + 1 : Nat) : Int)) (hi := none) (ev_var rfl) (eo_some (ev_part (ev_var rfl) (ex_t x3 hS))) eo_none (ex_t x3 hS) (no_whole e.pre.length (by rw [List.length_cons, List.length_append]; omega))) H4 e4 Q fun p H5 hp e5 h5 => k p H5 ys hp e5 (by
      rw [h5, cutV_drop]
      show some (HO.tup ((us ++ ys).drop e.pre.length)) = _
      rw [← hul, List.drop_left' rfl]) rfl) fun p H4 xs hp e4 h4 hR => ?_
  subst hR
  refine ⟨fun i σ' H' => ∃ (pv : Option V) (a : Addr), σ' = [some (.ref b), some (.ref a), pv] ∧ Ex H H' ∧ H' p = some (.tup xs) ∧ H a = none ∧ H' a = some (.lst (((e.kids.take i).flatMap used).map fun n : Nat => V.int (n : Int))), ⟨none, pf, rfl, x3.trans e4, h4, fresh_back x2 hpf, e4 _ _ h3⟩, fun i σ' H' pv => ?_, fun i x σ' H' hi pv => ?_, fun σ' H' pv => ?_⟩
  · obtain ⟨pv, a, rfl, x, hp', _⟩ := pv
    exact st_of hp'
  · obtain ⟨pv, a, rfl, x9, hp', ha0, ha⟩ := pv
    obtain ⟨dd, hdd, hxd⟩ := dps_get hdk hi
    rw [List.getElem?_map] at hdd
    obtain ⟨c, hc, rfl⟩ := Option.map_eq_some_iff.mp hdd
    have hcm := List.mem_of_getElem? hc
    have hcd := dep_kid hcm
    have hcp := xdep_pos c
    have hcs : c.sz ≤ 60 := by have := sz_kid hcm; omega
    cases rn with
    | zero => omega
    | succ n =>
    have hul := used_len c
    have hkl2 := kids_used e i
    refine s_asgL (el_catX (ev_var rfl) ha (el_used (n := n) (ev_var rfl) (ex_dp x9 hxd) (by omega) hcs) (by rw [List.length_map, List.length_map]; have := used_len e; omega)) fun r H5 hr e5 h5 => ⟨_, r, rfl, x9.trans e5, e5 _ _ hp', fresh_back x9 hr, ?_⟩
    rw [h5, take_snoc hc, List.flatMap_append, List.map_append]
    simp
  · obtain ⟨pv, a, rfl, x9, hp', ha0, ha⟩ := pv
    rw [hyl, List.take_length] at ha
    refine s_ret (v := .ref a) (ev_var rfl) fun H5 e5 => q a H5 ha0 (x9.trans e5) ?_
    rw [e5 _ _ ha, used_flat hb]
end
theorem un_two {nm : Str} (h : nm ∈ unL) : inL2 nm = isS nm "is null" := by
  simp only [unL, List.mem_cons, List.not_mem_nil, or_false] at h
  rcases h with rfl | rfl | rfl | rfl | rfl | rfl | rfl | rfl | rfl <;> decide +kernel
theorem bin_two {nm : Str} (h : nm ∈ binL) : inL2 nm = isS nm "same" := by
  simp only [binL, List.mem_cons, List.not_mem_nil, or_false] at h
  rcases h with rfl | rfl | rfl | rfl | rfl | rfl | rfl | rfl | rfl | rfl | rfl | rfl <;> decide +kernel
theorem ev_neS {σ : L2.St} {H : Hp} {ta : TE} {a b : Str} (ha : Ev ta σ H (.str a)) : Ev (tOp rNe ta (tC (.str b))) σ H (.bl (!isS a b)) := ev_op ha ev_c (rv_ne rfl)
section
variable {P : Program} {w : World} {K : PySem.W.Frag} {mg : Str → Option Value} {base : Heap}
theorem ok__law_none {rn : Nat} (D : Dn K mg "_law_none" s__law_none ["expression", "m"]) (c__law_none : C8.Cal P w K mg base (1 + rn) "_law_none" (spR__law_none rn K) []) :
    C8.Cal P w K mg base (1 + rn + 1) "_law_none" (spR__law_none (rn + 1) K) [] := by
  refine cal_of D sc__law_none (fun vs H Q E h => ?_) (fun f cdv A outer s H vs Q E hr h => ?_)
  · obtain ⟨_, _, _, rfl, _⟩ := h
    rfl
  refine ⟨_, (pss_cons (ps_set (i := 2) sc__law_none.nd rfl (.inl rfl) (pe_ix ix_tup (pv 0) pe_int (fun _ _ => rfl)))
    (pss_cons (ps_if (pt_cmpR op_eq (pv 2) pe_str (nomark _))
      (pss_one (ps_ret (pe_cmpR op_isN (pe_ix ix_tup (pv 0) pe_int (fun _ _ => rfl)) pe_non (nomark _))))
      pss_nil)
    (pss_cons (ps_if (pt_cmpR op_eq (pv 2) pe_str (nomark _))
      (pss_one (ps_ret (pe_cmpR op_ge (pe_ix ix_tup (pv 0) pe_int (fun _ _ => rfl)) (pv 1) (nomark _))))
      pss_nil)
    (pss_cons (ps_if (pt_cmpR op_eq (pv 2) pe_str (nomark _))
      (pss_one (ps_ret (pe_and (pe_cmpR op_ne (pe_ix ix_tup (pv 0) pe_int (fun _ _ => rfl)) pe_str (nomark _)) (pe_one (C8.pe_c c__law_none hr (Nat.le_refl _) (by rfl) (pa_cons (pe_ix ix_tup (pv 0) pe_int (fun _ _ => rfl)) (pa_cons (pv 1) pa_nil)))))))
      pss_nil)
    (pss_cons (ps_set (i := 3) sc__law_none.nd rfl (.inl rfl) (C8.pe_c c__law_none hr (Nat.le_refl _) (by rfl) (pa_cons (pe_ix ix_tup (pv 0) pe_int (fun _ _ => rfl)) (pa_cons (pv 1) pa_nil))))
    (pss_cons (ps_set (i := 4) sc__law_none.nd rfl (.inl rfl) (C8.pe_c c__law_none hr (Nat.le_refl _) (by rfl) (pa_cons (pe_ix ix_tup (pv 0) pe_int (fun _ _ => rfl)) (pa_cons (pv 1) pa_nil))))
    (pss_cons (ps_if (PW.pt (pw_or (pt_cmpR op_eq (pv 2) pe_str (nomark _)) (pw_or1 (pt_cmpR op_in_seq (pe_ix ix_tup (pv 0) pe_int (fun _ _ => rfl)) (pe_tup (pa_cons pe_str (pa_cons pe_str (pa_cons pe_str pa_nil)))) (by with_unfolding_all rfl)))))
      (pss_one (ps_ret (pe_and (pv 3) (pe_one (pv 4)))))
      pss_nil)
    (pss_one (ps_ret (pe_and (pe_cmpR op_ne (pe_ix ix_tup (pv 0) pe_int (fun _ _ => rfl)) pe_str (nomark _)) (pe_one (pe_or (pv 3) (pe_one (pv 4)))))))))))))), ?_⟩
  obtain ⟨v, e, m, rfl, hd, ho, hN, hdep, q⟩ := h
  obtain ⟨ad, zs, rfl, hT, hV⟩ := xa_at ⟨hd, ho⟩
  refine q_asg (v := .str e.hd) (ev_ix (i := 0) (ev_var rfl) hT ev_c hV.hd) fun H1 e1 => ?_
  have hT1 := ex_t e1 hT
  have no : ∀ {a b : Str} {H0 : Hp} {σ : L2.St} {r : Bool}, σ[2]? = some (some (.str a)) → isS a b = r → EvT (tTest (tOp rEq (tVar 2) (tC (.str b)))) σ H0 r := fun h hr => et_is (et_S (ev_var h) ev_c) hr
  cases hV with
  | cst x hxv =>
    refine q_when (b := true) (no rfl (by show isS "constant" "constant" = true; decide +kernel)) (fun _ H2 e2 => ?_) fun h => nomatch h
    exact s_ret (ev_op (ev_ix (i := 1) (ev_var rfl) (ex_t e2 hT1) ev_c rfl) ev_c rv_isN) fun H3 e3 => q H3 (e1.trans (e2.trans e3))
  | col n =>
    refine q_when (b := false) (no rfl (by show isS "column" "constant" = false; decide +kernel)) (fun h => nomatch h) fun _ H2 e2 => ?_
    refine q_when (b := true) (no rfl (by show isS "column" "column" = true; decide +kernel)) (fun _ H3 e3 => ?_) fun h => nomatch h
    refine s_ret (ev_is (ev_op (ev_ix (i := 1) (ev_var rfl) (ex_t (e2.trans e3) hT1) ev_c rfl) (ev_var rfl) rv_I0) ?_) fun H4 e4 => q H4 (e1.trans (e2.trans (e3.trans e4)))
    show V.bl (decide ((m : Int) ≤ (n : Int))) = .bl (decide (m ≤ n))
    congr 1
    rw [decide_eq_decide]
    omega
  | un nm a y ha =>
    have hda : a.dep + 1 ≤ rn + 1 := hdep
    have hpa := xdep_pos a
    cases rn with
    | zero => omega
    | succ n =>
    refine q_when (b := false) (no rfl (by show isS "unary" "constant" = false; decide +kernel)) (fun h => nomatch h) fun _ H2 e2 => ?_
    refine q_when (b := false) (no rfl (by show isS "unary" "column" = false; decide +kernel)) (fun h => nomatch h) fun _ H3 e3 => ?_
    refine q_when (b := true) (no rfl (by show isS "unary" "unary" = true; decide +kernel)) (fun _ H4 e4 => ?_) fun h => nomatch h
    have x4 := e1.trans (e2.trans (e3.trans e4))
    refine s_ret (v := .bl (noneB m (.un nm a))) (ev_is (ev_andV (ev_neS (ev_ix (i := 1) (ev_var rfl) (ex_t (e2.trans (e3.trans e4)) hT1) ev_c rfl)) fun _ => ec_lnoneR (n := n) (ev_ix (i := 2) (ev_var rfl) (ex_t (e2.trans (e3.trans e4)) hT1) ev_c rfl) (ev_var rfl) (ha.ex x4).1 ha.2 hN.2 (by omega)) ?_) fun H5 e5 => q H5 (x4.trans e5)
    show _ = V.bl (if inL2 nm = true then false else noneB m a)
    rw [un_two hN.1]
    cases isS nm "is null" <;> rfl
  | bin nm a b y z ha hb =>
    have hda : max a.dep b.dep + 1 ≤ rn + 1 := hdep
    have hpa := xdep_pos a
    cases rn with
    | zero => omega
    | succ n =>
    refine q_when (b := false) (no rfl (by show isS "binary" "constant" = false; decide +kernel)) (fun h => nomatch h) fun _ H2 e2 => ?_
    refine q_when (b := false) (no rfl (by show isS "binary" "column" = false; decide +kernel)) (fun h => nomatch h) fun _ H3 e3 => ?_
    refine q_when (b := false) (no rfl (by show isS "binary" "unary" = false; decide +kernel)) (fun h => nomatch h) fun _ H4 e4 => ?_
    have y4 := e2.trans (e3.trans e4)
    have x4 := e1.trans y4
    refine q_asg (v := .bl (noneB m a)) (ec_lnoneR (n := n) (ev_ix (i := 2) (ev_var rfl) (ex_t y4 hT1) ev_c rfl) (ev_var rfl) (ha.ex x4).1 ha.2 hN.2.1 (by omega)) fun H5 e5 => ?_
    refine q_asg (v := .bl (noneB m b)) (ec_lnoneR (n := n) (ev_ix (i := 3) (ev_var rfl) (ex_t (y4.trans e5) hT1) ev_c rfl) (ev_var rfl) (hb.ex (x4.trans e5)).1 hb.2 hN.2.2 (by omega)) fun H6 e6 => ?_
    have y6 := y4.trans (e5.trans e6)
    refine q_when (b := false || inL3 nm) (et_or (no rfl (by show isS "binary" "choice" = false; decide +kernel)) fun _ => et_test (ev_inU (ev_ix (i := 1) (ev_var rfl) (ex_t y6 hT1) ev_c rfl) (eu_tup (ea_cons ev_c (ea_cons ev_c (ea_cons ev_c ea_nil))) (by show 3 ≤ 100000; decide)) rfl rfl)) (fun hc H7 e7 => ?_) fun hc H7 e7 => ?_
    · refine s_ret (v := .bl (noneB m (.bin nm a b))) (ev_is (ev_andV (ev_var rfl) fun _ => ev_var rfl) ?_) fun H8 e8 => q H8 (e1.trans (y6.trans (e7.trans e8)))
      show _ = V.bl (if inL3 nm = true then noneB m a && noneB m b else _)
      rw [if_pos (show inL3 nm = true from hc)]
    · refine s_ret (v := .bl (noneB m (.bin nm a b))) (ev_is (ev_andV (ev_neS (ev_ix (i := 1) (ev_var rfl) (ex_t (y6.trans e7) hT1) ev_c rfl)) fun _ => ev_orV (ev_var rfl) fun _ => ev_var rfl) ?_) fun H8 e8 => q H8 (e1.trans (y6.trans (e7.trans e8)))
      show _ = V.bl (if inL3 nm = true then noneB m a && noneB m b else if inL2 nm = true then false else noneB m a || noneB m b)
      rw [if_neg (by rw [show inL3 nm = false from hc]; decide), bin_two hN.1]
      cases isS nm "same" <;> rfl
  | cho c a b x y z hc ha hb =>
    have hda : max c.dep (max a.dep b.dep) + 1 ≤ rn + 1 := hdep
    have hpa := xdep_pos a
    cases rn with
    | zero => omega
    | succ n =>
    refine q_when (b := false) (no rfl (by show isS "choice" "constant" = false; decide +kernel)) (fun h => nomatch h) fun _ H2 e2 => ?_
    refine q_when (b := false) (no rfl (by show isS "choice" "column" = false; decide +kernel)) (fun h => nomatch h) fun _ H3 e3 => ?_
    refine q_when (b := false) (no rfl (by show isS "choice" "unary" = false; decide +kernel)) (fun h => nomatch h) fun _ H4 e4 => ?_
    have y4 := e2.trans (e3.trans e4)
    have x4 := e1.trans y4
    refine q_asg (v := .bl (noneB m a)) (ec_lnoneR (n := n) (ev_ix (i := 2) (ev_var rfl) (ex_t y4 hT1) ev_c rfl) (ev_var rfl) (ha.ex x4).1 ha.2 hN.2.1 (by omega)) fun H5 e5 => ?_
    refine q_asg (v := .bl (noneB m b)) (ec_lnoneR (n := n) (ev_ix (i := 3) (ev_var rfl) (ex_t (y4.trans e5) hT1) ev_c rfl) (ev_var rfl) (hb.ex (x4.trans e5)).1 hb.2 hN.2.2 (by omega)) fun H6 e6 => ?_
    have y6 := y4.trans (e5.trans e6)
    refine q_when (b := true || true) (et_or (no rfl (by show isS "choice" "choice" = true; decide +kernel)) fun h => nomatch h) (fun _ H7 e7 => ?_) fun h => nomatch h
    exact s_ret (v := .bl (noneB m (.cho c a b))) (ev_andV (ev_var rfl) fun _ => ev_var rfl) fun H8 e8 => q H8 (e1.trans (y6.trans (e7.trans e8)))
theorem ok__law_refuses {rn : Nat} (D : Dn K mg "_law_refuses" s__law_refuses ["condition", "m"]) (c__law_none : C8.Cal P w K mg base 9 "_law_none" (sp__law_none K) []) (c__law_refuses : C8.Cal P w K mg base (10 + rn) "_law_refuses" (spR__law_refuses rn K) []) :
    C8.Cal P w K mg base (10 + rn + 1) "_law_refuses" (spR__law_refuses (rn + 1) K) [] := by
  refine cal_of D sc__law_refuses (fun vs H Q E h => ?_) (fun f cdv A outer s H vs Q E hr h => ?_)
  · obtain ⟨_, _, _, rfl, _⟩ := h
    rfl
  refine ⟨_, (pss_cons (ps_if (PW.pt (pw_and (pt_cmpR op_eq (pe_ix ix_tup (pv 0) pe_int (fun _ _ => rfl)) pe_str (nomark _)) (pw_and1 (pt_cmpR op_eq (pe_ix ix_tup (pv 0) pe_int (fun _ _ => rfl)) pe_str (nomark _)))))
      (pss_cons (ps_set (i := 2) sc__law_refuses.nd rfl (.inl rfl) (pe_or (C8.pe_c c__law_refuses hr (Nat.le_refl _) (by rfl) (pa_cons (pe_ix ix_tup (pv 0) pe_int (fun _ _ => rfl)) (pa_cons (pv 1) pa_nil))) (pe_one (C8.pe_c c__law_refuses hr (Nat.le_refl _) (by rfl) (pa_cons (pe_ix ix_tup (pv 0) pe_int (fun _ _ => rfl)) (pa_cons (pv 1) pa_nil))))))
    (pss_one (ps_ret (pe_or (pv 2) (pe_one (pe_and (C8.pe_c c__law_none hr (by omega) (by rfl) (pa_cons (pe_ix ix_tup (pv 0) pe_int (fun _ _ => rfl)) (pa_cons (pv 1) pa_nil))) (pe_one (C8.pe_c c__law_none hr (by omega) (by rfl) (pa_cons (pe_ix ix_tup (pv 0) pe_int (fun _ _ => rfl)) (pa_cons (pv 1) pa_nil))))))))))
      pss_nil)
    (pss_cons (ps_if (PW.pt (pw_and (pt_cmpR op_eq (pe_ix ix_tup (pv 0) pe_int (fun _ _ => rfl)) pe_str (nomark _)) (pw_and1 (pt_cmpR op_eq (pe_ix ix_tup (pv 0) pe_int (fun _ _ => rfl)) pe_str (nomark _)))))
      (pss_one (ps_ret (pe_and (C8.pe_c c__law_refuses hr (Nat.le_refl _) (by rfl) (pa_cons (pe_ix ix_tup (pv 0) pe_int (fun _ _ => rfl)) (pa_cons (pv 1) pa_nil))) (pe_one (C8.pe_c c__law_refuses hr (Nat.le_refl _) (by rfl) (pa_cons (pe_ix ix_tup (pv 0) pe_int (fun _ _ => rfl)) (pa_cons (pv 1) pa_nil)))))))
      pss_nil)
    (pss_cons (ps_if (PW.pt (pw_and (pt_cmpR op_eq (pe_ix ix_tup (pv 0) pe_int (fun _ _ => rfl)) pe_str (nomark _)) (pw_and (pt_cmpR op_eq (pe_ix ix_tup (pv 0) pe_int (fun _ _ => rfl)) pe_str (nomark _)) (pw_and1 (pt_cmpR op_eq (pe_ix ix_tup (pe_ix ix_tup (pv 0) pe_int (fun _ _ => rfl)) pe_int (fun _ _ => rfl)) pe_str (nomark _))))))
      (pss_one (ps_if (pt_cmpR op_eq (pe_ix ix_tup (pe_ix ix_tup (pv 0) pe_int (fun _ _ => rfl)) pe_int (fun _ _ => rfl)) pe_str (nomark _))
      (pss_one (ps_ret (C8.pe_c c__law_none hr (by omega) (by rfl) (pa_cons (pe_ix ix_tup (pe_ix ix_tup (pv 0) pe_int (fun _ _ => rfl)) pe_int (fun _ _ => rfl)) (pa_cons (pv 1) pa_nil)))))
      pss_nil))
      pss_nil)
    (pss_one (ps_ret (C8.pe_c c__law_none hr (by omega) (by rfl) (pa_cons (pv 0) (pa_cons (pv 1) pa_nil)))))))), ?_⟩
  obtain ⟨v, e, m, rfl, hd, ho, hN, hdep, h8, q⟩ := h
  obtain ⟨b, us, ys, rfl, hS, hu, hk⟩ := xx_view hd
  have fin : ∀ {H1 : Hp} {x2 : Option V}, Ex H H1 → refB m e = noneB m e → tRet (tCall (sp__law_none K) [] C8.E0 (tCons (tVar 0) (tCons (tVar 1) tNil))) { nx := fun _ H' => Q .non H', rt := Q } [some (.ref b), some (.int (m : Int)), x2] H1 := fun {H1 x2} e1 hr => by
    rw [hr] at q
    exact s_ret (ec_lnoneR (n := 7) (ev_var rfl) (ev_var rfl) (ex_dp e1 hd) ho hN h8) fun H2 e2 => q H2 (e1.trans e2)
  refine q_when (et_isBin (nm := "and") rfl hS hu) (fun hb H1 e1 => ?_) fun hb1 H1 e1 => ?_
  · cases e with
    | col _ => cases hb
    | cst _ => cases hb
    | un _ _ => cases hb
    | cho _ _ _ => cases hb
    | bin nm a b2 =>
      cases ho with | bin _ _ _ oa ob =>
      cases hu with | cons hx hu =>
      cases hu
      obtain rfl := dp_strD hx
      cases hk with | cons ha hk =>
      cases hk with | cons hb2 hk =>
      cases hk
      have hda : max a.dep b2.dep + 1 ≤ rn + 1 := hdep
      have hd8 : max a.dep b2.dep + 1 ≤ 8 := h8
      have hpa := xdep_pos a
      cases rn with
      | zero => omega
      | succ n =>
      have i2 : ∀ {σ : L2.St} {H0 : Hp}, Ex H H0 → σ[0]? = some (some (.ref b)) → Ev (tOp (rIxT K) (tVar 0) (tC (.int 2))) σ H0 _ := fun x h0 => ev_op (ev_var h0) ev_c (rv_ixT (ex_t x hS) (atI_nat (j := 2) rfl))
      have i3 : ∀ {σ : L2.St} {H0 : Hp}, Ex H H0 → σ[0]? = some (some (.ref b)) → Ev (tOp (rIxT K) (tVar 0) (tC (.int 3))) σ H0 _ := fun x h0 => ev_op (ev_var h0) ev_c (rv_ixT (ex_t x hS) (atI_nat (j := 3) rfl))
      refine q_asg (v := .bl (refB m a || refB m b2)) (ev_orV (ec_lrefR (n := n) (i2 e1 rfl) (ev_var rfl) (ex_dp e1 ha) oa hN.2.1 (by omega) (by omega)) fun _ => ec_lrefR (n := n) (i3 e1 rfl) (ev_var rfl) (ex_dp e1 hb2) ob hN.2.2 (by omega) (by omega)) fun H2 e2 => ?_
      have x2 := e1.trans e2
      refine s_ret (v := .bl (refB m (.bin nm a b2))) (ev_is (ev_orV (ev_var rfl) fun _ => ev_andV (ec_lnoneR (n := 7) (i2 x2 rfl) (ev_var rfl) (ex_dp x2 ha) oa hN.2.1 (by omega)) fun _ => ec_lnoneR (n := 7) (i3 x2 rfl) (ev_var rfl) (ex_dp x2 hb2) ob hN.2.2 (by omega)) ?_) fun H3 e3 => q H3 (x2.trans e3)
      have hnm : nm = "and" := isS_eq hb
      show _ = V.bl (if isS nm "and" = true then refB m a || (refB m b2 || (if inL3 nm = true then noneB m a && noneB m b2 else _)) else _)
      rw [if_pos (show isS nm "and" = true from hb), if_pos (show inL3 nm = true by rw [hnm]; decide +kernel), Bool.or_assoc]
  refine q_when (et_isBin (nm := "or") rfl (ex_t e1 hS) hu) (fun hb H2 e2 => ?_) fun hb2 H2 e2 => ?_
  · cases e with
    | col _ => cases hb
    | cst _ => cases hb
    | un _ _ => cases hb
    | cho _ _ _ => cases hb
    | bin nm a b2 =>
      cases ho with | bin _ _ _ oa ob =>
      cases hu with | cons hx hu =>
      cases hu
      obtain rfl := dp_strD hx
      cases hk with | cons ha hk =>
      cases hk with | cons hb5 hk =>
      cases hk
      have hda : max a.dep b2.dep + 1 ≤ rn + 1 := hdep
      have hd8 : max a.dep b2.dep + 1 ≤ 8 := h8
      have hpa := xdep_pos a
      cases rn with
      | zero => omega
      | succ n =>
      have x2 := e1.trans e2
      refine s_ret (v := .bl (refB m (.bin nm a b2))) (ev_is (ev_andV (ec_lrefR (n := n) (ev_op (ev_var rfl) ev_c (rv_ixT (ex_t x2 hS) (atI_nat (j := 2) rfl))) (ev_var rfl) (ex_dp x2 ha) oa hN.2.1 (by omega) (by omega)) fun _ => ec_lrefR (n := n) (ev_op (ev_var rfl) ev_c (rv_ixT (ex_t x2 hS) (atI_nat (j := 3) rfl))) (ev_var rfl) (ex_dp x2 hb5) ob hN.2.2 (by omega) (by omega)) ?_) fun H3 e3 => q H3 (x2.trans e3)
      show _ = V.bl (if isS nm "and" = true then _ else if isS nm "or" = true then refB m a && refB m b2 else _)
      rw [if_neg (by rw [show isS nm "and" = false from hb1]; decide), if_pos (show isS nm "or" = true from hb)]
  have x2 := e1.trans e2
  have other : (match e with | .un nm _ => isS nm "not" | _ => false) = false → refB m e = noneB m e := fun hb3 => by
    cases e with
    | col _ => rfl
    | cst _ => rfl
    | cho _ _ _ => rfl
    | un nm a =>
      show (if isS nm "not" = true then _ else _) = _
      rw [if_neg (by rw [show isS nm "not" = false from hb3]; decide)]
    | bin nm a b2 =>
      show (if isS nm "and" = true then _ else if isS nm "or" = true then _ else _) = _
      rw [if_neg (by rw [show isS nm "and" = false from hb1]; decide), if_neg (by rw [show isS nm "or" = false from hb2]; decide)]
  cases e with
  | col n => exact q_when (b := false && false) (et_and (et_test (ev_is (ev_op (ev_op (ev_var rfl) ev_c (rv_ixT (ex_t x2 hS) (atI_nat (j := 0) rfl))) ev_c (rv_eq rfl)) (by rw [show decide (V.str (Xp.col n).hd = V.str "unary") = false from hd_un (.col n)]))) fun h => nomatch h) (fun h => nomatch h) fun _ H3 e3 => fin (x2.trans e3) rfl
  | cst n => exact q_when (b := false && false) (et_and (et_test (ev_is (ev_op (ev_op (ev_var rfl) ev_c (rv_ixT (ex_t x2 hS) (atI_nat (j := 0) rfl))) ev_c (rv_eq rfl)) (by rw [show decide (V.str (Xp.cst n).hd = V.str "unary") = false from hd_un (.cst n)]))) fun h => nomatch h) (fun h => nomatch h) fun _ H3 e3 => fin (x2.trans e3) rfl
  | bin nm a b2 => exact q_when (b := false && false) (et_and (et_test (ev_is (ev_op (ev_op (ev_var rfl) ev_c (rv_ixT (ex_t x2 hS) (atI_nat (j := 0) rfl))) ev_c (rv_eq rfl)) (by rw [show decide (V.str (Xp.bin nm a b2).hd = V.str "unary") = false from hd_un (.bin nm a b2)]))) fun h => nomatch h) (fun h => nomatch h) fun _ H3 e3 => fin (x2.trans e3) (other rfl)
  | cho c a b2 => exact q_when (b := false && false) (et_and (et_test (ev_is (ev_op (ev_op (ev_var rfl) ev_c (rv_ixT (ex_t x2 hS) (atI_nat (j := 0) rfl))) ev_c (rv_eq rfl)) (by rw [show decide (V.str (Xp.cho c a b2).hd = V.str "unary") = false from hd_un (.cho c a b2)]))) fun h => nomatch h) (fun h => nomatch h) fun _ H3 e3 => fin (x2.trans e3) rfl
  | un nm a =>
    cases ho with | un _ _ oa =>
    cases hk with | cons ha hk =>
    cases hk
    cases hu with | cons hx hu =>
    cases hu
    obtain rfl := dp_strD hx
    obtain ⟨b2, us2, ys2, rfl, hS2, hu2, hk2⟩ := xx_view ha
    have i2 : ∀ {σ : L2.St} {H0 : Hp}, Ex H H0 → σ[0]? = some (some (.ref b)) → Ev (tOp (rIxT K) (tVar 0) (tC (.int 2))) σ H0 (.ref b2) := fun x h0 => ev_op (ev_var h0) ev_c (rv_ixT (ex_t x hS) (atI_nat (j := 2) rfl))
    refine q_when (b := true && (isS nm "not" && isUn1 a)) (et_and (et_test (ev_is (ev_op (ev_op (ev_var rfl) ev_c (rv_ixT (ex_t x2 hS) (atI_nat (j := 0) rfl))) ev_c (rv_eq rfl)) (by rw [show decide (V.str (Xp.un nm a).hd = V.str "unary") = true from hd_un (.un nm a)]))) fun _ => et_and (et_test (ev_op (ev_op (ev_var rfl) ev_c (rv_ixT (ex_t x2 hS) (atI_nat (j := 1) rfl))) ev_c (rv_eq rfl))) fun _ => et_test (ev_is (ev_op (ev_op (i2 x2 rfl) ev_c (rv_ixT (ex_t x2 hS2) (atI_nat (j := 0) rfl))) ev_c (rv_eq rfl)) (by rw [show decide (V.str a.hd = V.str "unary") = isUn1 a from hd_un a]))) (fun hb H3 e3 => ?_) fun hb H3 e3 => ?_
    · rw [Bool.true_and, Bool.and_eq_true] at hb
      have x3 := x2.trans e3
      cases a with
      | col _ => cases hb.2
      | cst _ => cases hb.2
      | bin _ _ _ => cases hb.2
      | cho _ _ _ => cases hb.2
      | un nm2 x =>
        cases oa with | un _ _ ox =>
        cases hk2 with | cons hx2 hk2 =>
        cases hk2
        cases hu2 with | cons hx3 hu2 =>
        cases hu2
        obtain rfl := dp_strD hx3
        have hd8 : x.dep + 1 + 1 ≤ 8 := h8
        refine s_when (b := isS nm2 "is null") (et_test (ev_op (ev_op (i2 x3 rfl) ev_c (rv_ixT (ex_t x3 hS2) (atI_nat (j := 1) rfl))) ev_c (rv_eq rfl))) (fun hb4 H4 e4 => ?_) fun hb4 H4 e4 => ?_
        · have x4 := x3.trans e4
          refine s_ret (v := .bl (refB m (.un nm (.un nm2 x)))) (ev_is (ec_lnoneR (n := 7) (ev_op (i2 x4 rfl) ev_c (rv_ixT (ex_t x4 hS2) (atI_nat (j := 2) rfl))) (ev_var rfl) (ex_dp x4 hx2) ox hN.2.2 (by omega)) ?_) fun H5 e5 => q H5 (x4.trans e5)
          show _ = V.bl (if isS nm "not" = true then (if isS nm2 "is null" = true then noneB m x else _) else _)
          rw [if_pos hb.1, if_pos hb4]
        · refine fin (x3.trans e4) ?_
          show (if isS nm "not" = true then (if isS nm2 "is null" = true then _ else _) else _) = _
          rw [if_pos hb.1, if_neg (by rw [hb4]; decide)]
    · rw [Bool.true_and] at hb
      refine fin (x2.trans e3) ?_
      show (if isS nm "not" = true then _ else _) = _
      cases hnm : isS nm "not" with
      | false => rfl
      | true =>
        rw [hnm, Bool.true_and] at hb
        rw [if_pos rfl]
        cases a with
        | col _ => rfl
        | cst _ => rfl
        | bin _ _ _ => rfl
        | cho _ _ _ => rfl
        | un nm2 x => cases hb
end
theorem dps_at {K : PySem.W.Frag} : ∀ {ys : List V} {ds : List PyData} {H : Hp} {i : Nat} {d : PyData}, DpAll K H ys ds → ds[i]? = some d → ∃ x, ys[i]? = some x ∧ Dp K H x d
  | _, _, _, _, _, .nil, h => by simp at h
  | _, _, _, 0, _, .cons h _, e => by
    cases e
    exact ⟨_, rfl, h⟩
  | _, _, _, i + 1, _, .cons _ t, e => by
    obtain ⟨d, h1, h2⟩ := dps_at (i := i) t (by simpa using e)
    exact ⟨d, by simpa using h1, h2⟩
theorem given_cnt (us : List Nat) (k : Nat) : (given us.length (fun i => decide (V.int ((us.getD i 0 : Nat) : Int) = V.int (k : Int))) fun i => V.int ((us.getD i 0 : Nat) : Int)).length = us.count k := by
  unfold given
  rw [List.length_map, List.count_eq_length_filter]
  have h : us = (List.range us.length).map fun i => us.getD i 0 := by
    refine List.ext_getElem (by simp) fun i h1 h2 => ?_
    rw [List.getElem_map, List.getElem_range, List.getD_eq_getElem?_getD, List.getElem?_eq_getElem h1]
    rfl
  have h3 : (us.filter fun x => x == k) = ((List.range us.length).filter ((fun x => x == k) ∘ fun i => us.getD i 0)).map fun i => us.getD i 0 := by
    rw [← List.filter_map, ← h]
  rw [h3, List.length_map]
  congr 1
  refine List.filter_congr fun i _ => ?_
  show decide (V.int ((us.getD i 0 : Nat) : Int) = V.int (k : Int)) = (us.getD i 0 == k)
  rw [Bool.eq_iff_iff, decide_eq_true_eq, beq_iff_eq]
  exact ⟨fun h => by have := V.int.inj h; omega, fun h => by rw [h]⟩
theorem sum_used {fs : List Xp} (h : ∀ f ∈ fs, f.dep ≤ 8 ∧ f.sz ≤ 60) (hl : fs.length ≤ 10) (i : Nat) : ((fs.take i).flatMap used).length ≤ 600 := by
  have hs : ∀ l : List Xp, (∀ f ∈ l, f.dep ≤ 8 ∧ f.sz ≤ 60) → (l.flatMap used).length ≤ 60 * l.length := by
    intro l
    induction l with
    | nil => intro _; exact Nat.le_refl _
    | cons c r ih =>
      intro h
      have h1 := (h c (List.mem_cons_self ..)).2
      have h2 := ih fun f hf => h f (List.mem_cons_of_mem _ hf)
      have h3 := used_len c
      simp only [List.flatMap_cons, List.length_append, List.length_cons]
      omega
  have h1 := hs (fs.take i) fun f hf => h f (List.mem_of_mem_take hf)
  have h2 := List.length_take_le i fs
  have h3 : (fs.take i).length ≤ fs.length := by rw [List.length_take]; omega
  omega
theorem merge_at (es : List Xp) (us : List Nat) (k : Nat) (hk : k < es.length) (h : (plainB (es.getD k (.col 0)) || decide (us.count k ≤ 1)) = false) : mergeB es us = false := by
  unfold mergeB
  rw [Bool.eq_false_iff]
  intro z
  rw [List.all_eq_true] at z
  rw [z k (List.mem_range.mpr hk)] at h
  cases h
theorem merge_all (es : List Xp) (us : List Nat) (h : ∀ k, k < es.length → (plainB (es.getD k (.col 0)) || decide (us.count k ≤ 1)) = true) : mergeB es us = true := by
  unfold mergeB
  rw [List.all_eq_true]
  exact fun k hk => h k (List.mem_range.mp hk)
section
variable {P : Program} {w : World} {K : PySem.W.Frag} {mg : Str → Option Value} {base : Heap}
theorem ok__law_merges (D : Dn K mg "_law_merges" s__law_merges ["expressions", "others"]) (c__law_columns_in : C8.Cal P w K mg base 9 "_law_columns_in" (sp__law_columns_in K) []) (z_len : mg "len" = none) (z_range : mg "range" = none) :
    C8.Cal P w K mg base 10 "_law_merges" (sp__law_merges K) [] := by
  refine cal_of D sc__law_merges (fun vs H Q E h => ?_) (fun f cdv A outer s H vs Q E hr h => ?_)
  · obtain ⟨_, _, _, _, rfl, _⟩ := h
    rfl
  refine ⟨_, (pss_cons (ps_set (i := 2) sc__law_merges.nd rfl (.inl rfl) (pe_lst pa_nil))
    (pss_cons (ps_for PassesOwn.never rfl (pi_list (pv 1)) (pg_name (i := 3) sc__law_merges.nd rfl (.inl rfl))
      (pss_one (ps_set (i := 2) sc__law_merges.nd rfl (.inl rfl) (pe_op op_cat (pv 2) (C8.pe_c c__law_columns_in hr (by decide) (by rfl) (pa_cons (pv 3) pa_nil))))))
    (pss_cons (ps_for PassesOwn.never rfl (pi_range1 rfl z_range (pa_cons (pe_callB call_len_seq (by rfl) z_len PySem.boot_len (pa_cons (pv 0) pa_nil)) pa_nil)) (pg_name (i := 4) sc__law_merges.nd rfl (.inr rfl))
      (pss_one (ps_if (PW.pt (pw_and (pt_cmpR op_notIn_seq (pe_ix ix_tup (pe_ix ix_list (pv 0) (pv 4) (fun _ _ => rfl)) pe_int (fun _ _ => rfl)) (pe_tup (pa_cons pe_str (pa_cons pe_str pa_nil))) (by with_unfolding_all rfl)) (pw_and1 (pt_cmpR op_gt (pe_callB call_len_seq (by rfl) z_len PySem.boot_len (pa_cons (pe_lc (own := [("j", 5)]) (g := gName 5) rfl sc__law_merges.nd (pi_list (pv 2)) (blkOk_by (N := n__law_merges) (sc := C8.fnScope s__law_merges) (by decide +kernel)) (fun _ _ _ _ _ => pg_name (i := 5) sc__law_merges.nd rfl (Or.inl rfl)) (fun _ _ _ _ _ => (pts_one (pt_cmpR op_eq (pv 5) (pv 4) (nomark _)))) (fun _ _ _ _ _ => (pv 5))) pa_nil)) pe_int (nomark _)))))
      (pss_one (ps_ret pe_bl))
      pss_nil)))
    (pss_one (ps_ret pe_bl))))), ?_⟩
  obtain ⟨a, b, es, fs, rfl, ⟨ws, hS, hds⟩, ⟨us, hF, hfs⟩, hl, hz, hn, q⟩ := h
  have hwl : ws.length = es.length := by have := dps_len hds; rw [List.length_map] at this; exact this
  have hul : us.length = fs.length := by have := dps_len hfs; rw [List.length_map] at this; exact this
  refine q_asgL (el_lst ea_nil (by decide)) fun pf H1 hpf e1 h1 => ?_
  refine q_forLn (ev_var rfl) (ex_l e1 hF) (fun i σ' H' => ∃ (pv : Option V) (f : Addr), σ' = [some (.ref a), some (.ref b), some (.ref f), pv, none, none] ∧ Ex H H' ∧ H f = none ∧ H' f = some (.lst (((fs.take i).flatMap used).map fun n : Nat => V.int (n : Int)))) (fun H2 e2 => ⟨none, pf, rfl, e1.trans e2, hpf, e2 _ _ h1⟩) (fun i σ' H' _ pv => ?_) (fun i x σ' H' hi pv => ?_) fun σ' H' pv => ?_
  · obtain ⟨pv, f, rfl, x, _⟩ := pv
    exact ex_l x hF
  · obtain ⟨pv, f, rfl, x9, hf0, hf⟩ := pv
    obtain ⟨dd, hdd, hxd⟩ := dps_get hfs hi
    rw [List.getElem?_map] at hdd
    obtain ⟨c, hc, rfl⟩ := Option.map_eq_some_iff.mp hdd
    obtain ⟨hcd, hcs⟩ := hz c (List.mem_of_getElem? hc)
    have hsu := sum_used hz hn i
    refine s_asgL (el_catX (ev_var rfl) hf (el_used (n := 7) (ev_var rfl) (ex_dp x9 hxd) hcd hcs) (by rw [List.length_map, List.length_map]; have := used_len c; omega)) fun r H5 hr e5 h5 => ⟨_, r, rfl, x9.trans e5, fresh_back x9 hr, ?_⟩
    rw [h5, take_snoc hc, List.flatMap_append, List.map_append]
    simp
  · obtain ⟨pv, f, rfl, x9, hf0, hf⟩ := pv
    rw [hul, List.take_length] at hf
    have hsu := sum_used hz hn fs.length
    rw [List.take_length] at hsu
    generalize hus : fs.flatMap used = cs at hf hsu
    rw [hus] at q
    refine q_forR1 (n := (es.length : Int)) (ea_cons (ev_is (ev_len (ev_var rfl) (ex_l x9 hS)) (by rw [hwl])) ea_nil) ⟨by omega, by omega⟩ (fun i σ' H'' => ∃ kv jv : Option V, σ' = [some (.ref a), some (.ref b), some (.ref f), pv, kv, jv] ∧ Ex H' H'' ∧ ∀ k, k < i → (plainB (es.getD k (.col 0)) || decide (cs.count k ≤ 1)) = true) (fun H2 e2 => ⟨_, _, rfl, e2, fun k hk => absurd hk (Nat.not_lt_zero k)⟩) (fun i σ' H'' hi pw => ?_) fun σ' H'' pw => ?_
    · obtain ⟨kv, jv, rfl, e8, hall⟩ := pw
      have hi2 : i < es.length := by omega
      have x8 := x9.trans e8
      have hg : es.getD i (.col 0) = es[i] := by rw [List.getD_eq_getElem?_getD, List.getElem?_eq_getElem hi2]; rfl
      obtain ⟨x, hx, hxd⟩ := dps_at hds (show (es.map Xp.d)[i]? = some es[i].d by rw [List.getElem?_map, List.getElem?_eq_getElem hi2]; rfl)
      obtain ⟨bb, us2, ys2, rfl, hT, hu2, hk2⟩ := xx_view hxd
      have hpl : inV (.str es[i].hd) [.str "column", .str "constant"] = plainB es[i] := by
        cases es[i] with
        | col n => exact (show inV (.str ("column" : Str)) [.str "column", .str "constant"] = true by decide +kernel)
        | cst v => exact (show inV (.str ("constant" : Str)) [.str "column", .str "constant"] = true by decide +kernel)
        | un nm a => exact (show inV (.str ("unary" : Str)) [.str "column", .str "constant"] = false by decide +kernel)
        | bin nm a b => exact (show inV (.str ("binary" : Str)) [.str "column", .str "constant"] = false by decide +kernel)
        | cho c a b => exact (show inV (.str ("choice" : Str)) [.str "column", .str "constant"] = false by decide +kernel)
      have hlen : ((cs.map fun n : Nat => V.int (n : Int))).length = cs.length := List.length_map ..
      refine s_when (b := !plainB es[i] && decide ((1 : Int) < ((cs.count i : Nat) : Int))) (et_and (et_test (ev_is (ev_niU (ev_op (ev_op (ev_var rfl) (ev_var rfl) (rv_ixL (i := (i : Int)) (ex_l x8 hS) (atI_nat hx))) ev_c (rv_ixT (ex_t x8 hT) (atI_nat (j := 0) rfl))) (eu_tup (ea_cons ev_c (ea_cons ev_c ea_nil)) (by show 2 ≤ 100000; decide)) rfl rfl) (by rw [hpl]))) fun _ => et_test (ev_op (ev_is (ev_lenN (el_lcL (K := K) (xs := cs.map fun n : Nat => V.int (n : Int)) (fun j => decide (V.int ((cs.getD j 0 : Nat) : Int) = V.int (i : Int))) (fun j => V.int ((cs.getD j 0 : Nat) : Int)) (ev_var rfl) (sq_of (e8 _ _ hf)) (by rw [hlen]; omega) (fun _ => rfl) (fun j x H3 e3 hj => ?_) fun j x H3 e3 hj _ => ?_)) (by rw [hlen, given_cnt])) ev_c rv_I0)) (fun hb H3 e3 => ?_) fun hb H3 e3 => ⟨_, _, rfl, e8.trans e3, fun k hk => ?_⟩
      · rw [List.getElem?_map] at hj
        obtain ⟨n, hn2, rfl⟩ := Option.map_eq_some_iff.mp hj
        rw [show cs.getD j 0 = n by rw [List.getD_eq_getElem?_getD, hn2]; rfl]
        exact et_test (ev_op (ev_var rfl) (ev_var rfl) (rv_eq rfl))
      · rw [List.getElem?_map] at hj
        obtain ⟨n, hn2, rfl⟩ := Option.map_eq_some_iff.mp hj
        rw [show cs.getD j 0 = n by rw [List.getD_eq_getElem?_getD, hn2]; rfl]
        exact ev_var rfl
      · rw [Bool.and_eq_true, decide_eq_true_eq] at hb
        have hf1 : (plainB (es.getD i (.col 0)) || decide (cs.count i ≤ 1)) = false := by
          rw [hg]
          have h3 : plainB es[i] = false := by have := hb.1; cases hp : plainB es[i] <;> rw [hp] at this <;> first | rfl | cases this
          rw [h3, Bool.false_or]
          exact decide_eq_false (by omega)
        rw [merge_at es cs i hi2 hf1] at q
        exact s_ret ev_c fun H4 e4 => q H4 (x8.trans (e3.trans e4))
      · rcases Nat.lt_or_ge k i with h | h
        · exact hall k h
        · obtain rfl : k = i := by omega
          rw [hg]
          cases hp : plainB es[k] with
          | true => rfl
          | false =>
            rw [hp] at hb
            have hb2 : decide ((1 : Int) < ((cs.count k : Nat) : Int)) = false := hb
            rw [decide_eq_false_iff_not] at hb2
            rw [Bool.false_or]
            exact decide_eq_true (by omega)
    · obtain ⟨kv, jv, rfl, e8, hall⟩ := pw
      rw [merge_all es cs fun k hk => hall k (by rw [Int.toNat_natCast]; exact hk)] at q
      exact s_ret ev_c fun H4 e4 => q H4 (x9.trans (e8.trans e4))
end
mutual
theorem dp_wo {K : PySem.W.Frag} {H : Hp} {p : Addr} {ys : List V} (hp : H p = some (.lst ys)) : ∀ {v : V} {d : PyData}, noL d = true → Dp K H v d → Dp K (wo p H) v d
  | _, _, _, .non => .non
  | _, _, _, .bl b => .bl b
  | _, _, _, .int i => .int i
  | _, _, _, .str x => .str x
  | _, _, n, .lst h a => by simp [noL] at n
  | _, _, n, .tup h a => by
    refine .tup ?_ (dps_wo hp (by simpa [noL] using n) a)
    rcases h with (h | ⟨o, h⟩) | h
    · exact .inl (.inl (by rw [wo_ne (by intro z; rw [z, hp] at h; cases h)]; exact h))
    · exact .inl (.inr ⟨o, by rw [wo_ne (by intro z; rw [z, hp] at h; cases h)]; exact h⟩)
    · exact .inr h
theorem dps_wo {K : PySem.W.Frag} {H : Hp} {p : Addr} {ys : List V} (hp : H p = some (.lst ys)) : ∀ {vs : List V} {ds : List PyData}, noLs ds = true → DpAll K H vs ds → DpAll K (wo p H) vs ds
  | _, _, _, .nil => .nil
  | _, _, n, .cons h t => by
    have n' : (noL _ && noLs _) = true := n
    rw [Bool.and_eq_true] at n'
    exact .cons (dp_wo hp n'.1 h) (dps_wo hp n'.2 t)
end
theorem Dr.at {p : Addr} {H : Hp} (d : Dr p H) : ∃ xs, H p = some (.lst xs) := by
  obtain ⟨s, _, h⟩ := d
  exact ⟨_, h⟩
theorem dp_wx {K : PySem.W.Frag} {H H' : Hp} {p : Addr} {v : V} {d : PyData} (hd : Dp K H v d) (n : noL d = true) (dr : Dr p H) (e : Ex (wo p H) H') : Dp K H' v d := by
  obtain ⟨xs, hx⟩ := dr.at
  exact ex_dp e (dp_wo hx n hd)
theorem dps_wx {K : PySem.W.Frag} {H H' : Hp} {p : Addr} {vs : List V} {ds : List PyData} (hd : DpAll K H vs ds) (n : noLs ds = true) (dr : Dr p H) (e : Ex (wo p H) H') : DpAll K H' vs ds := by
  obtain ⟨xs, hx⟩ := dr.at
  exact ex_dps e (dps_wo hx n hd)
/-- an expression that is drawn -/
def EvX (K : PySem.W.Frag) (te : TE) (σ : L2.St) (p : Addr) (H : Hp) (P : PyData → Prop) : Prop := ∀ H1, Ex (wo p H) H1 → Dr p H1 → ∀ Q : VK, (∀ v H2 d, P d → noL d = true → Dp K H2 v d → Ex (wo p H1) H2 → Dr p H2 → Q v H2) → te σ H1 Q
def EvXA (K : PySem.W.Frag) (ta : TA) (σ : L2.St) (p : Addr) (H : Hp) (P : List PyData → Prop) : Prop := ∀ H1, Ex (wo p H) H1 → Dr p H1 → ∀ Q : List V → Hp → Prop, (∀ vs H2 ds, P ds → noLs ds = true → DpAll K H2 vs ds → Ex (wo p H1) H2 → Dr p H2 → Q vs H2) → ta σ H1 Q
section
variable {K : PySem.W.Frag} {σ : L2.St} {H : Hp} {p : Addr} {ta tb te : TE} {tr : TA} {P R : PyData → Prop} {PL : List PyData → Prop} {D : Ends} {tz : TS} {E : XK} {v : V} {t : TT}
theorem x_pure {d : PyData} (h : Ev te σ (wo p H) v) (hd : ∀ H, Dp K H v d) (n : noL d = true) : EvX K te σ p H (· = d) := fun H1 e dr Q q => h H1 e Q fun H2 e2 => q v H2 d rfl n (hd H2) (wx_of e2) (dr.ex e2)
theorem x_var {i : Nat} {d : PyData} (h : σ[i]? = some (some v)) (hd : Dp K H v d) (n : noL d = true) (d0 : Dr p H) : EvX K (tVar i) σ p H (· = d) := fun H1 e dr Q q => ⟨v, h, q v H1 d rfl n (dp_wx hd n d0 e) (wo_le p H1) dr⟩
theorem x_int {PI : Int → Prop} (h : EvD1 te σ p H (ZP PI)) : EvX K te σ p H (fun d => ∃ i, PI i ∧ d = .int i) := fun H1 e dr Q q => h H1 e dr Q fun v H2 ⟨i, ev, hi⟩ e2 d2 => by
  subst ev
  exact q _ H2 (.int i) ⟨i, hi, rfl⟩ rfl (.int i) e2 d2
theorem x_mono (h : EvX K te σ p H P) (k : ∀ d, P d → R d) : EvX K te σ p H R := fun H1 e dr Q q => h H1 e dr Q fun v H2 d hd => q v H2 d (k d hd)
theorem xa_nil : EvXA K tNil σ p H (· = []) := fun H1 _ dr _ q => q [] H1 [] rfl rfl .nil (wo_le p H1) dr
theorem xa_cons (h : EvX K te σ p H P) (hr : EvXA K tr σ p H PL) : EvXA K (tCons te tr) σ p H (fun ds => ∃ d r, ds = d :: r ∧ P d ∧ PL r) := fun H1 e dr Q q =>
  h H1 e dr _ fun v H2 d hd n hv e2 d2 => hr H2 (wx_trans e e2) d2 _ fun vs H3 r hr' n' hvs e3 d3 => q (v :: vs) H3 (d :: r) ⟨d, r, rfl, hd, hr'⟩ (by show (noL d && noLs r) = true; rw [n, n']; rfl) (.cons (dp_wx hv n d2 e3) hvs) (wx_trans e2 e3) d3
theorem x_tup (h : EvXA K tr σ p H PL) (hl : ∀ ds, PL ds → ds.length ≤ 100000) : EvX K (tTup tr) σ p H (fun d => ∃ ds, d = .tuple ds ∧ PL ds) := fun H1 e dr Q q =>
  h H1 e dr _ fun vs H2 ds hds n hvs e2 d2 => ⟨sz_of (by rw [dps_len hvs]; exact hl ds hds), fun a ha => q (.ref a) _ (.tuple ds) ⟨ds, rfl, hds⟩ n (.tup (st_of upd_same) (ex_dps (Ex.new ha) hvs)) (e2.trans (Ex.new ha)) (d2.ex (Ex.new ha))⟩
theorem qx_asg {i : Nat} (h : EvX K te σ p H P) (d : Dr p H) (k : ∀ v H1 d', P d' → noL d' = true → Dp K H1 v d' → Ex (wo p H) H1 → Dr p H1 → tz D (σ.set i (some v)) H1) : tSeq (tAsg te (gName i)) tz D σ H := h H (wo_le p H) d _ k
theorem sx_ret (h : EvX K te σ p H P) (d : Dr p H) (k : ∀ v H1 d', P d' → noL d' = true → Dp K H1 v d' → Ex (wo p H) H1 → Dr p H1 → D.rt v H1) : tRet te D σ H := h H (wo_le p H) d _ k
/-- (a, b, c)[i] -/
theorem ev_ixD {xs : List V} {i : Nat} {x : V} (ha : EvU ta σ H xs) (hb : Ev tb σ H (.int (i : Int))) (hi : xs[i]? = some x) : Ev (tOp (rIxT K) ta tb) σ H x := fun H1 e Q q =>
  ha H1 e _ fun a H2 ha2 e2 h2 => hb H2 (e.trans e2) _ fun H3 e3 => rv_ixT (st_of (e3 _ _ h2)) (atI_nat hi) H3 (Ex.refl H3) Q fun H4 e4 => q H4 ((e2.trans e3).trans e4)
end
theorem noL_vD (v : V) : noL (vD v) = true := by cases v <;> rfl
theorem noL_xp : ∀ e : Xp, noL e.d = true
  | .col _ => rfl
  | .cst v => by
    show (true && (noL (vD v) && true)) = true
    rw [noL_vD]
    rfl
  | .un _ a => by
    show (true && (true && (noL a.d && true))) = true
    rw [noL_xp a]
    rfl
  | .bin _ a b => by
    show (true && (true && (noL a.d && (noL b.d && true)))) = true
    rw [noL_xp a, noL_xp b]
    rfl
  | .cho c a b => by
    show (true && (noL c.d && (noL a.d && (noL b.d && true)))) = true
    rw [noL_xp c, noL_xp a, noL_xp b]
    rfl
def XC : Xp → Prop
  | .col n => n < 1000
  | .cst _ => True
  | .un _ a => XC a
  | .bin _ a b => XC a ∧ XC b
  | .cho c a b => XC c ∧ XC a ∧ XC b
def szE : Nat → Nat
  | 0 => 1
  | n + 1 => 3 * szE n + 1
def szC : Nat → Nat
  | 0 => 3
  | n + 1 => 2 * szC n + 1
theorem szE_pos : ∀ n, 1 ≤ szE n
  | 0 => Nat.le_refl _
  | n + 1 => Nat.le_add_left _ _
theorem szE_at {n : Nat} (h : 0 < n) : szE n = 3 * szE (n - 1) + 1 := by
  cases n with
  | zero => omega
  | succ n => rfl
theorem szC_pos : ∀ n, 3 ≤ szC n
  | 0 => Nat.le_refl _
  | n + 1 => by have := szC_pos n; show 3 ≤ 2 * szC n + 1; omega
theorem szC_at {n : Nat} (h : 0 < n) : szC n = 2 * szC (n - 1) + 1 := by
  cases n with
  | zero => omega
  | succ n => rfl
theorem szE_mono {n m : Nat} (h : n ≤ m) : szE n ≤ szE m := by
  induction m with
  | zero => rw [Nat.le_zero.mp h]; exact Nat.le_refl _
  | succ m ih =>
    rcases Nat.lt_or_ge n (m + 1) with h2 | h2
    · have := ih (by omega)
      show _ ≤ 3 * szE m + 1
      omega
    · rw [show n = m + 1 by omega]
      exact Nat.le_refl _
def XD (n s : Nat) (d : PyData) : Prop := ∃ e : Xp, d = e.d ∧ XOk e ∧ XN e ∧ (XC e ∧ e.sz ≤ s) ∧ e.dep ≤ n
theorem x_dv2 {K : PySem.W.Frag} {σ : L2.St} {H : Hp} {p : Addr} {te : TE} (h : EvD1 te σ p H DV) : EvX K te σ p H (fun d => ∃ x, DV x ∧ d = vD x) := fun H1 e dr Q q => h H1 e dr Q fun v H2 hv e2 d2 => q v H2 (vD v) ⟨v, hv, rfl⟩ (noL_vD v) (dp_vD (dv_ok hv)) e2 d2
def sp__law_leaf (K : PySem.W.Frag) : Sp := fun vs H Q _ => ∃ (p : Addr) (w : Nat), vs = [.ref p, .int (w : Int)] ∧ Dr p H ∧ 0 < w ∧ w ≤ 1000 ∧ ∀ v H' d, XD 1 1 d → noL d = true → Dp K H' v d → Ex (wo p H) H' → Dr p H' → Q v H'
def spR__law_expression : Nat → PySem.W.Frag → Sp
  | 0, _ => fun _ _ _ _ => False
  | n + 1, K => fun vs H Q _ => ∃ (p : Addr) (w dp : Nat), vs = [.ref p, .int (w : Int), .int (dp : Int)] ∧ Dr p H ∧ 0 < w ∧ w ≤ 1000 ∧ dp ≤ n ∧ ∀ v H' d, XD (dp + 1) (szE dp) d → noL d = true → Dp K H' v d → Ex (wo p H) H' → Dr p H' → Q v H'
def sp__law_expression (K : PySem.W.Frag) : Sp := spR__law_expression 5 K
section
variable {K : PySem.W.Frag} {σ : L2.St} {H : Hp} {p : Addr} {ta tb tc : TE} {E : XK} {n wd dp : Nat}
theorem x_leaf (ha : Ev ta σ (wo p H) (.ref p)) (hb : Ev tb σ (wo p H) (.int (wd : Int))) (h0 : 0 < wd) (h1 : wd ≤ 1000) : EvX K (tCall (sp__law_leaf K) [] E (tCons ta (tCons tb tNil))) σ p H (XD 1 1) := fun H1 e d Q q =>
  ha H1 e _ fun H2 e2 => hb H2 (e.trans e2) _ fun H3 e3 => ⟨p, wd, rfl, d.ex (e2.trans e3), h0, h1, fun v H5 dd hd n hv e5 d5 => q v H5 dd hd n hv (wx_trans (wx_of (e2.trans e3)) e5) d5⟩
theorem x_exp (ha : Ev ta σ (wo p H) (.ref p)) (hb : Ev tb σ (wo p H) (.int (wd : Int))) (hc : Ev tc σ (wo p H) (.int (dp : Int))) (h0 : 0 < wd) (h1 : wd ≤ 1000) (h2 : dp ≤ n) :
    EvX K (tCall (spR__law_expression (n + 1) K) [] E (tCons ta (tCons tb (tCons tc tNil)))) σ p H (XD (dp + 1) (szE dp)) := fun H1 e d Q q =>
  ha H1 e _ fun H2 e2 => hb H2 (e.trans e2) _ fun H3 e3 => hc H3 ((e.trans e2).trans e3) _ fun H4 e4 => ⟨p, wd, dp, rfl, d.ex ((e2.trans e3).trans e4), h0, h1, h2, fun v H5 dd hd n hv e5 d5 => q v H5 dd hd n hv (wx_trans (wx_of ((e2.trans e3).trans e4)) e5) d5⟩
end
/-- a local tuple of texts, [i] -/
theorem x_ixV {K : PySem.W.Frag} {σ : L2.St} {H : Hp} {p t : Addr} {tb : TE} {i : Nat} {xs : List Str} (hv : σ[i]? = some (some (.ref t))) (hne : t ≠ p) (ht : H t = some (.tup (xs.map V.str))) (hb : EvD1 tb σ p H (ZP fun j => 0 ≤ j ∧ j < (xs.length : Int))) : EvX K (tOp (rIxT K) (tVar i) tb) σ p H (fun d => ∃ s ∈ xs, d = .str s) := fun H1 e dr Q q =>
  ⟨.ref t, hv, hb H1 e dr _ fun y H3 ⟨j, ey, hj⟩ e3 d3 => by
    subst ey
    obtain ⟨jn, rfl⟩ := Int.eq_ofNat_of_zero_le hj.1
    have hjn : jn < xs.length := by omega
    have h1 : H1 t = some (.tup (xs.map V.str)) := e _ _ (by rw [wo_ne hne]; exact ht)
    have h3 : H3 t = some (.tup (xs.map V.str)) := e3 _ _ (by rw [wo_ne hne]; exact h1)
    refine rv_ixT (st_of h3) (atI_nat (j := jn) (v := .str xs[jn]) (by rw [List.getElem?_map, List.getElem?_eq_getElem hjn]; rfl)) H3 (Ex.refl H3) Q fun H4 e4 => ?_
    exact q _ H4 _ ⟨_, List.getElem_mem hjn, rfl⟩ rfl (.str _) (wx_trans e3 (wx_of e4)) (d3.ex e4)⟩
section
variable {P : Program} {w : World} {K : PySem.W.Frag} {mg : Str → Option Value} {base : Heap}
theorem ok__law_leaf (D : Dn K mg "_law_leaf" s__law_leaf ["state", "width"]) (c__law_digit : C8.Cal P w K mg base 1 "_law_digit" (sp__law_digit K) []) (c__law_value : C8.Cal P w K mg base 3 "_law_value" (sp__law_value K) []) :
    C8.Cal P w K mg base 4 "_law_leaf" (sp__law_leaf K) [] := by
  refine cal_of D sc__law_leaf (fun vs H Q E h => ?_) (fun f cdv A outer s H vs Q E hr h => ?_)
  · obtain ⟨_, _, rfl, _⟩ := h
    rfl
  refine ⟨_, (pss_cons (ps_if (pt_cmpR op_gt (C8.pe_c c__law_digit hr (by decide) (by rfl) (pa_cons (pv 0) (pa_cons pe_int pa_nil))) pe_int (nomark _))
      (pss_one (ps_ret (pe_tup (pa_cons pe_str (pa_cons (C8.pe_c c__law_digit hr (by decide) (by rfl) (pa_cons (pv 0) (pa_cons (pv 1) pa_nil))) pa_nil)))))
      pss_nil)
    (pss_one (ps_ret (pe_tup (pa_cons pe_str (pa_cons (C8.pe_c c__law_value hr (by decide) (by rfl) (pa_cons (pv 0) pa_nil)) pa_nil)))))), ?_⟩
  obtain ⟨p, wd, rfl, dr, w0, w1, q⟩ := h
  have two : ∀ {a b : PyData → Prop} (ds : List PyData), (∃ d r, ds = d :: r ∧ a d ∧ ∃ d' r', r = d' :: r' ∧ b d' ∧ r' = []) → ds.length ≤ 100000 := fun ds h => by
    obtain ⟨d1, r1, rfl, _, d2, r2, rfl, _, rfl⟩ := h
    show 2 ≤ 100000
    decide
  refine q1_when (edt_test (ez_cmp (g := fun i j => decide (i > j)) (ez_digit (m := 3) (ev_var rfl) ev_c (by decide) (by decide)) (e1_int (PI := fun j => j = 0) ev_c rfl))) dr (fun H1 e1 d1 => ?_) fun H1 e1 d1 => ?_
  · refine sx_ret (K := K) (x_tup (xa_cons (x_pure ev_c (fun _ => .str _) rfl) (xa_cons (x_int (ez_digit (ev_var rfl) (ev_var rfl) (by omega) (by omega))) xa_nil)) two) d1 fun v H2 d' hd n hv e2 d2 => q v H2 d' ?_ n hv (wx_trans e1 e2) d2
    obtain ⟨ds, rfl, _, _, rfl, rfl, _, _, rfl, ⟨j, hj, rfl⟩, rfl⟩ := hd
    obtain ⟨jn, rfl⟩ := Int.eq_ofNat_of_zero_le hj.1
    exact ⟨.col jn, rfl, .col jn, trivial, ⟨by show jn < 1000; omega, Nat.le_refl _⟩, Nat.le_refl _⟩
  · refine sx_ret (K := K) (x_tup (xa_cons (x_pure ev_c (fun _ => .str _) rfl) (xa_cons (x_dv2 (e1_value (ev_var rfl))) xa_nil)) two) d1 fun v H2 d' hd n hv e2 d2 => q v H2 d' ?_ n hv (wx_trans e1 e2) d2
    obtain ⟨ds, rfl, _, _, rfl, rfl, _, _, rfl, ⟨x, hx, rfl⟩, rfl⟩ := hd
    exact ⟨.cst x, rfl, .cst x hx, trivial, ⟨trivial, Nat.le_refl _⟩, Nat.le_refl _⟩
theorem ok__law_expression {rn : Nat} (D : Dn K mg "_law_expression" s__law_expression ["state", "width", "depth"]) (c__law_digit : C8.Cal P w K mg base 1 "_law_digit" (sp__law_digit K) []) (c__law_leaf : C8.Cal P w K mg base 4 "_law_leaf" (sp__law_leaf K) []) (c__law_expression : C8.Cal P w K mg base (5 + rn) "_law_expression" (spR__law_expression rn K) []) :
    C8.Cal P w K mg base (5 + rn + 1) "_law_expression" (spR__law_expression (rn + 1) K) [] := by
  refine cal_of D sc__law_expression (fun vs H Q E h => ?_) (fun f cdv A outer s H vs Q E hr h => ?_)
  · obtain ⟨_, _, _, rfl, _⟩ := h
    rfl
  refine ⟨_, (pss_cons (ps_set (i := 3) sc__law_expression.nd rfl (.inl rfl) (C8.pe_c c__law_digit hr (by omega) (by rfl) (pa_cons (pv 0) (pa_cons pe_int pa_nil))))
    (pss_cons (ps_if (PW.pt (pw_or (pt_cmpR op_eq (pv 2) pe_int (nomark _)) (pw_or1 (pt_cmpR op_lt (pv 3) pe_int (nomark _)))))
      (pss_one (ps_ret (C8.pe_c c__law_leaf hr (by omega) (by rfl) (pa_cons (pv 0) (pa_cons (pv 1) pa_nil)))))
      pss_nil)
    (pss_cons (ps_set (i := 4) sc__law_expression.nd rfl (.inl rfl) (C8.pe_c c__law_expression hr (Nat.le_refl _) (by rfl) (pa_cons (pv 0) (pa_cons (pv 1) (pa_cons (pe_op op_sub (pv 2) pe_int) pa_nil)))))
    (pss_cons (ps_if (pt_cmpR op_eq (pv 3) pe_int (nomark _))
      (pss_cons (ps_set (i := 5) sc__law_expression.nd rfl (.inl rfl) (pe_tup (pa_cons pe_str (pa_cons pe_str (pa_cons pe_str (pa_cons pe_str (pa_cons pe_str (pa_cons pe_str (pa_cons pe_str (pa_cons pe_str (pa_cons pe_str pa_nil)))))))))))
    (pss_one (ps_ret (pe_tup (pa_cons pe_str (pa_cons (pe_ix ix_tup (pv 5) (C8.pe_c c__law_digit hr (by omega) (by rfl) (pa_cons (pv 0) (pa_cons pe_int pa_nil))) (fun _ _ => rfl)) (pa_cons (pv 4) pa_nil)))))))
      pss_nil)
    (pss_cons (ps_set (i := 6) sc__law_expression.nd rfl (.inl rfl) (C8.pe_c c__law_expression hr (Nat.le_refl _) (by rfl) (pa_cons (pv 0) (pa_cons (pv 1) (pa_cons (pe_op op_sub (pv 2) pe_int) pa_nil)))))
    (pss_cons (ps_if (pt_cmpR op_eq (pv 3) pe_int (nomark _))
      (pss_one (ps_ret (pe_tup (pa_cons pe_str (pa_cons (C8.pe_c c__law_expression hr (Nat.le_refl _) (by rfl) (pa_cons (pv 0) (pa_cons (pv 1) (pa_cons (pe_op op_sub (pv 2) pe_int) pa_nil)))) (pa_cons (pv 4) (pa_cons (pv 6) pa_nil)))))))
      pss_nil)
    (pss_cons (ps_set (i := 5) sc__law_expression.nd rfl (.inl rfl) (pe_tup (pa_cons pe_str (pa_cons pe_str (pa_cons pe_str (pa_cons pe_str (pa_cons pe_str (pa_cons pe_str (pa_cons pe_str (pa_cons pe_str (pa_cons pe_str (pa_cons pe_str (pa_cons pe_str (pa_cons pe_str pa_nil))))))))))))))
    (pss_one (ps_ret (pe_tup (pa_cons pe_str (pa_cons (pe_ix ix_tup (pv 5) (C8.pe_c c__law_digit hr (by omega) (by rfl) (pa_cons (pv 0) (pa_cons pe_int pa_nil))) (fun _ _ => rfl)) (pa_cons (pv 4) (pa_cons (pv 6) pa_nil)))))))))))))), ?_⟩
  obtain ⟨p, wd, dp, rfl, dr, w0, w1, hdp, q⟩ := h
  have three : ∀ {a b c : PyData → Prop} (ds : List PyData), (∃ d r, ds = d :: r ∧ a d ∧ ∃ d' r', r = d' :: r' ∧ b d' ∧ ∃ d2 r2, r' = d2 :: r2 ∧ c d2 ∧ r2 = []) → ds.length ≤ 100000 := fun ds h => by
    obtain ⟨d1, r1, rfl, _, d2, r2, rfl, _, d3, r3, rfl, _, rfl⟩ := h
    show 3 ≤ 100000
    decide
  have four : ∀ {a b c e : PyData → Prop} (ds : List PyData), (∃ d r, ds = d :: r ∧ a d ∧ ∃ d' r', r = d' :: r' ∧ b d' ∧ ∃ d2 r2, r' = d2 :: r2 ∧ c d2 ∧ ∃ d3 r3, r2 = d3 :: r3 ∧ e d3 ∧ r3 = []) → ds.length ≤ 100000 := fun ds h => by
    obtain ⟨d1, r1, rfl, _, d2, r2, rfl, _, d3, r3, rfl, _, d4, r4, rfl, _, rfl⟩ := h
    show 4 ≤ 100000
    decide
  refine qz_asg (ez_digit (ev_var rfl) ev_c (by decide) (by decide)) dr fun kd H1 hk e1 d1 => ?_
  refine q_when (b := decide (V.int (dp : Int) = V.int 0) || decide (kd < 2)) (et_or (et_test (ev_op (ev_var rfl) ev_c (rv_eq rfl))) fun _ => et_test (ev_op (ev_var rfl) ev_c rv_I0)) (fun hb H2 e2 => ?_) fun hb H2 e2 => ?_
  · refine sx_ret (K := K) (x_leaf (ev_var rfl) (ev_var rfl) w0 w1) (d1.ex e2) fun v H3 d' hd n hv e3 d3 => q v H3 d' ?_ n hv (wx_trans e1 (wx_trans (wx_of e2) e3)) d3
    obtain ⟨e, rfl, h1, h1n, h1c, h2⟩ := hd
    exact ⟨e, rfl, h1, h1n, ⟨h1c.1, Nat.le_trans h1c.2 (szE_pos dp)⟩, by omega⟩
  rw [Bool.or_eq_false_iff] at hb
  have hdp0 : 0 < dp := by
    rcases Nat.eq_zero_or_pos dp with z | z
    · rw [z] at hb; exact absurd hb.1 (by decide)
    · exact z
  cases rn with
  | zero => omega
  | succ m =>
  have hdv : ∀ {H0 : Hp} {σ : L2.St}, σ[2]? = some (some (V.int (dp : Int))) → Ev (tOp (rI0 fun i j => .int (i - j)) (tVar 2) (tC (.int 1))) σ H0 (.int ((dp - 1 : Nat) : Int)) := fun h => ev_is (ev_op (ev_var h) ev_c rv_I0) (by rw [show (dp : Int) - 1 = ((dp - 1 : Nat) : Int) by omega])
  have d2 := d1.ex e2
  refine qx_asg (K := K) (x_exp (n := m) (ev_var rfl) (ev_var rfl) (hdv rfl) w0 w1 (by omega)) d2 fun va H3 da hda na hva e3 d3 => ?_
  obtain ⟨ea, rfl, oa, xna, ca, la⟩ := hda
  have hsz := szE_at hdp0
  have w3 : ∀ {H' : Hp}, Ex (wo p H3) H' → Ex (wo p H) H' := fun e => wx_trans e1 (wx_trans (wx_of e2) (wx_trans e3 e))
  refine q_when (b := decide (V.int kd = V.int 2)) (by walk_at "et") (fun _ H4 e4 => ?_) fun _ H4 e4 => ?_
  · refine q_asgU (xs := unL.map V.str) (eu_tup (ea_cons ev_c (ea_cons ev_c (ea_cons ev_c (ea_cons ev_c (ea_cons ev_c (ea_cons ev_c (ea_cons ev_c (ea_cons ev_c (ea_cons ev_c ea_nil))))))))) (by show 9 ≤ 100000; decide)) fun t H5 ht e5 h5 => ?_
    have d5 := (d3.ex e4).ex e5
    have htp : t ≠ p := fun z => by
      obtain ⟨s, hs⟩ := (d3.ex e4).at
      rw [z, hs] at ht
      cases ht
    refine sx_ret (K := K) (x_tup (xa_cons (x_pure ev_c (fun _ => .str _) rfl) (xa_cons (x_ixV (xs := unL) rfl htp h5 (ez_digit (m := 9) (ev_var rfl) ev_c (by decide) (by decide))) (xa_cons (x_var rfl (ex_dp (e4.trans e5) hva) na d5) xa_nil))) three) d5 fun v H6 d' hd n hv e6 d6 => q v H6 d' ?_ n hv (w3 (wx_trans (wx_of (e4.trans e5)) e6)) d6
    obtain ⟨ds, rfl, _, _, rfl, rfl, _, _, rfl, ⟨nm, hnm, rfl⟩, _, _, rfl, rfl, rfl⟩ := hd
    exact ⟨.un nm ea, rfl, .un nm ea oa, ⟨hnm, xna⟩, ⟨ca.1, by have := ca.2; show ea.sz + 1 ≤ _; omega⟩, by show ea.dep + 1 ≤ _; omega⟩
  have d4 := d3.ex e4
  refine qx_asg (K := K) (x_exp (n := m) (ev_var rfl) (ev_var rfl) (hdv rfl) w0 w1 (by omega)) d4 fun vb H5 db hdb nb hvb e5 d5 => ?_
  obtain ⟨eb, rfl, ob, xnb, cb, lb⟩ := hdb
  have hva5 := dp_wx (ex_dp e4 hva) na d4 e5
  have w5 : ∀ {H' : Hp}, Ex (wo p H5) H' → Ex (wo p H) H' := fun e => w3 (wx_trans (wx_of e4) (wx_trans e5 e))
  refine q_when (b := decide (V.int kd = V.int 3)) (by walk_at "et") (fun _ H6 e6 => ?_) fun _ H6 e6 => ?_
  · have d6 := d5.ex e6
    refine sx_ret (K := K) (x_tup (xa_cons (x_pure ev_c (fun _ => .str _) rfl) (xa_cons (x_exp (n := m) (ev_var rfl) (ev_var rfl) (hdv rfl) w0 w1 (by omega)) (xa_cons (x_var rfl (ex_dp e6 hva5) na d6) (xa_cons (x_var rfl (ex_dp e6 hvb) nb d6) xa_nil)))) four) d6 fun v H7 d' hd n hv e7 d7 => q v H7 d' ?_ n hv (w5 (wx_trans (wx_of e6) e7)) d7
    obtain ⟨ds, rfl, _, _, rfl, rfl, _, _, rfl, ⟨ec, rfl, oc, xnc, cc, lc⟩, _, _, rfl, rfl, _, _, rfl, rfl, rfl⟩ := hd
    exact ⟨.cho ec ea eb, rfl, .cho ec ea eb oc oa ob, ⟨xnc, xna, xnb⟩, ⟨⟨cc.1, ca.1, cb.1⟩, by have := ca.2; have := cb.2; have := cc.2; show ec.sz + ea.sz + eb.sz + 1 ≤ _; omega⟩, by show max ec.dep (max ea.dep eb.dep) + 1 ≤ _; omega⟩
  · refine q_asgU (xs := binL.map V.str) (eu_tup (ea_cons ev_c (ea_cons ev_c (ea_cons ev_c (ea_cons ev_c (ea_cons ev_c (ea_cons ev_c (ea_cons ev_c (ea_cons ev_c (ea_cons ev_c (ea_cons ev_c (ea_cons ev_c (ea_cons ev_c ea_nil)))))))))))) (by show 12 ≤ 100000; decide)) fun t H7 ht e7 h7 => ?_
    have d7 := (d5.ex e6).ex e7
    have htp : t ≠ p := fun z => by
      obtain ⟨s, hs⟩ := (d5.ex e6).at
      rw [z, hs] at ht
      cases ht
    have x7 := e6.trans e7
    refine sx_ret (K := K) (x_tup (xa_cons (x_pure ev_c (fun _ => .str _) rfl) (xa_cons (x_ixV (xs := binL) rfl htp h7 (ez_digit (m := 12) (ev_var rfl) ev_c (by decide) (by decide))) (xa_cons (x_var rfl (ex_dp x7 hva5) na d7) (xa_cons (x_var rfl (ex_dp x7 hvb) nb d7) xa_nil)))) four) d7 fun v H8 d' hd n hv e8 d8 => q v H8 d' ?_ n hv (w5 (wx_trans (wx_of x7) e8)) d8
    obtain ⟨ds, rfl, _, _, rfl, rfl, _, _, rfl, ⟨nm, hnm, rfl⟩, _, _, rfl, rfl, _, _, rfl, rfl, rfl⟩ := hd
    exact ⟨.bin nm ea eb, rfl, .bin nm ea eb oa ob, ⟨hnm, xna, xnb⟩, ⟨⟨ca.1, cb.1⟩, by have := ca.2; have := cb.2; show ea.sz + eb.sz + 1 ≤ _; omega⟩, by show max ea.dep eb.dep + 1 ≤ _; omega⟩
end
def spR__law_condition : Nat → PySem.W.Frag → Sp
  | 0, _ => fun _ _ _ _ => False
  | n + 1, K => fun vs H Q _ => ∃ (p : Addr) (w dp : Nat), vs = [.ref p, .int (w : Int), .int (dp : Int)] ∧ Dr p H ∧ 0 < w ∧ w ≤ 1000 ∧ dp ≤ n ∧ ∀ v H' d, XD (dp + 2) (szC dp) d → noL d = true → Dp K H' v d → Ex (wo p H) H' → Dr p H' → Q v H'
def sp__law_condition (K : PySem.W.Frag) : Sp := spR__law_condition 4 K
theorem x_cond {K : PySem.W.Frag} {σ : L2.St} {H : Hp} {p : Addr} {ta tb tc : TE} {E : XK} {n wd dp : Nat} (ha : Ev ta σ (wo p H) (.ref p)) (hb : Ev tb σ (wo p H) (.int (wd : Int))) (hc : Ev tc σ (wo p H) (.int (dp : Int))) (h0 : 0 < wd) (h1 : wd ≤ 1000) (h2 : dp ≤ n) :
    EvX K (tCall (spR__law_condition (n + 1) K) [] E (tCons ta (tCons tb (tCons tc tNil)))) σ p H (XD (dp + 2) (szC dp)) := fun H1 e d Q q =>
  ha H1 e _ fun H2 e2 => hb H2 (e.trans e2) _ fun H3 e3 => hc H3 ((e.trans e2).trans e3) _ fun H4 e4 => ⟨p, wd, dp, rfl, d.ex ((e2.trans e3).trans e4), h0, h1, h2, fun v H5 dd hd n hv e5 d5 => q v H5 dd hd n hv (wx_trans (wx_of ((e2.trans e3).trans e4)) e5) d5⟩
section
variable {P : Program} {w : World} {K : PySem.W.Frag} {mg : Str → Option Value} {base : Heap}
theorem ok__law_condition {rn : Nat} (D : Dn K mg "_law_condition" s__law_condition ["state", "width", "depth"]) (c__law_digit : C8.Cal P w K mg base 1 "_law_digit" (sp__law_digit K) []) (c__law_value : C8.Cal P w K mg base 3 "_law_value" (sp__law_value K) []) (c__law_condition : C8.Cal P w K mg base (4 + rn) "_law_condition" (spR__law_condition rn K) []) :
    C8.Cal P w K mg base (4 + rn + 1) "_law_condition" (spR__law_condition (rn + 1) K) [] := by
  refine cal_of D sc__law_condition (fun vs H Q E h => ?_) (fun f cdv A outer s H vs Q E hr h => ?_)
  · obtain ⟨_, _, _, rfl, _⟩ := h
    rfl
  refine ⟨_, (pss_cons (ps_set (i := 3) sc__law_condition.nd rfl (.inl rfl) (C8.pe_c c__law_digit hr (by omega) (by rfl) (pa_cons (pv 0) (pa_cons pe_int pa_nil))))
    (pss_cons (ps_if (PW.pt (pw_and (pt_cmpR op_gt (pv 2) pe_int (nomark _)) (pw_and1 (pt_cmpR op_lt (pv 3) pe_int (nomark _)))))
      (pss_cons (ps_set (i := 4) sc__law_condition.nd rfl (.inl rfl) (pe_ix ix_tup (pe_tup (pa_cons pe_str (pa_cons pe_str (pa_cons pe_str pa_nil)))) (pv 3) (fun _ _ => rfl)))
    (pss_one (ps_ret (pe_tup (pa_cons pe_str (pa_cons (pv 4) (pa_cons (C8.pe_c c__law_condition hr (Nat.le_refl _) (by rfl) (pa_cons (pv 0) (pa_cons (pv 1) (pa_cons (pe_op op_sub (pv 2) pe_int) pa_nil)))) (pa_cons (C8.pe_c c__law_condition hr (Nat.le_refl _) (by rfl) (pa_cons (pv 0) (pa_cons (pv 1) (pa_cons (pe_op op_sub (pv 2) pe_int) pa_nil)))) pa_nil))))))))
      pss_nil)
    (pss_cons (ps_if (PW.pt (pw_and (pt_cmpR op_gt (pv 2) pe_int (nomark _)) (pw_and1 (pt_cmpR op_eq (pv 3) pe_int (nomark _)))))
      (pss_one (ps_ret (pe_tup (pa_cons pe_str (pa_cons pe_str (pa_cons (C8.pe_c c__law_condition hr (Nat.le_refl _) (by rfl) (pa_cons (pv 0) (pa_cons (pv 1) (pa_cons (pe_op op_sub (pv 2) pe_int) pa_nil)))) pa_nil))))))
      pss_nil)
    (pss_cons (ps_set (i := 5) sc__law_condition.nd rfl (.inl rfl) (pe_tup (pa_cons pe_str (pa_cons (C8.pe_c c__law_digit hr (by omega) (by rfl) (pa_cons (pv 0) (pa_cons (pv 1) pa_nil))) pa_nil))))
    (pss_cons (ps_if (pt_cmpR op_eq (pv 3) pe_int (nomark _))
      (pss_one (ps_ret (pe_tup (pa_cons pe_str (pa_cons pe_str (pa_cons (pv 5) pa_nil))))))
      pss_nil)
    (pss_cons (ps_if (pt_cmpR op_eq (pv 3) pe_int (nomark _))
      (pss_one (ps_ret (pe_tup (pa_cons pe_str (pa_cons pe_str (pa_cons (pv 5) (pa_cons (pe_tup (pa_cons pe_str (pa_cons (C8.pe_c c__law_digit hr (by omega) (by rfl) (pa_cons (pv 0) (pa_cons (pv 1) pa_nil))) pa_nil))) pa_nil)))))))
      pss_nil)
    (pss_cons (ps_set (i := 4) sc__law_condition.nd rfl (.inl rfl) (pe_ifExp (pt_cmpR op_gt (pv 3) pe_int (nomark _)) (pe_ix ix_tup (pe_tup (pa_cons pe_str (pa_cons pe_str (pa_cons pe_str (pa_cons pe_str pa_nil))))) (pe_op op_sub (pv 3) pe_int) (fun _ _ => rfl)) pe_str))
    (pss_cons (ps_set (i := 6) sc__law_condition.nd rfl (.inl rfl) (pe_tup (pa_cons pe_str (pa_cons (C8.pe_c c__law_value hr (by omega) (by rfl) (pa_cons (pv 0) pa_nil)) pa_nil))))
    (pss_cons (ps_if (pt_cmpR op_eq (C8.pe_c c__law_digit hr (by omega) (by rfl) (pa_cons (pv 0) (pa_cons pe_int pa_nil))) pe_int (nomark _))
      (pss_one (ps_ret (pe_tup (pa_cons pe_str (pa_cons (pv 4) (pa_cons (pv 6) (pa_cons (pv 5) pa_nil)))))))
      pss_nil)
    (pss_one (ps_ret (pe_tup (pa_cons pe_str (pa_cons (pv 4) (pa_cons (pv 5) (pa_cons (pv 6) pa_nil)))))))))))))))), ?_⟩
  obtain ⟨p, wd, dp, rfl, dr, w0, w1, hdp, q⟩ := h
  have two : ∀ {a b : PyData → Prop} (ds : List PyData), (∃ d r, ds = d :: r ∧ a d ∧ ∃ d' r', r = d' :: r' ∧ b d' ∧ r' = []) → ds.length ≤ 100000 := fun ds h => by
    obtain ⟨d1, r1, rfl, _, d2, r2, rfl, _, rfl⟩ := h
    show 2 ≤ 100000
    decide
  have three : ∀ {a b c : PyData → Prop} (ds : List PyData), (∃ d r, ds = d :: r ∧ a d ∧ ∃ d' r', r = d' :: r' ∧ b d' ∧ ∃ d2 r2, r' = d2 :: r2 ∧ c d2 ∧ r2 = []) → ds.length ≤ 100000 := fun ds h => by
    obtain ⟨d1, r1, rfl, _, d2, r2, rfl, _, d3, r3, rfl, _, rfl⟩ := h
    show 3 ≤ 100000
    decide
  have four : ∀ {a b c e : PyData → Prop} (ds : List PyData), (∃ d r, ds = d :: r ∧ a d ∧ ∃ d' r', r = d' :: r' ∧ b d' ∧ ∃ d2 r2, r' = d2 :: r2 ∧ c d2 ∧ ∃ d3 r3, r2 = d3 :: r3 ∧ e d3 ∧ r3 = []) → ds.length ≤ 100000 := fun ds h => by
    obtain ⟨d1, r1, rfl, _, d2, r2, rfl, _, d3, r3, rfl, _, d4, r4, rfl, _, rfl⟩ := h
    show 4 ≤ 100000
    decide
  refine qz_asg (ez_digit (ev_var rfl) ev_c (by decide) (by decide)) dr fun kd H1 hk e1 d1 => ?_
  have hdv : ∀ {H0 : Hp} {σ : L2.St}, 0 < dp → σ[2]? = some (some (V.int (dp : Int))) → Ev (tOp (rI0 fun i j => .int (i - j)) (tVar 2) (tC (.int 1))) σ H0 (.int ((dp - 1 : Nat) : Int)) := fun h0 h => ev_is (ev_op (ev_var h) ev_c rv_I0) (by rw [show (dp : Int) - 1 = ((dp - 1 : Nat) : Int) by omega])
  have colX : ∀ {σ : L2.St} {H0 : Hp}, σ[0]? = some (some (.ref p)) → σ[1]? = some (some (.int (wd : Int))) → EvX K (tTup (tCons (tC (.str "column")) (tCons (tCall (sp__law_digit K) [] C8.E0 (tCons (tVar 0) (tCons (tVar 1) tNil))) tNil))) σ p H0 (fun d => ∃ n : Nat, n < 1000 ∧ d = (Xp.col n).d) := fun h0 h1 => x_mono (x_tup (xa_cons (x_pure ev_c (fun _ => .str _) rfl) (xa_cons (x_int (ez_digit (ev_var h0) (ev_var h1) (by omega) (by omega))) xa_nil)) two) fun d hd => by
    obtain ⟨ds, rfl, _, _, rfl, rfl, _, _, rfl, ⟨j, hj, rfl⟩, rfl⟩ := hd
    obtain ⟨jn, rfl⟩ := Int.eq_ofNat_of_zero_le hj.1
    exact ⟨jn, by omega, rfl⟩
  refine q_when (b := decide ((0 : Int) < (dp : Int)) && decide (kd < 3)) (et_and (et_test (ev_op (ev_var rfl) ev_c rv_I0)) fun _ => et_test (ev_op (ev_var rfl) ev_c rv_I0)) (fun hb H2 e2 => ?_) fun hb H2 e2 => ?_
  · rw [Bool.and_eq_true, decide_eq_true_eq, decide_eq_true_eq] at hb
    have hdp0 : 0 < dp := by omega
    cases rn with
    | zero => omega
    | succ m =>
    obtain ⟨kn, rfl⟩ := Int.eq_ofNat_of_zero_le hk.1
    have hkn : kn < 3 := by omega
    obtain ⟨nm, hnm, hml⟩ : ∃ nm : Str, ([.str "and", .str "or", .str "and"] : List V)[kn]? = some (.str nm) ∧ nm ∈ binL := by
      rcases (show kn = 0 ∨ kn = 1 ∨ kn = 2 by omega) with rfl | rfl | rfl
      · exact ⟨_, rfl, by decide +kernel⟩
      · exact ⟨_, rfl, by decide +kernel⟩
      · exact ⟨_, rfl, by decide +kernel⟩
    refine q_asg (v := .str nm) (ev_ixD (i := kn) (eu_tup (ea_cons ev_c (ea_cons ev_c (ea_cons ev_c ea_nil))) (by show 3 ≤ 100000; decide)) (ev_var rfl) hnm) fun H3 e3 => ?_
    have d3 := d1.ex (e2.trans e3)
    refine sx_ret (K := K) (x_tup (xa_cons (x_pure ev_c (fun _ => .str _) rfl) (xa_cons (x_pure (ev_var rfl) (fun _ => .str nm) rfl) (xa_cons (x_cond (n := m) (ev_var rfl) (ev_var rfl) (hdv hdp0 rfl) w0 w1 (by omega)) (xa_cons (x_cond (n := m) (ev_var rfl) (ev_var rfl) (hdv hdp0 rfl) w0 w1 (by omega)) xa_nil)))) four) d3 fun v H4 d' hd n hv e4 d4 => q v H4 d' ?_ n hv (wx_trans e1 (wx_trans (wx_of (e2.trans e3)) e4)) d4
    obtain ⟨ds, rfl, _, _, rfl, rfl, _, _, rfl, rfl, _, _, rfl, ⟨ea, rfl, oa, xna, ca, la⟩, _, _, rfl, ⟨eb, rfl, ob, xnb, cb, lb⟩, rfl⟩ := hd
    exact ⟨.bin nm ea eb, rfl, .bin nm ea eb oa ob, ⟨hml, xna, xnb⟩, ⟨⟨ca.1, cb.1⟩, by have := ca.2; have := cb.2; have := szC_at hdp0; show ea.sz + eb.sz + 1 ≤ _; omega⟩, by show max ea.dep eb.dep + 1 ≤ _; omega⟩
  refine q_when (b := decide ((0 : Int) < (dp : Int)) && decide (V.int kd = V.int 3)) (et_and (et_test (ev_op (ev_var rfl) ev_c rv_I0)) fun _ => et_test (ev_op (ev_var rfl) ev_c (rv_eq rfl))) (fun hb3 H3 e3 => ?_) fun hb3 H3 e3 => ?_
  · rw [Bool.and_eq_true, decide_eq_true_eq] at hb3
    have hdp0 : 0 < dp := by omega
    cases rn with
    | zero => omega
    | succ m =>
    have d3 := d1.ex (e2.trans e3)
    refine sx_ret (K := K) (x_tup (xa_cons (x_pure ev_c (fun _ => .str _) rfl) (xa_cons (x_pure ev_c (fun _ => .str _) rfl) (xa_cons (x_cond (n := m) (ev_var rfl) (ev_var rfl) (hdv hdp0 rfl) w0 w1 (by omega)) xa_nil))) three) d3 fun v H4 d' hd n hv e4 d4 => q v H4 d' ?_ n hv (wx_trans e1 (wx_trans (wx_of (e2.trans e3)) e4)) d4
    obtain ⟨ds, rfl, _, _, rfl, rfl, _, _, rfl, rfl, _, _, rfl, ⟨ea, rfl, oa, xna, ca, la⟩, rfl⟩ := hd
    exact ⟨.un "not" ea, rfl, .un _ ea oa, ⟨by decide +kernel, xna⟩, ⟨ca.1, by have := ca.2; have := szC_at hdp0; show ea.sz + 1 ≤ _; omega⟩, by show ea.dep + 1 ≤ _; omega⟩
  have d3 := d1.ex (e2.trans e3)
  refine qx_asg (K := K) (colX rfl rfl) d3 fun vc H4 dc hdc nc hvc e4 d4 => ?_
  obtain ⟨cn, hcn, rfl⟩ := hdc
  have h3c := szC_pos dp
  have w4 : ∀ {H' : Hp}, Ex (wo p H4) H' → Ex (wo p H) H' := fun e => wx_trans e1 (wx_trans (wx_of (e2.trans e3)) (wx_trans e4 e))
  refine q_when (b := decide (V.int kd = V.int 4)) (et_test (ev_op (ev_var rfl) ev_c (rv_eq rfl))) (fun _ H5 e5 => ?_) fun _ H5 e5 => ?_
  · have d5 := d4.ex e5
    refine sx_ret (K := K) (x_tup (xa_cons (x_pure ev_c (fun _ => .str _) rfl) (xa_cons (x_pure ev_c (fun _ => .str _) rfl) (xa_cons (x_var rfl (ex_dp e5 hvc) nc d5) xa_nil))) three) d5 fun v H6 d' hd n hv e6 d6 => q v H6 d' ?_ n hv (w4 (wx_trans (wx_of e5) e6)) d6
    obtain ⟨ds, rfl, _, _, rfl, rfl, _, _, rfl, rfl, _, _, rfl, rfl, rfl⟩ := hd
    exact ⟨.un "is null" (.col cn), rfl, .un _ _ (.col cn), ⟨by decide +kernel, trivial⟩, ⟨hcn, by show 1 + 1 ≤ _; omega⟩, by show 1 + 1 ≤ _; omega⟩
  refine q_when (b := decide (V.int kd = V.int 5)) (et_test (ev_op (ev_var rfl) ev_c (rv_eq rfl))) (fun _ H6 e6 => ?_) fun hb5 H6 e6 => ?_
  · have d6 := d4.ex (e5.trans e6)
    refine sx_ret (K := K) (x_tup (xa_cons (x_pure ev_c (fun _ => .str _) rfl) (xa_cons (x_pure ev_c (fun _ => .str _) rfl) (xa_cons (x_var rfl (ex_dp (e5.trans e6) hvc) nc d6) (xa_cons (colX rfl rfl) xa_nil)))) four) d6 fun v H7 d' hd n hv e7 d7 => q v H7 d' ?_ n hv (w4 (wx_trans (wx_of (e5.trans e6)) e7)) d7
    obtain ⟨ds, rfl, _, _, rfl, rfl, _, _, rfl, rfl, _, _, rfl, rfl, _, _, rfl, ⟨c2, hc2, rfl⟩, rfl⟩ := hd
    exact ⟨.bin "equal" (.col cn) (.col c2), rfl, .bin _ _ _ (.col cn) (.col c2), ⟨by decide +kernel, trivial, trivial⟩, ⟨⟨hcn, hc2⟩, by show 1 + 1 + 1 ≤ _; omega⟩, by show max 1 1 + 1 ≤ _; omega⟩
  obtain ⟨kn, rfl⟩ := Int.eq_ofNat_of_zero_le hk.1
  obtain ⟨nm, hml, hnm⟩ : ∃ nm : Str, nm ∈ binL ∧ (if (kn : Int) > 5 then ([.str "equal", .str "less", .str "at most", .str "less"] : List V)[kn - 6]? else some (.str "equal")) = some (.str nm) := by
    by_cases z : (kn : Int) > 5
    · rw [if_pos z]
      rcases (show kn = 6 ∨ kn = 7 ∨ kn = 8 ∨ kn = 9 by omega) with rfl | rfl | rfl | rfl
      · exact ⟨_, by decide +kernel, rfl⟩
      · exact ⟨_, by decide +kernel, rfl⟩
      · exact ⟨_, by decide +kernel, rfl⟩
      · exact ⟨_, by decide +kernel, rfl⟩
    · rw [if_neg z]
      exact ⟨_, by decide +kernel, rfl⟩
  refine q_asg (v := .str nm) (ev_if (b := decide ((kn : Int) > 5)) (et_test (ev_op (ev_var rfl) ev_c rv_I0)) (fun hz => ?_) fun hz => ?_) fun H7 e7 => ?_
  · have z := of_decide_eq_true hz
    rw [if_pos z] at hnm
    exact ev_ixD (i := kn - 6) (eu_tup (ea_cons ev_c (ea_cons ev_c (ea_cons ev_c (ea_cons ev_c ea_nil)))) (by show 4 ≤ 100000; decide)) (ev_is (ev_op (ev_var rfl) ev_c rv_I0) (by congr 1; omega)) hnm
  · have z := of_decide_eq_false hz
    rw [if_neg z] at hnm
    exact ev_is ev_c (Option.some.inj hnm)
  have d7 := d4.ex ((e5.trans e6).trans e7)
  refine qx_asg (K := K) (P := fun d => ∃ x, DV x ∧ d = (Xp.cst x).d) (x_mono (x_tup (xa_cons (x_pure ev_c (fun _ => .str _) rfl) (xa_cons (x_dv2 (e1_value (ev_var rfl))) xa_nil)) two) fun d hd => ?_) d7 fun vv H8 dd hdd nd hvv e8 d8 => ?_
  · obtain ⟨ds, rfl, _, _, rfl, rfl, _, _, rfl, ⟨x, hx, rfl⟩, rfl⟩ := hd
    exact ⟨x, hx, rfl⟩
  obtain ⟨x, hx, rfl⟩ := hdd
  have hvc8 := dp_wx (ex_dp ((e5.trans e6).trans e7) hvc) nc d7 e8
  have w8 : ∀ {H' : Hp}, Ex (wo p H8) H' → Ex (wo p H) H' := fun e => w4 (wx_trans (wx_of ((e5.trans e6).trans e7)) (wx_trans e8 e))
  refine q1_when (edt_test (ez_eq (ez_digit (m := 4) (ev_var rfl) ev_c (by decide) (by decide)) (e1_int (PI := fun j => j = 0) ev_c rfl))) d8 (fun H9 e9 d9 => ?_) fun H9 e9 d9 => ?_
  · refine sx_ret (K := K) (x_tup (xa_cons (x_pure ev_c (fun _ => .str _) rfl) (xa_cons (x_pure (ev_var rfl) (fun _ => .str nm) rfl) (xa_cons (x_var rfl (dp_wx hvv nd d8 e9) nd d9) (xa_cons (x_var rfl (dp_wx hvc8 nc d8 e9) nc d9) xa_nil)))) four) d9 fun v H10 d' hd n hv e10 d10 => q v H10 d' ?_ n hv (w8 (wx_trans e9 e10)) d10
    obtain ⟨ds, rfl, _, _, rfl, rfl, _, _, rfl, rfl, _, _, rfl, rfl, _, _, rfl, rfl, rfl⟩ := hd
    exact ⟨.bin nm (.cst x) (.col cn), rfl, .bin _ _ _ (.cst x hx) (.col cn), ⟨hml, trivial, trivial⟩, ⟨⟨trivial, hcn⟩, by show 1 + 1 + 1 ≤ _; omega⟩, by show max 1 1 + 1 ≤ _; omega⟩
  · refine sx_ret (K := K) (x_tup (xa_cons (x_pure ev_c (fun _ => .str _) rfl) (xa_cons (x_pure (ev_var rfl) (fun _ => .str nm) rfl) (xa_cons (x_var rfl (dp_wx hvc8 nc d8 e9) nc d9) (xa_cons (x_var rfl (dp_wx hvv nd d8 e9) nd d9) xa_nil)))) four) d9 fun v H10 d' hd n hv e10 d10 => q v H10 d' ?_ n hv (w8 (wx_trans e9 e10)) d10
    obtain ⟨ds, rfl, _, _, rfl, rfl, _, _, rfl, rfl, _, _, rfl, rfl, _, _, rfl, rfl, rfl⟩ := hd
    exact ⟨.bin nm (.col cn) (.cst x), rfl, .bin _ _ _ (.col cn) (.cst x hx), ⟨hml, trivial, trivial⟩, ⟨⟨hcn, trivial⟩, by show 1 + 1 + 1 ≤ _; omega⟩, by show max 1 1 + 1 ≤ _; omega⟩
end
theorem alike_nn {x y : V} (h : alike x y = true) (hx : Ok x) (hy : Ok y) : x ≠ .non ∧ y ≠ .non := by
  unfold alike at h
  rw [Bool.and_eq_true, Bool.not_eq_true', decide_eq_false_iff_not] at h
  refine ⟨h.1, fun z => ?_⟩
  subst z
  have := V.int.inj (of_decide_eq_true h.2)
  cases hx with
  | non => exact h.1 rfl
  | bl b => exact absurd this (by show (1 : Int) ≠ 0; decide)
  | int i => exact absurd this (by show (2 : Int) ≠ 0; decide)
  | str s hs => exact absurd this (by show (3 : Int) ≠ 0; decide)
theorem un_non {nm : Str} (h : nm ∈ unL) (h2 : inL2 nm = false) : unV nm .non = .non := by
  simp only [unL, List.mem_cons, List.not_mem_nil, or_false] at h
  rcases h with rfl | rfl | rfl | rfl | rfl | rfl | rfl | rfl | rfl <;> first | rfl | exact absurd h2 (by decide +kernel) | decide +kernel
theorem iff_ii {g : V} {x y : V} (h : x = .non ∨ y = .non) : iff1 (isInt x && isInt y) g = .non := by
  rcases h with rfl | rfl
  · rfl
  · unfold iff1
    rw [show (isInt x && isInt .non) = false by rw [show isInt .non = false from rfl, Bool.and_false]]
    rfl
theorem iff_di {g : V} {x y : V} (h : x = .non ∨ y = .non) : iff1 (isDay x && isInt y) g = .non := by
  rcases h with rfl | rfl
  · rfl
  · unfold iff1
    rw [show (isDay x && isInt .non) = false by rw [show isInt .non = false from rfl, Bool.and_false]]
    rfl
theorem iff_al {g : V} {x y : V} (hx : Ok x) (hy : Ok y) (h : x = .non ∨ y = .non) : iff1 (alike x y) g = .non := by
  unfold iff1
  cases z : alike x y with
  | false => rfl
  | true =>
    have := alike_nn z hx hy
    rcases h with h | h
    · exact absurd h this.1
    · exact absurd h this.2
theorem bin_non1 {nm : Str} {x y : V} (h : nm ∈ binL) (hx : Ok x) (hy : Ok y) (h3 : inL3 nm = false) (h2 : inL2 nm = false) (hn : x = .non ∨ y = .non) : binV nm x y = .non := by
  unfold binV
  split
  · rename_i z; subst z; exact absurd h3 (by decide +kernel)
  split
  · rename_i z; subst z; exact absurd h3 (by decide +kernel)
  split
  · rename_i z; subst z; exact absurd h2 (by decide +kernel)
  split
  · rename_i z; subst z; exact absurd h3 (by decide +kernel)
  split
  · exact iff_ii hn
  split
  · exact iff_ii hn
  split
  · exact iff_ii hn
  split
  · exact iff_di hn
  split
  · exact iff_al hx hy hn
  split
  · exact iff_al hx hy hn
  · exact iff_al hx hy hn
theorem bin_non2 {nm : Str} (h : nm ∈ binL) (h3 : inL3 nm = true) : binV nm .non .non = .non := by
  simp only [binL, List.mem_cons, List.not_mem_nil, or_false] at h
  rcases h with rfl | rfl | rfl | rfl | rfl | rfl | rfl | rfl | rfl | rfl | rfl | rfl <;> first | decide +kernel | exact absurd h3 (by decide +kernel)
def NonFrom (m : Nat) (xs : List V) : Prop := ∀ n, m ≤ n → xs.getD n .non = .non
theorem none_at {m : Nat} {xs : List V} (hr : RwOk xs) (hm : NonFrom m xs) : ∀ {e : Xp}, XOk e → XN e → noneB m e = true → evX xs e = .non
  | .col n, _, _, h => hm n (of_decide_eq_true h)
  | .cst v, _, _, h => of_decide_eq_true h
  | .un nm a, .un _ _ oa, ⟨hn, ha⟩, h => by
    have h' : (if inL2 nm = true then false else noneB m a) = true := h
    split at h'
    · cases h'
    · rename_i h2
      show unV nm (evX xs a) = .non
      rw [none_at hr hm oa ha h']
      exact un_non hn (by simpa using h2)
  | .bin nm a b, .bin _ _ _ oa ob, ⟨hn, ha, hb⟩, h => by
    have h' : (if inL3 nm = true then noneB m a && noneB m b else if inL2 nm = true then false else noneB m a || noneB m b) = true := h
    show binV nm (evX xs a) (evX xs b) = .non
    split at h'
    · rename_i h3
      rw [Bool.and_eq_true] at h'
      rw [none_at hr hm oa ha h'.1, none_at hr hm ob hb h'.2]
      exact bin_non2 hn h3
    · rename_i h3
      split at h'
      · cases h'
      · rename_i h2
        refine bin_non1 hn (ev_vok hr oa).1 (ev_vok hr ob).1 (by simpa using h3) (by simpa using h2) ?_
        rw [Bool.or_eq_true] at h'
        rcases h' with h' | h'
        · exact .inl (none_at hr hm oa ha h')
        · exact .inr (none_at hr hm ob hb h')
  | .cho c a b, .cho _ _ _ oc oa ob, ⟨hc, ha, hb⟩, h => by
    have h' : (noneB m a && noneB m b) = true := h
    rw [Bool.and_eq_true] at h'
    show (if evX xs c = .bl true then evX xs a else evX xs b) = .non
    rw [none_at hr hm oa ha h'.1, none_at hr hm ob hb h'.2]
    split <;> rfl
theorem and3_t {x y : V} (h : and3 x y = .bl true) : x = .bl true ∧ y = .bl true := by
  unfold and3 at h
  split at h
  · cases h
  split at h
  · assumption
  · cases h
theorem or3_t {x y : V} (h : or3 x y = .bl true) : x = .bl true ∨ y = .bl true := by
  unfold or3 at h
  split at h
  · assumption
  split at h
  · cases h
  · cases h
theorem ref_no {m : Nat} {xs : List V} (hr : RwOk xs) (hm : NonFrom m xs) : ∀ {e : Xp}, XOk e → XN e → refB m e = true → evX xs e ≠ .bl true := by
  have base : ∀ {e : Xp}, XOk e → XN e → noneB m e = true → evX xs e ≠ .bl true := fun ho hn h z => by rw [none_at hr hm ho hn h] at z; cases z
  intro e
  induction e with
  | col n => exact fun ho hn h => base ho hn h
  | cst v => exact fun ho hn h => base ho hn h
  | cho c a b _ _ _ => exact fun ho hn h => base ho hn h
  | un nm a ih =>
    intro ho hn h
    cases a with
    | col k =>
      have h2 : (if isS nm "not" = true then noneB m (.un nm (.col k)) else noneB m (.un nm (.col k))) = true := h
      rw [ite_self] at h2
      exact base ho hn h2
    | cst k =>
      have h2 : (if isS nm "not" = true then noneB m (.un nm (.cst k)) else noneB m (.un nm (.cst k))) = true := h
      rw [ite_self] at h2
      exact base ho hn h2
    | bin n2 x y =>
      have h2 : (if isS nm "not" = true then noneB m (.un nm (.bin n2 x y)) else noneB m (.un nm (.bin n2 x y))) = true := h
      rw [ite_self] at h2
      exact base ho hn h2
    | cho c x y =>
      have h2 : (if isS nm "not" = true then noneB m (.un nm (.cho c x y)) else noneB m (.un nm (.cho c x y))) = true := h
      rw [ite_self] at h2
      exact base ho hn h2
    | un nm2 x =>
      have h' : (if isS nm "not" = true then (if isS nm2 "is null" = true then noneB m x else noneB m (.un nm (.un nm2 x))) else noneB m (.un nm (.un nm2 x))) = true := h
      split at h'
      · rename_i hnm
        split at h'
        · rename_i hn2
          obtain rfl := isS_eq hnm
          obtain rfl := isS_eq hn2
          cases ho with | un _ _ oa =>
          cases oa with | un _ _ ox =>
          show neg3 (unV "is null" (evX xs x)) ≠ .bl true
          rw [none_at hr hm ox hn.2.2 h']
          decide +kernel
        · exact base ho hn h'
      · exact base ho hn h'
  | bin nm a b iha ihb =>
    intro ho hn h
    have h' : (if isS nm "and" = true then refB m a || (refB m b || noneB m (.bin nm a b)) else if isS nm "or" = true then refB m a && refB m b else noneB m (.bin nm a b)) = true := h
    cases ho with | bin _ _ _ oa ob =>
    split at h'
    · rename_i hnm
      rw [Bool.or_eq_true, Bool.or_eq_true] at h'
      rcases h' with h' | h' | h'
      · obtain rfl := isS_eq hnm
        intro z
        have z' : and3 (evX xs a) (evX xs b) = .bl true := z
        exact iha oa hn.2.1 h' (and3_t z').1
      · obtain rfl := isS_eq hnm
        intro z
        have z' : and3 (evX xs a) (evX xs b) = .bl true := z
        exact ihb ob hn.2.2 h' (and3_t z').2
      · exact base (.bin _ _ _ oa ob) hn h'
    · split at h'
      · rename_i hnm
        obtain rfl := isS_eq hnm
        rw [Bool.and_eq_true] at h'
        intro z
        have z' : or3 (evX xs a) (evX xs b) = .bl true := z
        rcases or3_t z' with z' | z'
        · exact iha oa hn.2.1 h'.1 z'
        · exact ihb ob hn.2.2 h'.2 z'
      · exact base (.bin _ _ _ oa ob) hn h'
def sp__law_holds (K : PySem.W.Frag) : Sp := fun vs H Q _ => ∃ (v : V) (e : Xp) (m : Nat) (p : Addr), vs = [v, .int (m : Int), .ref p] ∧ Dr p H ∧ Dp K H v e.d ∧ XOk e ∧ XN e ∧ e.dep ≤ 6 ∧ ∀ H', Ex (wo p H) H' → Dr p H' → Q (.bl true) H'
section
variable {K : PySem.W.Frag} {σ : L2.St} {H : Hp} {p : Addr} {ta tb te tn : TE} {t : TT} {R : V → Prop} {D : Ends} {tz : TS}
theorem e1_ifE {b : Bool} (h : EvT t σ (wo p H) b) (h1 : b = true → EvD1 ta σ p H R) (h2 : b = false → EvD1 tb σ p H R) : EvD1 (tIf t ta tb) σ p H R := fun H1 e d Q q => h H1 e _ fun H2 e2 => by
  cases b with
  | true =>
    show ta σ H2 Q
    exact h1 rfl H2 (e.trans e2) (d.ex e2) Q fun v H3 hv e3 d3 => q v H3 hv (wx_trans (wx_of e2) e3) d3
  | false =>
    show tb σ H2 Q
    exact h2 rfl H2 (e.trans e2) (d.ex e2) Q fun v H3 hv e3 d3 => q v H3 hv (wx_trans (wx_of e2) e3) d3
/-- [what is drawn for k in range(n)], a word for each place -/
theorem e1_lcI {R : Nat → V → Prop} {j : Nat} {vs : List Nat} {n : Nat} (hn : Ev tn σ (wo p H) (.int (n : Int))) (hm : n ≤ 10000) (hw : ∀ x, wipe ((wipe σ vs).set j (some x)) vs = wipe σ vs)
    (he : ∀ i : Nat, EvD1 te ((wipe σ vs).set j (some (.int (i : Int)))) p H (R i)) : EvLD1 (tLc (iRng1 (tCons tn tNil)) (gName j) tYes te vs) σ p H (fun xs => xs.length = n ∧ ∀ (i : Nat) x, xs[i]? = some x → R i x) := fun H0 e d Q q =>
  hn H0 e _ fun H1 e1 => by
    have d1 := d.ex e1
    refine ⟨(n : Int), rfl, by omega, by omega, fun Dl hD => ?_⟩
    have hpd : p ≠ Dl := dr_ne d1 hD
    refine lc_range (lo := 0) (n := ((n : Int)).toNat) (fun i H' => Ex (wo p H1) H' ∧ Dr p H' ∧ ∃ acc, H' Dl = some (.lst acc) ∧ acc.length = i ∧ ∀ (k : Nat) x, acc[k]? = some x → R k x) ⟨Ex.mut (wo_le p H1) (by rw [wo_ne (Ne.symm hpd)]; exact hD), d1.upd hpd, [], upd_same, rfl, fun k x hx => by simp at hx⟩ (fun i H' hi pv => ?_) (fun H' pv => ?_)
    · obtain ⟨p1, p2, acc, p3, p4, p5⟩ := pv
      have e0 : (0 : Int) + (i : Int) = (i : Int) := Int.zero_add _
      show wipe ((wipe σ vs).set j (some (.int ((0 : Int) + (i : Int))))) vs = wipe σ vs ∧ te ((wipe σ vs).set j (some (.int ((0 : Int) + (i : Int))))) H' fun y H4 => ∃ acc, H4 Dl = some (.lst acc) ∧ acc.length < sizeLine ∧ _
      rw [e0]
      refine ⟨hw _, he i H' (wx_trans e (wx_trans (wx_of e1) p1)) p2 _ fun y H4 hy e4 d4 => ?_⟩
      refine ⟨acc, e4 Dl _ (by rw [wo_ne (Ne.symm hpd)]; exact p3), sz_lt (by omega), Ex.mut (wx_trans p1 e4) (by rw [wo_ne (Ne.symm hpd)]; exact hD), d4.upd hpd, acc ++ [y], upd_same, by rw [List.length_append, p4]; rfl, fun k x hx => ?_⟩
      rw [List.getElem?_append] at hx
      split at hx
      · exact p5 k x hx
      · rename_i hk
        obtain ⟨hk2, hk3⟩ := List.getElem?_eq_some_iff.mp hx
        have hk0 : k - acc.length = 0 := by simp at hk2; omega
        rw [show k = i by omega, ← hk3]
        simp only [hk0]
        exact hy
    · obtain ⟨p1, p2, acc, p3, p4, p5⟩ := pv
      exact q Dl H' acc ⟨by rw [p4]; exact Int.toNat_natCast n, p5⟩ (fresh_back e1 hD) (wx_trans (wx_of e1) p1) p2 p3
theorem q1_asgL {i : Nat} {P : List V → Prop} (h : EvLD1 te σ p H P) (d : Dr p H) (k : ∀ l H1 xs, P xs → H l = none → Ex (wo p H) H1 → Dr p H1 → H1 l = some (.lst xs) → tz D (σ.set i (some (.ref l))) H1) : tSeq (tAsg te (gName i)) tz D σ H := h H (wo_le p H) d _ fun l H1 xs hP hl e d1 h1 => k l H1 xs hP hl e d1 h1
end
section
variable {P : Program} {w : World} {K : PySem.W.Frag} {mg : Str → Option Value} {base : Heap}
theorem ok__law_holds (D : Dn K mg "_law_holds" s__law_holds ["condition", "m", "state"]) (c__law_value : C8.Cal P w K mg base 3 "_law_value" (sp__law_value K) []) (c_evaluate : C8.Cal P w K mg base 13 "evaluate" (sp_evaluate K) []) (c_holds : C8.Cal P w K mg base 14 "holds" (sp_holds K) []) (c_none_from : C8.Cal P w K mg base 9 "none_from" (sp_none_from K) []) (c_refuses : C8.Cal P w K mg base 18 "refuses" (sp_refuses K) []) (z_range : mg "range" = none) :
    C8.Cal P w K mg base 19 "_law_holds" (sp__law_holds K) [] := by
  refine cal_of D sc__law_holds (fun vs H Q E h => ?_) (fun f cdv A outer s H vs Q E hr h => ?_)
  · obtain ⟨_, _, _, _, rfl, _⟩ := h
    rfl
  refine ⟨_, (pss_cons (ps_for PassesOwn.never rfl (pi_range1 rfl z_range (pa_cons pe_int pa_nil)) (pg_name (i := 3) sc__law_holds.nd rfl (.inl rfl))
      (pss_cons (ps_setLc (i := 4) (own := [("j", 5)]) (g := gName 5) (tt := tYes) rfl sc__law_holds.nd rfl rfl (sw_true rfl rfl rfl (by decide +kernel)) (pi_range1 rfl z_range (pa_cons pe_int pa_nil)) (blkOk_by (N := n__law_holds) (sc := C8.fnScope s__law_holds) (by decide +kernel)) (fun _ _ _ _ _ => pg_name (i := 5) sc__law_holds.nd rfl (Or.inl rfl)) (fun _ _ _ _ _ => pts_nil) (fun _ _ _ _ _ => (pe_ifExp (pt_cmpR op_lt (pv 5) (pv 1) (nomark _)) (C8.pe_c c__law_value hr (by decide) (by rfl) (pa_cons (pv 2) pa_nil)) pe_non)))
    (pss_cons (ps_if (PW.pt (pw_and (pt_val (C8.pe_c c_none_from hr (by decide) (by rfl) (pa_cons (pv 0) (pa_cons (pv 1) pa_nil)))) (pw_and1 (pt_cmpR op_notN (C8.pe_c c_evaluate hr (by decide) (by rfl) (pa_cons (pv 0) (pa_cons (pv 4) pa_nil))) pe_non (nomark _)))))
      (pss_one (ps_ret pe_bl))
      pss_nil)
    (pss_one (ps_if (PW.pt (pw_and (pt_val (C8.pe_c c_refuses hr (by decide) (by rfl) (pa_cons (pv 0) (pa_cons (pv 1) pa_nil)))) (pw_and1 (pt_val (C8.pe_c c_holds hr (by decide) (by rfl) (pa_cons (pv 0) (pa_cons (pv 4) pa_nil)))))))
      (pss_one (ps_ret pe_bl))
      pss_nil)))))
    (pss_one (ps_ret pe_bl))), ?_⟩
  obtain ⟨v, e, m, p, rfl, dr, hd, ho, hN, hdep, q⟩ := h
  have hn := noL_xp e
  refine q_forR1 (n := 4) (ea_cons ev_c ea_nil) ⟨by decide, by decide⟩ (fun i σ' H' => ∃ kv rv : Option V, σ' = [some v, some (.int (m : Int)), some (.ref p), kv, rv, none] ∧ Ex (wo p H) H' ∧ Dr p H') (fun H1 e1 => ⟨none, none, rfl, wx_of e1, dr.ex e1⟩) (fun i σ' Ho hi pv => ?_) fun σ' H' pv => ?_
  · obtain ⟨kv, rv, rfl, eo, do_⟩ := pv
    have hdo := dp_wx hd hn dr eo
    refine q1_asgL (e1_lcI (n := 4) (R := fun i x => DV x ∧ (m ≤ i → x = .non)) ev_c (by decide) (fun _ => rfl) fun j => e1_ifE (b := decide ((j : Int) < (m : Int))) (et_test (ev_op (ev_var rfl) (ev_var rfl) rv_I0)) (fun hb => e1_mono (e1_value (ev_var rfl)) fun x hx => ⟨hx, fun hm => ?_⟩) fun hb => e1_pure ev_c ⟨.non, fun _ => rfl⟩) do_ fun l H1 xs hP hl e1 d1 h1 => ?_
    · have := of_decide_eq_true hb
      omega
    obtain ⟨hxl, hx⟩ := hP
    have hd1 := dp_wx hdo hn do_ e1
    have hrw : RwOk xs := fun x hxm => by
      obtain ⟨j, hj⟩ := List.getElem?_of_mem hxm
      exact dv_vok (hx j x hj).1
    have hnf : NonFrom m xs := fun n hmn => by
      rw [List.getD_eq_getElem?_getD]
      cases hxn : xs[n]? with
      | none => rfl
      | some x => exact (hx n x hxn).2 hmn
    have hlen : xs.length ≤ 1000 := by omega
    refine q_when (b := noneB m e && !decide (evX xs e = .non)) (et_and (et_B (ec_none (ev_var rfl) (ev_var rfl) hd1 ho hN (by omega))) fun _ => et_test (ev_op (ec_eval (ev_var rfl) (ev_var rfl) ⟨hd1, ho⟩ hN hdep (sq_of h1) hrw hlen) ev_c rv_notN)) (fun hb => ?_) fun _ H2 e2 => ?_
    · exfalso
      rw [Bool.and_eq_true] at hb
      rw [none_at hrw hnf ho hN hb.1] at hb
      exact absurd hb.2 (by decide)
    have hd2 := ex_dp e2 hd1
    refine s_when (b := refB m e && decide (evX xs e = .bl true)) (et_and (et_B (ec_refR (n := 7) (ev_var rfl) (ev_var rfl) hd2 ho hN (by omega) (by omega))) fun _ => et_B (ec_holds (ev_var rfl) (ev_var rfl) ⟨hd2, ho⟩ hN hdep (sq_of (e2 _ _ h1)) hrw hlen)) (fun hb => ?_) fun _ H3 e3 => ⟨_, _, rfl, wx_trans eo (wx_trans e1 (wx_of (e2.trans e3))), d1.ex (e2.trans e3)⟩
    exfalso
    rw [Bool.and_eq_true] at hb
    exact ref_no hrw hnf ho hN hb.1 (of_decide_eq_true hb.2)
  · obtain ⟨kv, rv, rfl, eo, do_⟩ := pv
    exact s_ret ev_c fun H2 e2 => q H2 (wx_trans eo (wx_of e2)) (do_.ex e2)
end
def Bd (B D : Nat) (d : PyData) : Prop := bgOk d = true ∧ bgB d ≤ B ∧ d.depth ≤ D
def Bds (B D : Nat) (ds : List PyData) : Prop := bgOks ds = true ∧ bgBs ds ≤ B ∧ PyData.depthAll ds ≤ D
theorem Bd.tup {B D : Nat} {ds : List PyData} (h : Bds B D ds) : Bd (4 + B) (D + 1) (.tuple ds) := ⟨h.1, Nat.add_le_add_left h.2.1 4, Nat.succ_le_succ h.2.2⟩
theorem Bd.lst {B D : Nat} {ds : List PyData} (h : Bds B D ds) : Bd (4 + B) (D + 1) (.list ds) := ⟨h.1, Nat.add_le_add_left h.2.1 4, Nat.succ_le_succ h.2.2⟩
theorem Bds.nil {D : Nat} : Bds 0 D [] := ⟨rfl, Nat.le_refl _, by simp [PyData.depthAll]⟩
theorem Bds.cons {B B' D : Nat} {d : PyData} {ds : List PyData} (h : Bd B D d) (t : Bds B' D ds) : Bds (B + 2 + B') D (d :: ds) := ⟨by show (bgOk d && bgOks ds) = true; rw [h.1, t.1]; rfl, by show bgB d + 2 + bgBs ds ≤ _; have := h.2.1; have := t.2.1; omega, by show max d.depth (PyData.depthAll ds) ≤ D; have := h.2.2; have := t.2.2; omega⟩
theorem Bd.mono {B B' D D' : Nat} {d : PyData} (h : Bd B D d) (h1 : B ≤ B') (h2 : D ≤ D') : Bd B' D' d := ⟨h.1, Nat.le_trans h.2.1 h1, Nat.le_trans h.2.2 h2⟩
theorem Bds.mono {B B' D D' : Nat} {d : List PyData} (h : Bds B D d) (h1 : B ≤ B') (h2 : D ≤ D') : Bds B' D' d := ⟨h.1, Nat.le_trans h.2.1 h1, Nat.le_trans h.2.2 h2⟩
theorem Bd.str {s : Str} {D : Nat} (h : PyData.strOk s = true) (hl : s.length ≤ 10) : Bd 102 D (.str s) := ⟨h, by show 10 * s.length + 2 ≤ 102; omega, by simp [PyData.depth]⟩
theorem Bd.int {i : Int} {D : Nat} (h : i.natAbs < 2 ^ 60) : Bd 13000 D (.int i) := ⟨decide_eq_true (Nat.lt_of_lt_of_le (PySem.Flt.log2_lt_of (by decide) h) (by decide)), Nat.le_refl _, by simp [PyData.depth]⟩
theorem bd_dv {v : V} {D : Nat} (h : DV v) : Bd 13000 D (vD v) := by
  cases h with
  | non => exact ⟨rfl, Nat.le_refl _, by simp [vD, PyData.depth]⟩
  | bl b => exact ⟨rfl, Nat.le_refl _, by simp [vD, PyData.depth]⟩
  | int i hi => exact Bd.int (by omega)
  | str l hl hc => exact Bd.mono (Bd.str (D := D) (strOk_S fun c h => signs_ok c (hc c h)) (by rw [SX.S_len]; omega)) (by decide) (Nat.le_refl _)
theorem bd_unL {nm : Str} {D : Nat} (h : nm ∈ unL) : Bd 102 D (.str nm) := by
  simp only [unL, List.mem_cons, List.not_mem_nil, or_false] at h
  rcases h with rfl | rfl | rfl | rfl | rfl | rfl | rfl | rfl | rfl <;> exact Bd.str (by decide +kernel) (by decide +kernel)
theorem bd_binL {nm : Str} {D : Nat} (h : nm ∈ binL) : Bd 102 D (.str nm) := by
  simp only [binL, List.mem_cons, List.not_mem_nil, or_false] at h
  rcases h with rfl | rfl | rfl | rfl | rfl | rfl | rfl | rfl | rfl | rfl | rfl | rfl <;> exact Bd.str (by decide +kernel) (by decide +kernel)
theorem bd_xp : ∀ {e : Xp}, XOk e → XN e → XC e → Bd (13400 * e.sz) (e.dep + 1) e.d
  | .col n, .col _, _, hn => Bd.mono (Bd.tup (D := 1) (Bds.cons (Bd.str (s := "column") (by decide +kernel) (by decide +kernel)) (Bds.cons (Bd.int (by have : n < 1000 := hn; omega)) Bds.nil))) (by show _ ≤ 13400 * 1; decide) (Nat.le_refl _)
  | .cst v, .cst _ hv, _, _ => Bd.mono (Bd.tup (D := 1) (Bds.cons (Bd.str (s := "constant") (by decide +kernel) (by decide +kernel)) (Bds.cons (bd_dv hv) Bds.nil))) (by show _ ≤ 13400 * 1; decide) (Nat.le_refl _)
  | .un nm a, .un _ _ oa, ⟨hn, ha⟩, hc => by
    have ih := bd_xp oa ha hc
    refine Bd.mono (Bd.tup (D := a.dep + 1) (Bds.cons (Bd.str (s := "unary") (by decide +kernel) (by decide +kernel)) (Bds.cons (bd_unL hn) (Bds.cons ih Bds.nil)))) ?_ (Nat.le_refl _)
    show _ ≤ 13400 * (a.sz + 1)
    omega
  | .bin nm a b, .bin _ _ _ oa ob, ⟨hn, ha, hb⟩, ⟨ca, cb⟩ => by
    have iha := bd_xp oa ha ca
    have ihb := bd_xp ob hb cb
    refine Bd.mono (Bd.tup (D := max a.dep b.dep + 1) (Bds.cons (Bd.str (s := "binary") (by decide +kernel) (by decide +kernel)) (Bds.cons (bd_binL hn) (Bds.cons (iha.mono (Nat.le_refl _) (by omega)) (Bds.cons (ihb.mono (Nat.le_refl _) (by omega)) Bds.nil))))) ?_ (Nat.le_refl _)
    show _ ≤ 13400 * (a.sz + b.sz + 1)
    omega
  | .cho c a b, .cho _ _ _ oc oa ob, ⟨hc, ha, hb⟩, ⟨cc, ca, cb⟩ => by
    have ihc := bd_xp oc hc cc
    have iha := bd_xp oa ha ca
    have ihb := bd_xp ob hb cb
    refine Bd.mono (Bd.tup (D := max c.dep (max a.dep b.dep) + 1) (Bds.cons (Bd.str (s := "choice") (by decide +kernel) (by decide +kernel)) (Bds.cons (ihc.mono (Nat.le_refl _) (by omega)) (Bds.cons (iha.mono (Nat.le_refl _) (by omega)) (Bds.cons (ihb.mono (Nat.le_refl _) (by omega)) Bds.nil))))) ?_ (Nat.le_refl _)
    show _ ≤ 13400 * (c.sz + a.sz + b.sz + 1)
    omega
/-- a condition that may be shown -/
def XG (e : Xp) : Prop := XOk e ∧ XN e ∧ XC e
theorem XG.bin {a b : Xp} (h1 : XG a) (h2 : XG b) : XG (.bin "and" a b) := ⟨.bin _ _ _ h1.1 h2.1, ⟨by decide +kernel, h1.2.1, h2.2.1⟩, h1.2.2, h2.2.2⟩
theorem cparts_g : ∀ {e : Xp}, XG e → ∀ c ∈ cparts e, XG c
  | .col n, h, c, hc => by rw [List.mem_singleton.mp hc]; exact h
  | .cst v, h, c, hc => by rw [List.mem_singleton.mp hc]; exact h
  | .un nm a, h, c, hc => by rw [List.mem_singleton.mp hc]; exact h
  | .cho x a b, h, c, hc => by rw [List.mem_singleton.mp hc]; exact h
  | .bin nm a b, ⟨.bin _ _ _ oa ob, ⟨hn, ha, hb⟩, ca, cb⟩, c, hc => by
    unfold cparts at hc
    split at hc
    · rcases List.mem_append.mp hc with h | h
      · exact cparts_g ⟨oa, ha, ca⟩ c h
      · exact cparts_g ⟨ob, hb, cb⟩ c h
    · rw [List.mem_singleton.mp hc]
      exact ⟨.bin _ _ _ oa ob, ⟨hn, ha, hb⟩, ca, cb⟩
theorem cparts_sum : ∀ e : Xp, ((cparts e).map Xp.sz).sum ≤ e.sz
  | .col _ => by simp [cparts]
  | .cst _ => by simp [cparts]
  | .un _ _ => by simp [cparts]
  | .cho _ _ _ => by simp [cparts]
  | .bin nm a b => by
    have h1 := cparts_sum a
    have h2 := cparts_sum b
    unfold cparts
    split
    · rw [List.map_append, List.sum_append]
      show _ ≤ a.sz + b.sz + 1
      omega
    · simp
theorem cparts_dep : ∀ (e : Xp), ∀ c ∈ cparts e, c.dep ≤ e.dep
  | .col _, c, hc => by rw [List.mem_singleton.mp hc]; exact Nat.le_refl _
  | .cst _, c, hc => by rw [List.mem_singleton.mp hc]; exact Nat.le_refl _
  | .un _ _, c, hc => by rw [List.mem_singleton.mp hc]; exact Nat.le_refl _
  | .cho _ _ _, c, hc => by rw [List.mem_singleton.mp hc]; exact Nat.le_refl _
  | .bin nm a b, c, hc => by
    unfold cparts at hc
    split at hc
    · show c.dep ≤ max a.dep b.dep + 1
      rcases List.mem_append.mp hc with h | h
      · have := cparts_dep a c h; omega
      · have := cparts_dep b c h; omega
    · rw [List.mem_singleton.mp hc]
      exact Nat.le_refl _
theorem joined_g : ∀ (n : Nat) (es : List Xp), (∀ e ∈ es, XG e) → XG (joined n es)
  | 0, _, _ => ⟨.cst _ (.bl true), trivial, trivial⟩
  | _ + 1, [], _ => ⟨.cst _ (.bl true), trivial, trivial⟩
  | _ + 1, [x], h => h x (List.mem_cons_self ..)
  | n + 1, x :: y :: r, h => XG.bin (joined_g n _ fun e he => h e (List.mem_of_mem_take he)) (joined_g n _ fun e he => h e (List.mem_of_mem_drop he))
theorem joined_sz1 : ∀ (n : Nat) (es : List Xp), es ≠ [] → (joined n es).sz + 1 ≤ (es.map Xp.sz).sum + es.length
  | _, [], h => absurd rfl h
  | 0, x :: r, _ => by
    have := sz_pos x
    show 1 + 1 ≤ _
    simp only [List.map_cons, List.sum_cons, List.length_cons]
    omega
  | _ + 1, [x], _ => by show x.sz + 1 ≤ _; simp only [List.map_cons, List.map_nil, List.sum_cons, List.sum_nil, List.length_cons, List.length_nil]; omega
  | n + 1, x :: y :: r, _ => by
    have hlen : (x :: y :: r).length = r.length + 2 := rfl
    generalize hes : x :: y :: r = es at hlen
    have hj : joined (n + 1) es = .bin "and" (joined n (es.take (es.length / 2))) (joined n (es.drop (es.length / 2))) := by rw [← hes]; rfl
    have h1 := joined_sz1 n (es.take (es.length / 2)) fun h => by
      have := congrArg List.length h
      rw [List.length_take, List.length_nil] at this
      omega
    have h2 := joined_sz1 n (es.drop (es.length / 2)) fun h => by
      have := congrArg List.length h
      rw [List.length_drop, List.length_nil] at this
      omega
    have hsum : (es.map Xp.sz).sum = ((es.take (es.length / 2)).map Xp.sz).sum + ((es.drop (es.length / 2)).map Xp.sz).sum := by rw [← List.sum_append, ← List.map_append, List.take_append_drop]
    rw [List.length_take] at h1
    rw [List.length_drop] at h2
    rw [hj]
    show (joined n (es.take (es.length / 2))).sz + (joined n (es.drop (es.length / 2))).sz + 1 + 1 ≤ _
    omega
theorem joined_sz (n : Nat) (es : List Xp) : (joined n es).sz ≤ (es.map Xp.sz).sum + es.length + 1 := by
  cases es with
  | nil => cases n <;> exact Nat.le_refl _
  | cons x r =>
    have := joined_sz1 n (x :: r) (fun h => nomatch h)
    omega
theorem joined_dep {D : Nat} (hD : 1 ≤ D) : ∀ (n : Nat) (es : List Xp), (∀ e ∈ es, e.dep ≤ D) → (joined n es).dep ≤ D + n
  | 0, _, _ => by show 1 ≤ _; omega
  | _ + 1, [], _ => by show 1 ≤ _; omega
  | _ + 1, [x], h => by have := h x (List.mem_cons_self ..); show x.dep ≤ _; omega
  | n + 1, x :: y :: r, h => by
    have h1 := joined_dep hD n ((x :: y :: r).take ((x :: y :: r).length / 2)) fun e he => h e (List.mem_of_mem_take he)
    have h2 := joined_dep hD n ((x :: y :: r).drop ((x :: y :: r).length / 2)) fun e he => h e (List.mem_of_mem_drop he)
    show max _ _ + 1 ≤ _
    omega
theorem bds_all {D : Nat} : ∀ L : List Xp, (∀ e ∈ L, XG e ∧ e.dep ≤ D) → Bds (13402 * (L.map Xp.sz).sum) (D + 1) (L.map Xp.d)
  | [], _ => Bds.nil
  | c :: L, h => by
    have ih := bds_all L fun c hc => h c (List.mem_cons_of_mem _ hc)
    obtain ⟨hg, hd⟩ := h c (List.mem_cons_self ..)
    have hp := sz_pos c
    rw [List.map_cons, List.map_cons, List.sum_cons]
    exact Bds.mono (Bds.cons ((bd_xp hg.1 hg.2.1 hg.2.2).mono (Nat.le_refl _) (by omega)) ih) (by omega) (Nat.le_refl _)
theorem ev_shownZ {K : PySem.W.Frag} {σ : L2.St} {H : Hp} {ta : TE} {d : PyData} (ha : EvD K ta σ H d) (hr : ∀ v H1, Dp K H1 v d → ∃ a, v = .ref a) (h : Bd 10000000 60 d) : Ev (tCB (rReprN K) (tCons ta tNil)) σ H (.str d.shown) := fun H1 e Q q =>
  ha H1 e _ fun v H2 e2 hd => by
    obtain ⟨a, rfl⟩ := hr v H2 hd
    exact .inl ⟨a, d, rfl, hd, h.1, h.2.2, Nat.le_trans (bg_le d h.1) (Nat.le_trans h.2.1 (by decide)), q H2 e2⟩
theorem bd_join {es : List Xp} (h : ∀ e ∈ es, XG e ∧ e.dep ≤ 8) (hs : (es.map Xp.sz).sum + es.length ≤ 600) : Bd 10000000 60 (joined 8 es).d := by
  have hg := joined_g 8 es fun e he => (h e he).1
  have hz := joined_sz 8 es
  have hd := joined_dep (D := 8) (by decide) 8 es fun e he => (h e he).2
  exact (bd_xp hg.1 hg.2.1 hg.2.2).mono (by omega) (by omega)
theorem bd_parts {e : Xp} (hg : XG e) (hd : e.dep ≤ 8) (hz : e.sz ≤ 60) : Bd 10000000 60 (.list ((cparts e).map Xp.d)) :=
  (Bd.lst (bds_all (D := 8) (cparts e) fun c hc => ⟨cparts_g hg c hc, Nat.le_trans (cparts_dep e c hc) hd⟩)).mono (by have := cparts_sum e; omega) (by decide)
theorem dp_refX {K : PySem.W.Frag} {H : Hp} {v : V} {e : Xp} (h : Dp K H v e.d) : ∃ a, v = .ref a := by
  obtain ⟨b, us, ys, rfl, _⟩ := xx_view h
  exact ⟨b, rfl⟩
theorem dp_lstD {K : PySem.W.Frag} {H : Hp} {v : V} {ds : List PyData} (h : Dp K H v (.list ds)) : ∃ a, v = .ref a := by
  cases h with
  | lst hS hd => exact ⟨_, rfl⟩
theorem XD.mono {n s n' s' : Nat} {d : PyData} (h : XD n s d) (h1 : n ≤ n') (h2 : s ≤ s') : XD n' s' d := by
  obtain ⟨e, rfl, a, b, ⟨c, f⟩, g⟩ := h
  exact ⟨e, rfl, a, b, ⟨c, Nat.le_trans f h2⟩, Nat.le_trans g h1⟩
theorem noLs_snoc : ∀ {ds : List PyData} {d : PyData}, noLs ds = true → noL d = true → noLs (ds ++ [d]) = true
  | [], d, _, h => by
    show (noL d && true) = true
    rw [h]
    rfl
  | a :: r, d, n, h => by
    have n' : (noL a && noLs r) = true := n
    rw [Bool.and_eq_true] at n'
    show (noL a && noLs (r ++ [d])) = true
    rw [n'.1, noLs_snoc n'.2 h]
    rfl
theorem noLs_xp : ∀ es : List Xp, noLs (es.map Xp.d) = true
  | [] => rfl
  | e :: r => by
    show (noL e.d && noLs (r.map Xp.d)) = true
    rw [noL_xp e, noLs_xp r]
    rfl
theorem xs_of {n s : Nat} : ∀ {ds : List PyData}, (∀ d ∈ ds, XD n s d) → ∃ es : List Xp, ds = es.map Xp.d ∧ ∀ e ∈ es, XG e ∧ e.sz ≤ s ∧ e.dep ≤ n
  | [], _ => ⟨[], rfl, fun e h => nomatch h⟩
  | d :: r, h => by
    obtain ⟨e, rfl, a, b, ⟨c, f⟩, g⟩ := h d (List.mem_cons_self ..)
    obtain ⟨es, rfl, h2⟩ := xs_of fun d hd => h d (List.mem_cons_of_mem _ hd)
    refine ⟨e :: es, rfl, fun x hx => ?_⟩
    rcases List.mem_cons.mp hx with rfl | hx
    · exact ⟨⟨a, b, c⟩, f, g⟩
    · exact h2 x hx
theorem set_id {σ : L2.St} {i : Nat} {x : Option V} (h : σ[i]? = some x) : σ.set i x = σ := by
  obtain ⟨hi, he⟩ := List.getElem?_eq_some_iff.mp h
  rw [← he]
  exact List.set_getElem_self hi
theorem dps_rep {K : PySem.W.Frag} {H : Hp} {ws : List V} {ds : List PyData} (h : DpAll K H ws ds) : ∀ k : Nat, DpAll K H (List.replicate k ws).flatten (List.replicate k ds).flatten
  | 0 => .nil
  | k + 1 => by
    rw [List.replicate_succ, List.replicate_succ, List.flatten_cons, List.flatten_cons]
    exact dps_app h (dps_rep h k)
theorem map_rep (es : List Xp) (k : Nat) : (List.replicate k (es.map Xp.d)).flatten = (List.replicate k es).flatten.map Xp.d := by
  induction k with
  | zero => rfl
  | succ k ih => rw [List.replicate_succ, List.replicate_succ, List.flatten_cons, List.flatten_cons, List.map_append, ih]
theorem len_rep {α : Type} (es : List α) (k : Nat) : (List.replicate k es).flatten.length = k * es.length := by
  induction k with
  | zero => simp
  | succ k ih => rw [List.replicate_succ, List.flatten_cons, List.length_append, ih, Nat.succ_mul, Nat.add_comm]
theorem mem_rep {α : Type} {es : List α} {k : Nat} {x : α} (h : x ∈ (List.replicate k es).flatten) : x ∈ es := by
  obtain ⟨l, hl, hx⟩ := List.mem_flatten.mp h
  rw [(List.mem_replicate.mp hl).2] at hx
  exact hx
theorem sum_40 : ∀ L : List Xp, (∀ e ∈ L, e.sz ≤ 40) → (L.map Xp.sz).sum ≤ 40 * L.length
  | [], _ => Nat.le_refl _
  | e :: r, h => by
    have h1 := h e (List.mem_cons_self ..)
    have h2 := sum_40 r fun e he => h e (List.mem_cons_of_mem _ he)
    rw [List.map_cons, List.sum_cons, List.length_cons]
    omega
theorem due_only (us : List Nat) (l m : Nat) : decide (V.int (((given us.length (fun i => decide (((us.getD i 0 : Nat) : Int) < (l : Int)) || decide (((us.getD i 0 : Nat) : Int) ≥ (m : Int))) fun i => V.int ((us.getD i 0 : Nat) : Int)).length : Nat) : Int) = V.int 0) = us.all fun n => decide (l ≤ n) && decide (n < m) := by
  rw [Bool.eq_iff_iff, decide_eq_true_eq, List.all_eq_true]
  unfold given
  rw [List.length_map]
  constructor
  · intro h n hn
    have h0 : ((List.range us.length).filter fun i => decide (((us.getD i 0 : Nat) : Int) < (l : Int)) || decide (((us.getD i 0 : Nat) : Int) ≥ (m : Int))).length = 0 := by
      have := V.int.inj h
      omega
    have h1 := List.filter_eq_nil_iff.mp (List.eq_nil_of_length_eq_zero h0)
    obtain ⟨i, hi⟩ := List.getElem?_of_mem hn
    obtain ⟨hi2, _⟩ := List.getElem?_eq_some_iff.mp hi
    have h2 := h1 i (List.mem_range.mpr hi2)
    rw [List.getD_eq_getElem?_getD, hi] at h2
    simp only [Option.getD_some, Bool.or_eq_true, decide_eq_true_eq] at h2
    rw [Bool.and_eq_true, decide_eq_true_eq, decide_eq_true_eq]
    omega
  · intro h
    have h1 : ((List.range us.length).filter fun i => decide (((us.getD i 0 : Nat) : Int) < (l : Int)) || decide (((us.getD i 0 : Nat) : Int) ≥ (m : Int))) = [] := by
      refine List.filter_eq_nil_iff.mpr fun i hi => ?_
      have hi2 := List.mem_range.mp hi
      have h3 := h us[i] (List.getElem_mem hi2)
      rw [Bool.and_eq_true, decide_eq_true_eq, decide_eq_true_eq] at h3
      rw [List.getD_eq_getElem?_getD, List.getElem?_eq_getElem hi2]
      simp only [Option.getD_some, Bool.or_eq_true, decide_eq_true_eq]
      omega
    rw [h1]
    rfl
section
variable {K : PySem.W.Frag} {σ : L2.St} {H G : Hp} {p : Addr} {ta tb tc te tn : TE} {t : TT} {tu tz : TS} {D : Ends} {E : XK} {P : PyData → Prop}
theorem x_expD {dm wd : Nat} (ha : Ev ta σ (wo p H) (.ref p)) (hb : Ev tb σ (wo p H) (.int (wd : Int))) (hc : EvD1 tc σ p H (ZP fun d => 0 ≤ d ∧ d ≤ (dm : Int))) (h0 : 0 < wd) (h1 : wd ≤ 1000) (h2 : dm ≤ 4) :
    EvX K (tCall (sp__law_expression K) [] E (tCons ta (tCons tb (tCons tc tNil)))) σ p H (XD (dm + 1) (szE dm)) := fun H1 e d Q q =>
  ha H1 e _ fun H2 e2 => hb H2 (e.trans e2) _ fun H3 e3 => hc H3 ((e.trans e2).trans e3) (d.ex (e2.trans e3)) _ fun v H4 hv e4 d4 => by
    obtain ⟨i, rfl, hi⟩ := hv
    obtain ⟨j, rfl⟩ := Int.eq_ofNat_of_zero_le hi.1
    have hj : j ≤ dm := by omega
    exact ⟨p, wd, j, rfl, d4, h0, h1, Nat.le_trans hj h2, fun v H5 dd hx n hv e5 d5 => q v H5 dd (hx.mono (by omega) (szE_mono (by omega))) n hv (wx_trans (wx_of (e2.trans e3)) (wx_trans e4 e5)) d5⟩
/-- [what is drawn as data for j in range(n)] -/
def EvXL (K : PySem.W.Frag) (te : TE) (σ : L2.St) (p : Addr) (H : Hp) (P : PyData → Prop) (n : Nat) : Prop := ∀ H0, Ex (wo p H) H0 → Dr p H0 → ∀ Q : VK,
  (∀ l H2 ys ds, H0 l = none → Ex (wo p H0) H2 → Dr p H2 → H2 l = some (.lst ys) → DpAll K H2 ys ds → noLs ds = true → ds.length = n → (∀ d ∈ ds, P d) → Q (.ref l) H2) → te σ H0 Q
theorem x_lcX {j : Nat} {vs : List Nat} {n : Nat} (hn : Ev tn σ (wo p H) (.int (n : Int))) (hm : n ≤ 10000) (hw : ∀ x, wipe ((wipe σ vs).set j (some x)) vs = wipe σ vs)
    (he : ∀ i : Nat, EvX K te ((wipe σ vs).set j (some (.int (i : Int)))) p H P) : EvXL K (tLc (iRng1 (tCons tn tNil)) (gName j) tYes te vs) σ p H P n := fun H0 e d Q q =>
  hn H0 e _ fun H1 e1 => by
    have d1 := d.ex e1
    refine ⟨(n : Int), rfl, by omega, by omega, fun Dl hD => ?_⟩
    have hpd : p ≠ Dl := dr_ne d1 hD
    refine lc_range (lo := 0) (n := ((n : Int)).toNat) (fun i H' => Ex (wo p H1) H' ∧ Dr p H' ∧ ∃ (ys : List V) (ds : List PyData), H' Dl = some (.lst ys) ∧ DpAll K H' ys ds ∧ noLs ds = true ∧ ds.length = i ∧ ∀ d ∈ ds, P d) ⟨Ex.mut (wo_le p H1) (by rw [wo_ne (Ne.symm hpd)]; exact hD), d1.upd hpd, [], [], upd_same, .nil, rfl, rfl, fun d h => nomatch h⟩ (fun i H' hi pv => ?_) (fun H' pv => ?_)
    · obtain ⟨p1, p2, ys, ds, p3, p4, p5, p6, p7⟩ := pv
      have e0 : (0 : Int) + (i : Int) = (i : Int) := Int.zero_add _
      show wipe ((wipe σ vs).set j (some (.int ((0 : Int) + (i : Int))))) vs = wipe σ vs ∧ te ((wipe σ vs).set j (some (.int ((0 : Int) + (i : Int))))) H' fun y H4 => ∃ acc, H4 Dl = some (.lst acc) ∧ acc.length < sizeLine ∧ _
      rw [e0]
      refine ⟨hw _, he i H' (wx_trans e (wx_trans (wx_of e1) p1)) p2 _ fun y H4 dd hd hno hy e4 d4 => ?_⟩
      have hl : H4 Dl = some (.lst ys) := e4 Dl _ (by rw [wo_ne (Ne.symm hpd)]; exact p3)
      have hno2 : noLs (ds ++ [dd]) = true := noLs_snoc p5 hno
      refine ⟨ys, hl, sz_lt (by rw [dps_len p4]; omega), Ex.mut (wx_trans p1 e4) (by rw [wo_ne (Ne.symm hpd)]; exact hD), d4.upd hpd, ys ++ [y], ds ++ [dd], upd_same, dps_upd hl hno2 (dps_snoc (dps_wx p4 p5 p2 e4) hy), hno2, by rw [List.length_append, p6]; rfl, fun d hd' => ?_⟩
      rcases List.mem_append.mp hd' with h | h
      · exact p7 d h
      · rw [List.mem_singleton.mp h]
        exact hd
    · obtain ⟨p1, p2, ys, ds, p3, p4, p5, p6, p7⟩ := pv
      exact q Dl H' ys ds (fresh_back e1 hD) (wx_trans (wx_of e1) p1) p2 p3 p4 p5 (by rw [p6]; exact Int.toNat_natCast n) p7
theorem qx_lc {i : Nat} {n : Nat} (h : EvXL K te σ p H P n) (d : Dr p H)
    (k : ∀ l H2 ys ds, H l = none → Ex (wo p H) H2 → Dr p H2 → H2 l = some (.lst ys) → DpAll K H2 ys ds → noLs ds = true → ds.length = n → (∀ d ∈ ds, P d) → tz D (σ.set i (some (.ref l))) H2) : tSeq (tAsg te (gName i)) tz D σ H :=
  h H (wo_le p H) d _ fun l H2 ys ds a b c e f g h m => k l H2 ys ds a b c e f g h m
/-- if something drawn: x = something drawn -/
theorem qx_ifAsg {i : Nat} {v : V} {d : PyData} (ht : EvDT t σ p H (fun _ => True)) (h0 : σ[i]? = some (some v)) (hd : Dp K H v d) (hP : P d) (hn : noL d = true) (dr : Dr p H) (he : EvX K te σ p H P)
    (k : ∀ v' H1 d', P d' → noL d' = true → Dp K H1 v' d' → Ex (wo p H) H1 → Dr p H1 → tz D (σ.set i (some v')) H1) : tSeq (tIfS t (tAsg te (gName i)) tNext) tz D σ H :=
  q1_when ht dr (fun H1 e1 d1 => he H1 e1 d1 _ fun v' H2 d' h' n' hv' e2 d2 => k v' H2 d' h' n' hv' (wx_trans e1 e2) d2) fun H1 e1 d1 => by
    have h9 := k v H1 d hP hn (dp_wx hd hn dr e1) e1 d1
    rwa [set_id h0] at h9
theorem q1_no (h : EvDT t σ p H (fun b => b = false)) (d : Dr p H) (k : ∀ H1, Ex (wo p H) H1 → Dr p H1 → tz D σ H1) : tSeq (tIfS t tu tNext) tz D σ H := h H (wo_le p H) d _ fun b H1 hb e1 d1 => by
  subst hb
  exact k H1 e1 d1
theorem q_asgLt {R : Hp → List V → Prop} {i : Nat} (h : EvLt R te σ H) (k : ∀ p H1 ys, H p = none → Ex H H1 → H1 p = some (.lst ys) → R H1 ys → tz D (σ.set i (some (.ref p))) H1) : tSeq (tAsg te (gName i)) tz D σ H := h H (Ex.refl H) _ fun p H1 ys a b c d => k p H1 ys a b c d
theorem ed_Lt {ds : List PyData} (h : EvLt (fun _ ys => DpAll K G ys ds) te σ H) (g : Ex G H) : EvD K te σ H (.list ds) := fun H1 e Q q => h H1 e _ fun p H2 ys _ e2 h2 hds => q _ H2 e2 (.lst (sq_of h2) (ex_dps (g.trans (e.trans e2)) hds))
theorem edt_lholds {v : V} {e : Xp} {m : Nat} (ha : Ev ta σ (wo p H) v) (hb : Ev tb σ (wo p H) (.int (m : Int))) (hc : Ev tc σ (wo p H) (.ref p)) (hd : Dp K H v e.d) (d0 : Dr p H) (ho : XOk e) (hN : XN e) (hn : e.dep ≤ 6) : EvDT (tNot (tB (tCall (sp__law_holds K) [] E (tCons ta (tCons tb (tCons tc tNil)))))) σ p H (fun b => b = false) := fun H1 e1 d1 Q q =>
  ha H1 e1 _ fun H2 e2 => hb H2 (e1.trans e2) _ fun H3 e3 => hc H3 ((e1.trans e2).trans e3) _ fun H4 e4 => ⟨v, e, m, p, rfl, d1.ex ((e2.trans e3).trans e4), dp_wx hd (noL_xp e) d0 (((e1.trans e2).trans e3).trans e4), ho, hN, hn, fun H5 e5 d5 => ⟨true, rfl, q false H5 rfl (wx_trans (wx_of ((e2.trans e3).trans e4)) e5) d5⟩⟩
theorem ec_uses {v : V} {e : Xp} {l m : Nat} (ha : Ev ta σ H v) (hb : Ev tb σ H (.int (l : Int))) (hc : Ev tc σ H (.int (m : Int))) (hd : Dp K H v e.d) (hz : e.sz ≤ 60) : Ev (tCall (sp_uses_only K) [] E (tCons ta (tCons tb (tCons tc tNil)))) σ H (.bl (onlyB l m e)) := ev_call (ea_cons ha (ea_cons hb (ea_cons hc ea_nil))) fun H1 e1 Q q E => ⟨v, e, l, m, rfl, ex_dp e1 hd, hz, q⟩
/-- xs = ys * something drawn -/
theorem q1_rep {i : Nat} {l : Addr} {xs : List V} {m : Nat} (ha : Ev ta σ (wo p H) (.ref l)) (hne : l ≠ p) (hl : H l = some (.lst xs)) (hb : EvD1 tb σ p H (ZP fun j => 0 ≤ j ∧ j < (m : Int))) (hm : m ≤ 100) (hz : xs.length ≤ 100) (d : Dr p H)
    (k : ∀ q H1 (n : Nat), n < m → H q = none → Ex (wo p H) H1 → Dr p H1 → H1 q = some (.lst (List.replicate n xs).flatten) → tz D (σ.set i (some (.ref q))) H1) : tSeq (tAsg (tOp rRep ta tb) (gName i)) tz D σ H :=
  ha H (wo_le p H) _ fun H1 e1 => hb H1 (wx_of e1) (d.ex e1) _ fun v H2 hv e2 d2 => by
    obtain ⟨j, rfl, hj⟩ := hv
    obtain ⟨n, rfl⟩ := Int.eq_ofNat_of_zero_le hj.1
    have h2 : H2 l = some (.lst xs) := e2 _ _ (by rw [wo_ne hne]; exact e1 _ _ hl)
    have hmul : xs.length * n ≤ 100 * 100 := Nat.mul_le_mul hz (by omega)
    refine ⟨l, (n : Int), xs, rfl, rfl, h2, by omega, by omega, sz_of (by rw [Int.toNat_natCast]; omega), fun q hq => ?_⟩
    rw [Int.toNat_natCast]
    have hqp : q ≠ p := fun z => by
      obtain ⟨ys, hy⟩ := d2.at
      rw [← z, hq] at hy
      cases hy
    have hqH : H q = none := by
      cases hx : H q with
      | none => rfl
      | some o =>
        have := e2 q o (by rw [wo_ne hqp]; exact e1 _ _ hx)
        rw [hq] at this
        cases this
    exact k q _ n (by omega) hqH (wx_trans (wx_of e1) (wx_trans e2 (wx_of (Ex.new hq)))) (d2.ex (Ex.new hq)) upd_same
theorem ed_conjV {a : Addr} {es : List Xp} (ha : Ev ta σ H (.ref a)) (hx : XpsAt K H a es) (h1 : es.length ≤ 128) : EvD K (tCall (sp_conjunction K) [] E (tCons ta tNil)) σ H (joined 8 es).d := fun H1 e1 Q q =>
  ha H1 e1 _ fun H2 e2 => ⟨a, es, rfl, hx.ex (e1.trans e2), h1, by omega, fun v' H3 e3 h3 => q v' H3 (e2.trans e3) h3⟩
theorem ed_ljoinV {a : Addr} {es : List Xp} (ha : Ev ta σ H (.ref a)) (hx : XpsAt K H a es) (h1 : es.length ≤ 128) : EvD K (tCall (sp__law_joined K) [] E (tCons ta tNil)) σ H (joined 8 es).d := ed_conjV ha hx h1
theorem ed_ljoinD {es : List Xp} (ha : EvLD K ta σ H (es.map Xp.d)) (h1 : es.length ≤ 128) : EvD K (tCall (sp__law_joined K) [] E (tCons ta tNil)) σ H (joined 8 es).d := fun H1 e1 Q q =>
  ha H1 e1 _ fun a H2 ys _ e2 h2 hd => ⟨a, es, rfl, ⟨ys, sq_of h2, hd⟩, h1, by omega, fun v' H3 e3 h3 => q v' H3 (e2.trans e3) h3⟩
theorem ld_catLV {l : Addr} {zs : List V} {ds es : List PyData} (ha : EvLt (fun _ ys => DpAll K G ys ds) ta σ H) (g : Ex G H) (hb : Ev tb σ H (.ref l)) (hl : H l = some (.lst zs)) (hz : DpAll K H zs es) (hs : ds.length + es.length ≤ 100000) : EvLD K (tOp rCat ta tb) σ H (ds ++ es) := fun H1 e Q q =>
  ha H1 e _ fun a H2 ys ha0 e2 h2 hds => hb H2 (e.trans e2) _ fun H3 e3 => ⟨a, l, ys, zs, rfl, rfl, e3 _ _ h2, ((e.trans e2).trans e3) _ _ hl, sz_of (by rw [dps_len hds, dps_len hz]; exact hs), fun b hb0 => q b _ (ys ++ zs) (fresh_back (e2.trans e3) hb0) ((e2.trans e3).trans (Ex.new hb0)) upd_same (dps_app (ex_dps (g.trans (((e.trans e2).trans e3).trans (Ex.new hb0))) hds) (ex_dps (((e.trans e2).trans e3).trans (Ex.new hb0)) hz))⟩
theorem ed_tog {v u : V} {e f : Xp} (ha : Ev ta σ H v) (hb : Ev tb σ H u) (hd : Dp K H v e.d) (hf : Dp K H u f.d) (he : e.sz ≤ 60) (hz : f.sz ≤ 60) : EvD K (tCall (sp_together K) [] E (tCons ta (tCons tb tNil))) σ H (joined 8 (cparts e ++ cparts f)).d := fun H1 e1 Q q =>
  ha H1 e1 _ fun H2 e2 => hb H2 (e1.trans e2) _ fun H3 e3 => ⟨v, u, e, f, rfl, ex_dp ((e1.trans e2).trans e3) hd, ex_dp ((e1.trans e2).trans e3) hf, he, hz, fun v' H4 e4 h4 => q v' H4 ((e2.trans e3).trans e4) h4⟩
theorem ec_can {a : Addr} {ws : List V} {es fs : List Xp} (ha : Ev ta σ H (.ref a)) (hx : XpsAt K H a es) (hb : EvL tb σ H ws) (hf : DpAll K H ws (fs.map Xp.d)) (h1 : es.length ≤ 100) (h2 : (fs.map Xp.sz).sum ≤ 300) : Ev (tCall (sp_can_merge K) [] E (tCons ta (tCons tb tNil))) σ H (.bl (mergeB es (fs.flatMap used))) := fun H1 e1 Q q =>
  ha H1 e1 _ fun H2 e2 => hb H2 (e1.trans e2) _ fun b H3 _ e3 h3 => ⟨a, b, es, fs, rfl, hx.ex ((e1.trans e2).trans e3), ⟨ws, sq_of h3, ex_dps ((e1.trans e2).trans e3) hf⟩, h1, h2, fun H4 e4 => q H4 ((e2.trans e3).trans e4)⟩
theorem ec_lmrg {a : Addr} {ws : List V} {es fs : List Xp} (ha : Ev ta σ H (.ref a)) (hx : XpsAt K H a es) (hb : EvL tb σ H ws) (hf : DpAll K H ws (fs.map Xp.d)) (h1 : es.length ≤ 100) (h2 : ∀ f ∈ fs, f.dep ≤ 8 ∧ f.sz ≤ 60) (h3 : fs.length ≤ 10) : Ev (tCall (sp__law_merges K) [] E (tCons ta (tCons tb tNil))) σ H (.bl (mergeB es (fs.flatMap used))) := fun H1 e1 Q q =>
  ha H1 e1 _ fun H2 e2 => hb H2 (e1.trans e2) _ fun b H3 _ e3 h4 => ⟨a, b, es, fs, rfl, hx.ex ((e1.trans e2).trans e3), ⟨ws, sq_of h4, ex_dps ((e1.trans e2).trans e3) hf⟩, h1, h2, h3, fun H4 e4 => q H4 ((e2.trans e3).trans e4)⟩
end
section
variable {P : Program} {w : World} {K : PySem.W.Frag} {mg : Str → Option Value} {base : Heap}
theorem ok_law {fa : Addr} {s : Shared} {H : Hp} {a : Addr} {ns : List Int} {cdv : Value} (c__law_cell : C8.Cal P w K mg base 1 "_law_cell" (sp__law_cell K) []) (c__law_columns_in : C8.Cal P w K mg base 9 "_law_columns_in" (sp__law_columns_in K) []) (c__law_condition : C8.Cal P w K mg base 8 "_law_condition" (sp__law_condition K) []) (c__law_digit : C8.Cal P w K mg base 1 "_law_digit" (sp__law_digit K) []) (c__law_expression : C8.Cal P w K mg base 10 "_law_expression" (sp__law_expression K) []) (c__law_holds : C8.Cal P w K mg base 19 "_law_holds" (sp__law_holds K) []) (c__law_joined : C8.Cal P w K mg base 9 "_law_joined" (sp__law_joined K) []) (c__law_merges : C8.Cal P w K mg base 10 "_law_merges" (sp__law_merges K) []) (c__law_none : C8.Cal P w K mg base 9 "_law_none" (sp__law_none K) []) (c__law_parts : C8.Cal P w K mg base 9 "_law_parts" (sp__law_parts K) []) (c__law_refuses : C8.Cal P w K mg base 18 "_law_refuses" (sp__law_refuses K) []) (c__law_state : C8.Cal P w K mg base 1 "_law_state" (sp__law_state K) []) (c_can_merge : C8.Cal P w K mg base 3 "can_merge" (sp_can_merge K) []) (c_condition_parts : C8.Cal P w K mg base 1 "condition_parts" (sp_condition_parts K) []) (c_conjunction : C8.Cal P w K mg base 9 "conjunction" (sp_conjunction K) []) (c_none_from : C8.Cal P w K mg base 9 "none_from" (sp_none_from K) []) (c_refuses : C8.Cal P w K mg base 18 "refuses" (sp_refuses K) []) (c_together : C8.Cal P w K mg base 10 "together" (sp_together K) []) (c_uses_only : C8.Cal P w K mg base 3 "uses_only" (sp_uses_only K) []) (z_bool : mg "bool" = none) (z_isinstance : mg "isinstance" = none) (z_len : mg "len" = none) (z_list : mg "list" = none) (z_max : mg "max" = none) (z_min : mg "min" = none) (z_range : mg "range" = none) (z_repr : mg "repr" = none) (nd : base.NoDigits) (h63 : ns.length ≤ 63) (hS : SqL K H a (ns.map V.int))
    (hr : Room 19 (callerA.deeper (envOfC "law" (C8.fnScope s_law) s.heap.objs.size fa cdv))) :
    ∃ t, PSs (cxOf C8.CX0 P w K mg base n_law "law" (C8.fnScope s_law) fa cdv callerA [] s H C8.E0).nox (C8.fnBody s_law) t ∧ t { nx := fun _ _ => V.non = .bl true, rt := fun v _ => v = .bl true } (start n_law [.ref a]) H := by
  refine ⟨_, (pss_cons (ps_set (i := 1) sc_law.nd rfl (.inl rfl) (pe_lst pa_nil))
    (pss_cons (ps_for PassesOwn.never rfl (pi_range1 rfl z_range (pa_cons (pe_callB (call_min2 rfl) (by rfl) z_min (by decide +kernel) (pa_cons pe_int (pa_cons (pe_callB (call_max2 rfl) (by rfl) z_max (by decide +kernel) (pa_cons pe_int (pa_cons (pe_callB call_len_seq (by rfl) z_len PySem.boot_len (pa_cons (pv 0) pa_nil)) pa_nil))) pa_nil))) pa_nil)) (pg_name (i := 2) sc_law.nd rfl (.inl rfl))
      (pss_cons (ps_set (i := 3) sc_law.nd rfl (.inr rfl) (C8.pe_c c__law_state hr (by decide) (by rfl) (pa_cons (C8.pe_c c__law_cell hr (by decide) (by rfl) (pa_cons (pv 0) (pa_cons (pv 2) pa_nil))) (pa_cons (pv 2) pa_nil))))
    (pss_cons (ps_set (i := 4) sc_law.nd rfl (.inl rfl) (C8.pe_c c__law_expression hr (by decide) (by rfl) (pa_cons (pv 3) (pa_cons pe_int (pa_cons (pe_op op_add pe_int (C8.pe_c c__law_digit hr (by decide) (by rfl) (pa_cons (pv 3) (pa_cons pe_int pa_nil)))) pa_nil)))))
    (pss_cons (ps_if (pt_cmpR op_eq (C8.pe_c c__law_digit hr (by decide) (by rfl) (pa_cons (pv 3) (pa_cons pe_int pa_nil))) pe_int (nomark _))
      (pss_one (ps_set (i := 4) sc_law.nd rfl (.inl rfl) (C8.pe_c c__law_condition hr (by decide) (by rfl) (pa_cons (pv 3) (pa_cons pe_int (pa_cons pe_int pa_nil))))))
      pss_nil)
    (pss_cons (ps_expr (pe_bm PySem.F.plainAttrs_list PySem.F.slot_list_append PySem.F.type_list_append mt_append (pv 1) (pa_cons (pv 4) pa_nil)))
    (pss_cons (ps_set (i := 5) sc_law.nd rfl (.inl rfl) (C8.pe_c c_condition_parts hr (by decide) (by rfl) (pa_cons (pv 4) pa_nil)))
    (pss_cons (ps_if (PW.pt (pw_or (pt_not (pt_val (pe_callB call_isi (by rfl) z_isinstance (by decide +kernel) (pa_cons (pv 5) (pa_cons (pe_bltn (v := .ty "list") (u := .type "list") rfl z_list (by decide +kernel) rfl) pa_nil))))) (pw_or1 (pt_cmpR op_ne (pe_callB (call_reprN rfl (hu64 hr) nd) (by rfl) z_repr (by decide +kernel) (pa_cons (pv 5) pa_nil)) (pe_callB (call_reprN rfl (hu64 hr) nd) (by rfl) z_repr (by decide +kernel) (pa_cons (C8.pe_c c__law_parts hr (by decide) (by rfl) (pa_cons (pv 4) pa_nil)) pa_nil)) (nomark _)))))
      (pss_one (ps_ret pe_bl))
      pss_nil)
    (pss_cons (ps_set (i := 6) sc_law.nd rfl (.inr rfl) (C8.pe_c c__law_digit hr (by decide) (by rfl) (pa_cons (pv 3) (pa_cons pe_int pa_nil))))
    (pss_cons (ps_if (PW.pt (pw_or (pt_cmpR op_ne (C8.pe_c c_none_from hr (by decide) (by rfl) (pa_cons (pv 4) (pa_cons (pv 6) pa_nil))) (C8.pe_c c__law_none hr (by decide) (by rfl) (pa_cons (pv 4) (pa_cons (pv 6) pa_nil))) (nomark _)) (pw_or1 (pt_cmpR op_ne (C8.pe_c c_refuses hr (by decide) (by rfl) (pa_cons (pv 4) (pa_cons (pv 6) pa_nil))) (C8.pe_c c__law_refuses hr (by decide) (by rfl) (pa_cons (pv 4) (pa_cons (pv 6) pa_nil))) (nomark _)))))
      (pss_one (ps_ret pe_bl))
      pss_nil)
    (pss_cons (ps_if (pt_not (pt_val (C8.pe_c c__law_holds hr (by decide) (by rfl) (pa_cons (pv 4) (pa_cons (pv 6) (pa_cons (pv 3) pa_nil))))))
      (pss_one (ps_ret pe_bl))
      pss_nil)
    (pss_cons (ps_set (i := 7) sc_law.nd rfl (.inl rfl) (C8.pe_c c__law_columns_in hr (by decide) (by rfl) (pa_cons (pv 4) pa_nil)))
    (pss_cons (ps_set (i := 8) sc_law.nd rfl (.inr rfl) (C8.pe_c c__law_digit hr (by decide) (by rfl) (pa_cons (pv 3) (pa_cons pe_int pa_nil))))
    (pss_cons (ps_set (i := 9) sc_law.nd rfl (.inl rfl) (pe_cmpR op_eq (pe_callB call_len_seq (by rfl) z_len PySem.boot_len (pa_cons (pe_lc (own := [("j", 13)]) (g := gName 13) rfl sc_law.nd (pi_list (pv 7)) (blkOk_by (N := n_law) (sc := C8.fnScope s_law) (by decide +kernel)) (fun _ _ _ _ _ => pg_name (i := 13) sc_law.nd rfl (Or.inl rfl)) (fun _ _ _ _ _ => (pts_one (PW.pt (pw_or (pt_cmpR op_lt (pv 13) (pv 8) (nomark _)) (pw_or1 (pt_cmpR op_ge (pv 13) (pv 6) (nomark _))))))) (fun _ _ _ _ _ => (pv 13))) pa_nil)) pe_int (nomark _)))
    (pss_cons (ps_set (i := 10) sc_law.nd rfl (.inl rfl) (C8.pe_c c_uses_only hr (by decide) (by rfl) (pa_cons (pv 4) (pa_cons (pv 8) (pa_cons (pv 6) pa_nil)))))
    (pss_cons (ps_if (PW.pt (pw_or (pt_not (pt_val (pe_callB call_isi (by rfl) z_isinstance (by decide +kernel) (pa_cons (pv 10) (pa_cons (pe_bltn (v := .ty "bool") (u := .type "bool") rfl z_bool (by decide +kernel) rfl) pa_nil))))) (pw_or1 (pt_cmpR op_ne (pv 10) (pv 9) (nomark _)))))
      (pss_one (ps_ret pe_bl))
      pss_nil)
    (pss_cons (ps_set (i := 11) sc_law.nd rfl (.inl rfl) (pe_op op_rep (pv 1) (C8.pe_c c__law_digit hr (by decide) (by rfl) (pa_cons (pv 3) (pa_cons pe_int pa_nil)))))
    (pss_cons (ps_if (pt_cmpR op_ne (pe_callB (call_reprN rfl (hu64 hr) nd) (by rfl) z_repr (by decide +kernel) (pa_cons (C8.pe_c c_conjunction hr (by decide) (by rfl) (pa_cons (pv 11) pa_nil)) pa_nil)) (pe_callB (call_reprN rfl (hu64 hr) nd) (by rfl) z_repr (by decide +kernel) (pa_cons (C8.pe_c c__law_joined hr (by decide) (by rfl) (pa_cons (pv 11) pa_nil)) pa_nil)) (nomark _))
      (pss_one (ps_ret pe_bl))
      pss_nil)
    (pss_cons (ps_if (pt_cmpR op_ne (pe_callB (call_reprN rfl (hu64 hr) nd) (by rfl) z_repr (by decide +kernel) (pa_cons (C8.pe_c c_together hr (by decide) (by rfl) (pa_cons (pe_ix ix_list (pv 1) pe_int (fun _ _ => rfl)) (pa_cons (pv 4) pa_nil))) pa_nil)) (pe_callB (call_reprN rfl (hu64 hr) nd) (by rfl) z_repr (by decide +kernel) (pa_cons (C8.pe_c c__law_joined hr (by decide) (by rfl) (pa_cons (pe_op op_cat (C8.pe_c c__law_parts hr (by decide) (by rfl) (pa_cons (pe_ix ix_list (pv 1) pe_int (fun _ _ => rfl)) pa_nil)) (pv 5)) pa_nil)) pa_nil)) (nomark _))
      (pss_one (ps_ret pe_bl))
      pss_nil)
    (pss_cons (ps_setLc (i := 12) (own := [("j", 13)]) (g := gName 13) (tt := tYes) rfl sc_law.nd rfl rfl (sw_true rfl rfl rfl (by decide +kernel)) (pi_range1 rfl z_range (pa_cons pe_int pa_nil)) (blkOk_by (N := n_law) (sc := C8.fnScope s_law) (by decide +kernel)) (fun _ _ _ _ _ => pg_name (i := 13) sc_law.nd rfl (Or.inl rfl)) (fun _ _ _ _ _ => pts_nil) (fun _ _ _ _ _ => (C8.pe_c c__law_expression hr (by decide) (by rfl) (pa_cons (pv 3) (pa_cons pe_int (pa_cons (C8.pe_c c__law_digit hr (by decide) (by rfl) (pa_cons (pv 3) (pa_cons pe_int pa_nil))) pa_nil))))))
    (pss_cons (ps_set (i := 10) sc_law.nd rfl (.inl rfl) (C8.pe_c c_can_merge hr (by decide) (by rfl) (pa_cons (pv 12) (pa_cons (pe_slice sl_list (pv 1) po_none (po_some pe_int)) pa_nil))))
    (pss_one (ps_if (PW.pt (pw_or (pt_not (pt_val (pe_callB call_isi (by rfl) z_isinstance (by decide +kernel) (pa_cons (pv 10) (pa_cons (pe_bltn (v := .ty "bool") (u := .type "bool") rfl z_bool (by decide +kernel) rfl) pa_nil))))) (pw_or1 (pt_cmpR op_ne (pv 10) (C8.pe_c c__law_merges hr (by decide) (by rfl) (pa_cons (pv 12) (pa_cons (pe_slice sl_list (pv 1) po_none (po_some pe_int)) pa_nil))) (nomark _)))))
      (pss_one (ps_ret pe_bl))
      pss_nil))))))))))))))))))))))
    (pss_one (ps_ret pe_bl)))), ?_⟩
  have hm : ∃ many : Int, (if (if (((ns.map V.int).length : Nat) : Int) > 2 then (((ns.map V.int).length : Nat) : Int) else 2) < 6 then (if (((ns.map V.int).length : Nat) : Int) > 2 then (((ns.map V.int).length : Nat) : Int) else 2) else 6) = many ∧ 0 ≤ many ∧ many ≤ 6 := by
    refine ⟨_, rfl, ?_, ?_⟩ <;> (split <;> split <;> omega)
  obtain ⟨many, hmany, hm0, hm6⟩ := hm
  refine q_asgL (el_lst ea_nil (by decide)) fun pc H1 hpc e1 h1 => ?_
  refine q_forR1 (n := many) (ea_cons (ev_is (ev_min2 ev_c (Evl.ev_max2 ev_c (ev_len (ev_var rfl) (ex_l e1 hS)))) (by rw [hmany])) ea_nil) ⟨by omega, by omega⟩ (fun i σ' H' => ∃ (kv sv cv pav mv uv lov duv tov mav exv jv : Option V) (ws : List V) (es : List Xp), σ' = [some (.ref a), some (.ref pc), kv, sv, cv, pav, mv, uv, lov, duv, tov, mav, exv, jv] ∧ Ex H H' ∧ H' pc = some (.lst ws) ∧ DpAll K H' ws (es.map Xp.d) ∧ (∀ e ∈ es, XG e ∧ e.sz ≤ 40 ∧ e.dep ≤ 5) ∧ es.length = i) (fun H2 e2 => ⟨_, _, _, _, _, _, _, _, _, _, _, _, [], [], rfl, e1.trans e2, e2 _ _ h1, .nil, (fun e h => nomatch h), rfl⟩) (fun i σ' Ho hi pv => ?_) fun σ' H' pv => ?_
  · obtain ⟨kv, sv, cv, pav, mv, uv, lov, duv, tov, mav, exv, jv, ws, es, rfl, xo, hpcO, hds, hes, hlen⟩ := pv
    have i6 : i ≤ 5 := by omega
    refine q_asgC (ec_state (ec_cell (k := (i : Int)) (ev_var rfl) (ev_var rfl) (ex_l xo hS) (by omega)) (ev_var rfl)) fun ps Ha hps ea da => ?_
    have hne : pc ≠ ps := fun z => by rw [← z, hpcO] at hps; cases hps
    refine qx_asg (x_expD (dm := 3) (wd := 4) (ev_var rfl) ev_c (ez_op0 (PI := fun j => j = 1) (e1_int (PI := fun j => j = 1) ev_c rfl) (ez_digit (m := 3) (ev_var rfl) ev_c (by decide) (by decide)) fun i j hi hj => ⟨by omega, by omega⟩) (by decide) (by decide) (by decide)) da fun v0 Hb d0 hd0 hn0 hv0 eb db => ?_
    refine qx_ifAsg (P := XD 5 40) (edt_test (ez_eq (ez_digit (m := 2) (ev_var rfl) ev_c (by decide) (by decide)) (e1_int (PI := fun j => j = 0) ev_c rfl))) rfl hv0 (hd0.mono (by decide) (by decide)) hn0 db (x_mono (x_cond (n := 3) (wd := 4) (dp := 3) (ev_var rfl) ev_c ev_c (by decide) (by decide) (by decide)) fun d h => h.mono (by decide) (by decide)) fun v Hc d hd hn hv ec dc => ?_
    obtain ⟨e, rfl, ho, hN, ⟨hC, hsz⟩, hdep⟩ := hd
    have hG : XG e := ⟨ho, hN, hC⟩
    have h60 : e.sz ≤ 60 := by omega
    have xbc := wx_trans eb ec
    have hpcC : Hc pc = some (.lst ws) := xbc _ _ (by rw [wo_ne hne]; exact ea _ _ hpcO)
    have hdsC := dps_wx (ex_dps ea hds) (noLs_xp es) da xbc
    have xc : Ex H Hc := xo.trans (wx_back hps ea xbc)
    have hwl : ws.length = i := by rw [dps_len hds, List.length_map, hlen]
    refine q_app hpcC (ev_var rfl) (ev_var rfl) (by omega) fun Hd ed => ?_
    generalize hHe : upd Hd pc (.lst (ws ++ [v])) = He
    have hpcE : He pc = some (.lst (ws ++ [v])) := by rw [← hHe]; exact upd_same
    have xe : Ex H He := by rw [← hHe]; exact Ex.mut (xc.trans ed) hpc
    have de : Dr ps He := by rw [← hHe]; exact (dc.ex ed).upd (Ne.symm hne)
    have hnE : noLs ((es ++ [e]).map Xp.d) = true := noLs_xp _
    have hdsE : DpAll K He (ws ++ [v]) ((es ++ [e]).map Xp.d) := by
      rw [← hHe]
      refine dps_upd (ed _ _ hpcC) hnE ?_
      rw [List.map_append]
      exact dps_snoc (ex_dps ed hdsC) (ex_dp ed hv)
    have hvE : Dp K He v e.d := by rw [← hHe]; exact dp_upd (ed _ _ hpcC) (noL_xp e) (ex_dp ed hv)
    have hesE : ∀ x ∈ es ++ [e], XG x ∧ x.sz ≤ 40 ∧ x.dep ≤ 5 := fun x hx => by
      rcases List.mem_append.mp hx with h | h
      · exact hes x h
      · rw [List.mem_singleton.mp h]
        exact ⟨hG, hsz, hdep⟩
    have hlenE : (es ++ [e]).length = i + 1 := by rw [List.length_append, hlen]; rfl
    have hwsE : (ws ++ [v]).length = i + 1 := by rw [List.length_append, hwl]; rfl
    obtain ⟨e0, he0⟩ : ∃ e0, (es ++ [e])[0]? = some e0 := by
      cases es with
      | nil => exact ⟨e, rfl⟩
      | cons x r => exact ⟨x, rfl⟩
    have hE0 := hesE e0 (List.mem_of_getElem? he0)
    generalize hes2 : es ++ [e] = es2 at hdsE hesE hlenE he0 hnE
    generalize hws2 : ws ++ [v] = ws2 at hpcE hdsE hwsE
    clear hdsC hpcC hds hpcO hes hwl hes2 hws2 hHe
    refine q_asgLt (lt_parts (ev_var rfl) (Ex.refl He) hvE h60) fun pp Hf wsp hpp ef hf hdp => ?_
    have hbp := bd_parts hG (by omega) h60
    have df := de.ex ef
    have hvF := ex_dp ef hvE
    refine q_when (b := !true || !decide (V.str (PyData.list ((cparts e).map Xp.d)).shown = V.str (PyData.list ((cparts e).map Xp.d)).shown)) (et_or (et_not (et_B (ev_isi' (T := "list") (ev_var rfl) (tx_lst hf) (by decide +kernel)))) fun _ => et_test (ev_op (ev_shownZ (ed_val (ev_var rfl) (.lst (sq_of hf) (ex_dps ef hdp))) (fun _ _ => dp_lstD) hbp) (ev_shownZ (ed_Lt (lt_lparts (ev_var rfl) (Ex.refl Hf) hvF (by omega) h60) (Ex.refl Hf)) (fun _ _ => dp_lstD) hbp) (rv_ne rfl))) (fun hb => by simp at hb) fun _ Hg eg => ?_
    have xg := ef.trans eg
    refine qz_asg (PI := fun m => 0 ≤ m ∧ m < 5) (ez_digit (ev_var rfl) ev_c (by decide) (by decide)) (de.ex xg) fun mi Hi hmi ei di => ?_
    obtain ⟨m, rfl⟩ := Int.eq_ofNat_of_zero_le hmi.1
    have xi : Ex (wo ps He) Hi := wx_trans (wx_of xg) ei
    have hvI := dp_wx hvE (noL_xp e) de xi
    refine q_when (b := !decide (V.bl (noneB m e) = V.bl (noneB m e)) || !decide (V.bl (refB m e) = V.bl (refB m e))) (et_or (et_test (ev_op (ec_none (ev_var rfl) (ev_var rfl) hvI ho hN (by omega)) (ec_lnoneR (n := 7) (ev_var rfl) (ev_var rfl) hvI ho hN (by omega)) (rv_ne rfl))) fun _ => et_test (ev_op (ec_refR (n := 7) (ev_var rfl) (ev_var rfl) hvI ho hN (by omega) (by omega)) (ec_lrefR (n := 7) (ev_var rfl) (ev_var rfl) hvI ho hN (by omega) (by omega)) (rv_ne rfl))) (fun hb => by simp at hb) fun _ Hj ej => ?_
    refine q1_no (edt_lholds (ev_var rfl) (ev_var rfl) (ev_var rfl) (ex_dp ej hvI) (di.ex ej) ho hN (by omega)) (di.ex ej) fun Hk ek dk => ?_
    have xk : Ex (wo ps He) Hk := wx_trans xi (wx_trans (wx_of ej) ek)
    have hvK := dp_wx hvE (noL_xp e) de xk
    refine q_asgL (el_used (n := 7) (ev_var rfl) hvK (by omega) h60) fun pu Hl hpu el hul => ?_
    have hups : pu ≠ ps := fun z => by
      obtain ⟨ys, hy⟩ := dk.at
      rw [← z, hpu] at hy
      cases hy
    refine qz_asg (PI := fun m => 0 ≤ m ∧ m < 3) (ez_digit (ev_var rfl) ev_c (by decide) (by decide)) (dk.ex el) fun li Hm hli em dm => ?_
    obtain ⟨l, rfl⟩ := Int.eq_ofNat_of_zero_le hli.1
    have hum : Hm pu = some (.lst ((used e).map fun n : Nat => V.int (n : Int))) := em _ _ (by rw [wo_ne hups]; exact hul)
    have xm : Ex (wo ps He) Hm := wx_trans xk (wx_trans (wx_of el) em)
    have hul60 := used_len e
    have hulen : ((used e).map fun n : Nat => V.int (n : Int)).length = (used e).length := List.length_map ..
    refine q_asg (v := .bl (onlyB l m e)) (ev_is (ev_op (ev_lenN (el_lcL (K := K) (xs := (used e).map fun n : Nat => V.int (n : Int)) (fun j => decide ((((used e).getD j 0 : Nat) : Int) < (l : Int)) || decide ((((used e).getD j 0 : Nat) : Int) ≥ (m : Int))) (fun j => V.int (((used e).getD j 0 : Nat) : Int)) (ev_var rfl) (sq_of hum) (by rw [hulen]; omega) (fun _ => rfl) (fun j x H3 e3 hj => ?_) fun j x H3 e3 hj _ => ?_)) ev_c (rv_eq rfl)) (by rw [hulen]; exact congrArg V.bl (due_only (used e) l m))) fun Hn en => ?_
    · rw [List.getElem?_map] at hj
      obtain ⟨n, hn2, rfl⟩ := Option.map_eq_some_iff.mp hj
      rw [show (used e).getD j 0 = n by rw [List.getD_eq_getElem?_getD, hn2]; rfl]
      exact et_or (et_test (ev_op (ev_var rfl) (ev_var rfl) rv_I0)) fun _ => et_test (ev_op (ev_var rfl) (ev_var rfl) rv_I0)
    · rw [List.getElem?_map] at hj
      obtain ⟨n, hn2, rfl⟩ := Option.map_eq_some_iff.mp hj
      rw [show (used e).getD j 0 = n by rw [List.getD_eq_getElem?_getD, hn2]; rfl]
      exact ev_var rfl
    have hvM := dp_wx hvE (noL_xp e) de xm
    refine q_asg (v := .bl (onlyB l m e)) (ec_uses (ev_var rfl) (ev_var rfl) (ev_var rfl) (ex_dp en hvM) h60) fun Hp ep => ?_
    refine q_when (b := !true || !decide (V.bl (onlyB l m e) = V.bl (onlyB l m e))) (et_or (et_not (et_B (ev_isi (b := true) (ev_var rfl) (fun H1 => tx_bl _ H1) (by decide +kernel)))) fun _ => et_test (ev_op (ev_var rfl) (ev_var rfl) (rv_ne rfl))) (fun hb => by simp at hb) fun _ Hq eq => ?_
    have dq := dm.ex ((en.trans ep).trans eq)
    have xq : Ex (wo ps He) Hq := wx_trans xm (wx_of ((en.trans ep).trans eq))
    have hpcQ : Hq pc = some (.lst ws2) := xq _ _ (by rw [wo_ne hne]; exact hpcE)
    refine q1_rep (m := 3) (ev_var rfl) hne hpcQ (ez_digit (ev_var rfl) ev_c (by decide) (by decide)) (by decide) (by omega) dq fun pm Hr k hk hpm er dr hr2 => ?_
    have xr : Ex (wo ps He) Hr := wx_trans xq er
    have hdsR : DpAll K Hr ws2 (es2.map Xp.d) := dps_wx hdsE hnE de xr
    have hmany2 : XpsAt K Hr pm (List.replicate k es2).flatten := ⟨_, sq_of hr2, by rw [← map_rep]; exact dps_rep hdsR k⟩
    have hml : (List.replicate k es2).flatten.length ≤ 12 := by
      rw [len_rep, hlenE]
      exact Nat.le_trans (Nat.mul_le_mul (show k ≤ 2 by omega) (show i + 1 ≤ 6 by omega)) (by decide)
    have hsum := sum_40 (List.replicate k es2).flatten fun x hx => (hesE x (mem_rep hx)).2.1
    have hbm : Bd 10000000 60 (joined 8 (List.replicate k es2).flatten).d := bd_join (fun x hx => ⟨(hesE x (mem_rep hx)).1, by have := (hesE x (mem_rep hx)).2.2; omega⟩) (by omega)
    refine q_when (b := !decide (V.str (joined 8 (List.replicate k es2).flatten).d.shown = V.str (joined 8 (List.replicate k es2).flatten).d.shown)) (et_test (ev_op (ev_shownZ (ed_conjV (ev_var rfl) hmany2 (by omega)) (fun _ _ => dp_refX) hbm) (ev_shownZ (ed_ljoinV (ev_var rfl) hmany2 (by omega)) (fun _ _ => dp_refX) hbm) (rv_ne rfl))) (fun hb => by simp at hb) fun _ Hs es9 => ?_
    have xs : Ex (wo ps He) Hs := wx_trans xr (wx_of es9)
    have hpcS : Hs pc = some (.lst ws2) := xs _ _ (by rw [wo_ne hne]; exact hpcE)
    have hdsS : DpAll K Hs ws2 (es2.map Xp.d) := dps_wx hdsE hnE de xs
    have hvS := dp_wx hvE (noL_xp e) de xs
    obtain ⟨x0, hx0, hx0d⟩ := dps_at hdsS (show (es2.map Xp.d)[0]? = some e0.d by rw [List.getElem?_map, he0]; rfl)
    have yf : Ex (wo ps Hf) Hs := wx_trans (wx_of eg) (wx_trans ei (wx_trans (wx_of ej) (wx_trans ek (wx_trans (wx_of el) (wx_trans em (wx_trans (wx_of ((en.trans ep).trans eq)) (wx_trans er (wx_of es9))))))))
    have hpps : pp ≠ ps := fun z => by
      obtain ⟨ys, hy⟩ := de.at
      rw [← z, hpp] at hy
      cases hy
    have hppS : Hs pp = some (.lst wsp) := yf _ _ (by rw [wo_ne hpps]; exact hf)
    have hdpS : DpAll K Hs wsp ((cparts e).map Xp.d) := dps_wx hdp (noLs_xp _) de xs
    obtain ⟨hG0, hs0, hd0'⟩ := hE0
    have h600 : e0.sz ≤ 60 := by omega
    have hc0 := cparts_len e0
    have hc1 := cparts_len e
    have hcl : (cparts e0 ++ cparts e).length ≤ 80 := by rw [List.length_append]; omega
    have hbt : Bd 10000000 60 (joined 8 (cparts e0 ++ cparts e)).d := bd_join (fun x hx => by
      rcases List.mem_append.mp hx with h | h
      · exact ⟨cparts_g hG0 x h, by have := cparts_dep e0 x h; omega⟩
      · exact ⟨cparts_g hG x h, by have := cparts_dep e x h; omega⟩) (by
      rw [List.map_append, List.sum_append]
      have := cparts_sum e0
      have := cparts_sum e
      omega)
    refine q_when (b := !decide (V.str (joined 8 (cparts e0 ++ cparts e)).d.shown = V.str (joined 8 (cparts e0 ++ cparts e)).d.shown)) (et_test (ev_op (ev_shownZ (ed_tog (ev_op (ev_var rfl) ev_c (rv_ixL (i := ((0 : Nat) : Int)) (sq_of hpcS) (atI_nat hx0))) (ev_var rfl) hx0d hvS h600 h60) (fun _ _ => dp_refX) hbt) (ev_shownZ (ed_ljoinD (es := cparts e0 ++ cparts e) (by rw [List.map_append]; exact ld_catLV (lt_lparts (ev_op (ev_var rfl) ev_c (rv_ixL (i := ((0 : Nat) : Int)) (sq_of hpcS) (atI_nat hx0))) (Ex.refl Hs) hx0d (by omega) h600) (Ex.refl Hs) (ev_var rfl) hppS hdpS (by rw [List.length_map, List.length_map]; omega)) (by omega)) (fun _ _ => dp_refX) hbt) (rv_ne rfl))) (fun hb => by simp at hb) fun _ Ht et => ?_
    have dt := dr.ex (es9.trans et)
    refine qx_lc (n := 4) (P := XD 2 4) (x_lcX ev_c (by decide) (fun _ => rfl) fun j => x_expD (dm := 1) (wd := 4) (ev_var rfl) ev_c (ez_mono (ez_digit (m := 2) (ev_var rfl) ev_c (by decide) (by decide)) fun i h => ⟨h.1, by omega⟩) (by decide) (by decide) (by decide)) dt fun px Hu ysx dsx hpx eu du hux hdx hnx hlx hPx => ?_
    obtain ⟨xs4, rfl, hxs⟩ := xs_of hPx
    rw [List.length_map] at hlx
    have xu : Ex (wo ps He) Hu := wx_trans xs (wx_trans (wx_of et) eu)
    have hpcU : Hu pc = some (.lst ws2) := xu _ _ (by rw [wo_ne hne]; exact hpcE)
    have hdsU : DpAll K Hu ws2 (es2.map Xp.d) := dps_wx hdsE hnE de xu
    have hX : XpsAt K Hu px xs4 := ⟨_, sq_of hux, hdx⟩
    have htk : DpAll K Hu (cutV ws2 none (some ((2 : Nat) : Int))) ((es2.take 2).map Xp.d) := by
      rw [cutV_take, List.map_take]
      exact dps_take 2 hdsU
    have htl : (es2.take 2).length ≤ 2 := by rw [List.length_take]; omega
    have hts := sum_40 (es2.take 2) fun x hx => (hesE x (List.mem_of_mem_take hx)).2.1
    refine q_asg (v := .bl (mergeB xs4 ((es2.take 2).flatMap used))) (ec_can (ev_var rfl) hX (el_sl (ev_var rfl) eo_none (eo_some ev_c) (sq_of hpcU)) htk (by omega) (by omega)) fun Hv ev => ?_
    have hpcV := ev _ _ hpcU
    refine s_when (b := !true || !decide (V.bl (mergeB xs4 ((es2.take 2).flatMap used)) = V.bl (mergeB xs4 ((es2.take 2).flatMap used)))) (et_or (et_not (et_B (ev_isi (b := true) (ev_var rfl) (fun H1 => tx_bl _ H1) (by decide +kernel)))) fun _ => et_test (ev_op (ev_var rfl) (ec_lmrg (ev_var rfl) (hX.ex ev) (el_sl (ev_var rfl) eo_none (eo_some ev_c) (sq_of hpcV)) (ex_dps ev htk) (by omega) (fun x hx => by
      have := hesE x (List.mem_of_mem_take hx)
      exact ⟨by omega, by omega⟩) (by omega)) (rv_ne rfl))) (fun hb => by simp at hb) fun _ Hw ew => ?_
    have xw : Ex (wo ps He) Hw := wx_trans xu (wx_of (ev.trans ew))
    have hpsH : H ps = none := by
      cases hx : H ps with
      | none => rfl
      | some o => rw [xo _ _ hx] at hps; cases hps
    exact ⟨_, _, _, _, _, _, _, _, _, _, _, _, ws2, es2, rfl, wx_back hpsH xe xw, (ev.trans ew) _ _ hpcU, ex_dps (ev.trans ew) hdsU, hesE, hlenE⟩
  · obtain ⟨kv, sv, cv, pav, mv, uv, lov, duv, tov, mav, exv, jv, ws, es, rfl, xo, _⟩ := pv
    exact s_ret ev_c fun _ _ => rfl
end
theorem all_mk {P : Program} {w : World} {K : PySem.W.Frag} {h : Heap} {mg : Str → Option Value} {fa : Addr} (X : K.In h) (G : h.Ns mainGlobals mg) (hfa : mg "law" = some (.ref fa))
    {f0 : Addr} {od0 an0 : Option Addr} {sl0 : Array (Option Value)} {oc0 kV0 dc0 pm0 cd0 ct0 : Value} (a0 : PySem.W.nsIn K mainGlobals "kind_rank" = some (some (.ref f0))) (l0 : K.lookup f0 = some ⟨oc0, od0, .func (PySem.W.fnOf "kind_rank" "kind_rank" (C8.fnArgs s_kind_rank) (C8.fnBody s_kind_rank) (C8.fnScope s_kind_rank) .none kV0 dc0 pm0 an0 cd0 ct0), sl0⟩) (b0 : PySem.W.codeIn K cd0 "kind_rank" = true) (k0 : PySem.W.keepIn K (.ref f0) = true)
    {f1 : Addr} {od1 an1 : Option Addr} {sl1 : Array (Option Value)} {oc1 kV1 dc1 pm1 cd1 ct1 : Value} (a1 : PySem.W.nsIn K mainGlobals "is_integer" = some (some (.ref f1))) (l1 : K.lookup f1 = some ⟨oc1, od1, .func (PySem.W.fnOf "is_integer" "is_integer" (C8.fnArgs s_is_integer) (C8.fnBody s_is_integer) (C8.fnScope s_is_integer) .none kV1 dc1 pm1 an1 cd1 ct1), sl1⟩) (b1 : PySem.W.codeIn K cd1 "is_integer" = true) (k1 : PySem.W.keepIn K (.ref f1) = true)
    {f2 : Addr} {od2 an2 : Option Addr} {sl2 : Array (Option Value)} {oc2 kV2 dc2 pm2 cd2 ct2 : Value} (a2 : PySem.W.nsIn K mainGlobals "rank" = some (some (.ref f2))) (l2 : K.lookup f2 = some ⟨oc2, od2, .func (PySem.W.fnOf "rank" "rank" (C8.fnArgs s_rank) (C8.fnBody s_rank) (C8.fnScope s_rank) .none kV2 dc2 pm2 an2 cd2 ct2), sl2⟩) (b2 : PySem.W.codeIn K cd2 "rank" = true) (k2 : PySem.W.keepIn K (.ref f2) = true)
    {f3 : Addr} {od3 an3 : Option Addr} {sl3 : Array (Option Value)} {oc3 kV3 dc3 pm3 cd3 ct3 : Value} (a3 : PySem.W.nsIn K mainGlobals "same" = some (some (.ref f3))) (l3 : K.lookup f3 = some ⟨oc3, od3, .func (PySem.W.fnOf "same" "same" (C8.fnArgs s_same) (C8.fnBody s_same) (C8.fnScope s_same) .none kV3 dc3 pm3 an3 cd3 ct3), sl3⟩) (b3 : PySem.W.codeIn K cd3 "same" = true) (k3 : PySem.W.keepIn K (.ref f3) = true)
    {f4 : Addr} {od4 an4 : Option Addr} {sl4 : Array (Option Value)} {oc4 kV4 dc4 pm4 cd4 ct4 : Value} (a4 : PySem.W.nsIn K mainGlobals "before" = some (some (.ref f4))) (l4 : K.lookup f4 = some ⟨oc4, od4, .func (PySem.W.fnOf "before" "before" (C8.fnArgs s_before) (C8.fnBody s_before) (C8.fnScope s_before) .none kV4 dc4 pm4 an4 cd4 ct4), sl4⟩) (b4 : PySem.W.codeIn K cd4 "before" = true) (k4 : PySem.W.keepIn K (.ref f4) = true)
    {f5 : Addr} {od5 an5 : Option Addr} {sl5 : Array (Option Value)} {oc5 kV5 dc5 pm5 cd5 ct5 : Value} (a5 : PySem.W.nsIn K mainGlobals "is_day" = some (some (.ref f5))) (l5 : K.lookup f5 = some ⟨oc5, od5, .func (PySem.W.fnOf "is_day" "is_day" (C8.fnArgs s_is_day) (C8.fnBody s_is_day) (C8.fnScope s_is_day) .none kV5 dc5 pm5 an5 cd5 ct5), sl5⟩) (b5 : PySem.W.codeIn K cd5 "is_day" = true) (k5 : PySem.W.keepIn K (.ref f5) = true)
    {f6 : Addr} {od6 an6 : Option Addr} {sl6 : Array (Option Value)} {oc6 kV6 dc6 pm6 cd6 ct6 : Value} (a6 : PySem.W.nsIn K mainGlobals "limited" = some (some (.ref f6))) (l6 : K.lookup f6 = some ⟨oc6, od6, .func (PySem.W.fnOf "limited" "limited" (C8.fnArgs s_limited) (C8.fnBody s_limited) (C8.fnScope s_limited) .none kV6 dc6 pm6 an6 cd6 ct6), sl6⟩) (b6 : PySem.W.codeIn K cd6 "limited" = true) (k6 : PySem.W.keepIn K (.ref f6) = true)
    {f7 : Addr} {od7 an7 : Option Addr} {sl7 : Array (Option Value)} {oc7 kV7 dc7 pm7 cd7 ct7 : Value} (a7 : PySem.W.nsIn K mainGlobals "negated" = some (some (.ref f7))) (l7 : K.lookup f7 = some ⟨oc7, od7, .func (PySem.W.fnOf "negated" "negated" (C8.fnArgs s_negated) (C8.fnBody s_negated) (C8.fnScope s_negated) .none kV7 dc7 pm7 an7 cd7 ct7), sl7⟩) (b7 : PySem.W.codeIn K cd7 "negated" = true) (k7 : PySem.W.keepIn K (.ref f7) = true)
    {f8 : Addr} {od8 an8 : Option Addr} {sl8 : Array (Option Value)} {oc8 kV8 dc8 pm8 cd8 ct8 : Value} (a8 : PySem.W.nsIn K mainGlobals "both" = some (some (.ref f8))) (l8 : K.lookup f8 = some ⟨oc8, od8, .func (PySem.W.fnOf "both" "both" (C8.fnArgs s_both) (C8.fnBody s_both) (C8.fnScope s_both) .none kV8 dc8 pm8 an8 cd8 ct8), sl8⟩) (b8 : PySem.W.codeIn K cd8 "both" = true) (k8 : PySem.W.keepIn K (.ref f8) = true)
    {f9 : Addr} {od9 an9 : Option Addr} {sl9 : Array (Option Value)} {oc9 kV9 dc9 pm9 cd9 ct9 : Value} (a9 : PySem.W.nsIn K mainGlobals "either" = some (some (.ref f9))) (l9 : K.lookup f9 = some ⟨oc9, od9, .func (PySem.W.fnOf "either" "either" (C8.fnArgs s_either) (C8.fnBody s_either) (C8.fnScope s_either) .none kV9 dc9 pm9 an9 cd9 ct9), sl9⟩) (b9 : PySem.W.codeIn K cd9 "either" = true) (k9 : PySem.W.keepIn K (.ref f9) = true)
    {f10 : Addr} {od10 an10 : Option Addr} {sl10 : Array (Option Value)} {oc10 kV10 dc10 pm10 cd10 ct10 : Value} (a10 : PySem.W.nsIn K mainGlobals "_negate" = some (some (.ref f10))) (l10 : K.lookup f10 = some ⟨oc10, od10, .func (PySem.W.fnOf "_negate" "_negate" (C8.fnArgs s__negate) (C8.fnBody s__negate) (C8.fnScope s__negate) .none kV10 dc10 pm10 an10 cd10 ct10), sl10⟩) (b10 : PySem.W.codeIn K cd10 "_negate" = true) (k10 : PySem.W.keepIn K (.ref f10) = true)
    {f11 : Addr} {od11 an11 : Option Addr} {sl11 : Array (Option Value)} {oc11 kV11 dc11 pm11 cd11 ct11 : Value} (a11 : PySem.W.nsIn K mainGlobals "_size" = some (some (.ref f11))) (l11 : K.lookup f11 = some ⟨oc11, od11, .func (PySem.W.fnOf "_size" "_size" (C8.fnArgs s__size) (C8.fnBody s__size) (C8.fnScope s__size) .none kV11 dc11 pm11 an11 cd11 ct11), sl11⟩) (b11 : PySem.W.codeIn K cd11 "_size" = true) (k11 : PySem.W.keepIn K (.ref f11) = true)
    {f12 : Addr} {od12 an12 : Option Addr} {sl12 : Array (Option Value)} {oc12 kV12 dc12 pm12 cd12 ct12 : Value} (a12 : PySem.W.nsIn K mainGlobals "_value" = some (some (.ref f12))) (l12 : K.lookup f12 = some ⟨oc12, od12, .func (PySem.W.fnOf "_value" "_value" (C8.fnArgs s__value) (C8.fnBody s__value) (C8.fnScope s__value) .none kV12 dc12 pm12 an12 cd12 ct12), sl12⟩) (b12 : PySem.W.codeIn K cd12 "_value" = true) (k12 : PySem.W.keepIn K (.ref f12) = true)
    {f13 : Addr} {od13 an13 : Option Addr} {sl13 : Array (Option Value)} {oc13 kV13 dc13 pm13 cd13 ct13 : Value} (a13 : PySem.W.nsIn K mainGlobals "_to_decimal" = some (some (.ref f13))) (l13 : K.lookup f13 = some ⟨oc13, od13, .func (PySem.W.fnOf "_to_decimal" "_to_decimal" (C8.fnArgs s__to_decimal) (C8.fnBody s__to_decimal) (C8.fnScope s__to_decimal) .none kV13 dc13 pm13 an13 cd13 ct13), sl13⟩) (b13 : PySem.W.codeIn K cd13 "_to_decimal" = true) (k13 : PySem.W.keepIn K (.ref f13) = true)
    {f14 : Addr} {od14 an14 : Option Addr} {sl14 : Array (Option Value)} {oc14 kV14 dc14 pm14 cd14 ct14 : Value} (a14 : PySem.W.nsIn K mainGlobals "_length" = some (some (.ref f14))) (l14 : K.lookup f14 = some ⟨oc14, od14, .func (PySem.W.fnOf "_length" "_length" (C8.fnArgs s__length) (C8.fnBody s__length) (C8.fnScope s__length) .none kV14 dc14 pm14 an14 cd14 ct14), sl14⟩) (b14 : PySem.W.codeIn K cd14 "_length" = true) (k14 : PySem.W.keepIn K (.ref f14) = true)
    {f15 : Addr} {od15 an15 : Option Addr} {sl15 : Array (Option Value)} {oc15 kV15 dc15 pm15 cd15 ct15 : Value} (a15 : PySem.W.nsIn K mainGlobals "value_of_one" = some (some (.ref f15))) (l15 : K.lookup f15 = some ⟨oc15, od15, .func (PySem.W.fnOf "value_of_one" "value_of_one" (C8.fnArgs s_value_of_one) (C8.fnBody s_value_of_one) (C8.fnScope s_value_of_one) .none kV15 dc15 pm15 an15 cd15 ct15), sl15⟩) (b15 : PySem.W.codeIn K cd15 "value_of_one" = true) (k15 : PySem.W.keepIn K (.ref f15) = true)
    {f16 : Addr} {od16 an16 : Option Addr} {sl16 : Array (Option Value)} {oc16 kV16 dc16 pm16 cd16 ct16 : Value} (a16 : PySem.W.nsIn K mainGlobals "_both" = some (some (.ref f16))) (l16 : K.lookup f16 = some ⟨oc16, od16, .func (PySem.W.fnOf "_both" "_both" (C8.fnArgs s__both) (C8.fnBody s__both) (C8.fnScope s__both) .none kV16 dc16 pm16 an16 cd16 ct16), sl16⟩) (b16 : PySem.W.codeIn K cd16 "_both" = true) (k16 : PySem.W.keepIn K (.ref f16) = true)
    {f17 : Addr} {od17 an17 : Option Addr} {sl17 : Array (Option Value)} {oc17 kV17 dc17 pm17 cd17 ct17 : Value} (a17 : PySem.W.nsIn K mainGlobals "_either" = some (some (.ref f17))) (l17 : K.lookup f17 = some ⟨oc17, od17, .func (PySem.W.fnOf "_either" "_either" (C8.fnArgs s__either) (C8.fnBody s__either) (C8.fnScope s__either) .none kV17 dc17 pm17 an17 cd17 ct17), sl17⟩) (b17 : PySem.W.codeIn K cd17 "_either" = true) (k17 : PySem.W.keepIn K (.ref f17) = true)
    {f18 : Addr} {od18 an18 : Option Addr} {sl18 : Array (Option Value)} {oc18 kV18 dc18 pm18 cd18 ct18 : Value} (a18 : PySem.W.nsIn K mainGlobals "_same" = some (some (.ref f18))) (l18 : K.lookup f18 = some ⟨oc18, od18, .func (PySem.W.fnOf "_same" "_same" (C8.fnArgs s__same) (C8.fnBody s__same) (C8.fnScope s__same) .none kV18 dc18 pm18 an18 cd18 ct18), sl18⟩) (b18 : PySem.W.codeIn K cd18 "_same" = true) (k18 : PySem.W.keepIn K (.ref f18) = true)
    {f19 : Addr} {od19 an19 : Option Addr} {sl19 : Array (Option Value)} {oc19 kV19 dc19 pm19 cd19 ct19 : Value} (a19 : PySem.W.nsIn K mainGlobals "_first_known" = some (some (.ref f19))) (l19 : K.lookup f19 = some ⟨oc19, od19, .func (PySem.W.fnOf "_first_known" "_first_known" (C8.fnArgs s__first_known) (C8.fnBody s__first_known) (C8.fnScope s__first_known) .none kV19 dc19 pm19 an19 cd19 ct19), sl19⟩) (b19 : PySem.W.codeIn K cd19 "_first_known" = true) (k19 : PySem.W.keepIn K (.ref f19) = true)
    {f20 : Addr} {od20 an20 : Option Addr} {sl20 : Array (Option Value)} {oc20 kV20 dc20 pm20 cd20 ct20 : Value} (a20 : PySem.W.nsIn K mainGlobals "_equal" = some (some (.ref f20))) (l20 : K.lookup f20 = some ⟨oc20, od20, .func (PySem.W.fnOf "_equal" "_equal" (C8.fnArgs s__equal) (C8.fnBody s__equal) (C8.fnScope s__equal) .none kV20 dc20 pm20 an20 cd20 ct20), sl20⟩) (b20 : PySem.W.codeIn K cd20 "_equal" = true) (k20 : PySem.W.keepIn K (.ref f20) = true)
    {f21 : Addr} {od21 an21 : Option Addr} {sl21 : Array (Option Value)} {oc21 kV21 dc21 pm21 cd21 ct21 : Value} (a21 : PySem.W.nsIn K mainGlobals "_less" = some (some (.ref f21))) (l21 : K.lookup f21 = some ⟨oc21, od21, .func (PySem.W.fnOf "_less" "_less" (C8.fnArgs s__less) (C8.fnBody s__less) (C8.fnScope s__less) .none kV21 dc21 pm21 an21 cd21 ct21), sl21⟩) (b21 : PySem.W.codeIn K cd21 "_less" = true) (k21 : PySem.W.keepIn K (.ref f21) = true)
    {f22 : Addr} {od22 an22 : Option Addr} {sl22 : Array (Option Value)} {oc22 kV22 dc22 pm22 cd22 ct22 : Value} (a22 : PySem.W.nsIn K mainGlobals "_at_most" = some (some (.ref f22))) (l22 : K.lookup f22 = some ⟨oc22, od22, .func (PySem.W.fnOf "_at_most" "_at_most" (C8.fnArgs s__at_most) (C8.fnBody s__at_most) (C8.fnScope s__at_most) .none kV22 dc22 pm22 an22 cd22 ct22), sl22⟩) (b22 : PySem.W.codeIn K cd22 "_at_most" = true) (k22 : PySem.W.keepIn K (.ref f22) = true)
    {f23 : Addr} {od23 an23 : Option Addr} {sl23 : Array (Option Value)} {oc23 kV23 dc23 pm23 cd23 ct23 : Value} (a23 : PySem.W.nsIn K mainGlobals "_add" = some (some (.ref f23))) (l23 : K.lookup f23 = some ⟨oc23, od23, .func (PySem.W.fnOf "_add" "_add" (C8.fnArgs s__add) (C8.fnBody s__add) (C8.fnScope s__add) .none kV23 dc23 pm23 an23 cd23 ct23), sl23⟩) (b23 : PySem.W.codeIn K cd23 "_add" = true) (k23 : PySem.W.keepIn K (.ref f23) = true)
    {f24 : Addr} {od24 an24 : Option Addr} {sl24 : Array (Option Value)} {oc24 kV24 dc24 pm24 cd24 ct24 : Value} (a24 : PySem.W.nsIn K mainGlobals "_subtract" = some (some (.ref f24))) (l24 : K.lookup f24 = some ⟨oc24, od24, .func (PySem.W.fnOf "_subtract" "_subtract" (C8.fnArgs s__subtract) (C8.fnBody s__subtract) (C8.fnScope s__subtract) .none kV24 dc24 pm24 an24 cd24 ct24), sl24⟩) (b24 : PySem.W.codeIn K cd24 "_subtract" = true) (k24 : PySem.W.keepIn K (.ref f24) = true)
    {f25 : Addr} {od25 an25 : Option Addr} {sl25 : Array (Option Value)} {oc25 kV25 dc25 pm25 cd25 ct25 : Value} (a25 : PySem.W.nsIn K mainGlobals "_multiply" = some (some (.ref f25))) (l25 : K.lookup f25 = some ⟨oc25, od25, .func (PySem.W.fnOf "_multiply" "_multiply" (C8.fnArgs s__multiply) (C8.fnBody s__multiply) (C8.fnScope s__multiply) .none kV25 dc25 pm25 an25 cd25 ct25), sl25⟩) (b25 : PySem.W.codeIn K cd25 "_multiply" = true) (k25 : PySem.W.keepIn K (.ref f25) = true)
    {f26 : Addr} {od26 an26 : Option Addr} {sl26 : Array (Option Value)} {oc26 kV26 dc26 pm26 cd26 ct26 : Value} (a26 : PySem.W.nsIn K mainGlobals "_add_days" = some (some (.ref f26))) (l26 : K.lookup f26 = some ⟨oc26, od26, .func (PySem.W.fnOf "_add_days" "_add_days" (C8.fnArgs s__add_days) (C8.fnBody s__add_days) (C8.fnScope s__add_days) .none kV26 dc26 pm26 an26 cd26 ct26), sl26⟩) (b26 : PySem.W.codeIn K cd26 "_add_days" = true) (k26 : PySem.W.keepIn K (.ref f26) = true)
    {f27 : Addr} {od27 an27 : Option Addr} {sl27 : Array (Option Value)} {oc27 kV27 dc27 pm27 cd27 ct27 : Value} (a27 : PySem.W.nsIn K mainGlobals "_are_alike" = some (some (.ref f27))) (l27 : K.lookup f27 = some ⟨oc27, od27, .func (PySem.W.fnOf "_are_alike" "_are_alike" (C8.fnArgs s__are_alike) (C8.fnBody s__are_alike) (C8.fnScope s__are_alike) .none kV27 dc27 pm27 an27 cd27 ct27), sl27⟩) (b27 : PySem.W.codeIn K cd27 "_are_alike" = true) (k27 : PySem.W.keepIn K (.ref f27) = true)
    {f28 : Addr} {od28 an28 : Option Addr} {sl28 : Array (Option Value)} {oc28 kV28 dc28 pm28 cd28 ct28 : Value} (a28 : PySem.W.nsIn K mainGlobals "value_of_two" = some (some (.ref f28))) (l28 : K.lookup f28 = some ⟨oc28, od28, .func (PySem.W.fnOf "value_of_two" "value_of_two" (C8.fnArgs s_value_of_two) (C8.fnBody s_value_of_two) (C8.fnScope s_value_of_two) .none kV28 dc28 pm28 an28 cd28 ct28), sl28⟩) (b28 : PySem.W.codeIn K cd28 "value_of_two" = true) (k28 : PySem.W.keepIn K (.ref f28) = true)
    {f29 : Addr} {od29 an29 : Option Addr} {sl29 : Array (Option Value)} {oc29 kV29 dc29 pm29 cd29 ct29 : Value} (a29 : PySem.W.nsIn K mainGlobals "unary" = some (some (.ref f29))) (l29 : K.lookup f29 = some ⟨oc29, od29, .func (PySem.W.fnOf "unary" "unary" (C8.fnArgs s_unary) (C8.fnBody s_unary) (C8.fnScope s_unary) .none kV29 dc29 pm29 an29 cd29 ct29), sl29⟩) (b29 : PySem.W.codeIn K cd29 "unary" = true) (k29 : PySem.W.keepIn K (.ref f29) = true)
    {f30 : Addr} {od30 an30 : Option Addr} {sl30 : Array (Option Value)} {oc30 kV30 dc30 pm30 cd30 ct30 : Value} (a30 : PySem.W.nsIn K mainGlobals "binary" = some (some (.ref f30))) (l30 : K.lookup f30 = some ⟨oc30, od30, .func (PySem.W.fnOf "binary" "binary" (C8.fnArgs s_binary) (C8.fnBody s_binary) (C8.fnScope s_binary) .none kV30 dc30 pm30 an30 cd30 ct30), sl30⟩) (b30 : PySem.W.codeIn K cd30 "binary" = true) (k30 : PySem.W.keepIn K (.ref f30) = true)
    {f31 : Addr} {od31 an31 : Option Addr} {sl31 : Array (Option Value)} {oc31 kV31 dc31 pm31 cd31 ct31 : Value} (a31 : PySem.W.nsIn K mainGlobals "evaluate" = some (some (.ref f31))) (l31 : K.lookup f31 = some ⟨oc31, od31, .func (PySem.W.fnOf "evaluate" "evaluate" (C8.fnArgs s_evaluate) (C8.fnBody s_evaluate) (C8.fnScope s_evaluate) .none kV31 dc31 pm31 an31 cd31 ct31), sl31⟩) (b31 : PySem.W.codeIn K cd31 "evaluate" = true) (k31 : PySem.W.keepIn K (.ref f31) = true)
    {f32 : Addr} {od32 an32 : Option Addr} {sl32 : Array (Option Value)} {oc32 kV32 dc32 pm32 cd32 ct32 : Value} (a32 : PySem.W.nsIn K mainGlobals "holds" = some (some (.ref f32))) (l32 : K.lookup f32 = some ⟨oc32, od32, .func (PySem.W.fnOf "holds" "holds" (C8.fnArgs s_holds) (C8.fnBody s_holds) (C8.fnScope s_holds) .none kV32 dc32 pm32 an32 cd32 ct32), sl32⟩) (b32 : PySem.W.codeIn K cd32 "holds" = true) (k32 : PySem.W.keepIn K (.ref f32) = true)
    {f33 : Addr} {od33 an33 : Option Addr} {sl33 : Array (Option Value)} {oc33 kV33 dc33 pm33 cd33 ct33 : Value} (a33 : PySem.W.nsIn K mainGlobals "parts_of" = some (some (.ref f33))) (l33 : K.lookup f33 = some ⟨oc33, od33, .func (PySem.W.fnOf "parts_of" "parts_of" (C8.fnArgs s_parts_of) (C8.fnBody s_parts_of) (C8.fnScope s_parts_of) .none kV33 dc33 pm33 an33 cd33 ct33), sl33⟩) (b33 : PySem.W.codeIn K cd33 "parts_of" = true) (k33 : PySem.W.keepIn K (.ref f33) = true)
    {f34 : Addr} {od34 an34 : Option Addr} {sl34 : Array (Option Value)} {oc34 kV34 dc34 pm34 cd34 ct34 : Value} (a34 : PySem.W.nsIn K mainGlobals "columns_of" = some (some (.ref f34))) (l34 : K.lookup f34 = some ⟨oc34, od34, .func (PySem.W.fnOf "columns_of" "columns_of" (C8.fnArgs s_columns_of) (C8.fnBody s_columns_of) (C8.fnScope s_columns_of) .none kV34 dc34 pm34 an34 cd34 ct34), sl34⟩) (b34 : PySem.W.codeIn K cd34 "columns_of" = true) (k34 : PySem.W.keepIn K (.ref f34) = true)
    {f35 : Addr} {od35 an35 : Option Addr} {sl35 : Array (Option Value)} {oc35 kV35 dc35 pm35 cd35 ct35 : Value} (a35 : PySem.W.nsIn K mainGlobals "condition_parts" = some (some (.ref f35))) (l35 : K.lookup f35 = some ⟨oc35, od35, .func (PySem.W.fnOf "condition_parts" "condition_parts" (C8.fnArgs s_condition_parts) (C8.fnBody s_condition_parts) (C8.fnScope s_condition_parts) .none kV35 dc35 pm35 an35 cd35 ct35), sl35⟩) (b35 : PySem.W.codeIn K cd35 "condition_parts" = true) (k35 : PySem.W.keepIn K (.ref f35) = true)
    {f36 : Addr} {od36 an36 : Option Addr} {sl36 : Array (Option Value)} {oc36 kV36 dc36 pm36 cd36 ct36 : Value} (a36 : PySem.W.nsIn K mainGlobals "conjunction" = some (some (.ref f36))) (l36 : K.lookup f36 = some ⟨oc36, od36, .func (PySem.W.fnOf "conjunction" "conjunction" (C8.fnArgs s_conjunction) (C8.fnBody s_conjunction) (C8.fnScope s_conjunction) .none kV36 dc36 pm36 an36 cd36 ct36), sl36⟩) (b36 : PySem.W.codeIn K cd36 "conjunction" = true) (k36 : PySem.W.keepIn K (.ref f36) = true)
    {f37 : Addr} {od37 an37 : Option Addr} {sl37 : Array (Option Value)} {oc37 kV37 dc37 pm37 cd37 ct37 : Value} (a37 : PySem.W.nsIn K mainGlobals "together" = some (some (.ref f37))) (l37 : K.lookup f37 = some ⟨oc37, od37, .func (PySem.W.fnOf "together" "together" (C8.fnArgs s_together) (C8.fnBody s_together) (C8.fnScope s_together) .none kV37 dc37 pm37 an37 cd37 ct37), sl37⟩) (b37 : PySem.W.codeIn K cd37 "together" = true) (k37 : PySem.W.keepIn K (.ref f37) = true)
    {f38 : Addr} {od38 an38 : Option Addr} {sl38 : Array (Option Value)} {oc38 kV38 dc38 pm38 cd38 ct38 : Value} (a38 : PySem.W.nsIn K mainGlobals "uses_only" = some (some (.ref f38))) (l38 : K.lookup f38 = some ⟨oc38, od38, .func (PySem.W.fnOf "uses_only" "uses_only" (C8.fnArgs s_uses_only) (C8.fnBody s_uses_only) (C8.fnScope s_uses_only) .none kV38 dc38 pm38 an38 cd38 ct38), sl38⟩) (b38 : PySem.W.codeIn K cd38 "uses_only" = true) (k38 : PySem.W.keepIn K (.ref f38) = true)
    {f39 : Addr} {od39 an39 : Option Addr} {sl39 : Array (Option Value)} {oc39 kV39 dc39 pm39 cd39 ct39 : Value} (a39 : PySem.W.nsIn K mainGlobals "is_plain" = some (some (.ref f39))) (l39 : K.lookup f39 = some ⟨oc39, od39, .func (PySem.W.fnOf "is_plain" "is_plain" (C8.fnArgs s_is_plain) (C8.fnBody s_is_plain) (C8.fnScope s_is_plain) .none kV39 dc39 pm39 an39 cd39 ct39), sl39⟩) (b39 : PySem.W.codeIn K cd39 "is_plain" = true) (k39 : PySem.W.keepIn K (.ref f39) = true)
    {f40 : Addr} {od40 an40 : Option Addr} {sl40 : Array (Option Value)} {oc40 kV40 dc40 pm40 cd40 ct40 : Value} (a40 : PySem.W.nsIn K mainGlobals "_columns_in" = some (some (.ref f40))) (l40 : K.lookup f40 = some ⟨oc40, od40, .func (PySem.W.fnOf "_columns_in" "_columns_in" (C8.fnArgs s__columns_in) (C8.fnBody s__columns_in) (C8.fnScope s__columns_in) .none kV40 dc40 pm40 an40 cd40 ct40), sl40⟩) (b40 : PySem.W.codeIn K cd40 "_columns_in" = true) (k40 : PySem.W.keepIn K (.ref f40) = true)
    {f41 : Addr} {od41 an41 : Option Addr} {sl41 : Array (Option Value)} {oc41 kV41 dc41 pm41 cd41 ct41 : Value} (a41 : PySem.W.nsIn K mainGlobals "can_merge" = some (some (.ref f41))) (l41 : K.lookup f41 = some ⟨oc41, od41, .func (PySem.W.fnOf "can_merge" "can_merge" (C8.fnArgs s_can_merge) (C8.fnBody s_can_merge) (C8.fnScope s_can_merge) .none kV41 dc41 pm41 an41 cd41 ct41), sl41⟩) (b41 : PySem.W.codeIn K cd41 "can_merge" = true) (k41 : PySem.W.keepIn K (.ref f41) = true)
    {f42 : Addr} {od42 an42 : Option Addr} {sl42 : Array (Option Value)} {oc42 kV42 dc42 pm42 cd42 ct42 : Value} (a42 : PySem.W.nsIn K mainGlobals "none_from" = some (some (.ref f42))) (l42 : K.lookup f42 = some ⟨oc42, od42, .func (PySem.W.fnOf "none_from" "none_from" (C8.fnArgs s_none_from) (C8.fnBody s_none_from) (C8.fnScope s_none_from) .none kV42 dc42 pm42 an42 cd42 ct42), sl42⟩) (b42 : PySem.W.codeIn K cd42 "none_from" = true) (k42 : PySem.W.keepIn K (.ref f42) = true)
    {f43 : Addr} {od43 an43 : Option Addr} {sl43 : Array (Option Value)} {oc43 kV43 dc43 pm43 cd43 ct43 : Value} (a43 : PySem.W.nsIn K mainGlobals "refuses" = some (some (.ref f43))) (l43 : K.lookup f43 = some ⟨oc43, od43, .func (PySem.W.fnOf "refuses" "refuses" (C8.fnArgs s_refuses) (C8.fnBody s_refuses) (C8.fnScope s_refuses) .none kV43 dc43 pm43 an43 cd43 ct43), sl43⟩) (b43 : PySem.W.codeIn K cd43 "refuses" = true) (k43 : PySem.W.keepIn K (.ref f43) = true)
    {f44 : Addr} {od44 an44 : Option Addr} {sl44 : Array (Option Value)} {oc44 kV44 dc44 pm44 cd44 ct44 : Value} (a44 : PySem.W.nsIn K mainGlobals "_law_cell" = some (some (.ref f44))) (l44 : K.lookup f44 = some ⟨oc44, od44, .func (PySem.W.fnOf "_law_cell" "_law_cell" (C8.fnArgs s__law_cell) (C8.fnBody s__law_cell) (C8.fnScope s__law_cell) .none kV44 dc44 pm44 an44 cd44 ct44), sl44⟩) (b44 : PySem.W.codeIn K cd44 "_law_cell" = true) (k44 : PySem.W.keepIn K (.ref f44) = true)
    {f45 : Addr} {od45 an45 : Option Addr} {sl45 : Array (Option Value)} {oc45 kV45 dc45 pm45 cd45 ct45 : Value} (a45 : PySem.W.nsIn K mainGlobals "_law_state" = some (some (.ref f45))) (l45 : K.lookup f45 = some ⟨oc45, od45, .func (PySem.W.fnOf "_law_state" "_law_state" (C8.fnArgs s__law_state) (C8.fnBody s__law_state) (C8.fnScope s__law_state) .none kV45 dc45 pm45 an45 cd45 ct45), sl45⟩) (b45 : PySem.W.codeIn K cd45 "_law_state" = true) (k45 : PySem.W.keepIn K (.ref f45) = true)
    {f46 : Addr} {od46 an46 : Option Addr} {sl46 : Array (Option Value)} {oc46 kV46 dc46 pm46 cd46 ct46 : Value} (a46 : PySem.W.nsIn K mainGlobals "_law_digit" = some (some (.ref f46))) (l46 : K.lookup f46 = some ⟨oc46, od46, .func (PySem.W.fnOf "_law_digit" "_law_digit" (C8.fnArgs s__law_digit) (C8.fnBody s__law_digit) (C8.fnScope s__law_digit) .none kV46 dc46 pm46 an46 cd46 ct46), sl46⟩) (b46 : PySem.W.codeIn K cd46 "_law_digit" = true) (k46 : PySem.W.keepIn K (.ref f46) = true)
    {f47 : Addr} {od47 an47 : Option Addr} {sl47 : Array (Option Value)} {oc47 kV47 dc47 pm47 cd47 ct47 : Value} (a47 : PySem.W.nsIn K mainGlobals "_law_text" = some (some (.ref f47))) (l47 : K.lookup f47 = some ⟨oc47, od47, .func (PySem.W.fnOf "_law_text" "_law_text" (C8.fnArgs s__law_text) (C8.fnBody s__law_text) (C8.fnScope s__law_text) .none kV47 dc47 pm47 an47 cd47 ct47), sl47⟩) (b47 : PySem.W.codeIn K cd47 "_law_text" = true) (k47 : PySem.W.keepIn K (.ref f47) = true)
    {f48 : Addr} {od48 an48 : Option Addr} {sl48 : Array (Option Value)} {oc48 kV48 dc48 pm48 cd48 ct48 : Value} (a48 : PySem.W.nsIn K mainGlobals "_law_value" = some (some (.ref f48))) (l48 : K.lookup f48 = some ⟨oc48, od48, .func (PySem.W.fnOf "_law_value" "_law_value" (C8.fnArgs s__law_value) (C8.fnBody s__law_value) (C8.fnScope s__law_value) .none kV48 dc48 pm48 an48 cd48 ct48), sl48⟩) (b48 : PySem.W.codeIn K cd48 "_law_value" = true) (k48 : PySem.W.keepIn K (.ref f48) = true)
    {f49 : Addr} {od49 an49 : Option Addr} {sl49 : Array (Option Value)} {oc49 kV49 dc49 pm49 cd49 ct49 : Value} (a49 : PySem.W.nsIn K mainGlobals "_law_leaf" = some (some (.ref f49))) (l49 : K.lookup f49 = some ⟨oc49, od49, .func (PySem.W.fnOf "_law_leaf" "_law_leaf" (C8.fnArgs s__law_leaf) (C8.fnBody s__law_leaf) (C8.fnScope s__law_leaf) .none kV49 dc49 pm49 an49 cd49 ct49), sl49⟩) (b49 : PySem.W.codeIn K cd49 "_law_leaf" = true) (k49 : PySem.W.keepIn K (.ref f49) = true)
    {f50 : Addr} {od50 an50 : Option Addr} {sl50 : Array (Option Value)} {oc50 kV50 dc50 pm50 cd50 ct50 : Value} (a50 : PySem.W.nsIn K mainGlobals "_law_expression" = some (some (.ref f50))) (l50 : K.lookup f50 = some ⟨oc50, od50, .func (PySem.W.fnOf "_law_expression" "_law_expression" (C8.fnArgs s__law_expression) (C8.fnBody s__law_expression) (C8.fnScope s__law_expression) .none kV50 dc50 pm50 an50 cd50 ct50), sl50⟩) (b50 : PySem.W.codeIn K cd50 "_law_expression" = true) (k50 : PySem.W.keepIn K (.ref f50) = true)
    {f51 : Addr} {od51 an51 : Option Addr} {sl51 : Array (Option Value)} {oc51 kV51 dc51 pm51 cd51 ct51 : Value} (a51 : PySem.W.nsIn K mainGlobals "_law_condition" = some (some (.ref f51))) (l51 : K.lookup f51 = some ⟨oc51, od51, .func (PySem.W.fnOf "_law_condition" "_law_condition" (C8.fnArgs s__law_condition) (C8.fnBody s__law_condition) (C8.fnScope s__law_condition) .none kV51 dc51 pm51 an51 cd51 ct51), sl51⟩) (b51 : PySem.W.codeIn K cd51 "_law_condition" = true) (k51 : PySem.W.keepIn K (.ref f51) = true)
    {f52 : Addr} {od52 an52 : Option Addr} {sl52 : Array (Option Value)} {oc52 kV52 dc52 pm52 cd52 ct52 : Value} (a52 : PySem.W.nsIn K mainGlobals "_law_parts" = some (some (.ref f52))) (l52 : K.lookup f52 = some ⟨oc52, od52, .func (PySem.W.fnOf "_law_parts" "_law_parts" (C8.fnArgs s__law_parts) (C8.fnBody s__law_parts) (C8.fnScope s__law_parts) .none kV52 dc52 pm52 an52 cd52 ct52), sl52⟩) (b52 : PySem.W.codeIn K cd52 "_law_parts" = true) (k52 : PySem.W.keepIn K (.ref f52) = true)
    {f53 : Addr} {od53 an53 : Option Addr} {sl53 : Array (Option Value)} {oc53 kV53 dc53 pm53 cd53 ct53 : Value} (a53 : PySem.W.nsIn K mainGlobals "_law_joined" = some (some (.ref f53))) (l53 : K.lookup f53 = some ⟨oc53, od53, .func (PySem.W.fnOf "_law_joined" "_law_joined" (C8.fnArgs s__law_joined) (C8.fnBody s__law_joined) (C8.fnScope s__law_joined) .none kV53 dc53 pm53 an53 cd53 ct53), sl53⟩) (b53 : PySem.W.codeIn K cd53 "_law_joined" = true) (k53 : PySem.W.keepIn K (.ref f53) = true)
    {f54 : Addr} {od54 an54 : Option Addr} {sl54 : Array (Option Value)} {oc54 kV54 dc54 pm54 cd54 ct54 : Value} (a54 : PySem.W.nsIn K mainGlobals "_law_columns_in" = some (some (.ref f54))) (l54 : K.lookup f54 = some ⟨oc54, od54, .func (PySem.W.fnOf "_law_columns_in" "_law_columns_in" (C8.fnArgs s__law_columns_in) (C8.fnBody s__law_columns_in) (C8.fnScope s__law_columns_in) .none kV54 dc54 pm54 an54 cd54 ct54), sl54⟩) (b54 : PySem.W.codeIn K cd54 "_law_columns_in" = true) (k54 : PySem.W.keepIn K (.ref f54) = true)
    {f55 : Addr} {od55 an55 : Option Addr} {sl55 : Array (Option Value)} {oc55 kV55 dc55 pm55 cd55 ct55 : Value} (a55 : PySem.W.nsIn K mainGlobals "_law_none" = some (some (.ref f55))) (l55 : K.lookup f55 = some ⟨oc55, od55, .func (PySem.W.fnOf "_law_none" "_law_none" (C8.fnArgs s__law_none) (C8.fnBody s__law_none) (C8.fnScope s__law_none) .none kV55 dc55 pm55 an55 cd55 ct55), sl55⟩) (b55 : PySem.W.codeIn K cd55 "_law_none" = true) (k55 : PySem.W.keepIn K (.ref f55) = true)
    {f56 : Addr} {od56 an56 : Option Addr} {sl56 : Array (Option Value)} {oc56 kV56 dc56 pm56 cd56 ct56 : Value} (a56 : PySem.W.nsIn K mainGlobals "_law_refuses" = some (some (.ref f56))) (l56 : K.lookup f56 = some ⟨oc56, od56, .func (PySem.W.fnOf "_law_refuses" "_law_refuses" (C8.fnArgs s__law_refuses) (C8.fnBody s__law_refuses) (C8.fnScope s__law_refuses) .none kV56 dc56 pm56 an56 cd56 ct56), sl56⟩) (b56 : PySem.W.codeIn K cd56 "_law_refuses" = true) (k56 : PySem.W.keepIn K (.ref f56) = true)
    {f57 : Addr} {od57 an57 : Option Addr} {sl57 : Array (Option Value)} {oc57 kV57 dc57 pm57 cd57 ct57 : Value} (a57 : PySem.W.nsIn K mainGlobals "_law_merges" = some (some (.ref f57))) (l57 : K.lookup f57 = some ⟨oc57, od57, .func (PySem.W.fnOf "_law_merges" "_law_merges" (C8.fnArgs s__law_merges) (C8.fnBody s__law_merges) (C8.fnScope s__law_merges) .none kV57 dc57 pm57 an57 cd57 ct57), sl57⟩) (b57 : PySem.W.codeIn K cd57 "_law_merges" = true) (k57 : PySem.W.keepIn K (.ref f57) = true)
    {f58 : Addr} {od58 an58 : Option Addr} {sl58 : Array (Option Value)} {oc58 kV58 dc58 pm58 cd58 ct58 : Value} (a58 : PySem.W.nsIn K mainGlobals "_law_holds" = some (some (.ref f58))) (l58 : K.lookup f58 = some ⟨oc58, od58, .func (PySem.W.fnOf "_law_holds" "_law_holds" (C8.fnArgs s__law_holds) (C8.fnBody s__law_holds) (C8.fnScope s__law_holds) .none kV58 dc58 pm58 an58 cd58 ct58), sl58⟩) (b58 : PySem.W.codeIn K cd58 "_law_holds" = true) (k58 : PySem.W.keepIn K (.ref f58) = true)
    {f59 : Addr} {od59 an59 : Option Addr} {sl59 : Array (Option Value)} {oc59 kV59 dc59 pm59 cd59 ct59 : Value} (a59 : PySem.W.nsIn K mainGlobals "law" = some (some (.ref f59))) (l59 : K.lookup f59 = some ⟨oc59, od59, .func (PySem.W.fnOf "law" "law" (C8.fnArgs s_law) (C8.fnBody s_law) (C8.fnScope s_law) .none kV59 dc59 pm59 an59 cd59 ct59), sl59⟩) (b59 : PySem.W.codeIn K cd59 "law" = true) (k59 : PySem.W.keepIn K (.ref f59) = true)
    (z_abs : PySem.W.nsIn K mainGlobals "abs" = some none)
    (z_all : PySem.W.nsIn K mainGlobals "all" = some none)
    (z_any : PySem.W.nsIn K mainGlobals "any" = some none)
    (z_bool : PySem.W.nsIn K mainGlobals "bool" = some none)
    (z_enumerate : PySem.W.nsIn K mainGlobals "enumerate" = some none)
    (z_int : PySem.W.nsIn K mainGlobals "int" = some none)
    (z_isinstance : PySem.W.nsIn K mainGlobals "isinstance" = some none)
    (z_len : PySem.W.nsIn K mainGlobals "len" = some none)
    (z_list : PySem.W.nsIn K mainGlobals "list" = some none)
    (z_max : PySem.W.nsIn K mainGlobals "max" = some none)
    (z_min : PySem.W.nsIn K mainGlobals "min" = some none)
    (z_range : PySem.W.nsIn K mainGlobals "range" = some none)
    (z_repr : PySem.W.nsIn K mainGlobals "repr" = some none)
    (z_sorted : PySem.W.nsIn K mainGlobals "sorted" = some none)
    (z_str : PySem.W.nsIn K mainGlobals "str" = some none)
    {t_FIRST_DAY : Tok} (q_FIRST_DAY : PySem.W.nsIn K mainGlobals "FIRST_DAY" = some (some (.int (-719162) t_FIRST_DAY)))
    {t_GREATEST : Tok} (q_GREATEST : PySem.W.nsIn K mainGlobals "GREATEST" = some (some (.int (1000000000000000) t_GREATEST)))
    {t_LAST_DAY : Tok} (q_LAST_DAY : PySem.W.nsIn K mainGlobals "LAST_DAY" = some (some (.int (2932896) t_LAST_DAY)))
    {p_OF_DATES_of_one : Addr} {es_OF_DATES_of_one : Array DictEntry} {n_OF_DATES_of_one : Nat} (q_OF_DATES_of_one : PySem.W.nsIn K mainGlobals "OF_DATES_of_one" = some (some (.ref p_OF_DATES_of_one))) (ka_OF_DATES_of_one : K.lookup p_OF_DATES_of_one = some ⟨.type "dict", none, .dict es_OF_DATES_of_one n_OF_DATES_of_one, #[]⟩) (kl_OF_DATES_of_one : PySem.W.KeysLit w.params es_OF_DATES_of_one.toList) (ko_OF_DATES_of_one : (p_OF_DATES_of_one == sysModules) = false)
    (e_OF_DATES_of_one_0 : PySem.W.nsIn K p_OF_DATES_of_one "as date" = some (some (.ref f12)))
    {p_OF_DATES_of_two : Addr} {es_OF_DATES_of_two : Array DictEntry} {n_OF_DATES_of_two : Nat} (q_OF_DATES_of_two : PySem.W.nsIn K mainGlobals "OF_DATES_of_two" = some (some (.ref p_OF_DATES_of_two))) (ka_OF_DATES_of_two : K.lookup p_OF_DATES_of_two = some ⟨.type "dict", none, .dict es_OF_DATES_of_two n_OF_DATES_of_two, #[]⟩) (kl_OF_DATES_of_two : PySem.W.KeysLit w.params es_OF_DATES_of_two.toList) (ko_OF_DATES_of_two : (p_OF_DATES_of_two == sysModules) = false)
    (e_OF_DATES_of_two_0 : PySem.W.nsIn K p_OF_DATES_of_two "add days" = some (some (.ref f26)))
    {p_OF_INTEGERS_of_one : Addr} {es_OF_INTEGERS_of_one : Array DictEntry} {n_OF_INTEGERS_of_one : Nat} (q_OF_INTEGERS_of_one : PySem.W.nsIn K mainGlobals "OF_INTEGERS_of_one" = some (some (.ref p_OF_INTEGERS_of_one))) (ka_OF_INTEGERS_of_one : K.lookup p_OF_INTEGERS_of_one = some ⟨.type "dict", none, .dict es_OF_INTEGERS_of_one n_OF_INTEGERS_of_one, #[]⟩) (kl_OF_INTEGERS_of_one : PySem.W.KeysLit w.params es_OF_INTEGERS_of_one.toList) (ko_OF_INTEGERS_of_one : (p_OF_INTEGERS_of_one == sysModules) = false)
    (e_OF_INTEGERS_of_one_0 : PySem.W.nsIn K p_OF_INTEGERS_of_one "negate" = some (some (.ref f10)))
    (e_OF_INTEGERS_of_one_1 : PySem.W.nsIn K p_OF_INTEGERS_of_one "abs" = some (some (.ref f11)))
    (e_OF_INTEGERS_of_one_2 : PySem.W.nsIn K p_OF_INTEGERS_of_one "as decimal" = some (some (.ref f12)))
    (e_OF_INTEGERS_of_one_3 : PySem.W.nsIn K p_OF_INTEGERS_of_one "to decimal" = some (some (.ref f13)))
    (e_OF_INTEGERS_of_one_4 : PySem.W.nsIn K p_OF_INTEGERS_of_one "length" = some none)
    (e_OF_INTEGERS_of_one_5 : PySem.W.nsIn K p_OF_INTEGERS_of_one "as date" = some none)
    {p_OF_INTEGERS_of_two : Addr} {es_OF_INTEGERS_of_two : Array DictEntry} {n_OF_INTEGERS_of_two : Nat} (q_OF_INTEGERS_of_two : PySem.W.nsIn K mainGlobals "OF_INTEGERS_of_two" = some (some (.ref p_OF_INTEGERS_of_two))) (ka_OF_INTEGERS_of_two : K.lookup p_OF_INTEGERS_of_two = some ⟨.type "dict", none, .dict es_OF_INTEGERS_of_two n_OF_INTEGERS_of_two, #[]⟩) (kl_OF_INTEGERS_of_two : PySem.W.KeysLit w.params es_OF_INTEGERS_of_two.toList) (ko_OF_INTEGERS_of_two : (p_OF_INTEGERS_of_two == sysModules) = false)
    (e_OF_INTEGERS_of_two_0 : PySem.W.nsIn K p_OF_INTEGERS_of_two "add" = some (some (.ref f23)))
    (e_OF_INTEGERS_of_two_1 : PySem.W.nsIn K p_OF_INTEGERS_of_two "subtract" = some (some (.ref f24)))
    (e_OF_INTEGERS_of_two_2 : PySem.W.nsIn K p_OF_INTEGERS_of_two "multiply" = some (some (.ref f25)))
    (e_OF_INTEGERS_of_two_3 : PySem.W.nsIn K p_OF_INTEGERS_of_two "add days" = some none)
    {p_OF_TEXTS_of_one : Addr} {es_OF_TEXTS_of_one : Array DictEntry} {n_OF_TEXTS_of_one : Nat} (q_OF_TEXTS_of_one : PySem.W.nsIn K mainGlobals "OF_TEXTS_of_one" = some (some (.ref p_OF_TEXTS_of_one))) (ka_OF_TEXTS_of_one : K.lookup p_OF_TEXTS_of_one = some ⟨.type "dict", none, .dict es_OF_TEXTS_of_one n_OF_TEXTS_of_one, #[]⟩) (kl_OF_TEXTS_of_one : PySem.W.KeysLit w.params es_OF_TEXTS_of_one.toList) (ko_OF_TEXTS_of_one : (p_OF_TEXTS_of_one == sysModules) = false)
    (e_OF_TEXTS_of_one_0 : PySem.W.nsIn K p_OF_TEXTS_of_one "length" = some (some (.ref f14)))
    (e_OF_TEXTS_of_one_1 : PySem.W.nsIn K p_OF_TEXTS_of_one "as date" = some none)
    {p_OF_TEXTS_of_two : Addr} {es_OF_TEXTS_of_two : Array DictEntry} {n_OF_TEXTS_of_two : Nat} (q_OF_TEXTS_of_two : PySem.W.nsIn K mainGlobals "OF_TEXTS_of_two" = some (some (.ref p_OF_TEXTS_of_two))) (ka_OF_TEXTS_of_two : K.lookup p_OF_TEXTS_of_two = some ⟨.type "dict", none, .dict es_OF_TEXTS_of_two n_OF_TEXTS_of_two, #[]⟩) (kl_OF_TEXTS_of_two : PySem.W.KeysLit w.params es_OF_TEXTS_of_two.toList) (ko_OF_TEXTS_of_two : (p_OF_TEXTS_of_two == sysModules) = false)
    (e_OF_TEXTS_of_two_0 : PySem.W.nsIn K p_OF_TEXTS_of_two "add days" = some none)
    {p__FIRST_PART : Addr} {es__FIRST_PART : Array DictEntry} {n__FIRST_PART : Nat} (q__FIRST_PART : PySem.W.nsIn K mainGlobals "_FIRST_PART" = some (some (.ref p__FIRST_PART))) (ka__FIRST_PART : K.lookup p__FIRST_PART = some ⟨.type "dict", none, .dict es__FIRST_PART n__FIRST_PART, #[]⟩) (kl__FIRST_PART : PySem.W.KeysLit w.params es__FIRST_PART.toList) (ko__FIRST_PART : (p__FIRST_PART == sysModules) = false)
    {tk__FIRST_PART_0 : Tok} (e__FIRST_PART_0 : PySem.W.nsIn K p__FIRST_PART "constant" = some (some (.int 2 tk__FIRST_PART_0)))
    {tk__FIRST_PART_1 : Tok} (e__FIRST_PART_1 : PySem.W.nsIn K p__FIRST_PART "column" = some (some (.int 2 tk__FIRST_PART_1)))
    {tk__FIRST_PART_2 : Tok} (e__FIRST_PART_2 : PySem.W.nsIn K p__FIRST_PART "unary" = some (some (.int 2 tk__FIRST_PART_2)))
    {tk__FIRST_PART_3 : Tok} (e__FIRST_PART_3 : PySem.W.nsIn K p__FIRST_PART "binary" = some (some (.int 2 tk__FIRST_PART_3)))
    {tk__FIRST_PART_4 : Tok} (e__FIRST_PART_4 : PySem.W.nsIn K p__FIRST_PART "ternary" = some (some (.int 2 tk__FIRST_PART_4)))
    {tk__FIRST_PART_5 : Tok} (e__FIRST_PART_5 : PySem.W.nsIn K p__FIRST_PART "choice" = some (some (.int 1 tk__FIRST_PART_5)))
    {p__OF_ALIKE : Addr} {es__OF_ALIKE : Array DictEntry} {n__OF_ALIKE : Nat} (q__OF_ALIKE : PySem.W.nsIn K mainGlobals "_OF_ALIKE" = some (some (.ref p__OF_ALIKE))) (ka__OF_ALIKE : K.lookup p__OF_ALIKE = some ⟨.type "dict", none, .dict es__OF_ALIKE n__OF_ALIKE, #[]⟩) (kl__OF_ALIKE : PySem.W.KeysLit w.params es__OF_ALIKE.toList) (ko__OF_ALIKE : (p__OF_ALIKE == sysModules) = false)
    (e__OF_ALIKE_0 : PySem.W.nsIn K p__OF_ALIKE "equal" = some (some (.ref f20)))
    (e__OF_ALIKE_1 : PySem.W.nsIn K p__OF_ALIKE "less" = some (some (.ref f21)))
    (e__OF_ALIKE_2 : PySem.W.nsIn K p__OF_ALIKE "at most" = some (some (.ref f22)))
    (e__OF_ALIKE_3 : PySem.W.nsIn K p__OF_ALIKE "add" = some none)
    (e__OF_ALIKE_4 : PySem.W.nsIn K p__OF_ALIKE "subtract" = some none)
    (e__OF_ALIKE_5 : PySem.W.nsIn K p__OF_ALIKE "multiply" = some none)
    (e__OF_ALIKE_6 : PySem.W.nsIn K p__OF_ALIKE "add days" = some none)
    {p__OF_ANY : Addr} {es__OF_ANY : Array DictEntry} {n__OF_ANY : Nat} (q__OF_ANY : PySem.W.nsIn K mainGlobals "_OF_ANY" = some (some (.ref p__OF_ANY))) (ka__OF_ANY : K.lookup p__OF_ANY = some ⟨.type "dict", none, .dict es__OF_ANY n__OF_ANY, #[]⟩) (kl__OF_ANY : PySem.W.KeysLit w.params es__OF_ANY.toList) (ko__OF_ANY : (p__OF_ANY == sysModules) = false)
    (e__OF_ANY_0 : PySem.W.nsIn K p__OF_ANY "and" = some (some (.ref f16)))
    (e__OF_ANY_1 : PySem.W.nsIn K p__OF_ANY "or" = some (some (.ref f17)))
    (e__OF_ANY_2 : PySem.W.nsIn K p__OF_ANY "same" = some (some (.ref f18)))
    (e__OF_ANY_3 : PySem.W.nsIn K p__OF_ANY "coalesce" = some (some (.ref f19)))
    (e__OF_ANY_4 : PySem.W.nsIn K p__OF_ANY "equal" = some none)
    (e__OF_ANY_5 : PySem.W.nsIn K p__OF_ANY "less" = some none)
    (e__OF_ANY_6 : PySem.W.nsIn K p__OF_ANY "at most" = some none)
    (e__OF_ANY_7 : PySem.W.nsIn K p__OF_ANY "add" = some none)
    (e__OF_ANY_8 : PySem.W.nsIn K p__OF_ANY "subtract" = some none)
    (e__OF_ANY_9 : PySem.W.nsIn K p__OF_ANY "multiply" = some none)
    (e__OF_ANY_10 : PySem.W.nsIn K p__OF_ANY "add days" = some none)
    {p__TRUE : Addr} (q__TRUE : PySem.W.nsIn K mainGlobals "_TRUE" = some (some (.ref p__TRUE))) (r__TRUE : ∀ H : Hp, SqT K H p__TRUE ([.str "constant", .bl true]))
    : ∃ fd : FuncData, C8.Def K mg "law" s_law fa fd ∧ (∀ (s : Shared) (u : Value), BindsTo s fd ⟨[u], []⟩ [("script", u)]) ∧ ∀ (base : Heap) (s : Shared) (H : Hp) (a : Addr) (ns : List Int) (cdv : Value), K.In base → base.Ns mainGlobals mg → base.NoDigits → ns.length ≤ 63 → SqL K H a (ns.map V.int) → Room 19 (callerA.deeper (envOfC "law" (C8.fnScope s_law) s.heap.objs.size fa cdv)) → ∃ t, PSs (cxOf C8.CX0 P w K mg base n_law "law" (C8.fnScope s_law) fa cdv callerA [] s H C8.E0).nox (C8.fnBody s_law) t ∧ t { nx := fun _ _ => V.non = .bl true, rt := fun v _ => v = .bl true } (start n_law [.ref a]) H := by
  have D_kind_rank : Dn K mg "kind_rank" s_kind_rank ["value"] := dn_mk l0 b0 k0 (PySem.W.mg_of X G a0) (fun _ _ _ _ _ _ us hl => match us, hl with | [_], _ => rfl)
  have D_is_integer : Dn K mg "is_integer" s_is_integer ["value"] := dn_mk l1 b1 k1 (PySem.W.mg_of X G a1) (fun _ _ _ _ _ _ us hl => match us, hl with | [_], _ => rfl)
  have D_rank : Dn K mg "rank" s_rank ["value"] := dn_mk l2 b2 k2 (PySem.W.mg_of X G a2) (fun _ _ _ _ _ _ us hl => match us, hl with | [_], _ => rfl)
  have D_same : Dn K mg "same" s_same ["first", "second"] := dn_mk l3 b3 k3 (PySem.W.mg_of X G a3) (fun _ _ _ _ _ _ us hl => match us, hl with | [_, _], _ => rfl)
  have D_before : Dn K mg "before" s_before ["first", "second"] := dn_mk l4 b4 k4 (PySem.W.mg_of X G a4) (fun _ _ _ _ _ _ us hl => match us, hl with | [_, _], _ => rfl)
  have D_is_day : Dn K mg "is_day" s_is_day ["value"] := dn_mk l5 b5 k5 (PySem.W.mg_of X G a5) (fun _ _ _ _ _ _ us hl => match us, hl with | [_], _ => rfl)
  have D_limited : Dn K mg "limited" s_limited ["number"] := dn_mk l6 b6 k6 (PySem.W.mg_of X G a6) (fun _ _ _ _ _ _ us hl => match us, hl with | [_], _ => rfl)
  have D_negated : Dn K mg "negated" s_negated ["value"] := dn_mk l7 b7 k7 (PySem.W.mg_of X G a7) (fun _ _ _ _ _ _ us hl => match us, hl with | [_], _ => rfl)
  have D_both : Dn K mg "both" s_both ["first", "second"] := dn_mk l8 b8 k8 (PySem.W.mg_of X G a8) (fun _ _ _ _ _ _ us hl => match us, hl with | [_, _], _ => rfl)
  have D_either : Dn K mg "either" s_either ["first", "second"] := dn_mk l9 b9 k9 (PySem.W.mg_of X G a9) (fun _ _ _ _ _ _ us hl => match us, hl with | [_, _], _ => rfl)
  have D__negate : Dn K mg "_negate" s__negate ["number"] := dn_mk l10 b10 k10 (PySem.W.mg_of X G a10) (fun _ _ _ _ _ _ us hl => match us, hl with | [_], _ => rfl)
  have D__size : Dn K mg "_size" s__size ["number"] := dn_mk l11 b11 k11 (PySem.W.mg_of X G a11) (fun _ _ _ _ _ _ us hl => match us, hl with | [_], _ => rfl)
  have D__value : Dn K mg "_value" s__value ["value"] := dn_mk l12 b12 k12 (PySem.W.mg_of X G a12) (fun _ _ _ _ _ _ us hl => match us, hl with | [_], _ => rfl)
  have D__to_decimal : Dn K mg "_to_decimal" s__to_decimal ["number"] := dn_mk l13 b13 k13 (PySem.W.mg_of X G a13) (fun _ _ _ _ _ _ us hl => match us, hl with | [_], _ => rfl)
  have D__length : Dn K mg "_length" s__length ["text"] := dn_mk l14 b14 k14 (PySem.W.mg_of X G a14) (fun _ _ _ _ _ _ us hl => match us, hl with | [_], _ => rfl)
  have D_value_of_one : Dn K mg "value_of_one" s_value_of_one ["name", "value"] := dn_mk l15 b15 k15 (PySem.W.mg_of X G a15) (fun _ _ _ _ _ _ us hl => match us, hl with | [_, _], _ => rfl)
  have D__both : Dn K mg "_both" s__both ["first", "second"] := dn_mk l16 b16 k16 (PySem.W.mg_of X G a16) (fun _ _ _ _ _ _ us hl => match us, hl with | [_, _], _ => rfl)
  have D__either : Dn K mg "_either" s__either ["first", "second"] := dn_mk l17 b17 k17 (PySem.W.mg_of X G a17) (fun _ _ _ _ _ _ us hl => match us, hl with | [_, _], _ => rfl)
  have D__same : Dn K mg "_same" s__same ["first", "second"] := dn_mk l18 b18 k18 (PySem.W.mg_of X G a18) (fun _ _ _ _ _ _ us hl => match us, hl with | [_, _], _ => rfl)
  have D__first_known : Dn K mg "_first_known" s__first_known ["first", "second"] := dn_mk l19 b19 k19 (PySem.W.mg_of X G a19) (fun _ _ _ _ _ _ us hl => match us, hl with | [_, _], _ => rfl)
  have D__equal : Dn K mg "_equal" s__equal ["first", "second"] := dn_mk l20 b20 k20 (PySem.W.mg_of X G a20) (fun _ _ _ _ _ _ us hl => match us, hl with | [_, _], _ => rfl)
  have D__less : Dn K mg "_less" s__less ["first", "second"] := dn_mk l21 b21 k21 (PySem.W.mg_of X G a21) (fun _ _ _ _ _ _ us hl => match us, hl with | [_, _], _ => rfl)
  have D__at_most : Dn K mg "_at_most" s__at_most ["first", "second"] := dn_mk l22 b22 k22 (PySem.W.mg_of X G a22) (fun _ _ _ _ _ _ us hl => match us, hl with | [_, _], _ => rfl)
  have D__add : Dn K mg "_add" s__add ["first", "second"] := dn_mk l23 b23 k23 (PySem.W.mg_of X G a23) (fun _ _ _ _ _ _ us hl => match us, hl with | [_, _], _ => rfl)
  have D__subtract : Dn K mg "_subtract" s__subtract ["first", "second"] := dn_mk l24 b24 k24 (PySem.W.mg_of X G a24) (fun _ _ _ _ _ _ us hl => match us, hl with | [_, _], _ => rfl)
  have D__multiply : Dn K mg "_multiply" s__multiply ["first", "second"] := dn_mk l25 b25 k25 (PySem.W.mg_of X G a25) (fun _ _ _ _ _ _ us hl => match us, hl with | [_, _], _ => rfl)
  have D__add_days : Dn K mg "_add_days" s__add_days ["day", "many"] := dn_mk l26 b26 k26 (PySem.W.mg_of X G a26) (fun _ _ _ _ _ _ us hl => match us, hl with | [_, _], _ => rfl)
  have D__are_alike : Dn K mg "_are_alike" s__are_alike ["first", "second"] := dn_mk l27 b27 k27 (PySem.W.mg_of X G a27) (fun _ _ _ _ _ _ us hl => match us, hl with | [_, _], _ => rfl)
  have D_value_of_two : Dn K mg "value_of_two" s_value_of_two ["name", "first", "second"] := dn_mk l28 b28 k28 (PySem.W.mg_of X G a28) (fun _ _ _ _ _ _ us hl => match us, hl with | [_, _, _], _ => rfl)
  have D_unary : Dn K mg "unary" s_unary ["name", "value"] := dn_mk l29 b29 k29 (PySem.W.mg_of X G a29) (fun _ _ _ _ _ _ us hl => match us, hl with | [_, _], _ => rfl)
  have D_binary : Dn K mg "binary" s_binary ["name", "first", "second"] := dn_mk l30 b30 k30 (PySem.W.mg_of X G a30) (fun _ _ _ _ _ _ us hl => match us, hl with | [_, _, _], _ => rfl)
  have D_evaluate : Dn K mg "evaluate" s_evaluate ["expression", "row"] := dn_mk l31 b31 k31 (PySem.W.mg_of X G a31) (fun _ _ _ _ _ _ us hl => match us, hl with | [_, _], _ => rfl)
  have D_holds : Dn K mg "holds" s_holds ["expression", "row"] := dn_mk l32 b32 k32 (PySem.W.mg_of X G a32) (fun _ _ _ _ _ _ us hl => match us, hl with | [_, _], _ => rfl)
  have D_parts_of : Dn K mg "parts_of" s_parts_of ["expression"] := dn_mk l33 b33 k33 (PySem.W.mg_of X G a33) (fun _ _ _ _ _ _ us hl => match us, hl with | [_], _ => rfl)
  have D_columns_of : Dn K mg "columns_of" s_columns_of ["expression"] := dn_mk l34 b34 k34 (PySem.W.mg_of X G a34) (fun _ _ _ _ _ _ us hl => match us, hl with | [_], _ => rfl)
  have D_condition_parts : Dn K mg "condition_parts" s_condition_parts ["condition"] := dn_mk l35 b35 k35 (PySem.W.mg_of X G a35) (fun _ _ _ _ _ _ us hl => match us, hl with | [_], _ => rfl)
  have D_conjunction : Dn K mg "conjunction" s_conjunction ["conditions"] := dn_mk l36 b36 k36 (PySem.W.mg_of X G a36) (fun _ _ _ _ _ _ us hl => match us, hl with | [_], _ => rfl)
  have D_together : Dn K mg "together" s_together ["first", "second"] := dn_mk l37 b37 k37 (PySem.W.mg_of X G a37) (fun _ _ _ _ _ _ us hl => match us, hl with | [_, _], _ => rfl)
  have D_uses_only : Dn K mg "uses_only" s_uses_only ["expression", "low", "high"] := dn_mk l38 b38 k38 (PySem.W.mg_of X G a38) (fun _ _ _ _ _ _ us hl => match us, hl with | [_, _, _], _ => rfl)
  have D_is_plain : Dn K mg "is_plain" s_is_plain ["expression"] := dn_mk l39 b39 k39 (PySem.W.mg_of X G a39) (fun _ _ _ _ _ _ us hl => match us, hl with | [_], _ => rfl)
  have D__columns_in : Dn K mg "_columns_in" s__columns_in ["expressions"] := dn_mk l40 b40 k40 (PySem.W.mg_of X G a40) (fun _ _ _ _ _ _ us hl => match us, hl with | [_], _ => rfl)
  have D_can_merge : Dn K mg "can_merge" s_can_merge ["expressions", "others"] := dn_mk l41 b41 k41 (PySem.W.mg_of X G a41) (fun _ _ _ _ _ _ us hl => match us, hl with | [_, _], _ => rfl)
  have D_none_from : Dn K mg "none_from" s_none_from ["expression", "m"] := dn_mk l42 b42 k42 (PySem.W.mg_of X G a42) (fun _ _ _ _ _ _ us hl => match us, hl with | [_, _], _ => rfl)
  have D_refuses : Dn K mg "refuses" s_refuses ["condition", "m"] := dn_mk l43 b43 k43 (PySem.W.mg_of X G a43) (fun _ _ _ _ _ _ us hl => match us, hl with | [_, _], _ => rfl)
  have D__law_cell : Dn K mg "_law_cell" s__law_cell ["script", "k"] := dn_mk l44 b44 k44 (PySem.W.mg_of X G a44) (fun _ _ _ _ _ _ us hl => match us, hl with | [_, _], _ => rfl)
  have D__law_state : Dn K mg "_law_state" s__law_state ["cell", "k"] := dn_mk l45 b45 k45 (PySem.W.mg_of X G a45) (fun _ _ _ _ _ _ us hl => match us, hl with | [_, _], _ => rfl)
  have D__law_digit : Dn K mg "_law_digit" s__law_digit ["state", "many"] := dn_mk l46 b46 k46 (PySem.W.mg_of X G a46) (fun _ _ _ _ _ _ us hl => match us, hl with | [_, _], _ => rfl)
  have D__law_text : Dn K mg "_law_text" s__law_text ["state"] := dn_mk l47 b47 k47 (PySem.W.mg_of X G a47) (fun _ _ _ _ _ _ us hl => match us, hl with | [_], _ => rfl)
  have D__law_value : Dn K mg "_law_value" s__law_value ["state"] := dn_mk l48 b48 k48 (PySem.W.mg_of X G a48) (fun _ _ _ _ _ _ us hl => match us, hl with | [_], _ => rfl)
  have D__law_leaf : Dn K mg "_law_leaf" s__law_leaf ["state", "width"] := dn_mk l49 b49 k49 (PySem.W.mg_of X G a49) (fun _ _ _ _ _ _ us hl => match us, hl with | [_, _], _ => rfl)
  have D__law_expression : Dn K mg "_law_expression" s__law_expression ["state", "width", "depth"] := dn_mk l50 b50 k50 (PySem.W.mg_of X G a50) (fun _ _ _ _ _ _ us hl => match us, hl with | [_, _, _], _ => rfl)
  have D__law_condition : Dn K mg "_law_condition" s__law_condition ["state", "width", "depth"] := dn_mk l51 b51 k51 (PySem.W.mg_of X G a51) (fun _ _ _ _ _ _ us hl => match us, hl with | [_, _, _], _ => rfl)
  have D__law_parts : Dn K mg "_law_parts" s__law_parts ["condition"] := dn_mk l52 b52 k52 (PySem.W.mg_of X G a52) (fun _ _ _ _ _ _ us hl => match us, hl with | [_], _ => rfl)
  have D__law_joined : Dn K mg "_law_joined" s__law_joined ["conditions"] := dn_mk l53 b53 k53 (PySem.W.mg_of X G a53) (fun _ _ _ _ _ _ us hl => match us, hl with | [_], _ => rfl)
  have D__law_columns_in : Dn K mg "_law_columns_in" s__law_columns_in ["expression"] := dn_mk l54 b54 k54 (PySem.W.mg_of X G a54) (fun _ _ _ _ _ _ us hl => match us, hl with | [_], _ => rfl)
  have D__law_none : Dn K mg "_law_none" s__law_none ["expression", "m"] := dn_mk l55 b55 k55 (PySem.W.mg_of X G a55) (fun _ _ _ _ _ _ us hl => match us, hl with | [_, _], _ => rfl)
  have D__law_refuses : Dn K mg "_law_refuses" s__law_refuses ["condition", "m"] := dn_mk l56 b56 k56 (PySem.W.mg_of X G a56) (fun _ _ _ _ _ _ us hl => match us, hl with | [_, _], _ => rfl)
  have D__law_merges : Dn K mg "_law_merges" s__law_merges ["expressions", "others"] := dn_mk l57 b57 k57 (PySem.W.mg_of X G a57) (fun _ _ _ _ _ _ us hl => match us, hl with | [_, _], _ => rfl)
  have D__law_holds : Dn K mg "_law_holds" s__law_holds ["condition", "m", "state"] := dn_mk l58 b58 k58 (PySem.W.mg_of X G a58) (fun _ _ _ _ _ _ us hl => match us, hl with | [_, _, _], _ => rfl)
  have y_abs : mg "abs" = none := PySem.W.mg_none_of X G z_abs
  have y_all : mg "all" = none := PySem.W.mg_none_of X G z_all
  have y_any : mg "any" = none := PySem.W.mg_none_of X G z_any
  have y_bool : mg "bool" = none := PySem.W.mg_none_of X G z_bool
  have y_enumerate : mg "enumerate" = none := PySem.W.mg_none_of X G z_enumerate
  have y_int : mg "int" = none := PySem.W.mg_none_of X G z_int
  have y_isinstance : mg "isinstance" = none := PySem.W.mg_none_of X G z_isinstance
  have y_len : mg "len" = none := PySem.W.mg_none_of X G z_len
  have y_list : mg "list" = none := PySem.W.mg_none_of X G z_list
  have y_max : mg "max" = none := PySem.W.mg_none_of X G z_max
  have y_min : mg "min" = none := PySem.W.mg_none_of X G z_min
  have y_range : mg "range" = none := PySem.W.mg_none_of X G z_range
  have y_repr : mg "repr" = none := PySem.W.mg_none_of X G z_repr
  have y_sorted : mg "sorted" = none := PySem.W.mg_none_of X G z_sorted
  have y_str : mg "str" = none := PySem.W.mg_none_of X G z_str
  have v_FIRST_DAY : ∃ u, mg "FIRST_DAY" = some u ∧ RelV (.int (-719162)) u := ⟨_, PySem.W.mg_of X G q_FIRST_DAY, ⟨_, rfl⟩⟩
  have v_GREATEST : ∃ u, mg "GREATEST" = some u ∧ RelV (.int (1000000000000000)) u := ⟨_, PySem.W.mg_of X G q_GREATEST, ⟨_, rfl⟩⟩
  have v_LAST_DAY : ∃ u, mg "LAST_DAY" = some u ∧ RelV (.int (2932896)) u := ⟨_, PySem.W.mg_of X G q_LAST_DAY, ⟨_, rfl⟩⟩
  have v_OF_DATES_of_one : ∃ u, mg "OF_DATES_of_one" = some u ∧ RelV (.ref p_OF_DATES_of_one) u := ⟨_, PySem.W.mg_of X G q_OF_DATES_of_one, rfl⟩
  have w_OF_DATES_of_one : KDict K w p_OF_DATES_of_one es_OF_DATES_of_one n_OF_DATES_of_one := ⟨ka_OF_DATES_of_one, kl_OF_DATES_of_one, ko_OF_DATES_of_one⟩
  have v_OF_DATES_of_two : ∃ u, mg "OF_DATES_of_two" = some u ∧ RelV (.ref p_OF_DATES_of_two) u := ⟨_, PySem.W.mg_of X G q_OF_DATES_of_two, rfl⟩
  have w_OF_DATES_of_two : KDict K w p_OF_DATES_of_two es_OF_DATES_of_two n_OF_DATES_of_two := ⟨ka_OF_DATES_of_two, kl_OF_DATES_of_two, ko_OF_DATES_of_two⟩
  have v_OF_INTEGERS_of_one : ∃ u, mg "OF_INTEGERS_of_one" = some u ∧ RelV (.ref p_OF_INTEGERS_of_one) u := ⟨_, PySem.W.mg_of X G q_OF_INTEGERS_of_one, rfl⟩
  have w_OF_INTEGERS_of_one : KDict K w p_OF_INTEGERS_of_one es_OF_INTEGERS_of_one n_OF_INTEGERS_of_one := ⟨ka_OF_INTEGERS_of_one, kl_OF_INTEGERS_of_one, ko_OF_INTEGERS_of_one⟩
  have v_OF_INTEGERS_of_two : ∃ u, mg "OF_INTEGERS_of_two" = some u ∧ RelV (.ref p_OF_INTEGERS_of_two) u := ⟨_, PySem.W.mg_of X G q_OF_INTEGERS_of_two, rfl⟩
  have w_OF_INTEGERS_of_two : KDict K w p_OF_INTEGERS_of_two es_OF_INTEGERS_of_two n_OF_INTEGERS_of_two := ⟨ka_OF_INTEGERS_of_two, kl_OF_INTEGERS_of_two, ko_OF_INTEGERS_of_two⟩
  have v_OF_TEXTS_of_one : ∃ u, mg "OF_TEXTS_of_one" = some u ∧ RelV (.ref p_OF_TEXTS_of_one) u := ⟨_, PySem.W.mg_of X G q_OF_TEXTS_of_one, rfl⟩
  have w_OF_TEXTS_of_one : KDict K w p_OF_TEXTS_of_one es_OF_TEXTS_of_one n_OF_TEXTS_of_one := ⟨ka_OF_TEXTS_of_one, kl_OF_TEXTS_of_one, ko_OF_TEXTS_of_one⟩
  have v_OF_TEXTS_of_two : ∃ u, mg "OF_TEXTS_of_two" = some u ∧ RelV (.ref p_OF_TEXTS_of_two) u := ⟨_, PySem.W.mg_of X G q_OF_TEXTS_of_two, rfl⟩
  have w_OF_TEXTS_of_two : KDict K w p_OF_TEXTS_of_two es_OF_TEXTS_of_two n_OF_TEXTS_of_two := ⟨ka_OF_TEXTS_of_two, kl_OF_TEXTS_of_two, ko_OF_TEXTS_of_two⟩
  have v__FIRST_PART : ∃ u, mg "_FIRST_PART" = some u ∧ RelV (.ref p__FIRST_PART) u := ⟨_, PySem.W.mg_of X G q__FIRST_PART, rfl⟩
  have w__FIRST_PART : KDict K w p__FIRST_PART es__FIRST_PART n__FIRST_PART := ⟨ka__FIRST_PART, kl__FIRST_PART, ko__FIRST_PART⟩
  have v__OF_ALIKE : ∃ u, mg "_OF_ALIKE" = some u ∧ RelV (.ref p__OF_ALIKE) u := ⟨_, PySem.W.mg_of X G q__OF_ALIKE, rfl⟩
  have w__OF_ALIKE : KDict K w p__OF_ALIKE es__OF_ALIKE n__OF_ALIKE := ⟨ka__OF_ALIKE, kl__OF_ALIKE, ko__OF_ALIKE⟩
  have v__OF_ANY : ∃ u, mg "_OF_ANY" = some u ∧ RelV (.ref p__OF_ANY) u := ⟨_, PySem.W.mg_of X G q__OF_ANY, rfl⟩
  have w__OF_ANY : KDict K w p__OF_ANY es__OF_ANY n__OF_ANY := ⟨ka__OF_ANY, kl__OF_ANY, ko__OF_ANY⟩
  have v__TRUE : ∃ u, mg "_TRUE" = some u ∧ RelV (.ref p__TRUE) u := ⟨_, PySem.W.mg_of X G q__TRUE, rfl⟩
  have w__TRUE := r__TRUE
  have e := hfa.symm.trans (PySem.W.mg_of X G a59)
  cases e
  have D_law := def_mk (x := "law") (st := s_law) l59 b59 k59 hfa
  refine ⟨_, D_law, fun s v => .of_eq rfl, fun base s H a ns cdv _ _ nd h63 hS hr => ?_⟩
  have c_kind_rank := ok_kind_rank (P := P) (w := w) (base := base) D_kind_rank y_bool y_int y_isinstance 
  have c_is_integer := ok_is_integer (P := P) (w := w) (base := base) D_is_integer y_bool y_int y_isinstance 
  have c_rank := ok_rank (P := P) (w := w) (base := base) D_rank c_kind_rank y_int 
  have c_same := ok_same (P := P) (w := w) (base := base) D_same c_rank 
  have c_before := ok_before (P := P) (w := w) (base := base) D_before c_rank 
  have c_is_day := ok_is_day (P := P) (w := w) (base := base) D_is_day c_is_integer v_FIRST_DAY v_LAST_DAY 
  have c_limited := ok_limited (P := P) (w := w) (base := base) D_limited v_GREATEST 
  have c_negated := ok_negated (P := P) (w := w) (base := base) D_negated 
  have c_both := ok_both (P := P) (w := w) (base := base) D_both 
  have c_either := ok_either (P := P) (w := w) (base := base) D_either 
  have c__negate := ok__negate (P := P) (w := w) (base := base) D__negate 
  have c__size := ok__size (P := P) (w := w) (base := base) D__size y_abs 
  have c__value := ok__value (P := P) (w := w) (base := base) D__value 
  have c__to_decimal := ok__to_decimal (P := P) (w := w) (base := base) D__to_decimal c_limited 
  have c__length := ok__length (P := P) (w := w) (base := base) D__length y_len 
  have tab1 : ∀ nm x, nm ∈ unL → nm ≠ "not" → nm ≠ "is null" → Opr1 P w K mg base p_OF_INTEGERS_of_one p_OF_TEXTS_of_one p_OF_DATES_of_one nm x (unV nm x) := by
    intro nm x h n1 n2
    simp only [unL, List.mem_cons, List.not_mem_nil, or_false] at h
    rcases h with rfl | rfl | rfl | rfl | rfl | rfl | rfl | rfl | rfl
    · exact (n1 rfl).elim
    · exact (n2 rfl).elim
    · exact .inty e_OF_INTEGERS_of_one_0 (held_of c__negate (PySem.W.mg_of X G a10) (by decide))
    · exact .inty e_OF_INTEGERS_of_one_1 (held_of c__size (PySem.W.mg_of X G a11) (by decide))
    · exact .days e_OF_INTEGERS_of_one_5 e_OF_TEXTS_of_one_1 e_OF_DATES_of_one_0 (held_of c__value (PySem.W.mg_of X G a12) (by decide))
    · exact .inty e_OF_INTEGERS_of_one_2 (heldI (held_of c__value (PySem.W.mg_of X G a12) (by decide)) fun vs H Q E ⟨x, h1, _, h3⟩ => ⟨x, h1, trivial, h3⟩)
    · exact .inty e_OF_INTEGERS_of_one_3 (held_of c__to_decimal (PySem.W.mg_of X G a13) (by decide))
    · exact (n2 rfl).elim
    · exact .wrds e_OF_INTEGERS_of_one_4 e_OF_TEXTS_of_one_0 (held_of c__length (PySem.W.mg_of X G a14) (by decide))
  have c_value_of_one := ok_value_of_one (P := P) (w := w) (base := base) D_value_of_one c_is_day c_is_integer c_negated y_isinstance y_str v_OF_DATES_of_one w_OF_DATES_of_one v_OF_INTEGERS_of_one w_OF_INTEGERS_of_one v_OF_TEXTS_of_one w_OF_TEXTS_of_one tab1
  have c__both := ok__both (P := P) (w := w) (base := base) D__both c_both 
  have c__either := ok__either (P := P) (w := w) (base := base) D__either c_either 
  have c__same := ok__same (P := P) (w := w) (base := base) D__same c_same 
  have c__first_known := ok__first_known (P := P) (w := w) (base := base) D__first_known 
  have c__equal := ok__equal (P := P) (w := w) (base := base) D__equal c_same 
  have c__less := ok__less (P := P) (w := w) (base := base) D__less c_before 
  have c__at_most := ok__at_most (P := P) (w := w) (base := base) D__at_most c_before 
  have c__add := ok__add (P := P) (w := w) (base := base) D__add c_limited 
  have c__subtract := ok__subtract (P := P) (w := w) (base := base) D__subtract c_limited 
  have c__multiply := ok__multiply (P := P) (w := w) (base := base) D__multiply c_limited 
  have c__add_days := ok__add_days (P := P) (w := w) (base := base) D__add_days c_is_day 
  have c__are_alike := ok__are_alike (P := P) (w := w) (base := base) D__are_alike c_kind_rank 
  have tab : ∀ nm x y, nm ∈ binL → Ok x → Ok y → Opr2 P w K mg base p__OF_ANY p__OF_ALIKE p_OF_INTEGERS_of_two p_OF_TEXTS_of_two p_OF_DATES_of_two nm x y (binV nm x y) := by
    intro nm x y h hx hy
    have hAdd := held_of (k := 4) c__add (PySem.W.mg_of X G a23) (by decide)
    have hLess := held_of (k := 4) c__less (PySem.W.mg_of X G a21) (by decide)
    simp only [binL, List.mem_cons, List.not_mem_nil, or_false] at h
    rcases h with rfl | rfl | rfl | rfl | rfl | rfl | rfl | rfl | rfl | rfl | rfl | rfl
    · exact .any e__OF_ANY_0 (held_of c__both (PySem.W.mg_of X G a16) (by decide)) trivial
    · exact .any e__OF_ANY_1 (held_of c__either (PySem.W.mg_of X G a17) (by decide)) trivial
    · exact .alike e__OF_ANY_4 e__OF_ALIKE_0 (held_of c__equal (PySem.W.mg_of X G a20) (by decide))
    · exact .alike e__OF_ANY_5 e__OF_ALIKE_1 hLess
    · exact .alike e__OF_ANY_6 e__OF_ALIKE_2 (held_of c__at_most (PySem.W.mg_of X G a22) (by decide))
    · exact .nums e__OF_ANY_7 e__OF_ALIKE_3 e_OF_INTEGERS_of_two_0 hAdd
    · exact .nums e__OF_ANY_8 e__OF_ALIKE_4 e_OF_INTEGERS_of_two_1 (held_of c__subtract (PySem.W.mg_of X G a24) (by decide))
    · exact .any e__OF_ANY_3 (held_of c__first_known (PySem.W.mg_of X G a19) (by decide)) trivial
    · exact .days e__OF_ANY_10 e__OF_ALIKE_6 e_OF_INTEGERS_of_two_3 e_OF_TEXTS_of_two_0 e_OF_DATES_of_two_0 (held_of c__add_days (PySem.W.mg_of X G a26) (by decide))
    · exact .any e__OF_ANY_2 (held_of c__same (PySem.W.mg_of X G a18) (by decide)) ⟨hx, hy⟩
    · exact .nums e__OF_ANY_9 e__OF_ALIKE_5 e_OF_INTEGERS_of_two_2 (held_of c__multiply (PySem.W.mg_of X G a25) (by decide))
    · exact .alike e__OF_ANY_5 e__OF_ALIKE_1 hLess
  have c_value_of_two := ok_value_of_two (P := P) (w := w) (base := base) D_value_of_two c__are_alike c_is_day c_is_integer v_OF_DATES_of_two w_OF_DATES_of_two v_OF_INTEGERS_of_two w_OF_INTEGERS_of_two v_OF_TEXTS_of_two w_OF_TEXTS_of_two v__OF_ALIKE w__OF_ALIKE v__OF_ANY w__OF_ANY tab
  have c_unary := ok_unary (P := P) (w := w) (base := base) D_unary c_value_of_one 
  have c_binary := ok_binary (P := P) (w := w) (base := base) D_binary c_value_of_two 
  have c_evaluate_0 : C8.Cal P w K mg base 7 "evaluate" (spR_evaluate 0 K) [] := cal_no D_evaluate sc_evaluate (fun _ _ _ _ h => h.elim)
  have c_evaluate_1 := ok_evaluate (P := P) (w := w) (base := base) (rn := 0) D_evaluate c_binary c_unary y_len  c_evaluate_0
  have c_evaluate_2 := ok_evaluate (P := P) (w := w) (base := base) (rn := 1) D_evaluate c_binary c_unary y_len  c_evaluate_1
  have c_evaluate_3 := ok_evaluate (P := P) (w := w) (base := base) (rn := 2) D_evaluate c_binary c_unary y_len  c_evaluate_2
  have c_evaluate_4 := ok_evaluate (P := P) (w := w) (base := base) (rn := 3) D_evaluate c_binary c_unary y_len  c_evaluate_3
  have c_evaluate_5 := ok_evaluate (P := P) (w := w) (base := base) (rn := 4) D_evaluate c_binary c_unary y_len  c_evaluate_4
  have c_evaluate_6 := ok_evaluate (P := P) (w := w) (base := base) (rn := 5) D_evaluate c_binary c_unary y_len  c_evaluate_5
  have c_evaluate : C8.Cal P w K mg base 13 "evaluate" (sp_evaluate K) [] := c_evaluate_6
  have c_holds := ok_holds (P := P) (w := w) (base := base) D_holds c_evaluate 
  have c_parts_of := ok_parts_of (P := P) (w := w) (base := base) D_parts_of v__FIRST_PART w__FIRST_PART (DInts.cons e__FIRST_PART_0 (DInts.cons e__FIRST_PART_1 (DInts.cons e__FIRST_PART_2 (DInts.cons e__FIRST_PART_3 (DInts.cons e__FIRST_PART_4 (DInts.cons e__FIRST_PART_5 DInts.nil)))))) 
  have c_columns_of := ok_columns_of (P := P) (w := w) (base := base) D_columns_of c_parts_of y_sorted 
  have c_condition_parts := ok_condition_parts (P := P) (w := w) (base := base) D_condition_parts 
  have c_conjunction_0 : C8.Cal P w K mg base 1 "conjunction" (spR_conjunction 0 K) [] := cal_no D_conjunction sc_conjunction (fun _ _ _ _ h => h.elim)
  have c_conjunction_1 := ok_conjunction (P := P) (w := w) (base := base) (rn := 0) D_conjunction y_len v__TRUE w__TRUE  c_conjunction_0
  have c_conjunction_2 := ok_conjunction (P := P) (w := w) (base := base) (rn := 1) D_conjunction y_len v__TRUE w__TRUE  c_conjunction_1
  have c_conjunction_3 := ok_conjunction (P := P) (w := w) (base := base) (rn := 2) D_conjunction y_len v__TRUE w__TRUE  c_conjunction_2
  have c_conjunction_4 := ok_conjunction (P := P) (w := w) (base := base) (rn := 3) D_conjunction y_len v__TRUE w__TRUE  c_conjunction_3
  have c_conjunction_5 := ok_conjunction (P := P) (w := w) (base := base) (rn := 4) D_conjunction y_len v__TRUE w__TRUE  c_conjunction_4
  have c_conjunction_6 := ok_conjunction (P := P) (w := w) (base := base) (rn := 5) D_conjunction y_len v__TRUE w__TRUE  c_conjunction_5
  have c_conjunction_7 := ok_conjunction (P := P) (w := w) (base := base) (rn := 6) D_conjunction y_len v__TRUE w__TRUE  c_conjunction_6
  have c_conjunction_8 := ok_conjunction (P := P) (w := w) (base := base) (rn := 7) D_conjunction y_len v__TRUE w__TRUE  c_conjunction_7
  have c_conjunction : C8.Cal P w K mg base 9 "conjunction" (sp_conjunction K) [] := c_conjunction_8
  have c_together := ok_together (P := P) (w := w) (base := base) D_together c_condition_parts c_conjunction 
  have c_uses_only := ok_uses_only (P := P) (w := w) (base := base) D_uses_only c_columns_of 
  have c_is_plain := ok_is_plain (P := P) (w := w) (base := base) D_is_plain 
  have c__columns_in := ok__columns_in (P := P) (w := w) (base := base) D__columns_in c_parts_of y_list 
  have c_can_merge := ok_can_merge (P := P) (w := w) (base := base) D_can_merge c__columns_in c_is_plain y_all y_enumerate 
  have c_none_from_0 : C8.Cal P w K mg base 1 "none_from" (spR_none_from 0 K) [] := cal_no D_none_from sc_none_from (fun _ _ _ _ h => h.elim)
  have c_none_from_1 := ok_none_from (P := P) (w := w) (base := base) (rn := 0) D_none_from y_any  c_none_from_0
  have c_none_from_2 := ok_none_from (P := P) (w := w) (base := base) (rn := 1) D_none_from y_any  c_none_from_1
  have c_none_from_3 := ok_none_from (P := P) (w := w) (base := base) (rn := 2) D_none_from y_any  c_none_from_2
  have c_none_from_4 := ok_none_from (P := P) (w := w) (base := base) (rn := 3) D_none_from y_any  c_none_from_3
  have c_none_from_5 := ok_none_from (P := P) (w := w) (base := base) (rn := 4) D_none_from y_any  c_none_from_4
  have c_none_from_6 := ok_none_from (P := P) (w := w) (base := base) (rn := 5) D_none_from y_any  c_none_from_5
  have c_none_from_7 := ok_none_from (P := P) (w := w) (base := base) (rn := 6) D_none_from y_any  c_none_from_6
  have c_none_from_8 := ok_none_from (P := P) (w := w) (base := base) (rn := 7) D_none_from y_any  c_none_from_7
  have c_none_from : C8.Cal P w K mg base 9 "none_from" (sp_none_from K) [] := c_none_from_8
  have c_refuses_0 : C8.Cal P w K mg base 10 "refuses" (spR_refuses 0 K) [] := cal_no D_refuses sc_refuses (fun _ _ _ _ h => h.elim)
  have c_refuses_1 := ok_refuses (P := P) (w := w) (base := base) (rn := 0) D_refuses c_none_from  c_refuses_0
  have c_refuses_2 := ok_refuses (P := P) (w := w) (base := base) (rn := 1) D_refuses c_none_from  c_refuses_1
  have c_refuses_3 := ok_refuses (P := P) (w := w) (base := base) (rn := 2) D_refuses c_none_from  c_refuses_2
  have c_refuses_4 := ok_refuses (P := P) (w := w) (base := base) (rn := 3) D_refuses c_none_from  c_refuses_3
  have c_refuses_5 := ok_refuses (P := P) (w := w) (base := base) (rn := 4) D_refuses c_none_from  c_refuses_4
  have c_refuses_6 := ok_refuses (P := P) (w := w) (base := base) (rn := 5) D_refuses c_none_from  c_refuses_5
  have c_refuses_7 := ok_refuses (P := P) (w := w) (base := base) (rn := 6) D_refuses c_none_from  c_refuses_6
  have c_refuses_8 := ok_refuses (P := P) (w := w) (base := base) (rn := 7) D_refuses c_none_from  c_refuses_7
  have c_refuses : C8.Cal P w K mg base 18 "refuses" (sp_refuses K) [] := c_refuses_8
  have c__law_cell := ok__law_cell (P := P) (w := w) (base := base) D__law_cell y_len 
  have c__law_state := ok__law_state (P := P) (w := w) (base := base) D__law_state y_int 
  have c__law_digit := ok__law_digit (P := P) (w := w) (base := base) D__law_digit y_int 
  have c__law_text := ok__law_text (P := P) (w := w) (base := base) D__law_text c__law_digit y_range 
  have c__law_value := ok__law_value (P := P) (w := w) (base := base) D__law_value c__law_digit c__law_text 
  have c__law_leaf := ok__law_leaf (P := P) (w := w) (base := base) D__law_leaf c__law_digit c__law_value 
  have c__law_expression_0 : C8.Cal P w K mg base 5 "_law_expression" (spR__law_expression 0 K) [] := cal_no D__law_expression sc__law_expression (fun _ _ _ _ h => h.elim)
  have c__law_expression_1 := ok__law_expression (P := P) (w := w) (base := base) (rn := 0) D__law_expression c__law_digit c__law_leaf  c__law_expression_0
  have c__law_expression_2 := ok__law_expression (P := P) (w := w) (base := base) (rn := 1) D__law_expression c__law_digit c__law_leaf  c__law_expression_1
  have c__law_expression_3 := ok__law_expression (P := P) (w := w) (base := base) (rn := 2) D__law_expression c__law_digit c__law_leaf  c__law_expression_2
  have c__law_expression_4 := ok__law_expression (P := P) (w := w) (base := base) (rn := 3) D__law_expression c__law_digit c__law_leaf  c__law_expression_3
  have c__law_expression_5 := ok__law_expression (P := P) (w := w) (base := base) (rn := 4) D__law_expression c__law_digit c__law_leaf  c__law_expression_4
  have c__law_expression : C8.Cal P w K mg base 10 "_law_expression" (sp__law_expression K) [] := c__law_expression_5
  have c__law_condition_0 : C8.Cal P w K mg base 4 "_law_condition" (spR__law_condition 0 K) [] := cal_no D__law_condition sc__law_condition (fun _ _ _ _ h => h.elim)
  have c__law_condition_1 := ok__law_condition (P := P) (w := w) (base := base) (rn := 0) D__law_condition c__law_digit c__law_value  c__law_condition_0
  have c__law_condition_2 := ok__law_condition (P := P) (w := w) (base := base) (rn := 1) D__law_condition c__law_digit c__law_value  c__law_condition_1
  have c__law_condition_3 := ok__law_condition (P := P) (w := w) (base := base) (rn := 2) D__law_condition c__law_digit c__law_value  c__law_condition_2
  have c__law_condition_4 := ok__law_condition (P := P) (w := w) (base := base) (rn := 3) D__law_condition c__law_digit c__law_value  c__law_condition_3
  have c__law_condition : C8.Cal P w K mg base 8 "_law_condition" (sp__law_condition K) [] := c__law_condition_4
  have c__law_parts_0 : C8.Cal P w K mg base 1 "_law_parts" (spR__law_parts 0 K) [] := cal_no D__law_parts sc__law_parts (fun _ _ _ _ h => h.elim)
  have c__law_parts_1 := ok__law_parts (P := P) (w := w) (base := base) (rn := 0) D__law_parts  c__law_parts_0
  have c__law_parts_2 := ok__law_parts (P := P) (w := w) (base := base) (rn := 1) D__law_parts  c__law_parts_1
  have c__law_parts_3 := ok__law_parts (P := P) (w := w) (base := base) (rn := 2) D__law_parts  c__law_parts_2
  have c__law_parts_4 := ok__law_parts (P := P) (w := w) (base := base) (rn := 3) D__law_parts  c__law_parts_3
  have c__law_parts_5 := ok__law_parts (P := P) (w := w) (base := base) (rn := 4) D__law_parts  c__law_parts_4
  have c__law_parts_6 := ok__law_parts (P := P) (w := w) (base := base) (rn := 5) D__law_parts  c__law_parts_5
  have c__law_parts_7 := ok__law_parts (P := P) (w := w) (base := base) (rn := 6) D__law_parts  c__law_parts_6
  have c__law_parts_8 := ok__law_parts (P := P) (w := w) (base := base) (rn := 7) D__law_parts  c__law_parts_7
  have c__law_parts : C8.Cal P w K mg base 9 "_law_parts" (sp__law_parts K) [] := c__law_parts_8
  have c__law_joined_0 : C8.Cal P w K mg base 1 "_law_joined" (spR__law_joined 0 K) [] := cal_no D__law_joined sc__law_joined (fun _ _ _ _ h => h.elim)
  have c__law_joined_1 := ok__law_joined (P := P) (w := w) (base := base) (rn := 0) D__law_joined y_len  c__law_joined_0
  have c__law_joined_2 := ok__law_joined (P := P) (w := w) (base := base) (rn := 1) D__law_joined y_len  c__law_joined_1
  have c__law_joined_3 := ok__law_joined (P := P) (w := w) (base := base) (rn := 2) D__law_joined y_len  c__law_joined_2
  have c__law_joined_4 := ok__law_joined (P := P) (w := w) (base := base) (rn := 3) D__law_joined y_len  c__law_joined_3
  have c__law_joined_5 := ok__law_joined (P := P) (w := w) (base := base) (rn := 4) D__law_joined y_len  c__law_joined_4
  have c__law_joined_6 := ok__law_joined (P := P) (w := w) (base := base) (rn := 5) D__law_joined y_len  c__law_joined_5
  have c__law_joined_7 := ok__law_joined (P := P) (w := w) (base := base) (rn := 6) D__law_joined y_len  c__law_joined_6
  have c__law_joined_8 := ok__law_joined (P := P) (w := w) (base := base) (rn := 7) D__law_joined y_len  c__law_joined_7
  have c__law_joined : C8.Cal P w K mg base 9 "_law_joined" (sp__law_joined K) [] := c__law_joined_8
  have c__law_columns_in_0 : C8.Cal P w K mg base 1 "_law_columns_in" (spR__law_columns_in 0 K) [] := cal_no D__law_columns_in sc__law_columns_in (fun _ _ _ _ h => h.elim)
  have c__law_columns_in_1 := ok__law_columns_in (P := P) (w := w) (base := base) (rn := 0) D__law_columns_in y_int  c__law_columns_in_0
  have c__law_columns_in_2 := ok__law_columns_in (P := P) (w := w) (base := base) (rn := 1) D__law_columns_in y_int  c__law_columns_in_1
  have c__law_columns_in_3 := ok__law_columns_in (P := P) (w := w) (base := base) (rn := 2) D__law_columns_in y_int  c__law_columns_in_2
  have c__law_columns_in_4 := ok__law_columns_in (P := P) (w := w) (base := base) (rn := 3) D__law_columns_in y_int  c__law_columns_in_3
  have c__law_columns_in_5 := ok__law_columns_in (P := P) (w := w) (base := base) (rn := 4) D__law_columns_in y_int  c__law_columns_in_4
  have c__law_columns_in_6 := ok__law_columns_in (P := P) (w := w) (base := base) (rn := 5) D__law_columns_in y_int  c__law_columns_in_5
  have c__law_columns_in_7 := ok__law_columns_in (P := P) (w := w) (base := base) (rn := 6) D__law_columns_in y_int  c__law_columns_in_6
  have c__law_columns_in_8 := ok__law_columns_in (P := P) (w := w) (base := base) (rn := 7) D__law_columns_in y_int  c__law_columns_in_7
  have c__law_columns_in : C8.Cal P w K mg base 9 "_law_columns_in" (sp__law_columns_in K) [] := c__law_columns_in_8
  have c__law_none_0 : C8.Cal P w K mg base 1 "_law_none" (spR__law_none 0 K) [] := cal_no D__law_none sc__law_none (fun _ _ _ _ h => h.elim)
  have c__law_none_1 := ok__law_none (P := P) (w := w) (base := base) (rn := 0) D__law_none  c__law_none_0
  have c__law_none_2 := ok__law_none (P := P) (w := w) (base := base) (rn := 1) D__law_none  c__law_none_1
  have c__law_none_3 := ok__law_none (P := P) (w := w) (base := base) (rn := 2) D__law_none  c__law_none_2
  have c__law_none_4 := ok__law_none (P := P) (w := w) (base := base) (rn := 3) D__law_none  c__law_none_3
  have c__law_none_5 := ok__law_none (P := P) (w := w) (base := base) (rn := 4) D__law_none  c__law_none_4
  have c__law_none_6 := ok__law_none (P := P) (w := w) (base := base) (rn := 5) D__law_none  c__law_none_5
  have c__law_none_7 := ok__law_none (P := P) (w := w) (base := base) (rn := 6) D__law_none  c__law_none_6
  have c__law_none_8 := ok__law_none (P := P) (w := w) (base := base) (rn := 7) D__law_none  c__law_none_7
  have c__law_none : C8.Cal P w K mg base 9 "_law_none" (sp__law_none K) [] := c__law_none_8
  have c__law_refuses_0 : C8.Cal P w K mg base 10 "_law_refuses" (spR__law_refuses 0 K) [] := cal_no D__law_refuses sc__law_refuses (fun _ _ _ _ h => h.elim)
  have c__law_refuses_1 := ok__law_refuses (P := P) (w := w) (base := base) (rn := 0) D__law_refuses c__law_none  c__law_refuses_0
  have c__law_refuses_2 := ok__law_refuses (P := P) (w := w) (base := base) (rn := 1) D__law_refuses c__law_none  c__law_refuses_1
  have c__law_refuses_3 := ok__law_refuses (P := P) (w := w) (base := base) (rn := 2) D__law_refuses c__law_none  c__law_refuses_2
  have c__law_refuses_4 := ok__law_refuses (P := P) (w := w) (base := base) (rn := 3) D__law_refuses c__law_none  c__law_refuses_3
  have c__law_refuses_5 := ok__law_refuses (P := P) (w := w) (base := base) (rn := 4) D__law_refuses c__law_none  c__law_refuses_4
  have c__law_refuses_6 := ok__law_refuses (P := P) (w := w) (base := base) (rn := 5) D__law_refuses c__law_none  c__law_refuses_5
  have c__law_refuses_7 := ok__law_refuses (P := P) (w := w) (base := base) (rn := 6) D__law_refuses c__law_none  c__law_refuses_6
  have c__law_refuses_8 := ok__law_refuses (P := P) (w := w) (base := base) (rn := 7) D__law_refuses c__law_none  c__law_refuses_7
  have c__law_refuses : C8.Cal P w K mg base 18 "_law_refuses" (sp__law_refuses K) [] := c__law_refuses_8
  have c__law_merges := ok__law_merges (P := P) (w := w) (base := base) D__law_merges c__law_columns_in y_len y_range 
  have c__law_holds := ok__law_holds (P := P) (w := w) (base := base) D__law_holds c__law_value c_evaluate c_holds c_none_from c_refuses y_range 
  exact ok_law (P := P) (w := w) (base := base)  c__law_cell c__law_columns_in c__law_condition c__law_digit c__law_expression c__law_holds c__law_joined c__law_merges c__law_none c__law_parts c__law_refuses c__law_state c_can_merge c_condition_parts c_conjunction c_none_from c_refuses c_together c_uses_only y_bool y_isinstance y_len y_list y_max y_min y_range y_repr nd h63 hS hr
end My
open PySem PySem.W PyProof.Rows
set_option maxHeartbeats 0 in
theorem PySem.Challenge.cw_stylobate_k65_parts_of_conditions_holds : PySem.Challenge.rw_stylobate_k65_parts_of_conditions.Holds := by
  w_on; o_law; k_head; (case hw => w_witness2)
  k_fill
  refine My.walk_here (l := PySem.Challenge.rw_stylobate_k65_parts_of_conditions) (n := 63) (k := 19) rfl (by decide) rfl ⟨rfl, by decide, by decide⟩ (fun w h Y => PySem.W.kIn_of Y) My.sc_law ?F
  case F =>
    intro w mg fa h KX G hmg
    refine' My.all_mk KX G hmg ?a0 ?l0 ?b0 ?k0 ?a1 ?l1 ?b1 ?k1 ?a2 ?l2 ?b2 ?k2 ?a3 ?l3 ?b3 ?k3 ?a4 ?l4 ?b4 ?k4 ?a5 ?l5 ?b5 ?k5 ?a6 ?l6 ?b6 ?k6 ?a7 ?l7 ?b7 ?k7 ?a8 ?l8 ?b8 ?k8 ?a9 ?l9 ?b9 ?k9 ?a10 ?l10 ?b10 ?k10 ?a11 ?l11 ?b11 ?k11 ?a12 ?l12 ?b12 ?k12 ?a13 ?l13 ?b13 ?k13 ?a14 ?l14 ?b14 ?k14 ?a15 ?l15 ?b15 ?k15 ?a16 ?l16 ?b16 ?k16 ?a17 ?l17 ?b17 ?k17 ?a18 ?l18 ?b18 ?k18 ?a19 ?l19 ?b19 ?k19 ?a20 ?l20 ?b20 ?k20 ?a21 ?l21 ?b21 ?k21 ?a22 ?l22 ?b22 ?k22 ?a23 ?l23 ?b23 ?k23 ?a24 ?l24 ?b24 ?k24 ?a25 ?l25 ?b25 ?k25 ?a26 ?l26 ?b26 ?k26 ?a27 ?l27 ?b27 ?k27 ?a28 ?l28 ?b28 ?k28 ?a29 ?l29 ?b29 ?k29 ?a30 ?l30 ?b30 ?k30 ?a31 ?l31 ?b31 ?k31 ?a32 ?l32 ?b32 ?k32 ?a33 ?l33 ?b33 ?k33 ?a34 ?l34 ?b34 ?k34 ?a35 ?l35 ?b35 ?k35 ?a36 ?l36 ?b36 ?k36 ?a37 ?l37 ?b37 ?k37 ?a38 ?l38 ?b38 ?k38 ?a39 ?l39 ?b39 ?k39 ?a40 ?l40 ?b40 ?k40 ?a41 ?l41 ?b41 ?k41 ?a42 ?l42 ?b42 ?k42 ?a43 ?l43 ?b43 ?k43 ?a44 ?l44 ?b44 ?k44 ?a45 ?l45 ?b45 ?k45 ?a46 ?l46 ?b46 ?k46 ?a47 ?l47 ?b47 ?k47 ?a48 ?l48 ?b48 ?k48 ?a49 ?l49 ?b49 ?k49 ?a50 ?l50 ?b50 ?k50 ?a51 ?l51 ?b51 ?k51 ?a52 ?l52 ?b52 ?k52 ?a53 ?l53 ?b53 ?k53 ?a54 ?l54 ?b54 ?k54 ?a55 ?l55 ?b55 ?k55 ?a56 ?l56 ?b56 ?k56 ?a57 ?l57 ?b57 ?k57 ?a58 ?l58 ?b58 ?k58 ?a59 ?l59 ?b59 ?k59 ?z_abs ?z_all ?z_any ?z_bool ?z_enumerate ?z_int ?z_isinstance ?z_len ?z_list ?z_max ?z_min ?z_range ?z_repr ?z_sorted ?z_str ?q_FIRST_DAY ?q_GREATEST ?q_LAST_DAY ?q_OF_DATES_of_one ?ka_OF_DATES_of_one ?kl_OF_DATES_of_one ?ko_OF_DATES_of_one ?e_OF_DATES_of_one_0 ?q_OF_DATES_of_two ?ka_OF_DATES_of_two ?kl_OF_DATES_of_two ?ko_OF_DATES_of_two ?e_OF_DATES_of_two_0 ?q_OF_INTEGERS_of_one ?ka_OF_INTEGERS_of_one ?kl_OF_INTEGERS_of_one ?ko_OF_INTEGERS_of_one ?e_OF_INTEGERS_of_one_0 ?e_OF_INTEGERS_of_one_1 ?e_OF_INTEGERS_of_one_2 ?e_OF_INTEGERS_of_one_3 ?e_OF_INTEGERS_of_one_4 ?e_OF_INTEGERS_of_one_5 ?q_OF_INTEGERS_of_two ?ka_OF_INTEGERS_of_two ?kl_OF_INTEGERS_of_two ?ko_OF_INTEGERS_of_two ?e_OF_INTEGERS_of_two_0 ?e_OF_INTEGERS_of_two_1 ?e_OF_INTEGERS_of_two_2 ?e_OF_INTEGERS_of_two_3 ?q_OF_TEXTS_of_one ?ka_OF_TEXTS_of_one ?kl_OF_TEXTS_of_one ?ko_OF_TEXTS_of_one ?e_OF_TEXTS_of_one_0 ?e_OF_TEXTS_of_one_1 ?q_OF_TEXTS_of_two ?ka_OF_TEXTS_of_two ?kl_OF_TEXTS_of_two ?ko_OF_TEXTS_of_two ?e_OF_TEXTS_of_two_0 ?q__FIRST_PART ?ka__FIRST_PART ?kl__FIRST_PART ?ko__FIRST_PART ?e__FIRST_PART_0 ?e__FIRST_PART_1 ?e__FIRST_PART_2 ?e__FIRST_PART_3 ?e__FIRST_PART_4 ?e__FIRST_PART_5 ?q__OF_ALIKE ?ka__OF_ALIKE ?kl__OF_ALIKE ?ko__OF_ALIKE ?e__OF_ALIKE_0 ?e__OF_ALIKE_1 ?e__OF_ALIKE_2 ?e__OF_ALIKE_3 ?e__OF_ALIKE_4 ?e__OF_ALIKE_5 ?e__OF_ALIKE_6 ?q__OF_ANY ?ka__OF_ANY ?kl__OF_ANY ?ko__OF_ANY ?e__OF_ANY_0 ?e__OF_ANY_1 ?e__OF_ANY_2 ?e__OF_ANY_3 ?e__OF_ANY_4 ?e__OF_ANY_5 ?e__OF_ANY_6 ?e__OF_ANY_7 ?e__OF_ANY_8 ?e__OF_ANY_9 ?e__OF_ANY_10 ?q__TRUE ?r__TRUE
    (case a0 => k_is); (case l0 => k_is); (case b0 => k_is); (case k0 => k_is); (case a1 => k_is); (case l1 => k_is); (case b1 => k_is); (case k1 => k_is); (case a2 => k_is); (case l2 => k_is); (case b2 => k_is); (case k2 => k_is); (case a3 => k_is); (case l3 => k_is); (case b3 => k_is); (case k3 => k_is); (case a4 => k_is); (case l4 => k_is); (case b4 => k_is); (case k4 => k_is); (case a5 => k_is); (case l5 => k_is); (case b5 => k_is); (case k5 => k_is); (case a6 => k_is); (case l6 => k_is); (case b6 => k_is); (case k6 => k_is); (case a7 => k_is); (case l7 => k_is); (case b7 => k_is); (case k7 => k_is); (case a8 => k_is); (case l8 => k_is); (case b8 => k_is); (case k8 => k_is); (case a9 => k_is); (case l9 => k_is); (case b9 => k_is); (case k9 => k_is); (case a10 => k_is); (case l10 => k_is); (case b10 => k_is); (case k10 => k_is); (case a11 => k_is); (case l11 => k_is); (case b11 => k_is); (case k11 => k_is); (case a12 => k_is); (case l12 => k_is); (case b12 => k_is); (case k12 => k_is); (case a13 => k_is); (case l13 => k_is); (case b13 => k_is); (case k13 => k_is); (case a14 => k_is); (case l14 => k_is); (case b14 => k_is); (case k14 => k_is); (case a15 => k_is); (case l15 => k_is); (case b15 => k_is); (case k15 => k_is); (case a16 => k_is); (case l16 => k_is); (case b16 => k_is); (case k16 => k_is); (case a17 => k_is); (case l17 => k_is); (case b17 => k_is); (case k17 => k_is); (case a18 => k_is); (case l18 => k_is); (case b18 => k_is); (case k18 => k_is); (case a19 => k_is); (case l19 => k_is); (case b19 => k_is); (case k19 => k_is); (case a20 => k_is); (case l20 => k_is); (case b20 => k_is); (case k20 => k_is); (case a21 => k_is); (case l21 => k_is); (case b21 => k_is); (case k21 => k_is); (case a22 => k_is); (case l22 => k_is); (case b22 => k_is); (case k22 => k_is); (case a23 => k_is); (case l23 => k_is); (case b23 => k_is); (case k23 => k_is); (case a24 => k_is); (case l24 => k_is); (case b24 => k_is); (case k24 => k_is); (case a25 => k_is); (case l25 => k_is); (case b25 => k_is); (case k25 => k_is); (case a26 => k_is); (case l26 => k_is); (case b26 => k_is); (case k26 => k_is); (case a27 => k_is); (case l27 => k_is); (case b27 => k_is); (case k27 => k_is); (case a28 => k_is); (case l28 => k_is); (case b28 => k_is); (case k28 => k_is); (case a29 => k_is); (case l29 => k_is); (case b29 => k_is); (case k29 => k_is); (case a30 => k_is); (case l30 => k_is); (case b30 => k_is); (case k30 => k_is); (case a31 => k_is); (case l31 => k_is); (case b31 => k_is); (case k31 => k_is); (case a32 => k_is); (case l32 => k_is); (case b32 => k_is); (case k32 => k_is); (case a33 => k_is); (case l33 => k_is); (case b33 => k_is); (case k33 => k_is); (case a34 => k_is); (case l34 => k_is); (case b34 => k_is); (case k34 => k_is); (case a35 => k_is); (case l35 => k_is); (case b35 => k_is); (case k35 => k_is); (case a36 => k_is); (case l36 => k_is); (case b36 => k_is); (case k36 => k_is); (case a37 => k_is); (case l37 => k_is); (case b37 => k_is); (case k37 => k_is); (case a38 => k_is); (case l38 => k_is); (case b38 => k_is); (case k38 => k_is); (case a39 => k_is); (case l39 => k_is); (case b39 => k_is); (case k39 => k_is); (case a40 => k_is); (case l40 => k_is); (case b40 => k_is); (case k40 => k_is); (case a41 => k_is); (case l41 => k_is); (case b41 => k_is); (case k41 => k_is); (case a42 => k_is); (case l42 => k_is); (case b42 => k_is); (case k42 => k_is); (case a43 => k_is); (case l43 => k_is); (case b43 => k_is); (case k43 => k_is); (case a44 => k_is); (case l44 => k_is); (case b44 => k_is); (case k44 => k_is); (case a45 => k_is); (case l45 => k_is); (case b45 => k_is); (case k45 => k_is); (case a46 => k_is); (case l46 => k_is); (case b46 => k_is); (case k46 => k_is); (case a47 => k_is); (case l47 => k_is); (case b47 => k_is); (case k47 => k_is); (case a48 => k_is); (case l48 => k_is); (case b48 => k_is); (case k48 => k_is); (case a49 => k_is); (case l49 => k_is); (case b49 => k_is); (case k49 => k_is); (case a50 => k_is); (case l50 => k_is); (case b50 => k_is); (case k50 => k_is); (case a51 => k_is); (case l51 => k_is); (case b51 => k_is); (case k51 => k_is); (case a52 => k_is); (case l52 => k_is); (case b52 => k_is); (case k52 => k_is); (case a53 => k_is); (case l53 => k_is); (case b53 => k_is); (case k53 => k_is); (case a54 => k_is); (case l54 => k_is); (case b54 => k_is); (case k54 => k_is); (case a55 => k_is); (case l55 => k_is); (case b55 => k_is); (case k55 => k_is); (case a56 => k_is); (case l56 => k_is); (case b56 => k_is); (case k56 => k_is); (case a57 => k_is); (case l57 => k_is); (case b57 => k_is); (case k57 => k_is); (case a58 => k_is); (case l58 => k_is); (case b58 => k_is); (case k58 => k_is); (case a59 => k_is); (case l59 => k_is); (case b59 => k_is); (case k59 => k_is); (case z_abs => k_is); (case z_all => k_is); (case z_any => k_is); (case z_bool => k_is); (case z_enumerate => k_is); (case z_int => k_is); (case z_isinstance => k_is); (case z_len => k_is); (case z_list => k_is); (case z_max => k_is); (case z_min => k_is); (case z_range => k_is); (case z_repr => k_is); (case z_sorted => k_is); (case z_str => k_is); (case q_FIRST_DAY => k_is); (case q_GREATEST => k_is); (case q_LAST_DAY => k_is); (case q_OF_DATES_of_one => k_is); (case ka_OF_DATES_of_one => k_is); (case e_OF_DATES_of_one_0 => k_is); (case q_OF_DATES_of_two => k_is); (case ka_OF_DATES_of_two => k_is); (case e_OF_DATES_of_two_0 => k_is); (case q_OF_INTEGERS_of_one => k_is); (case ka_OF_INTEGERS_of_one => k_is); (case e_OF_INTEGERS_of_one_0 => k_is); (case e_OF_INTEGERS_of_one_1 => k_is); (case e_OF_INTEGERS_of_one_2 => k_is); (case e_OF_INTEGERS_of_one_3 => k_is); (case e_OF_INTEGERS_of_one_4 => k_is); (case e_OF_INTEGERS_of_one_5 => k_is); (case q_OF_INTEGERS_of_two => k_is); (case ka_OF_INTEGERS_of_two => k_is); (case e_OF_INTEGERS_of_two_0 => k_is); (case e_OF_INTEGERS_of_two_1 => k_is); (case e_OF_INTEGERS_of_two_2 => k_is); (case e_OF_INTEGERS_of_two_3 => k_is); (case q_OF_TEXTS_of_one => k_is); (case ka_OF_TEXTS_of_one => k_is); (case e_OF_TEXTS_of_one_0 => k_is); (case e_OF_TEXTS_of_one_1 => k_is); (case q_OF_TEXTS_of_two => k_is); (case ka_OF_TEXTS_of_two => k_is); (case e_OF_TEXTS_of_two_0 => k_is); (case q__FIRST_PART => k_is); (case ka__FIRST_PART => k_is); (case e__FIRST_PART_0 => k_is); (case e__FIRST_PART_1 => k_is); (case e__FIRST_PART_2 => k_is); (case e__FIRST_PART_3 => k_is); (case e__FIRST_PART_4 => k_is); (case e__FIRST_PART_5 => k_is); (case q__OF_ALIKE => k_is); (case ka__OF_ALIKE => k_is); (case e__OF_ALIKE_0 => k_is); (case e__OF_ALIKE_1 => k_is); (case e__OF_ALIKE_2 => k_is); (case e__OF_ALIKE_3 => k_is); (case e__OF_ALIKE_4 => k_is); (case e__OF_ALIKE_5 => k_is); (case e__OF_ALIKE_6 => k_is); (case q__OF_ANY => k_is); (case ka__OF_ANY => k_is); (case e__OF_ANY_0 => k_is); (case e__OF_ANY_1 => k_is); (case e__OF_ANY_2 => k_is); (case e__OF_ANY_3 => k_is); (case e__OF_ANY_4 => k_is); (case e__OF_ANY_5 => k_is); (case e__OF_ANY_6 => k_is); (case e__OF_ANY_7 => k_is); (case e__OF_ANY_8 => k_is); (case e__OF_ANY_9 => k_is); (case e__OF_ANY_10 => k_is); (case q__TRUE => k_is)
    (case kl_OF_DATES_of_one => k_keys)
    (case ko_OF_DATES_of_one => decide)
    (case kl_OF_DATES_of_two => k_keys)
    (case ko_OF_DATES_of_two => decide)
    (case kl_OF_INTEGERS_of_one => k_keys)
    (case ko_OF_INTEGERS_of_one => decide)
    (case kl_OF_INTEGERS_of_two => k_keys)
    (case ko_OF_INTEGERS_of_two => decide)
    (case kl_OF_TEXTS_of_one => k_keys)
    (case ko_OF_TEXTS_of_one => decide)
    (case kl_OF_TEXTS_of_two => k_keys)
    (case ko_OF_TEXTS_of_two => decide)
    (case kl__FIRST_PART => k_keys)
    (case ko__FIRST_PART => decide)
    (case kl__OF_ALIKE => k_keys)
    (case ko__OF_ALIKE => decide)
    (case kl__OF_ANY => k_keys)
    (case ko__OF_ANY => decide)
    (case r__TRUE => exact fun _ => .inr ⟨_, _, _, (by k_is), rfl, rfl, by decide, by repeat (first | exact .nil | refine .cons ⟨_, rfl⟩ ?_ | refine .cons rfl ?_)⟩)
