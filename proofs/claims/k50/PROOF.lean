import PyProof.Rows.All
import Wide.All
import OpenK.AllK
import Wide.FinOn
import HandS.ForMost
import HandS.Codes
import HandS.Evl
import HandS.IsInst
import HandS.Wide
import HandS.Defaults
import HandS.Walk
import HandS.Flow
import HandS.TupAny
import HandS.Zip
import HandS.Property
import HandS.OwnEq
import HandS.Deep
import HandS.WideBits
import HandS.Iter
import HandS.Rev
import HandS.SortKw
import HandS.Keys
import HandS.TupLe
import HandS.Dict
import HandS.Text
import HandS.StrMore
import HandS.FStr
import HandS.Style
import HandS.More
import HandS.CallLocal
import HandS.Conv
import HandS.Flt
import KE.KEqSeq
import KE.DataEq
import KE.DataMinMax
import KE.DataMinKey
import PyProof.StrOps2
import PyProof.StrLawsFrom
import KE.RegKIsAll
import KE.SortKeyHeap
import PySem.Challenge.RW_stylobate_k50_whole_skipped_groups_hold
set_option Elab.async false
set_option linter.all false
set_option maxRecDepth 100000
set_option maxHeartbeats 4000000
namespace My
open PySem PySem.Spec PyProof.Rows L2 Evl
def Dn (K : PySem.W.Frag) (mg : Str → Option Value) (x : Str) (st : Stmt) (ps : List Str) : Prop := ∃ f fd, C8.Def K mg x st f fd ∧ Binds K fd ps []
section
variable {P : Program} {w : World} {K : PySem.W.Frag} {mg : Str → Option Value} {base : Heap}
theorem cal_of {x : Str} {st : Stmt} {N ps : List Str} {k : Nat} {sp : Sp} (D : Dn K mg x st ps) (S : FnScope N ps (C8.fnScope st)) (len : ∀ vs H Q E, sp vs H Q E → vs.length = ps.length)
    (hbody : ∀ (f : Addr) (cdv : Value) (A : Around) (outer : List Env) (s : Shared) (H : Hp) (vs : List V) (Q : VK) (E : XK), Room k (A.deeper (envOfC x (C8.fnScope st) s.heap.objs.size f cdv)) → sp vs H Q E →
      ∃ t, PSs (cxOf C8.CX0 P w K mg base N x (C8.fnScope st) f cdv A outer s H E).nox (C8.fnBody st) t ∧ t { nx := fun _ H' => Q .non H', rt := Q } (start N vs) H) : C8.Cal P w K mg base (k + 1) x sp [] := by
  obtain ⟨f, fd, F, b⟩ := D
  exact C8.cal0 F b .nil S len (hbody f)
theorem def_mk {x : Str} {st : Stmt} {f : Addr} {oc : Value} {od an : Option Addr} {osl : Array (Option Value)} {kV doc pm cdv ct : Value}
    (l : K.lookup f = some ⟨oc, od, .func (PySem.W.fnOf x x (C8.fnArgs st) (C8.fnBody st) (C8.fnScope st) .none kV doc pm an cdv ct), osl⟩)
    (c : PySem.W.codeIn K cdv x = true) (k : PySem.W.keepIn K (.ref f) = true) (m : mg x = some (.ref f)) : C8.Def K mg x st f (PySem.W.fnOf x x (C8.fnArgs st) (C8.fnBody st) (C8.fnScope st) .none kV doc pm an cdv ct) :=
  ⟨⟨oc, od, .none, kV, doc, pm, an, cdv, ct, osl, rfl, l, c⟩, m, k⟩
theorem dn_mk {x : Str} {st : Stmt} {f : Addr} {oc : Value} {od an : Option Addr} {osl : Array (Option Value)} {kV doc pm cdv ct : Value} {ps : List Str}
    (l : K.lookup f = some ⟨oc, od, .func (PySem.W.fnOf x x (C8.fnArgs st) (C8.fnBody st) (C8.fnScope st) .none kV doc pm an cdv ct), osl⟩)
    (c : PySem.W.codeIn K cdv x = true) (k : PySem.W.keepIn K (.ref f) = true) (m : mg x = some (.ref f))
    (h : ∀ (kV doc pm : Value) (an : Option Addr) (cdv ct : Value) (us : List Value), us.length = ps.length → bindArgs (PySem.W.fnOf x x (C8.fnArgs st) (C8.fnBody st) (C8.fnScope st) .none kV doc pm an cdv ct) ⟨us, []⟩ = pure (ps.zip us)) : Dn K mg x st ps :=
  ⟨f, _, def_mk l c k m, C8.Fun.binds (def_mk l c k m).fn rfl h⟩
end
def rIsT : R2 := fun x y H Q => ∃ b : Bool, y = .bl b ∧ Q (.bl (decide (x = .bl b))) H
def rNotT : R2 := fun x y H Q => ∃ b : Bool, y = .bl b ∧ Q (.bl (!decide (x = .bl b))) H
section
variable {X : Cx}
theorem rel_bl {x : V} {v : Value} {b : Bool} (rx : RelV x v) : PySem.plainIs v (.bool b) = true ∧ (v == .bool b) = decide (x = .bl b) ∨ ∃ n, v = .builtin n := by
  cases x with
  | non => cases (show v = Value.none from rx); exact .inl ⟨rfl, rfl⟩
  | bl c => cases (show v = Value.bool c from rx); exact .inl ⟨rfl, by cases b <;> cases c <;> rfl⟩
  | int i => obtain ⟨t, e⟩ := (show ∃ t, v = Value.int i t from rx); cases e; exact .inl ⟨rfl, rfl⟩
  | str i => obtain ⟨t, e⟩ := (show ∃ t, v = Value.str i t from rx); cases e; exact .inl ⟨rfl, rfl⟩
  | byt i => obtain ⟨t, e⟩ := (show ∃ t, v = Value.bytes i t from rx); cases e; exact .inl ⟨rfl, rfl⟩
  | flt i => obtain ⟨t, e⟩ := (show ∃ t, v = Value.float i t from rx); cases e; exact .inl ⟨rfl, rfl⟩
  | ref a => cases (show v = Value.ref a from rx); exact .inl ⟨rfl, rfl⟩
  | ty n => cases (show v = Value.type n from rx); exact .inl ⟨rfl, rfl⟩
theorem rel_bl' {x : V} {v : Value} {b : Bool} (rx : RelV x v) : PySem.plainIs v (.bool b) = true ∧ (v == .bool b) = decide (x = .bl b) := by
  rcases rel_bl (b := b) rx with h | ⟨n, rfl⟩
  · exact h
  · cases x <;> first | exact nomatch (rx : Value.builtin n = _) | (obtain ⟨t, e⟩ := rx; exact nomatch e)
theorem op_isTF : OpR X (compareOp .Is) rIsT := by
  intro pins s σ H x y v u Q I rx ry h
  obtain ⟨b, rfl, q⟩ := h
  cases (show u = Value.bool b from ry)
  obtain ⟨h1, h2⟩ := rel_bl' (b := b) rx
  exact wpAny_is_plain h1 ⟨.bl _, H, I, rfl, by rw [h2]; exact q⟩
theorem op_notTF : OpR X (compareOp .IsNot) rNotT := by
  intro pins s σ H x y v u Q I rx ry h
  obtain ⟨b, rfl, q⟩ := h
  cases (show u = Value.bool b from ry)
  obtain ⟨h1, h2⟩ := rel_bl' (b := b) rx
  exact wpAny_isNot_plain h1 ⟨.bl _, H, I, rfl, by rw [h2]; exact q⟩
end
section
variable {K : PySem.W.Frag} {σ : L2.St} {H H' : Hp} {ta tb te tx : TE} {t u : TT} {x y z v : V} {r : R2}
theorem rv_isT {b : Bool} : RV rIsT x (.bl b) H (.bl (decide (x = .bl b))) := fun H1 _ _ q => ⟨b, rfl, q H1 (Ex.refl H1)⟩
theorem rv_notT {b : Bool} : RV rNotT x (.bl b) H (.bl (!decide (x = .bl b))) := fun H1 _ _ q => ⟨b, rfl, q H1 (Ex.refl H1)⟩
theorem rv_isN : RV (fun x y H Q => y = .non ∧ Q (.bl (decide (x = .non))) H) x .non H (.bl (decide (x = .non))) := fun H1 _ _ q => ⟨rfl, q H1 (Ex.refl H1)⟩
theorem rv_notN : RV (fun x y H Q => y = .non ∧ Q (.bl (!decide (x = .non))) H) x .non H (.bl (!decide (x = .non))) := fun H1 _ _ q => ⟨rfl, q H1 (Ex.refl H1)⟩
theorem ev_int {i : Int} (h : Ev ta σ H (.int i)) : Ev (tCB (fun xs H Q => (∃ i, xs = [.int i] ∧ Q (.int i) H) ∨ ∃ k, xs = [.bl k] ∧ Q (.int (if k then 1 else 0)) H) (tCons ta tNil)) σ H (.int i) :=
  fun H1 e Q q => h H1 e _ fun H2 e2 => .inl ⟨i, rfl, q H2 e2⟩
theorem ev_intB {b : Bool} (h : Ev ta σ H (.bl b)) : Ev (tCB (fun xs H Q => (∃ i, xs = [.int i] ∧ Q (.int i) H) ∨ ∃ k, xs = [.bl k] ∧ Q (.int (if k then 1 else 0)) H) (tCons ta tNil)) σ H (.int (if b then 1 else 0)) :=
  fun H1 e Q q => h H1 e _ fun H2 e2 => .inr ⟨b, rfl, q H2 e2⟩
theorem ev_abs {i : Int} (h : Ev ta σ H (.int i)) : Ev (tCB (fun xs H Q => ∃ i, xs = [.int i] ∧ Q (.int (if i < 0 then -i else i)) H) (tCons ta tNil)) σ H (.int (if i < 0 then -i else i)) :=
  fun H1 e Q q => h H1 e _ fun H2 e2 => ⟨i, rfl, q H2 e2⟩
theorem ev_min2 {i j : Int} (ha : Ev ta σ H (.int i)) (hb : Ev tb σ H (.int j)) : Ev (tCB (fun xs H Q => ∃ i j, xs = [.int i, .int j] ∧ Q (.int (if j < i then j else i)) H) (tCons ta (tCons tb tNil))) σ H (.int (if j < i then j else i)) := fun H1 e Q q =>
  ha H1 e _ fun H2 e2 => hb H2 (e.trans e2) _ fun H3 e3 => ⟨i, j, rfl, q H3 (e2.trans e3)⟩
theorem ev_lenS {s : Str} (h : Ev ta σ H (.str s)) (hz : s.length ≤ 100000) : Ev (tCB (fun xs H Q => ∃ z, xs = [.str z] ∧ z.length ≤ sizeLine ∧ Q (.int z.length) H) (tCons ta tNil)) σ H (.int s.length) :=
  fun H1 e Q q => h H1 e _ fun H2 e2 => ⟨s, rfl, sz_of hz, q H2 e2⟩
theorem ev_isi {T : String} {tn : String} {b : Bool} (ha : Ev ta σ H x) (ht : ∀ H1, TyX K H1 x (.type tn)) (hk : kitB tn T = some b) : Ev (tCB (rIsi K) (tCons ta (tCons (tC (.ty T)) tNil))) σ H (.bl b) :=
  fun H1 e Q q => ha H1 e _ fun H2 e2 => ⟨x, .ty T, .type tn, .type T, b, rfl, .ty T, ht H2, kit_ty hk, q H2 e2⟩
end
local macro_rules | `(tactic| walk_at "side") => `(tactic| first
  | exact .inr ⟨by decide, by decide⟩
  | exact .inl ⟨by decide, by decide⟩
  | exact .inl ⟨by omega, by omega⟩
  | exact .inr ⟨by omega, by omega⟩
  | exact ⟨by decide, by decide⟩
  | exact ⟨by omega, by omega⟩
  | decide
  | (show (_ : Int) < _; omega)
  | omega)
local macro_rules | `(tactic| walk_at "rv") => `(tactic| first
  | exact rv_I0
  | ((refine' rv_I ?k1); (case k1 => walk_at "side"))
  | exact rv_isT
  | exact rv_notT
  | exact rv_isN
  | exact rv_notN
  | exact rv_eq rfl
  | exact rv_ne rfl)
local macro_rules | `(tactic| walk_at "sq") => `(tactic| first | assumption | exact ex_l (by assumption) (by assumption) | exact sq_of (by assumption))
/-- what a part gives, read off its form -/
local macro_rules | `(tactic| walk_at "ev") => `(tactic| first
  | exact ev_var rfl
  | exact ev_c
  | ((with_reducible refine' ev_op ?k1 ?k2 ?k3); (case k1 => walk_at "ev"); (case k2 => walk_at "ev"); (case k3 => walk_at "rv"))
  | ((with_reducible refine' ev_un ?k1 ?k2); (case k1 => walk_at "ev"); (case k2 => exact ru_neg))
  | ((with_reducible refine' ev_int ?k1); (case k1 => walk_at "ev"))
  | ((with_reducible refine' ev_abs ?k1); (case k1 => walk_at "ev"))
  | ((with_reducible refine' ev_andV ?k1 ?k2); (case k1 => walk_at "ev"); (case k2 => intro _; walk_at "ev"))
  | ((with_reducible refine' ev_orV ?k1 ?k2); (case k1 => walk_at "ev"); (case k2 => intro _; walk_at "ev"))
  | ((with_reducible refine' ev_notV ?k1); (case k1 => walk_at "ev"))
  | ((refine' ev_len ?k1 ?k2); (case k1 => walk_at "ev"); (case k2 => walk_at "sq")))
local macro_rules | `(tactic| walk_at "et") => `(tactic| first
  | ((with_reducible refine' et_or ?k1 ?k2); (case k1 => walk_at "et"); (case k2 => intro _; walk_at "et"))
  | ((with_reducible refine' et_and ?k1 ?k2); (case k1 => walk_at "et"); (case k2 => intro _; walk_at "et"))
  | ((with_reducible refine' et_not ?k1); (case k1 => walk_at "et"))
  | (refine' et_test ?k1; (case k1 => walk_at "ev"))
  | (refine' et_B ?k1; (case k1 => walk_at "ev")))
def SpU (sp : Sp) (vs : List V) (H : Hp) (xs : List V) : Prop := ∀ H1, Ex H H1 → ∀ Q : VK, (∀ p H2, H1 p = none → Ex H1 H2 → H2 p = some (.tup xs) → Q (.ref p) H2) → ∀ E : XK, sp vs H1 Q E
section
variable {K : PySem.W.Frag} {σ : L2.St} {H H' : Hp} {ta tb te : TE} {x y z v : V}
theorem eu_call {sp : Sp} {dvs vs xs : List V} {E : XK} {ta : TA} (h : EvA ta σ H vs) (hs : SpU sp (vs ++ dvs) H xs) : EvU (tCall sp dvs E ta) σ H xs := fun H1 e Q q =>
  h H1 e _ fun H2 e2 => hs H2 (e.trans e2) Q (fun p H3 hp e3 h3 => q p H3 (fresh_back e2 hp) (e2.trans e3) h3) E
theorem ev_chain {r r' : R2} {tc : TE} {b c : Bool} (ha : Ev ta σ H x) (hb : Ev tb σ H y) (hr : RV r x y H (.bl b)) (hc : b = true → Ev tc σ H z) (hr' : b = true → RV r' y z H (.bl c)) : Ev (tChain r r' ta tb tc) σ H (.bl (b && c)) := fun H1 e Q q =>
  ha H1 e _ fun H2 e2 => hb H2 (e.trans e2) _ fun H3 e3 => hr H3 ((e.trans e2).trans e3) _ fun H4 e4 => ⟨b, rfl, by
    cases b with
    | true =>
      show tc σ H4 fun w' H5 => r' y w' H5 Q
      exact hc rfl H4 (((e.trans e2).trans e3).trans e4) _ fun H5 e5 => hr' rfl H5 ((((e.trans e2).trans e3).trans e4).trans e5) Q fun H6 e6 => q H6 ((((e2.trans e3).trans e4).trans e5).trans e6)
    | false =>
      show Q (.bl false) H4
      exact q H4 ((e2.trans e3).trans e4)⟩
theorem gt3 {p : Addr} {i j l : Nat} (h : SqT K H p [x, y, z]) {Q : L2.St → Hp → Prop} (k : Q (((σ.set i (some x)).set j (some y)).set l (some z)) H) : gTup K 3 (gCons (gName i) (gCons (gName j) (gCons (gName l) gNil))) (.ref p) σ H Q :=
  ⟨p, [x, y, z], rfl, h, rfl, x, [y, z], rfl, y, [z], rfl, z, [], rfl, rfl, k⟩
end
theorem hu64 {A : Around} {k : Nat} (hr : Room k A) : A.units + 64 < cLine := by
  have := hr.un
  omega
inductive Pl : V → Prop where
  | non : Pl .non
  | bl (b : Bool) : Pl (.bl b)
  | int (i : Int) : Pl (.int i)
  | str (s : Str) : Pl (.str s)
def tyN : V → String
  | .bl _ => "bool"
  | .int _ => "int"
  | .str _ => "str"
  | _ => "NoneType"
def isInt : V → Bool
  | .int _ => true
  | _ => false
theorem tx_pl {K : PySem.W.Frag} {x : V} (h : Pl x) (H1 : Hp) : TyX K H1 x (.type (tyN x)) := by
  cases h with
  | non => exact .base .non
  | bl b => exact .base (.bl b)
  | int i => exact .base (.int i)
  | str s => exact .base (.str s)
theorem ev_isiP {K : PySem.W.Frag} {σ : L2.St} {H : Hp} {ta : TE} {x : V} {T : String} {b : Bool} (ha : Ev ta σ H x) (hx : Pl x) (hk : kitB (tyN x) T = some b) : Ev (tCB (rIsi K) (tCons ta (tCons (tC (.ty T)) tNil))) σ H (.bl b) :=
  ev_isi ha (tx_pl hx) hk
/-- isinstance(x, int) and not isinstance(x, bool) -/
theorem ev_isInt {K : PySem.W.Frag} {σ : L2.St} {H : Hp} {ta tb : TE} {x : V} (ha : Ev ta σ H x) (hb : Ev tb σ H x) (hx : Pl x) :
    Ev (tAndV (tCB (rIsi K) (tCons ta (tCons (tC (.ty "int")) tNil))) (tNotV (tCB (rIsi K) (tCons tb (tCons (tC (.ty "bool")) tNil))))) σ H (.bl (isInt x)) := by
  cases hx with
  | non => exact ev_is (ev_andV (ev_isiP (b := false) ha .non (by decide +kernel)) fun z => nomatch z) (show V.bl (false && true) = _ from rfl)
  | bl b => exact ev_is (ev_andV (ev_isiP (b := true) ha (.bl b) (by show kitB "bool" "int" = some true; decide +kernel)) fun _ => ev_notV (ev_isiP (b := true) hb (.bl b) (by show kitB "bool" "bool" = some true; decide +kernel))) rfl
  | int i => exact ev_is (ev_andV (ev_isiP (b := true) ha (.int i) (by show kitB "int" "int" = some true; decide +kernel)) fun _ => ev_notV (ev_isiP (b := false) hb (.int i) (by show kitB "int" "bool" = some false; decide +kernel))) rfl
  | str s => exact ev_is (ev_andV (ev_isiP (b := false) ha (.str s) (by show kitB "str" "int" = some false; decide +kernel)) fun z => nomatch z) (show V.bl (false && true) = _ from rfl)
section
open PySem.SeqAt PySem.MeetsSeq PySem.MeetsSeq2 PySem.MeetsSeq3
open PySem.AutoSeq1 (wpAny_loadPart')
/-- pairs walked from the left: the first that differ decide; z where none do -/
inductive Lx (A : Around) (s : Shared) (z : Bool) : List (Value × Value) → Bool → Prop
  | nil : Lx A s z [] z
  | eq {y x : Value} {ps : List (Value × Value)} {c : Bool} : EqAt A s y x true → Lx A s z ps c → Lx A s z ((y, x) :: ps) c
  | lt {y x : Value} {ps : List (Value × Value)} {c : Bool} : EqAt A s y x false → Ob.RcOp .Lt A s y x c → Lx A s z ((y, x) :: ps) c
theorem lt_meets (l b : Addr) (us vs : Array Value) (n m : Nat) (dl db : Option Addr) (sl sb : Array (Option Value)) :
    Meets (Builtin.«tuple.__lt__» ⟨[.ref l, .ref b], []⟩)
      (fun A R s => s.heap.get? l = some { cls := .type "tuple", dict := dl, data := .seq us n, slots := sl } ∧ s.heap.get? b = some { cls := .type "tuple", dict := db, data := .seq vs m, slots := sb } ∧
        ∃ c, Lx A.in1 s (decide (us.size < vs.size)) (us.toList.zip vs.toList) c ∧ R (.ok (.ret (.bool c))) s) := by
  refine .of_wp fun prog w A R s h => ?_
  obtain ⟨hp, g, d, tk, os⟩ := s
  obtain ⟨hl, hb, c, hx, h⟩ := h
  have f2 := AutoSeq1.sub_tuple_tuple
  wp_walk using wpAny_loadPart' hl, wpAny_loadPart' hb, wpAny_forIn_list _ (fun ps b s' => b.1 = none ∧ s' = ⟨hp, g, d, tk, os⟩ ∧ ∃ c, Lx A.in1 ⟨hp, g, d, tk, os⟩ (decide (us.size < vs.size)) ps c ∧ R (.ok (.ret (.bool c))) ⟨hp, g, d, tk, os⟩) _
  case turn =>
    rintro ⟨y, x⟩ ps b s' ⟨hb', rfl, c, hz, hR⟩
    cases hz with
    | eq he ht =>
      refine wpAny_bind (he prog w _ _ ?_)
      wp_walk
      exact ⟨rfl, rfl, c, ht, hR⟩
    | lt he hr =>
      refine wpAny_bind (he prog w _ _ ?_)
      have hri := hr prog w
      wp_walk using hri
      exact ⟨_, rfl, hR⟩
  case fin =>
    rintro ⟨b1, b2⟩ s' ⟨hb', rfl, c, hz, hR⟩
    simp only at hb'
    subst hb'
    cases hz
    wp_walk
    exact ⟨_, rfl, by simpa [Builtin.Tuple.tupleCompareSizes] using hR⟩
  case h => exact ⟨rfl, rfl, c, hx, h⟩
theorem lt_tuples {A : Around} {s : Shared} {l b : Addr} {us vs : Array Value} {c : Bool} (hl : s.heap.IsTuple l us) (hb : s.heap.IsTuple b vs) (hu : A.units < cLine) (hx : Lx A.in1 s (decide (us.size < vs.size)) (us.toList.zip vs.toList) c) :
    Ob.RcOp .Lt A s (.ref l) (.ref b) c := by
  intro prog w E Q h
  obtain ⟨⟨k1, dl, da, sl⟩, ho, hc, n, hd⟩ := hl
  obtain ⟨⟨k2, db, da2, sb⟩, ho2, hc2, m, hd2⟩ := hb
  simp only at hc hd hc2 hd2
  subst hc hd hc2 hd2
  exact richCompare_meets_room (op := .Lt) ⟨_, ho, rfl⟩ ⟨_, ho2, rfl⟩ F.slot_tuple_lt F.entry_tuple_lt (F.args_tuple_lt_2 _ _) (lt_meets l b us vs n m dl db sl sb) ⟨ho, ho2, c, hx, ⟨(fun z => nomatch z), h⟩⟩ hu
end
mutual
/-- less, of data -/
def ltD : PyData → PyData → Bool
  | .int a, .int b => decide (a < b)
  | .str x, .str y => decide (x.cps.toList < y.cps.toList)
  | .tuple xs, .tuple ys => ltDs xs ys
  | _, _ => false
def ltDs : List PyData → List PyData → Bool
  | [], [] => false
  | [], _ :: _ => true
  | _ :: _, [] => false
  | x :: xs, y :: ys => if PyData.eqv x y then ltDs xs ys else ltD x y
end
mutual
/-- may be compared by less -/
def ordD : PyData → PyData → Bool
  | .int _, .int _ => true
  | .str _, .str _ => true
  | .tuple xs, .tuple ys => ordDs xs ys
  | _, _ => false
def ordDs : List PyData → List PyData → Bool
  | [], _ => true
  | _ :: _, [] => true
  | x :: xs, y :: ys => if PyData.eqv x y then ordDs xs ys else ordD x y
end
theorem reads_len {h : Heap} : ∀ {ds : List PyData} {us : List Value} {as : List Addr}, ReadsAll h us ds as → us.length = ds.length
  | [], _, _, r => by cases r; rfl
  | _ :: ds, _, _, r => by
    cases r with
    | cons r1 r2 => exact congrArg (· + 1) (reads_len r2)
theorem lt_list {n : Nat} (IH : ∀ (d e : PyData) (A : Around) (s : Shared) (u v : Value) (as bs : List Addr), d.depth ≤ n → Reads s.heap u d as → Reads s.heap v e bs → d.canLay0 = true → e.canLay0 = true → ordD d e = true →
    A.units + d.depth < cLine → Ob.RcOp .Lt A s u v (ltD d e)) (A : Around) (s : Shared) : ∀ (xs ys : List PyData) (us vs : List Value) (as bs : List Addr), PyData.depthAll xs ≤ n → ReadsAll s.heap us xs as → ReadsAll s.heap vs ys bs →
    PyData.canLayAll0 xs = true → PyData.canLayAll0 ys = true → ordDs xs ys = true → A.units + PyData.depthAll xs < cLine → Lx A s (decide (xs.length < ys.length)) (us.zip vs) (ltDs xs ys) := by
  intro xs
  induction xs with
  | nil =>
    intro ys us vs as bs hn r1 r2 c1 c2 ho hu
    cases r1
    cases ys with
    | nil => exact .nil
    | cons y ys =>
      rw [show decide (([] : List PyData).length < (y :: ys).length) = true from decide_eq_true (Nat.zero_lt_succ _)]
      show Lx A s true [] true
      exact .nil
  | cons x xs ih =>
    intro ys us vs as bs hn r1 r2 c1 c2 ho hu
    cases ys with
    | nil =>
      cases r2
      rw [show decide ((x :: xs).length < ([] : List PyData).length) = false from decide_eq_false (Nat.not_lt_zero _), List.zip_nil_right]
      exact .nil
    | cons y ys =>
      have a1 : x.canLay0 = true ∧ PyData.canLayAll0 xs = true := by simpa [PyData.canLayAll0] using c1
      have a2 : y.canLay0 = true ∧ PyData.canLayAll0 ys = true := by simpa [PyData.canLayAll0] using c2
      have hd : A.units + max x.depth (PyData.depthAll xs) < cLine := hu
      have hn' : max x.depth (PyData.depthAll xs) ≤ n := hn
      rw [show decide ((x :: xs).length < (y :: ys).length) = decide (xs.length < ys.length) by simp]
      cases r1 with
      | cons p1 q1 =>
        cases r2 with
        | cons p2 q2 =>
          have he := PySem.SeqAt.eqAt_reads x y A s _ _ _ _ p1 p2 a1.1 a2.1 (by omega)
          by_cases c : PyData.eqv x y = true
          · have o : ordDs xs ys = true := by rw [ordDs, if_pos c] at ho; exact ho
            rw [show ltDs (x :: xs) (y :: ys) = ltDs xs ys by rw [ltDs, if_pos c]]
            rw [c] at he
            exact .eq he (ih ys _ _ _ _ (by omega) q1 q2 a1.2 a2.2 o (by omega))
          · have o : ordD x y = true := by rw [ordDs, if_neg c] at ho; exact ho
            rw [show ltDs (x :: xs) (y :: ys) = ltD x y by rw [ltDs, if_neg c]]
            rw [Bool.not_eq_true] at c
            rw [c] at he
            exact .lt he (IH x y A s _ _ _ _ (by omega) p1 p2 a1.1 a2.1 o (by omega))
theorem lt_reads : ∀ (n : Nat) (d e : PyData) (A : Around) (s : Shared) (u v : Value) (as bs : List Addr), d.depth ≤ n → Reads s.heap u d as → Reads s.heap v e bs → d.canLay0 = true → e.canLay0 = true → ordD d e = true →
    A.units + d.depth < cLine → Ob.RcOp .Lt A s u v (ltD d e) := by
  intro n
  induction n with
  | zero =>
    intro d e A s u v as bs hn r1 r2 c1 c2 ho hu
    cases r1 with
    | int a t =>
      cases r2 with
      | int b t' => rw [ltD]; exact Ob.RcOp.lt_int _ _ _ _
      | _ => simp [ordD] at ho
    | str a t =>
      cases r2 with
      | str b t' => rw [ltD]; exact fun prog w E Q h => lt_str h
      | _ => simp [ordD] at ho
    | tuple => simp [PyData.depth] at hn
    | _ => simp [ordD] at ho
  | succ n ih =>
    intro d e A s u v as bs hn r1 r2 c1 c2 ho hu
    cases r1 with
    | int a t =>
      cases r2 with
      | int b t' => rw [ltD]; exact Ob.RcOp.lt_int _ _ _ _
      | _ => simp [ordD] at ho
    | str a t =>
      cases r2 with
      | str b t' => rw [ltD]; exact fun prog w E Q h => lt_str h
      | _ => simp [ordD] at ho
    | tuple h1 h2 h3 h4 =>
      cases r2 with
      | tuple k1 k2 k3 k4 =>
        rename_i xs _ _ _ _ _ ys
        simp only [PyData.depth] at hn hu
        have l1 := reads_len h4
        have l2 := reads_len k4
        rw [ltD]
        refine lt_tuples ⟨_, h1, h2, _, h3⟩ ⟨_, k1, k2, _, k3⟩ (by omega) ?_
        rw [← Array.length_toList, ← Array.length_toList, l1, l2]
        exact lt_list ih A.in1 s _ _ _ _ _ _ (by omega) h4 k4 (by simpa [PyData.canLay0] using c1) (by simpa [PyData.canLay0] using c2) (by simpa [ordD] using ho) (by show A.units + 1 + _ < _; omega)
      | _ => simp [ordD] at ho
    | _ => simp [ordD] at ho
def rLtD (K : PySem.W.Frag) : R2 := fun x y H Q => ∃ d e, Dp K H x d ∧ Dp K H y e ∧ d.canLay0 = true ∧ e.canLay0 = true ∧ ordD d e = true ∧ d.depth ≤ 60 ∧ Q (.bl (ltD d e)) H
theorem op_ltD {X : Cx} (hu : X.A.units + 64 < cLine) : OpR X (compareOp .Lt) (rLtD X.K) := by
  intro pins s σ H x y v u Q I rx ry h
  obtain ⟨d, e, hd, he, c1, c2, o, dp, q⟩ := h
  obtain ⟨as, r1⟩ := Dp.reads I d x v hd rx
  obtain ⟨bs, r2⟩ := Dp.reads I e y u he ry
  exact lt_reads _ d e X.A s v u as bs (Nat.le_refl _) r1 r2 c1 c2 o (by omega) X.prog X.w _ _ ⟨.bl _, H, I, rfl, q⟩
section
variable {K : PySem.W.Frag}
mutual
theorem ex_dp {H H' : Hp} (e : Ex H H') : ∀ {v : V} {d : PyData}, Dp K H v d → Dp K H' v d
  | _, _, .non => .non
  | _, _, .bl b => .bl b
  | _, _, .int i => .int i
  | _, _, .str x => .str x
  | _, _, .lst h a => .lst (ex_l e h) (ex_dps e a)
  | _, _, .tup h a => .tup (ex_t e h) (ex_dps e a)
theorem ex_dps {H H' : Hp} (e : Ex H H') : ∀ {vs : List V} {ds : List PyData}, DpAll K H vs ds → DpAll K H' vs ds
  | _, _, .nil => .nil
  | _, _, .cons h t => .cons (ex_dp e h) (ex_dps e t)
end
def EvD (K : PySem.W.Frag) (te : TE) (σ : L2.St) (H : Hp) (d : PyData) : Prop := ∀ H1, Ex H H1 → ∀ Q : VK, (∀ v H2, Ex H1 H2 → Dp K H2 v d → Q v H2) → te σ H1 Q
def EvUD (K : PySem.W.Frag) (te : TE) (σ : L2.St) (H : Hp) (ds : List PyData) : Prop := ∀ H1, Ex H H1 → ∀ Q : VK, (∀ p H2 ys, H1 p = none → Ex H1 H2 → H2 p = some (.tup ys) → DpAll K H2 ys ds → Q (.ref p) H2) → te σ H1 Q
variable {σ : L2.St} {H H' : Hp} {ta tb te : TE} {tr : TA} {x y z v : V} {d e : PyData} {ds es : List PyData}
theorem ed_tupU (h : EvUD K te σ H ds) : EvD K te σ H (.tuple ds) := fun H1 e Q q => h H1 e _ fun p H2 ys _ e2 h2 hd => q _ H2 e2 (.tup (st_of h2) hd)
theorem dps_len : ∀ {vs : List V} {ds : List PyData} {H : Hp}, DpAll K H vs ds → vs.length = ds.length
  | _, _, _, .nil => rfl
  | _, _, _, .cons _ t => congrArg (· + 1) (dps_len t)
/-- == , != , < of data -/
theorem ev_eqD (ha : EvD K ta σ H d) (hb : EvD K tb σ H e) (s1 : SeqAt.shaped d = true) (s2 : SeqAt.shaped e = true) : Ev (tOp (rEqD K) ta tb) σ H (.bl (PyData.eqv d e)) := fun H1 ex Q q =>
  ha H1 ex _ fun x H2 e2 h2 => hb H2 (ex.trans e2) _ fun y H3 e3 h3 => ⟨d, e, ex_dp e3 h2, h3, s1, s2, q H3 (e2.trans e3)⟩
theorem ev_ltD (ha : EvD K ta σ H d) (hb : EvD K tb σ H e) (s1 : SeqAt.shaped d = true) (s2 : SeqAt.shaped e = true) (o : ordD d e = true) (dp : d.depth ≤ 60) : Ev (tOp (rLtD K) ta tb) σ H (.bl (ltD d e)) := fun H1 ex Q q =>
  ha H1 ex _ fun x H2 e2 h2 => hb H2 (ex.trans e2) _ fun y H3 e3 h3 => ⟨d, e, ex_dp e3 h2, h3, SeqAt.canLay_of_shaped s1, SeqAt.canLay_of_shaped s2, o, dp, q H3 (e2.trans e3)⟩
mutual
/-- no list within -/
def noL : PyData → Bool
  | .list _ => false
  | .tuple xs => noLs xs
  | .dict _ => false
  | .none | .bool _ | .int _ | .str _ => true
def noLs : List PyData → Bool
  | [] => true
  | x :: xs => noL x && noLs xs
end
end
def tCallH (P : Program) (w : World) (K : PySem.W.Frag) (mg : Str → Option Value) (base : Heap) (i k : Nat) (t : TA) : TE := fun σ H Q => ∃ f sp, σ[i]? = some (some (.ref f)) ∧ L2.Held P w K mg base k f sp ∧ t σ H fun vs H1 => sp vs H1 Q (fun _ _ _ => False)
theorem pe_callH {X : Cx} {x : Str} {p pos : Pos} {e : Expr} {es : List Expr} {t : TA} {i k : Nat} (hr : Room k X.A) (hN : X.N[i]? = some x) (hv : Vis X.env.scope x) (ha : PA X (e :: es) t)
    (hdb : (x == ("__debug__" : Str)) = false := by decide) (hcd : (x == ("__classdict__" : Str)) = false := by decide)
    (he : starEach (e :: es) X.env = (false, eval e X.env) :: starEach es X.env := by rfl) (hpl : (backTo pos (starEach es X.env)).any (·.1) = false := by rfl) : PE X (.Call (.Name x p) (e :: es) [] pos) (tCallH X.prog X.w X.K X.mg X.base i k t) := by
  refine ⟨fun pins s σ H Q I h => ?_⟩
  obtain ⟨f, sp, hs, hH, ht⟩ := h
  refine (L2.pe_callA (S := fun g => if g = f then some sp else none) (fun g sq z => ?_) hr hN hv ha hdb hcd he hpl).run pins s σ H Q I ⟨f, sp, hs, if_pos rfl, ht⟩
  by_cases e : g = f
  · rw [if_pos e] at z
    cases z
    rw [e]
    exact hH
  · rw [if_neg e] at z
    cases z
theorem held_of {P : Program} {w : World} {K : PySem.W.Frag} {mg : Str → Option Value} {base : Heap} {j k : Nat} {x : Str} {sp : Sp} {f : Addr} (c : C8.Cal P w K mg base j x sp []) (m : mg x = some (.ref f)) (h : j ≤ k) : L2.Held P w K mg base k f sp := by
  obtain ⟨f', fd, ps, ds, F, hm, kp, b, v⟩ := c.ex
  rw [m] at hm
  cases hm
  cases v
  exact ⟨fd, ps, F.mono h, kp, b⟩
/-- a def of two values that gives a value -/
def spBin (pre : V → V → Prop) (op : V → V → V) : Sp := fun vs H Q _ => ∃ x y : V, vs = [x, y] ∧ pre x y ∧ ∀ H', Ex H H' → Q (op x y) H'
theorem ec_held {P : Program} {w : World} {K : PySem.W.Frag} {mg : Str → Option Value} {base : Heap} {i k : Nat} {σ : L2.St} {H : Hp} {ta tb : TE} {f : Addr} {pre : V → V → Prop} {op : V → V → V} {x y : V} (hσ : σ[i]? = some (some (.ref f))) (h : L2.Held P w K mg base k f (spBin pre op)) (hp : pre x y) (ha : Ev ta σ H x) (hb : Ev tb σ H y) :
    Ev (tCallH P w K mg base i k (tCons ta (tCons tb tNil))) σ H (op x y) := fun H1 e Q q => ⟨f, _, hσ, h, ha H1 e _ fun H2 e2 => hb H2 (e.trans e2) _ fun H3 e3 => ⟨x, y, rfl, hp, fun H' e' => q H' ((e2.trans e3).trans e')⟩⟩
def clsAt (K : PySem.W.Frag) (x : Str) : Addr := match PySem.W.nsIn K mainGlobals x with
  | some (some (.ref a)) => a
  | _ => 0
def NoAts (K : PySem.W.Frag) (C : Addr) : List Str → Prop
  | [] => True
  | f :: r => NoAttr K C f ∧ NoAts K C r
/-- a class by its name: plain, and none of these names stands in it -/
structure ClsD (K : PySem.W.Frag) (mg : Str → Option Value) (x : Str) (fs : List Str) : Prop where
  cl : Cls K (clsAt K x)
  at_ : mg x = some (.ref (clsAt K x))
  mks : PySem.W.makesIn K (clsAt K x) = true
  kc : PySem.W.keepIn K (.ref (clsAt K x)) = true
  na : NoAts K (clsAt K x) fs
/-- a method's def -/
def MetD (K : PySem.W.Frag) (x m qual : Str) (st : Stmt) (ps : List Str) : Prop := ∃ f fd, Meth K (clsAt K x) m f ∧ C8.Fun K m qual st f fd ∧ Binds K fd ps []
section
variable {P : Program} {w : World} {K : PySem.W.Frag} {mg : Str → Option Value} {base : Heap} {x m qual : Str} {st : Stmt} {ps N fs : List Str} {k : Nat} {sp : Sp}
theorem clsD_mk {C : Addr} (h : PySem.W.nsIn K mainGlobals x = some (some (.ref C))) (hm : mg x = some (.ref C)) (pg : PySem.W.plainGet K C Str.empty = true) (hd : PySem.W.hasDictIn K C = true) (po : PySem.W.plainOver K C = true) (sa : PySem.W.findIn K (.ref C) "__setattr__" = some (some (.builtin "object.__setattr__"))) (mk : PySem.W.makesIn K C = true) (kc : PySem.W.keepIn K (.ref C) = true) (na : NoAts K C fs) : ClsD K mg x fs := by
  have e : clsAt K x = C := by unfold clsAt; rw [h]
  exact ⟨by rw [e]; exact ⟨pg, hd, po, sa⟩, by rw [e]; exact hm, by rw [e]; exact mk, by rw [e]; exact kc, by rw [e]; exact na⟩
theorem metD_mk {C f : Addr} {fd : FuncData} (h : PySem.W.nsIn K mainGlobals x = some (some (.ref C))) (a : PySem.W.findIn K (.ref C) m = some (some (.ref f))) (i : PySem.W.isFn K (.ref f) = true) (kp : PySem.W.keepIn K (.ref f) = true) (F : C8.Fun K m qual st f fd) (b : Binds K fd ps []) : MetD K x m qual st ps := by
  have e : clsAt K x = C := by unfold clsAt; rw [h]
  exact ⟨f, fd, by rw [e]; exact ⟨a, i, kp⟩, F, b⟩
theorem mak_of (C : ClsD K mg x fs) (D : MetD K x "__init__" qual st ps) (S : FnScope N ps (C8.fnScope st)) (len : ∀ vs H Q E, sp vs H Q E → vs.length = ps.length)
    (hbody : ∀ (f : Addr) (cdv : Value) (A : Around) (outer : List Env) (s : Shared) (H : Hp) (vs : List V) (Q : VK) (E : XK), Room k (A.deeper (envOfC qual (C8.fnScope st) s.heap.objs.size f cdv)) → sp vs H Q E →
      ∃ t, PSs (cxOf C8.CX0 P w K mg base N qual (C8.fnScope st) f cdv A outer s H E).nox (C8.fnBody st) t ∧ t { nx := fun _ H' => Q .non H', rt := Q } (start N vs) H) : C8.Mak P w K mg base (k + 1) x (clsAt K x) sp [] := by
  obtain ⟨f, fd, M, F, b⟩ := D
  exact C8.mak0 ⟨C.mks, M.at_, M.fn, C.kc⟩ C.at_ F b .nil S len (hbody f)
end
/-- what == and isinstance ask of an own class, by its name -/
structure OwnI (K : PySem.W.Frag) (x : Str) : Prop where
  ins : C8.InsC K (clsAt K x)
  ki : PySem.W.kitOne K (.type "int") (.ref (clsAt K x)) = some false
  ni : PySem.W.notFirst K (clsAt K x) (.type "int") = true
theorem ownI_mk {K : PySem.W.Frag} {x : Str} {C : Addr} (h : PySem.W.nsIn K mainGlobals x = some (some (.ref C))) (cl : Cls K (clsAt K x)) (ha : PySem.W.findIn K (.ref C) "__class__" = some (some (.builtin "object.__class__"))) (hn : PySem.W.specialIn K (.builtin "object.__class__") "__get__" = some (some (.builtin "getset_descriptor.__get__"))) (ht : PySem.W.takesIn K (.builtin "object.__class__") = some true) (hm : PySem.W.mroIn K C (.type "object") = some true)
    (me : PySem.W.kitOne K (.ref C) (.ref C) = some true) (ki : PySem.W.kitOne K (.type "int") (.ref C) = some false) (ni : PySem.W.notFirst K C (.type "int") = true) : OwnI K x := by
  have e : clsAt K x = C := by unfold clsAt; rw [h]
  rw [← e] at ha hm me ki ni
  exact ⟨⟨cl, ha, hn, ht, hm, me⟩, ki, ni⟩
section
variable {P : Program} {w : World} {K : PySem.W.Frag} {mg mb : Str → Option Value}
theorem run_here {x : Str} {st : Stmt} {N ps : List Str} {k : Nat} {f : Addr} {fd : FuncData} {A : Around} {outer : List Env} {s : Shared} {H : Hp} {args : Args} {us : List Value} {vs : List V} {Q : VK} {base : Heap}
    (D : C8.Def K mg x st f fd) (S : FnScope N ps (C8.fnScope st)) (room : Room (k + 1) A) (env : Env0 P w K mg base A outer s H) (bi : BindsTo s fd args (ps.zip us)) (rv : Vals vs us) (len : vs.length = ps.length)
    (body : ∀ cdv : Value, Room k (A.deeper (envOfC x (C8.fnScope st) s.heap.objs.size f cdv)) →
      ∃ t, PSs (cxOf C8.CX0 P w K mg base N x (C8.fnScope st) f cdv A outer s H C8.E0).nox (C8.fnBody st) t ∧ t { nx := fun _ H' => Q .non H', rt := Q } (start N vs) H) :
    codeAny (model P w) A (.call (.ref f) args) (CR C8.CX0 outer P w H s Q C8.E0) s := by
  obtain ⟨oc, od, dV, kV, doc, pm, an, cdv, ct, osl, rfl, look, code⟩ := D.fn.ex
  have sub : ∀ b o, base.get? b = some o → s.heap.get? b = some o := fun b o e => (env.bs b o e).1
  have inK := env.mod.kin.keeps sub
  have noLim := env.mod.nolimit.keeps sub
  apply codeAny_call_function room.depth (inK _ _ look) rfl S.co S.gen rfl (PySem.W.codeRec_of inK code)
  apply bi
  apply wpAny_newFunctionEnv_cells S.kind
  · rintro ⟨n, v⟩ hy
    have hp := S.par n (List.of_mem_zip hy).1
    exact hp.imp id fun c => ⟨c, PySem.W.cellsFrom_some _ _ _ (.inl c)⟩
  intro e he s1 made
  subst he
  obtain ⟨t, ht, hq⟩ := body cdv (room.deeper _)
  have inv := inv_start (CX := C8.CX0) (E := C8.E0) (N := N) S room.hd env len rv made
  refine ⟨noLim.keeps made.toInCall.keep, codeAny_func ?_⟩
  refine wpAny_mono (ht.nox.run [] s1 _ H _ inv hq) ?_ fun _ _ z => z
  intro fl s' z
  match fl, z with
  | .ret u, ⟨v, σ', H', J, r, q⟩ => exact ⟨v, H', J.os, J.bare, J.base, J.hok, r, q⟩
  | .next, ⟨σ', H', J, q⟩ => exact ⟨V.non, H', J.os, J.bare, J.base, J.hok, rfl, q⟩
  | .brk, ⟨_, _, _, q⟩ => exact q.elim
  | .cont, ⟨_, _, _, q⟩ => exact q.elim
/-- what the call of the law leaves -/
def Done (s₁ : Shared) (r : Result) (s' : Shared) : Prop := r = .ok (.ret (.bool true)) ∧ OldK s₁.heap s'.heap ∧ s'.os = s₁.os ∧ AllBare s'.gens
theorem here_core {fa a : Addr} {s₁ : Shared} {vs : List Value} (H : Hp) (KX : K.In s₁.heap) (hns : s₁.heap.Ns mainGlobals mg) (hb : s₁.heap.Ns builtinsNs mb) (hbb : ∀ x : Str, x ≠ "__name__" → mb x = bootBuiltins x) (hlim : s₁.heap.NoLimit) (hnd : s₁.heap.NoDigits) (hg : s₁.gens = #[])
    (ha : s₁.heap.get? a = some { cls := .type "list", data := .seq vs.toArray }) (hok : HOk P w H s₁.heap) (only : ∀ b u, H b = some u → b = a ∧ K.lookup a = none ∧ ∃ o ys, u = .frz o (.lst ys))
    (body : ∀ base : Heap, K.In base → base.Ns mainGlobals mg → base.NoDigits → Env0 P w K mg base callerA [] s₁ H → codeAny (model P w) callerA (.call (.ref fa) ⟨[.ref a], []⟩) (CR C8.CX0 [] P w H s₁ (fun v _ => v = .bl true) C8.E0) s₁) :
    codeAny (model P w) callerA (.call (.ref fa) ⟨[.ref a], []⟩) (Done s₁) s₁ := by
  have free : ∀ {b : Addr} {o : Obj}, s₁.heap.get? b = some o → (b = a → False) → (hidT s₁.heap H).get? b = some o := fun {b o} e n => hidT_get e (by
    cases q : H b with
    | none => rfl
    | some u => exact (n (only b u q).1).elim)
  have dictFree : ∀ {b : Addr} {o : Obj} {es : Array DictEntry} {ep : Nat}, s₁.heap.get? b = some o → o.data = .dict es ep → (hidT s₁.heap H).get? b = some o := fun {b o es ep} e d => free e fun z => by
    rw [z, ha] at e
    cases e
    exact nomatch d
  have ns : ∀ {b : Addr} {m : Str → Option Value}, s₁.heap.Ns b m → (hidT s₁.heap H).Ns b m := by
    rintro b m ⟨o, es, ep, e, d, r⟩
    exact ⟨o, es, ep, dictFree e d, d, r⟩
  have inK : K.In (hidT s₁.heap H) := fun b o e => hidT_get (KX b o e) (by
    cases q : H b with
    | none => rfl
    | some u =>
      obtain ⟨z1, z2, _⟩ := only b u q
      rw [z1, z2] at e
      cases e)
  obtain ⟨mc, l1, l2⟩ := hlim
  have env : Env0 P w K mg (hidT s₁.heap H) callerA [] s₁ H :=
    { frames := rfl, mod := ⟨inK, ns hns, ⟨mb, ns hb, hbb⟩, ⟨mc, ns l1, l2⟩⟩, bs := fun b o e => of_hidT e, bsz := Nat.le_of_eq (hidT_size _ _), funs := trivial, frf := fun b z => (List.not_mem_nil z).elim, hok := hok, bare := .of_eq hg }
  obtain ⟨md, l3, l4⟩ := hnd
  refine codeAny_mono (body _ inK (ns hns) ⟨md, ns l3, l4⟩ env) ?_
  intro r s' z
  match r, z with
  | .error e, z => exact (show False from z).elim
  | .ok .next, z => exact (show False from z).elim
  | .ok .brk, z => exact (show False from z).elim
  | .ok .cont, z => exact (show False from z).elim
  | .ok (.ret u), ⟨v, H', os, bare, un, hok', rel, q⟩ =>
    have q' : v = .bl true := q
    subst q'
    have eu : u = Value.bool true := rel
    subst eu
    refine ⟨rfl, OldK.of_keep fun b o e => ?_, os, bare⟩
    cases hq : H b with
    | none => exact un.keep b o e hq (fun z => (List.not_mem_nil z).elim) List.not_mem_nil
    | some u =>
      obtain ⟨_, _, o2, ys, rfl⟩ := only b u hq
      obtain ⟨w1, _⟩ := hok b _ hq
      obtain ⟨w2, _⟩ := hok' b _ (un.frzs b o2 _ hq)
      rw [e] at w1
      cases w1
      exact w2
theorem here_call {fa a : Addr} {s₁ : Shared} {vs : List Value} {ns : List Int} (KX : K.In s₁.heap) (hns : s₁.heap.Ns mainGlobals mg) (hb : s₁.heap.Ns builtinsNs mb) (hbb : ∀ x : Str, x ≠ "__name__" → mb x = bootBuiltins x) (hlim : s₁.heap.NoLimit) (hnd : s₁.heap.NoDigits) (hg : s₁.gens = #[])
    (ha : s₁.heap.get? a = some { cls := .type "list", data := .seq vs.toArray }) (hi : IntsAre vs ns) (hl : ns.length ≤ sizeLine)
    (body : ∀ (H : Hp) (base : Heap), K.In base → base.Ns mainGlobals mg → base.NoDigits → SqL K H a (ns.map V.int) → Env0 P w K mg base callerA [] s₁ H → codeAny (model P w) callerA (.call (.ref fa) ⟨[.ref a], []⟩) (CR C8.CX0 [] P w H s₁ (fun v _ => v = .bl true) C8.E0) s₁) :
    codeAny (model P w) callerA (.call (.ref fa) ⟨[.ref a], []⟩) (Done s₁) s₁ := by
  have rv := vals_ints hi
  cases hk : K.lookup a with
  | some o =>
    have e := (KX a o hk).symm.trans ha
    cases e
    refine here_core (fun _ => none) KX hns hb hbb hlim hnd hg ha (fun b u z => nomatch (z : (none : Option HO) = some u)) (fun b u z => nomatch (z : (none : Option HO) = some u)) fun base i1 i2 nd i3 => body _ base i1 i2 nd (.inr ⟨_, vs.toArray, _, hk, rfl, rfl, rfl, ?_, by simpa using rv⟩) i3
    rw [List.size_toArray, hi.length]
    exact hl
  | none =>
    refine here_core (upd (fun _ => none) a (.frz { cls := .type "list", data := .seq vs.toArray } (.lst (ns.map V.int)))) KX hns hb hbb hlim hnd hg ha (fun b u z => ?_) (fun b u z => ?_) fun base i1 i2 nd i3 => body _ base i1 i2 nd (.inl (.inr ⟨_, upd_same⟩)) i3
    · by_cases e : b = a
      · subst e
        rw [upd_same] at z
        cases z
        exact ⟨ha, by rw [List.length_map]; exact hl, vs, _, rv, ha⟩
      · rw [upd_ne e] at z
        cases z
    · by_cases e : b = a
      · subst e
        rw [upd_same] at z
        cases z
        exact ⟨rfl, hk, _, _, rfl⟩
      · rw [upd_ne e] at z
        cases z
end
/-- the end of a law whose def shows things -/
theorem walk_here {l : PySem.W.OpenLaw} {n k : Nat} {q : Program} {loose : List Str} {XP : (Str → Option Value) → Heap → Prop} {YP : World → Heap → Prop} {d : DefRec} {K : Params → PySem.W.Frag} {st : Stmt} {N : List Str}
    (hn : l.most = some n) (hn2 : n ≤ sizeLine) (hdf : d.params.defaults = []) (hr : Room (k + 1) callerA) (hY : ∀ (w : World) (h : Heap), YP w h → (K w.params).In h) (S : FnScope N ["script"] (C8.fnScope st))
    (F : ∀ (w : World) (mg : Str → Option Value) (fa : Addr) (h : Heap), (K w.params).In h → h.Ns mainGlobals mg → mg d.name = some (.ref fa) →
      ∃ fd : FuncData, C8.Def (K w.params) mg "law" st fa fd ∧ (∀ (s : Shared) (u : Value), BindsTo s fd ⟨[u], []⟩ [("script", u)]) ∧
        ∀ (base : Heap) (s : Shared) (H : Hp) (a : Addr) (ns : List Int) (cdv : Value), (K w.params).In base → base.Ns mainGlobals mg → base.NoDigits → ns.length ≤ n → SqL (K w.params) H a (ns.map V.int) →
          Room k (callerA.deeper (envOfC "law" (C8.fnScope st) s.heap.objs.size fa cdv)) →
          ∃ t, PSs (cxOf C8.CX0 l.prog w (K w.params) mg base N "law" (C8.fnScope st) fa cdv callerA [] s H C8.E0).nox (C8.fnBody st) t ∧ t { nx := fun _ _ => V.non = .bl true, rt := fun v _ => v = .bl true } (start N [.ref a]) H) :
    PySem.W.WalkO q loose XP YP l.row.toRowW d [] (fun f vs => PySem.call f vs) := by
  apply Att.attach_call hn hdf
  intro w s₀ s₁ mg mb fa o pm cd doc a vs ns G Y ho hd hcd hmg hobj hints hlen hg
  obtain ⟨fd, D, bi, body⟩ := F w mg fa _ (hY w _ Y) G.T.g hmg
  apply here_call (hY w _ Y) G.T.g G.T.b G.T.builtins G.T.nolimit G.T.nodigits hg hobj hints (Nat.le_trans hlen hn2)
  intro H base i1 i2 nd hS env
  exact run_here (us := [.ref a]) (vs := [.ref a]) D S hr env (bi s₁ (.ref a)) (.cons rfl .nil) rfl fun cdv room => body base s₁ H a ns cdv i1 i2 nd hlen hS room
def limV (n : Int) : V := if -1000000000000000 ≤ n ∧ n ≤ 1000000000000000 then .int n else .non
def isD (c : Nat) : Bool := decide (48 ≤ c) && decide (c ≤ 57)
def four (r : Nat) : List Nat := [48 + r / 1000, 48 + r / 100 % 10, 48 + r / 10 % 10, 48 + r % 10]
theorem c00 : PySem.Str.ofString "" = SX.S [] := by decide +kernel
def topS (i : Nat) : Stmt := PySem.Challenge.pw_stylobate_k50_whole_skipped_groups_hold.main.body.getD i (.Pass ⟨0, 0, 0, 0⟩)
abbrev s_kind_rank : Stmt := topS 1
abbrev n_kind_rank : List Str := ["value"]
theorem sc_kind_rank : FnScope n_kind_rank ["value"] (C8.fnScope s_kind_rank) := C8.fnScope_by (by decide +kernel)
abbrev s_is_integer : Stmt := topS 2
abbrev n_is_integer : List Str := ["value"]
theorem sc_is_integer : FnScope n_is_integer ["value"] (C8.fnScope s_is_integer) := C8.fnScope_by (by decide +kernel)
abbrev s_rank : Stmt := topS 3
abbrev n_rank : List Str := ["value", "kind"]
theorem sc_rank : FnScope n_rank ["value"] (C8.fnScope s_rank) := C8.fnScope_by (by decide +kernel)
abbrev s_same : Stmt := topS 4
abbrev n_same : List Str := ["first", "second"]
theorem sc_same : FnScope n_same ["first", "second"] (C8.fnScope s_same) := C8.fnScope_by (by decide +kernel)
abbrev s_before : Stmt := topS 5
abbrev n_before : List Str := ["first", "second"]
theorem sc_before : FnScope n_before ["first", "second"] (C8.fnScope s_before) := C8.fnScope_by (by decide +kernel)
abbrev s_Zone____init__ : Stmt := (C8.clsBody (topS 9)).getD 0 (.Pass ⟨0, 0, 0, 0⟩)
abbrev n_Zone____init__ : List Str := ["self", "many", "nulls", "least", "greatest"]
theorem sc_Zone____init__ : FnScope n_Zone____init__ ["self", "many", "nulls", "least", "greatest"] (C8.fnScope s_Zone____init__) := C8.fnScope_by (by decide +kernel)
abbrev s_zone_of : Stmt := topS 10
abbrev n_zone_of : List Str := ["values", "present", "least", "greatest", "value"]
theorem sc_zone_of : FnScope n_zone_of ["values"] (C8.fnScope s_zone_of) := C8.fnScope_by (by decide +kernel)
abbrev s__has_values : Stmt := topS 11
abbrev n__has_values : List Str := ["span"]
theorem sc__has_values : FnScope n__has_values ["span"] (C8.fnScope s__has_values) := C8.fnScope_by (by decide +kernel)
abbrev s__may_be_none : Stmt := topS 12
abbrev n__may_be_none : List Str := ["span"]
theorem sc__may_be_none : FnScope n__may_be_none ["span"] (C8.fnScope s__may_be_none) := C8.fnScope_by (by decide +kernel)
abbrev s_can_be : Stmt := topS 13
abbrev n_can_be : List Str := ["span", "value", "_", "low", "high"]
theorem sc_can_be : FnScope n_can_be ["span", "value"] (C8.fnScope s_can_be) := C8.fnScope_by (by decide +kernel)
abbrev s__truth_span : Stmt := topS 14
abbrev n__truth_span : List Str := ["null", "can_hold", "can_fail"]
theorem sc__truth_span : FnScope n__truth_span ["null", "can_hold", "can_fail"] (C8.fnScope s__truth_span) := C8.fnScope_by (by decide +kernel)
abbrev s__not_span : Stmt := topS 15
abbrev n__not_span : List Str := ["span"]
theorem sc__not_span : FnScope n__not_span ["span"] (C8.fnScope s__not_span) := C8.fnScope_by (by decide +kernel)
abbrev s__is_null_span : Stmt := topS 16
abbrev n__is_null_span : List Str := ["span"]
theorem sc__is_null_span : FnScope n__is_null_span ["span"] (C8.fnScope s__is_null_span) := C8.fnScope_by (by decide +kernel)
abbrev s__has_integers : Stmt := topS 17
abbrev n__has_integers : List Str := ["span"]
theorem sc__has_integers : FnScope n__has_integers ["span"] (C8.fnScope s__has_integers) := C8.fnScope_by (by decide +kernel)
abbrev s__unary_span : Stmt := topS 18
abbrev n__unary_span : List Str := ["name", "span", "_", "low", "high"]
theorem sc__unary_span : FnScope n__unary_span ["name", "span"] (C8.fnScope s__unary_span) := C8.fnScope_by (by decide +kernel)
abbrev s__and_span : Stmt := topS 19
abbrev n__and_span : List Str := ["first", "second", "can_hold"]
theorem sc__and_span : FnScope n__and_span ["first", "second"] (C8.fnScope s__and_span) := C8.fnScope_by (by decide +kernel)
abbrev s__or_span : Stmt := topS 20
abbrev n__or_span : List Str := ["first", "second", "can_fail"]
theorem sc__or_span : FnScope n__or_span ["first", "second"] (C8.fnScope s__or_span) := C8.fnScope_by (by decide +kernel)
abbrev s__comparison_span : Stmt := topS 21
abbrev n__comparison_span : List Str := ["name", "first", "second", "_", "low", "high", "other_low", "other_high"]
theorem sc__comparison_span : FnScope n__comparison_span ["name", "first", "second"] (C8.fnScope s__comparison_span) := C8.fnScope_by (by decide +kernel)
abbrev s__sum_span : Stmt := topS 22
abbrev n__sum_span : List Str := ["name", "first", "second", "_", "low", "high", "other_low", "other_high"]
theorem sc__sum_span : FnScope n__sum_span ["name", "first", "second"] (C8.fnScope s__sum_span) := C8.fnScope_by (by decide +kernel)
abbrev s__either_span : Stmt := topS 23
abbrev n__either_span : List Str := ["first", "second", "null", "low", "high"]
theorem sc__either_span : FnScope n__either_span ["first", "second"] (C8.fnScope s__either_span) := C8.fnScope_by (by decide +kernel)
abbrev s__binary_span : Stmt := topS 24
abbrev n__binary_span : List Str := ["name", "first", "second"]
theorem sc__binary_span : FnScope n__binary_span ["name", "first", "second"] (C8.fnScope s__binary_span) := C8.fnScope_by (by decide +kernel)
abbrev s__column_span : Stmt := topS 25
abbrev n__column_span : List Str := ["number", "zones", "zone"]
theorem sc__column_span : FnScope n__column_span ["number", "zones"] (C8.fnScope s__column_span) := C8.fnScope_by (by decide +kernel)
abbrev s_span_of : Stmt := topS 26
abbrev n_span_of : List Str := ["expression", "zones", "form", "value"]
theorem sc_span_of : FnScope n_span_of ["expression", "zones"] (C8.fnScope s_span_of) := C8.fnScope_by (by decide +kernel)
abbrev s_may_hold : Stmt := topS 27
abbrev n_may_hold : List Str := ["condition", "zones"]
theorem sc_may_hold : FnScope n_may_hold ["condition", "zones"] (C8.fnScope s_may_hold) := C8.fnScope_by (by decide +kernel)
abbrev s_is_day : Stmt := topS 46
abbrev n_is_day : List Str := ["value"]
theorem sc_is_day : FnScope n_is_day ["value"] (C8.fnScope s_is_day) := C8.fnScope_by (by decide +kernel)
abbrev s_limited : Stmt := topS 57
abbrev n_limited : List Str := ["number"]
theorem sc_limited : FnScope n_limited ["number"] (C8.fnScope s_limited) := C8.fnScope_by (by decide +kernel)
abbrev s_negated : Stmt := topS 66
abbrev n_negated : List Str := ["value"]
theorem sc_negated : FnScope n_negated ["value"] (C8.fnScope s_negated) := C8.fnScope_by (by decide +kernel)
abbrev s_both : Stmt := topS 67
abbrev n_both : List Str := ["first", "second"]
theorem sc_both : FnScope n_both ["first", "second"] (C8.fnScope s_both) := C8.fnScope_by (by decide +kernel)
abbrev s_either : Stmt := topS 68
abbrev n_either : List Str := ["first", "second"]
theorem sc_either : FnScope n_either ["first", "second"] (C8.fnScope s_either) := C8.fnScope_by (by decide +kernel)
abbrev s__negate : Stmt := topS 70
abbrev n__negate : List Str := ["number"]
theorem sc__negate : FnScope n__negate ["number"] (C8.fnScope s__negate) := C8.fnScope_by (by decide +kernel)
abbrev s__size : Stmt := topS 71
abbrev n__size : List Str := ["number"]
theorem sc__size : FnScope n__size ["number"] (C8.fnScope s__size) := C8.fnScope_by (by decide +kernel)
abbrev s__value : Stmt := topS 73
abbrev n__value : List Str := ["value"]
theorem sc__value : FnScope n__value ["value"] (C8.fnScope s__value) := C8.fnScope_by (by decide +kernel)
abbrev s__to_decimal : Stmt := topS 74
abbrev n__to_decimal : List Str := ["number"]
theorem sc__to_decimal : FnScope n__to_decimal ["number"] (C8.fnScope s__to_decimal) := C8.fnScope_by (by decide +kernel)
abbrev s__length : Stmt := topS 80
abbrev n__length : List Str := ["text"]
theorem sc__length : FnScope n__length ["text"] (C8.fnScope s__length) := C8.fnScope_by (by decide +kernel)
abbrev s_value_of_one : Stmt := topS 96
abbrev n_value_of_one : List Str := ["name", "value", "action"]
theorem sc_value_of_one : FnScope n_value_of_one ["name", "value"] (C8.fnScope s_value_of_one) := C8.fnScope_by (by decide +kernel)
abbrev s__both : Stmt := topS 105
abbrev n__both : List Str := ["first", "second"]
theorem sc__both : FnScope n__both ["first", "second"] (C8.fnScope s__both) := C8.fnScope_by (by decide +kernel)
abbrev s__either : Stmt := topS 106
abbrev n__either : List Str := ["first", "second"]
theorem sc__either : FnScope n__either ["first", "second"] (C8.fnScope s__either) := C8.fnScope_by (by decide +kernel)
abbrev s__same : Stmt := topS 107
abbrev n__same : List Str := ["first", "second"]
theorem sc__same : FnScope n__same ["first", "second"] (C8.fnScope s__same) := C8.fnScope_by (by decide +kernel)
abbrev s__first_known : Stmt := topS 108
abbrev n__first_known : List Str := ["first", "second"]
theorem sc__first_known : FnScope n__first_known ["first", "second"] (C8.fnScope s__first_known) := C8.fnScope_by (by decide +kernel)
abbrev s__equal : Stmt := topS 109
abbrev n__equal : List Str := ["first", "second"]
theorem sc__equal : FnScope n__equal ["first", "second"] (C8.fnScope s__equal) := C8.fnScope_by (by decide +kernel)
abbrev s__less : Stmt := topS 110
abbrev n__less : List Str := ["first", "second"]
theorem sc__less : FnScope n__less ["first", "second"] (C8.fnScope s__less) := C8.fnScope_by (by decide +kernel)
abbrev s__at_most : Stmt := topS 111
abbrev n__at_most : List Str := ["first", "second"]
theorem sc__at_most : FnScope n__at_most ["first", "second"] (C8.fnScope s__at_most) := C8.fnScope_by (by decide +kernel)
abbrev s__add : Stmt := topS 114
abbrev n__add : List Str := ["first", "second"]
theorem sc__add : FnScope n__add ["first", "second"] (C8.fnScope s__add) := C8.fnScope_by (by decide +kernel)
abbrev s__subtract : Stmt := topS 115
abbrev n__subtract : List Str := ["first", "second"]
theorem sc__subtract : FnScope n__subtract ["first", "second"] (C8.fnScope s__subtract) := C8.fnScope_by (by decide +kernel)
abbrev s__multiply : Stmt := topS 116
abbrev n__multiply : List Str := ["first", "second"]
theorem sc__multiply : FnScope n__multiply ["first", "second"] (C8.fnScope s__multiply) := C8.fnScope_by (by decide +kernel)
abbrev s__add_days : Stmt := topS 124
abbrev n__add_days : List Str := ["day", "many", "later"]
theorem sc__add_days : FnScope n__add_days ["day", "many"] (C8.fnScope s__add_days) := C8.fnScope_by (by decide +kernel)
abbrev s__are_alike : Stmt := topS 131
abbrev n__are_alike : List Str := ["first", "second"]
theorem sc__are_alike : FnScope n__are_alike ["first", "second"] (C8.fnScope s__are_alike) := C8.fnScope_by (by decide +kernel)
abbrev s_value_of_two : Stmt := topS 132
abbrev n_value_of_two : List Str := ["name", "first", "second", "action"]
theorem sc_value_of_two : FnScope n_value_of_two ["name", "first", "second"] (C8.fnScope s_value_of_two) := C8.fnScope_by (by decide +kernel)
abbrev s_unary : Stmt := topS 134
abbrev n_unary : List Str := ["name", "value"]
theorem sc_unary : FnScope n_unary ["name", "value"] (C8.fnScope s_unary) := C8.fnScope_by (by decide +kernel)
abbrev s_binary : Stmt := topS 135
abbrev n_binary : List Str := ["name", "first", "second"]
theorem sc_binary : FnScope n_binary ["name", "first", "second"] (C8.fnScope s_binary) := C8.fnScope_by (by decide +kernel)
abbrev s_evaluate : Stmt := topS 138
abbrev n_evaluate : List Str := ["expression", "row", "form", "number", "chosen", "first", "second", "third"]
theorem sc_evaluate : FnScope n_evaluate ["expression", "row"] (C8.fnScope s_evaluate) := C8.fnScope_by (by decide +kernel)
abbrev s_holds : Stmt := topS 139
abbrev n_holds : List Str := ["expression", "row"]
theorem sc_holds : FnScope n_holds ["expression", "row"] (C8.fnScope s_holds) := C8.fnScope_by (by decide +kernel)
abbrev s__law_cell : Stmt := topS 141
abbrev n__law_cell : List Str := ["script", "k"]
theorem sc__law_cell : FnScope n__law_cell ["script", "k"] (C8.fnScope s__law_cell) := C8.fnScope_by (by decide +kernel)
abbrev s__law_state : Stmt := topS 142
abbrev n__law_state : List Str := ["cell", "k", "prime", "first", "second", "third", "fourth"]
theorem sc__law_state : FnScope n__law_state ["cell", "k"] (C8.fnScope s__law_state) := C8.fnScope_by (by decide +kernel)
abbrev s__law_digit : Stmt := topS 143
abbrev n__law_digit : List Str := ["state", "many", "digit"]
theorem sc__law_digit : FnScope n__law_digit ["state", "many"] (C8.fnScope s__law_digit) := C8.fnScope_by (by decide +kernel)
abbrev s__law_is_integer : Stmt := topS 144
abbrev n__law_is_integer : List Str := ["told"]
theorem sc__law_is_integer : FnScope n__law_is_integer ["told"] (C8.fnScope s__law_is_integer) := C8.fnScope_by (by decide +kernel)
abbrev s__law_rank : Stmt := topS 145
abbrev n__law_rank : List Str := ["value"]
theorem sc__law_rank : FnScope n__law_rank ["value"] (C8.fnScope s__law_rank) := C8.fnScope_by (by decide +kernel)
abbrev s__law_text : Stmt := topS 146
abbrev n__law_text : List Str := ["state", "signs", "k"]
theorem sc__law_text : FnScope n__law_text ["state"] (C8.fnScope s__law_text) := C8.fnScope_by (by decide +kernel)
abbrev s__law_value : Stmt := topS 147
abbrev n__law_value : List Str := ["state", "kind"]
theorem sc__law_value : FnScope n__law_value ["state"] (C8.fnScope s__law_value) := C8.fnScope_by (by decide +kernel)
abbrev s__law_leaf : Stmt := topS 148
abbrev n__law_leaf : List Str := ["state", "width"]
theorem sc__law_leaf : FnScope n__law_leaf ["state", "width"] (C8.fnScope s__law_leaf) := C8.fnScope_by (by decide +kernel)
abbrev s__law_expression : Stmt := topS 149
abbrev n__law_expression : List Str := ["state", "width", "depth", "kind", "first", "names", "second"]
theorem sc__law_expression : FnScope n__law_expression ["state", "width", "depth"] (C8.fnScope s__law_expression) := C8.fnScope_by (by decide +kernel)
abbrev s__law_condition : Stmt := topS 150
abbrev n__law_condition : List Str := ["state", "width", "depth", "kind", "name", "column", "value"]
theorem sc__law_condition : FnScope n__law_condition ["state", "width", "depth"] (C8.fnScope s__law_condition) := C8.fnScope_by (by decide +kernel)
abbrev s__law_inside : Stmt := topS 151
abbrev n__law_inside : List Str := ["value", "span"]
theorem sc__law_inside : FnScope n__law_inside ["value", "span"] (C8.fnScope s__law_inside) := C8.fnScope_by (by decide +kernel)
abbrev s_law : Stmt := topS 152
abbrev n_law : List Str := ["script", "state", "width", "numbers", "rows", "k", "row", "zones", "expression", "span", "let", "j", "value"]
theorem sc_law : FnScope n_law ["script"] (C8.fnScope s_law) := C8.fnScope_by (by decide +kernel)
def wo (p : Addr) (H : Hp) : Hp := fun a => if a = p then none else H a
theorem wo_self (p : Addr) (H : Hp) : wo p H p = none := if_pos rfl
theorem wo_ne {p a : Addr} {H : Hp} (h : a ≠ p) : wo p H a = H a := if_neg h
theorem wo_le (p : Addr) (H : Hp) : Ex (wo p H) H := fun a o h => by
  unfold wo at h
  split at h
  · cases h
  · exact h
theorem wx_of {p : Addr} {H H' : Hp} (e : Ex H H') : Ex (wo p H) H' := (wo_le p H).trans e
theorem wx_trans {p : Addr} {H1 H2 H3 : Hp} (a : Ex (wo p H1) H2) (b : Ex (wo p H2) H3) : Ex (wo p H1) H3 := fun x o h => b x o (by
  have hx : x ≠ p := fun z => by
    rw [z, wo_self] at h
    cases h
  rw [wo_ne hx]
  exact a x o h)
theorem wx_back {p : Addr} {H0 H1 H2 : Hp} (h : H0 p = none) (e : Ex H0 H1) (x : Ex (wo p H1) H2) : Ex H0 H2 := fun a o ha => x a o (by
  have hx : a ≠ p := fun z => by
    rw [z, h] at ha
    cases ha
  rw [wo_ne hx]
  exact e a o ha)
theorem wx_mut {p : Addr} {H1 H2 : Hp} {o : HO} (e : Ex (wo p H1) H2) : Ex (wo p H1) (upd H2 p o) := Ex.mut e (wo_self p H1)
def Dr (p : Addr) (H : Hp) : Prop := ∃ s : Int, 0 ≤ s ∧ H p = some (.lst [.int s])
theorem Dr.ex {p : Addr} {H H' : Hp} (d : Dr p H) (e : Ex H H') : Dr p H' := by
  obtain ⟨s, h0, h⟩ := d
  exact ⟨s, h0, e _ _ h⟩
/-- a value that is drawn: one of those with the word P -/
def EvD1 (te : TE) (σ : L2.St) (p : Addr) (H : Hp) (P : V → Prop) : Prop := ∀ H1, Ex (wo p H) H1 → Dr p H1 → ∀ Q : VK, (∀ v H2, P v → Ex (wo p H1) H2 → Dr p H2 → Q v H2) → te σ H1 Q
def EvDT (tt : TT) (σ : L2.St) (p : Addr) (H : Hp) (P : Bool → Prop) : Prop := ∀ H1, Ex (wo p H) H1 → Dr p H1 → ∀ Q : Bool → Hp → Prop, (∀ b H2, P b → Ex (wo p H1) H2 → Dr p H2 → Q b H2) → tt σ H1 Q
def ZP (P : Int → Prop) : V → Prop := fun v => ∃ i, v = .int i ∧ P i
/-- a value of which a word alone is known, all else as it was -/
def EvN (te : TE) (σ : L2.St) (H : Hp) (P : V → Prop) : Prop := ∀ H1, Ex H H1 → ∀ Q : VK, (∀ v H2, P v → Ex H1 H2 → Q v H2) → te σ H1 Q
/-- a new list to draw from -/
def EvC (te : TE) (σ : L2.St) (H : Hp) : Prop := ∀ H1, Ex H H1 → ∀ Q : VK, (∀ p H2, H1 p = none → Ex H1 H2 → Dr p H2 → Q (.ref p) H2) → te σ H1 Q
def sp__law_cell (K : PySem.W.Frag) : Sp := fun vs H Q _ => ∃ (a : Addr) (ns : List Int) (k : Int), vs = [.ref a, .int k] ∧ SqL K H a (ns.map V.int) ∧ 0 ≤ k ∧ ∀ H', Ex H H' → Q (.int (ns.getD k.toNat 0)) H'
def sp__law_state (K : PySem.W.Frag) : Sp := fun vs H Q _ => ∃ c k : Int, vs = [.int c, .int k] ∧ ∀ p H', H p = none → Ex H H' → Dr p H' → Q (.ref p) H'
def sp__law_digit (K : PySem.W.Frag) : Sp := fun vs H Q _ => ∃ (p : Addr) (m : Int), vs = [.ref p, .int m] ∧ Dr p H ∧ 0 < m ∧ m < 2 ^ 400 ∧ ∀ d H', 0 ≤ d → d < m → Ex (wo p H) H' → Dr p H' → Q (.int d) H'
section
variable {K : PySem.W.Frag} {σ : L2.St} {H H' : Hp} {p : Addr} {ta tb te tx : TE} {t u : TT} {x y z v : V} {r : R2} {P R S : V → Prop} {PI RI SI : Int → Prop} {D : Ends} {tz tu tw : TS} {E : XK}
theorem e1_pure (h : Ev te σ (wo p H) v) (hv : P v) : EvD1 te σ p H P := fun H1 e d Q q => h H1 e Q fun H2 e2 => q v H2 hv (wx_of e2) (d.ex e2)
theorem e1_int {i : Int} (h : Ev te σ (wo p H) (.int i)) (hv : PI i) : EvD1 te σ p H (ZP PI) := e1_pure h ⟨i, rfl, hv⟩
theorem e1_mono (h : EvD1 te σ p H P) (k : ∀ v, P v → R v) : EvD1 te σ p H R := fun H1 e d Q q => h H1 e d Q fun v H2 hv e2 d2 => q v H2 (k v hv) e2 d2
theorem ez_mono (h : EvD1 te σ p H (ZP PI)) (k : ∀ i, PI i → RI i) : EvD1 te σ p H (ZP RI) := e1_mono h fun v ⟨i, e, hi⟩ => ⟨i, e, k i hi⟩
theorem ez_op {C : Int → Int → Prop} {g : Int → Int → Int} (ha : EvD1 ta σ p H (ZP PI)) (hb : EvD1 tb σ p H (ZP RI)) (hc : ∀ i j, PI i → RI j → C i j ∧ SI (g i j)) : EvD1 (tOp (rI C fun i j => .int (g i j)) ta tb) σ p H (ZP SI) := fun H1 e d Q q =>
  ha H1 e d _ fun v H2 ⟨i, ev, hi⟩ e2 d2 => hb H2 (wx_trans e e2) d2 _ fun w H3 ⟨j, ew, hj⟩ e3 d3 => ⟨i, j, ev, ew, (hc i j hi hj).1, q _ H3 ⟨_, rfl, (hc i j hi hj).2⟩ (wx_trans e2 e3) d3⟩
theorem ez_op0 {g : Int → Int → Int} (ha : EvD1 ta σ p H (ZP PI)) (hb : EvD1 tb σ p H (ZP RI)) (hc : ∀ i j, PI i → RI j → SI (g i j)) : EvD1 (tOp (rI0 fun i j => .int (g i j)) ta tb) σ p H (ZP SI) := fun H1 e d Q q =>
  ha H1 e d _ fun v H2 ⟨i, ev, hi⟩ e2 d2 => hb H2 (wx_trans e e2) d2 _ fun w H3 ⟨j, ew, hj⟩ e3 d3 => ⟨i, j, ev, ew, q _ H3 ⟨_, rfl, hc i j hi hj⟩ (wx_trans e2 e3) d3⟩
theorem ez_cmp {g : Int → Int → Bool} (ha : EvD1 ta σ p H (ZP PI)) (hb : EvD1 tb σ p H (ZP RI)) : EvD1 (tOp (rI0 fun i j => .bl (g i j)) ta tb) σ p H (fun v => ∃ b, v = .bl b) := fun H1 e d Q q =>
  ha H1 e d _ fun v H2 ⟨i, ev, hi⟩ e2 d2 => hb H2 (wx_trans e e2) d2 _ fun w H3 ⟨j, ew, hj⟩ e3 d3 => ⟨i, j, ev, ew, q _ H3 ⟨_, rfl⟩ (wx_trans e2 e3) d3⟩
theorem ez_eq (ha : EvD1 ta σ p H (ZP PI)) (hb : EvD1 tb σ p H (ZP RI)) : EvD1 (tOp rEq ta tb) σ p H (fun v => ∃ b, v = .bl b) := fun H1 e d Q q =>
  ha H1 e d _ fun v H2 ⟨i, ev, hi⟩ e2 d2 => hb H2 (wx_trans e e2) d2 _ fun w H3 ⟨j, ew, hj⟩ e3 d3 => by
    subst ev ew
    exact ⟨rfl, q _ H3 ⟨_, rfl⟩ (wx_trans e2 e3) d3⟩
/-- _law_digit(state, m) -/
theorem ez_digit {m : Int} (ha : Ev ta σ (wo p H) (.ref p)) (hb : Ev tb σ (wo p H) (.int m)) (h0 : 0 < m) (h1 : m < 2 ^ 400) : EvD1 (tCall (sp__law_digit K) [] E (tCons ta (tCons tb tNil))) σ p H (ZP fun d => 0 ≤ d ∧ d < m) := fun H1 e d Q q =>
  ha H1 e _ fun H2 e2 => hb H2 (e.trans e2) _ fun H3 e3 => ⟨p, m, rfl, d.ex (e2.trans e3), h0, h1, fun d H4 a b e4 d4 => q _ H4 ⟨d, rfl, a, b⟩ (wx_trans (wx_of (e2.trans e3)) e4) d4⟩
theorem edt_test (h : EvD1 te σ p H (fun v => ∃ b, v = .bl b)) : EvDT (tTest te) σ p H (fun _ => True) := fun H1 e d Q q => h H1 e d _ fun v H2 ⟨b, ev⟩ e2 d2 => ⟨b, ev, q b H2 trivial e2 d2⟩
theorem q1_asg {i : Nat} (h : EvD1 te σ p H P) (d : Dr p H) (k : ∀ v H1, P v → Ex (wo p H) H1 → Dr p H1 → tz D (σ.set i (some v)) H1) : tSeq (tAsg te (gName i)) tz D σ H := h H (wo_le p H) d _ fun v H1 hv e1 d1 => k v H1 hv e1 d1
theorem qz_asg {i : Nat} (h : EvD1 te σ p H (ZP PI)) (d : Dr p H) (k : ∀ (n : Int) H1, PI n → Ex (wo p H) H1 → Dr p H1 → tz D (σ.set i (some (.int n))) H1) : tSeq (tAsg te (gName i)) tz D σ H := q1_asg h d fun v H1 ⟨n, ev, hn⟩ e1 d1 => by
  subst ev
  exact k n H1 hn e1 d1
theorem s1_ret (h : EvD1 te σ p H P) (d : Dr p H) (k : ∀ v H1, P v → Ex (wo p H) H1 → Dr p H1 → D.rt v H1) : tRet te D σ H := h H (wo_le p H) d _ fun v H1 hv e1 d1 => k v H1 hv e1 d1
theorem q1_when (h : EvDT t σ p H (fun _ => True)) (d : Dr p H) (h1 : ∀ H1, Ex (wo p H) H1 → Dr p H1 → tu { D with nx := tz D } σ H1) (h2 : ∀ H1, Ex (wo p H) H1 → Dr p H1 → tz D σ H1) : tSeq (tIfS t tu tNext) tz D σ H := h H (wo_le p H) d _ fun b H1 _ e1 d1 => by
  cases b with
  | true =>
    show tu { D with nx := tz D } σ H1
    exact h1 H1 e1 d1
  | false =>
    show tz D σ H1
    exact h2 H1 e1 d1
/-- _law_cell(script, i), _law_state(cell, k) -/
theorem ec_cell {a : Addr} {ns : List Int} {k : Int} (ha : Ev ta σ H (.ref a)) (hb : Ev tb σ H (.int k)) (hS : SqL K H a (ns.map V.int)) (h0 : 0 ≤ k) : Ev (tCall (sp__law_cell K) [] E (tCons ta (tCons tb tNil))) σ H (.int (ns.getD k.toNat 0)) :=
  ev_call (ea_cons ha (ea_cons hb ea_nil)) fun H1 e Q q E => ⟨a, ns, k, rfl, ex_l e hS, h0, q⟩
theorem ec_state {c k : Int} (ha : Ev ta σ H (.int c)) (hb : Ev tb σ H (.int k)) : EvC (tCall (sp__law_state K) [] E (tCons ta (tCons tb tNil))) σ H := fun H1 e Q q =>
  ha H1 e _ fun H2 e2 => hb H2 (e.trans e2) _ fun H3 e3 => ⟨c, k, rfl, fun p H4 hp e4 d => q p H4 (fresh_back (e2.trans e3) hp) ((e2.trans e3).trans e4) d⟩
theorem q_asgC {i : Nat} (h : EvC te σ H) (k : ∀ p H1, H p = none → Ex H H1 → Dr p H1 → tz D (σ.set i (some (.ref p))) H1) : tSeq (tAsg te (gName i)) tz D σ H := h H (Ex.refl H) _ fun p H1 hp e d => k p H1 hp e d
theorem EvN.mono (e : Ex H H') (h : EvN te σ H P) : EvN te σ H' P := fun H1 a Q q => h H1 (e.trans a) Q q
end
section
variable {P : Program} {w : World} {K : PySem.W.Frag} {mg : Str → Option Value} {base : Heap}
theorem ok__law_cell (D : Dn K mg "_law_cell" s__law_cell ["script", "k"]) (z_len : mg "len" = none) :
    C8.Cal P w K mg base 1 "_law_cell" (sp__law_cell K) [] := by
  refine cal_of D sc__law_cell (fun vs H Q E h => ?_) (fun f cdv A outer s H vs Q E hr h => ?_)
  · obtain ⟨_, _, _, rfl, _⟩ := h
    rfl
  refine ⟨_, (pss_cons (ps_if (pt_cmpR op_lt (pv 1) (pe_callB call_len_seq (by rfl) z_len PySem.boot_len (pa_cons (pv 0) pa_nil)) (nomark _))
      (pss_one (ps_ret (pe_ix ix_list (pv 0) (pv 1) (fun _ _ => rfl))))
      pss_nil)
    (pss_one (ps_ret pe_int))), ?_⟩
  obtain ⟨a, ns, k, rfl, hS, h0, q⟩ := h
  refine q_when (b := decide (k < (((ns.map V.int).length : Nat) : Int))) (et_test (ev_op (ev_var rfl) (ev_len (ev_var rfl) hS) rv_I0)) (fun hb H1 e1 => ?_) fun hb H1 e1 => ?_
  · have hk : k.toNat < ns.length := by
      have := of_decide_eq_true hb
      rw [List.length_map] at this
      omega
    refine s_ret (v := .int (ns.getD k.toNat 0)) (ev_op (ev_var rfl) (ev_var rfl) (rv_ixL (ex_l e1 hS) ?_)) fun H2 e2 => q _ (e1.trans e2)
    obtain ⟨j, rfl⟩ := Int.eq_ofNat_of_zero_le h0
    rw [Int.toNat_natCast] at hk ⊢
    exact atI_nat (by rw [List.getElem?_map, List.getElem?_eq_getElem hk, List.getD_eq_getElem?_getD, List.getElem?_eq_getElem hk]; rfl)
  · have hk : ns.length ≤ k.toNat := by
      have := of_decide_eq_false hb
      rw [List.length_map] at this
      omega
    refine s_ret (v := .int (ns.getD k.toNat 0)) (ev_is ev_c ?_) fun H2 e2 => q _ (e1.trans e2)
    rw [List.getD_eq_getElem?_getD, List.getElem?_eq_none hk]
    rfl
theorem ok__law_state (D : Dn K mg "_law_state" s__law_state ["cell", "k"]) (z_int : mg "int" = none) :
    C8.Cal P w K mg base 1 "_law_state" (sp__law_state K) [] := by
  refine cal_of D sc__law_state (fun vs H Q E h => ?_) (fun f cdv A outer s H vs Q E hr h => ?_)
  · obtain ⟨_, _, rfl, _⟩ := h
    rfl
  refine ⟨_, (pss_cons (ps_if (pt_cmpR op_ge (pv 0) pe_int (nomark _))
      (pss_one (ps_ret (pe_lst (pa_cons (pv 0) pa_nil))))
      pss_nil)
    (pss_cons (ps_set (i := 2) sc__law_state.nd rfl (.inl rfl) pe_int)
    (pss_cons (ps_set (i := 3) sc__law_state.nd rfl (.inl rfl) (pe_op op_mod (pe_callTy call_int1 (by rfl) z_int (by decide +kernel) (pa_cons (pe_op op_add (pe_op op_add (pe_op op_mul (pv 0) pe_int) (pe_op op_mul (pe_op op_add (pv 1) pe_int) pe_int)) pe_int) pa_nil)) (pv 2)))
    (pss_cons (ps_set (i := 4) sc__law_state.nd rfl (.inl rfl) (pe_op op_mod (pe_callTy call_int1 (by rfl) z_int (by decide +kernel) (pa_cons (pe_op op_add (pe_op op_add (pe_op op_mulX (pv 3) (pv 3)) (pe_op op_mul pe_int (pv 3))) (pv 1)) pa_nil)) (pv 2)))
    (pss_cons (ps_set (i := 5) sc__law_state.nd rfl (.inl rfl) (pe_op op_mod (pe_callTy call_int1 (by rfl) z_int (by decide +kernel) (pa_cons (pe_op op_add (pe_op op_add (pe_op op_mul (pv 4) pe_int) (pe_op op_mul (pv 3) pe_int)) pe_int) pa_nil)) (pv 2)))
    (pss_cons (ps_set (i := 6) sc__law_state.nd rfl (.inl rfl) (pe_op op_mod (pe_callTy call_int1 (by rfl) z_int (by decide +kernel) (pa_cons (pe_op op_add (pe_op op_mulX (pv 5) (pv 5)) (pv 4)) pa_nil)) (pv 2)))
    (pss_one (ps_ret (pe_lst (pa_cons (pe_op op_add (pe_op op_mul (pe_op op_add (pe_op op_mul (pe_op op_add (pe_op op_mul (pv 6) (pv 2)) (pv 5)) (pv 2)) (pv 4)) (pv 2)) (pv 3)) pa_nil)))))))))), ?_⟩
  obtain ⟨c, k, rfl, q⟩ := h
  refine q_when (b := decide (c ≥ 1000000000000000000)) (et_test (ev_op (ev_var rfl) ev_c rv_I0)) (fun hb H1 e1 => ?_) fun hb H1 e1 => ?_
  · exact s_retL (el_lst (ea_cons (ev_var rfl) ea_nil) (by show 1 ≤ 100000; decide)) fun p H2 hp e2 h2 => q p H2 (fresh_back e1 hp) (e1.trans e2) ⟨c, by have := of_decide_eq_true hb; omega, h2⟩
  refine q_asg (v := .int 2305843009213693951) ev_c fun H2 e2 => ?_
  have mp : ∀ n : Int, 0 ≤ n % 2305843009213693951 ∧ n % 2305843009213693951 < 2305843009213693951 := fun n => by omega
  have mb : ∀ i j : Int, 0 ≤ i ∧ i < 2305843009213693951 → 0 ≤ j ∧ j < 2305843009213693951 → CMulX i j := fun i j hi hj => mulx_ok (a := 61) (b := 61) (by omega) (by omega) (by decide)
  refine q_asg (v := .int ((c * 6364136223 + (k + 1) * 104729 + 77) % 2305843009213693951)) ?_ fun H3 e3 => ?_
  · exact ev_op (ev_int (ev_op (ev_op (ev_op (ev_var rfl) ev_c (rv_I (.inr ⟨by decide, by decide⟩))) (ev_op (ev_op (ev_var rfl) ev_c rv_I0) ev_c (rv_I (.inr ⟨by decide, by decide⟩))) rv_I0) ev_c rv_I0)) (ev_var rfl) (rv_I (by decide))
  have h1 := mp (c * 6364136223 + (k + 1) * 104729 + 77)
  generalize (c * 6364136223 + (k + 1) * 104729 + 77) % 2305843009213693951 = f1 at *
  refine q_asg (v := .int ((f1 * f1 + 1013 * f1 + k) % 2305843009213693951)) ?_ fun H4 e4 => ?_
  · exact ev_op (ev_int (ev_op (ev_op (ev_op (ev_var rfl) (ev_var rfl) (rv_I (mb _ _ h1 h1))) (ev_op ev_c (ev_var rfl) (rv_I (.inl ⟨by decide, by decide⟩))) rv_I0) (ev_var rfl) rv_I0)) (ev_var rfl) (rv_I (by decide))
  have h2 := mp (f1 * f1 + 1013 * f1 + k)
  generalize (f1 * f1 + 1013 * f1 + k) % 2305843009213693951 = f2 at *
  refine q_asg (v := .int ((f2 * 48271 + f1 * 31 + 9) % 2305843009213693951)) ?_ fun H5 e5 => ?_
  · exact ev_op (ev_int (ev_op (ev_op (ev_op (ev_var rfl) ev_c (rv_I (.inr ⟨by decide, by decide⟩))) (ev_op (ev_var rfl) ev_c (rv_I (.inr ⟨by decide, by decide⟩))) rv_I0) ev_c rv_I0)) (ev_var rfl) (rv_I (by decide))
  have h3 := mp (f2 * 48271 + f1 * 31 + 9)
  generalize (f2 * 48271 + f1 * 31 + 9) % 2305843009213693951 = f3 at *
  refine q_asg (v := .int ((f3 * f3 + f2) % 2305843009213693951)) ?_ fun H6 e6 => ?_
  · exact ev_op (ev_int (ev_op (ev_op (ev_var rfl) (ev_var rfl) (rv_I (mb _ _ h3 h3))) (ev_var rfl) rv_I0)) (ev_var rfl) (rv_I (by decide))
  have h4 := mp (f3 * f3 + f2)
  generalize (f3 * f3 + f2) % 2305843009213693951 = f4 at *
  refine s_retL (xs := [.int (((f4 * 2305843009213693951 + f3) * 2305843009213693951 + f2) * 2305843009213693951 + f1)]) (el_lst (ea_cons ?_ ea_nil) (by show 1 ≤ 100000; decide)) fun p H7 hp e7 h7 => ?_
  · exact ev_op (ev_op (ev_op (ev_op (ev_op (ev_op (ev_var rfl) (ev_var rfl) (rv_I (.inr ⟨by decide, by decide⟩))) (ev_var rfl) rv_I0) (ev_var rfl) (rv_I (.inr ⟨by decide, by decide⟩))) (ev_var rfl) rv_I0) (ev_var rfl) (rv_I (.inr ⟨by decide, by decide⟩))) (ev_var rfl) rv_I0
  have x6 := ((((e1.trans e2).trans e3).trans e4).trans e5).trans e6
  exact q p H7 (fresh_back x6 hp) (x6.trans e7) ⟨_, by omega, h7⟩
theorem ok__law_digit (D : Dn K mg "_law_digit" s__law_digit ["state", "many"]) (z_int : mg "int" = none) :
    C8.Cal P w K mg base 1 "_law_digit" (sp__law_digit K) [] := by
  refine cal_of D sc__law_digit (fun vs H Q E h => ?_) (fun f cdv A outer s H vs Q E hr h => ?_)
  · obtain ⟨_, _, rfl, _⟩ := h
    rfl
  refine ⟨_, (pss_cons (ps_set (i := 2) sc__law_digit.nd rfl (.inl rfl) (pe_op op_mod (pe_callTy call_int1 (by rfl) z_int (by decide +kernel) (pa_cons (pe_ix ix_list (pv 0) pe_int (fun _ _ => rfl)) pa_nil)) (pv 1)))
    (pss_cons (ps_asg (pe_op op_fdivW (pe_ix ix_list (pv 0) pe_int (fun _ _ => rfl)) (pv 1)) (pg_sub (pv 0) pe_int set_list))
    (pss_one (ps_ret (pv 2))))), ?_⟩
  obtain ⟨p, m, rfl, ⟨s, s0, hp⟩, m0, m1, q⟩ := h
  refine q_asg (v := .int (s % m)) (ev_op (ev_int (ev_op (ev_var rfl) ev_c (rv_ixL (sq_of hp) rfl))) (ev_var rfl) (rv_I m0)) fun H1 e1 => ?_
  refine q_setL (v := .int (s / m)) (j := 0) (e1 _ _ hp) (ev_op (ev_op (ev_var rfl) ev_c (rv_ixL (sq_of (e1 _ _ hp)) rfl)) (ev_var rfl) (rv_I (wide_div (b := 400) m0 (by omega) (by decide) (by decide)))) (ev_var rfl) ev_c (by show 0 < 1; decide) fun H2 e2 => ?_
  exact s_ret (ev_var rfl) fun H3 e3 => q (s % m) H3 (Int.emod_nonneg _ (by omega)) (Int.emod_lt_of_pos _ m0) ((Ex.mut ((wo_le p H).trans (e1.trans e2)) (wo_self p H)).trans e3) ⟨s / m, Int.ediv_nonneg s0 (by omega), e3 _ _ upd_same⟩
end
theorem given_all (n : Nat) (v : Nat → V) : given n (fun _ => true) v = (List.range n).map v := by
  unfold given
  rw [List.filter_eq_self.mpr (fun _ _ => rfl)]
theorem ix_listK {X : Cx} {K : PySem.W.Frag} (h : X.K = K) : IxR X (rIxL K) := h ▸ ix_list
def Al2 {α : Type} (R : Hp → Addr → α → Prop) (H : Hp) (qs : List Addr) (L : List α) : Prop := qs.length = L.length ∧ ∀ (i : Nat) q l, qs[i]? = some q → L[i]? = some l → R H q l
def Lst2 {α : Type} (R : Hp → Addr → α → Prop) (H : Hp) (p : Addr) (L : List α) : Prop := ∃ qs, H p = some (.lst (qs.map V.ref)) ∧ Al2 R H qs L
section
variable {α : Type} {R S : Hp → Addr → α → Prop} {H H' : Hp} {qs : List Addr} {L : List α}
theorem Al2.nil : Al2 R H [] [] := ⟨rfl, fun i q l h => by simp at h⟩
theorem Al2.mono (h : Al2 R H qs L) (k : ∀ q l, l ∈ L → R H q l → S H' q l) : Al2 S H' qs L := ⟨h.1, fun i q l a b => k q l (List.mem_of_getElem? b) (h.2 i q l a b)⟩
theorem Al2.snoc {q : Addr} {l : α} (h : Al2 R H qs L) (hr : R H q l) : Al2 R H (qs ++ [q]) (L ++ [l]) := by
  refine ⟨by rw [List.length_append, List.length_append, h.1, List.length_cons, List.length_cons]; rfl, fun i q' l' a b => ?_⟩
  by_cases hi : i < qs.length
  · rw [List.getElem?_append_left hi] at a
    rw [List.getElem?_append_left (by rw [← h.1]; exact hi)] at b
    exact h.2 i q' l' a b
  · rw [List.getElem?_append_right (by omega)] at a
    rw [List.getElem?_append_right (by rw [← h.1]; omega)] at b
    have e : i - qs.length = 0 := by
      by_cases z : i - qs.length = 0
      · exact z
      · rw [List.getElem?_eq_none (by show 1 ≤ _; omega)] at a; cases a
    rw [e] at a
    rw [← h.1, e] at b
    cases a
    cases b
    exact hr
theorem Al2.get (h : Al2 R H qs L) {i : Nat} (hi : i < L.length) : ∃ q, qs[i]? = some q ∧ R H q L[i] := by
  have hq : i < qs.length := by rw [h.1]; exact hi
  exact ⟨qs[i], List.getElem?_eq_getElem hq, h.2 i _ _ (List.getElem?_eq_getElem hq) (List.getElem?_eq_getElem hi)⟩
end
theorem wo_upd (p : Addr) (H : Hp) (o : HO) : wo p (upd H p o) = wo p H := by
  funext a
  unfold wo
  split
  · rfl
  · rename_i h
    exact upd_ne h
theorem wo_mono {p : Addr} {H H' : Hp} (e : Ex H H') : Ex (wo p H) (wo p H') := fun a o h => by
  have hx : a ≠ p := fun z => by rw [z, wo_self] at h; cases h
  rw [wo_ne hx] at h ⊢
  exact e a o h
theorem Lst2.mono {α : Type} {R : Hp → Addr → α → Prop} {H H' : Hp} {p : Addr} {L : List α} (h : Lst2 R H p L) (e : Ex H H') (k : ∀ q l, R H q l → R H' q l) : Lst2 R H' p L := by
  obtain ⟨qs, h1, h2⟩ := h
  exact ⟨qs, e _ _ h1, h2.mono fun q l _ => k q l⟩
def signsL : List Nat := (PySem.Str.ofString " !\"#$&'()*+,-./0123456789:;<=>?@ABCDEFGHIJKLMNOPQRSTUVWXYZ[\\]^_`abcdefghijklmnopqrstuvwxyz{|}~").cps.toList
theorem signs_ok : ∀ c ∈ signsL, 32 ≤ c ∧ c ≤ 126 := by decide +kernel
theorem join_ones : ∀ l : List Nat, Txt.join (SX.S []) (l.map fun c => (⟨#[c]⟩ : Str)) = SX.S l := by
  intro l
  have e : (l.map fun c => (⟨#[c]⟩ : Str)) = (l.map fun c => [c]).map SX.S := by
    rw [List.map_map]
    rfl
  rw [e, SX.join_S]
  congr 1
  induction l with
  | nil => rfl
  | cons c r ih =>
    cases r with
    | nil => rfl
    | cons d r => 
      have e2 : TL.joinL [] (List.map (fun c => [c]) (c :: d :: r)) = c :: TL.joinL [] (List.map (fun c => [c]) (d :: r)) := rfl
      rw [e2, ih (by rw [List.map_map]; rfl)]
def fewS : List Nat := (PySem.Str.ofString "abAB 19-'~").cps.toList
theorem fewS_len : fewS.length = 10 := by decide +kernel
theorem fewS_S : PySem.Str.ofString "abAB 19-'~" = SX.S fewS := by decide +kernel
theorem fewS_in : ∀ c ∈ fewS, c ∈ signsL := by decide +kernel
def EvLD1 (te : TE) (σ : L2.St) (p : Addr) (H : Hp) (P : List V → Prop) : Prop := ∀ H1, Ex (wo p H) H1 → Dr p H1 → ∀ Q : VK, (∀ l H2 xs, P xs → H1 l = none → Ex (wo p H1) H2 → Dr p H2 → H2 l = some (.lst xs) → Q (.ref l) H2) → te σ H1 Q
theorem dr_ne {p l : Addr} {H : Hp} (d : Dr p H) (h : H l = none) : p ≠ l := fun z => by
  obtain ⟨s, _, e⟩ := d
  rw [z, h] at e
  cases e
theorem Dr.upd {p l : Addr} {H : Hp} {o : HO} (d : Dr p H) (h : p ≠ l) : Dr p (upd H l o) := by
  obtain ⟨s, s0, e⟩ := d
  exact ⟨s, s0, by rw [upd_ne h]; exact e⟩
section
variable {K : PySem.W.Frag} {σ : L2.St} {H : Hp} {p : Addr} {ta tb te tn : TE} {R : V → Prop} {PI : Int → Prop} {D : Ends} {tz : TS}
/-- [what is drawn for k in range(a number that is drawn)] -/
theorem e1_lc {j : Nat} {vs : List Nat} {m : Int} (hn : EvD1 tn σ p H (ZP fun n => 0 ≤ n ∧ n ≤ m)) (hm : m ≤ 10000) (hw : ∀ x, wipe ((wipe σ vs).set j (some x)) vs = wipe σ vs)
    (he : ∀ i : Nat, EvD1 te ((wipe σ vs).set j (some (.int (i : Int)))) p H R) : EvLD1 (tLc (iRng1 (tCons tn tNil)) (gName j) tYes te vs) σ p H (fun xs => (xs.length : Int) ≤ m ∧ ∀ x ∈ xs, R x) := fun H0 e d Q q =>
  hn H0 e d _ fun v H1 ⟨n, ev, hn0, hn1⟩ e1 d1 => by
    subst ev
    refine ⟨n, rfl, by omega, by omega, fun Dl hD => ?_⟩
    have hpd : p ≠ Dl := dr_ne d1 hD
    refine lc_range (lo := 0) (n := n.toNat) (fun i H' => Ex (wo p H1) H' ∧ Dr p H' ∧ ∃ acc, H' Dl = some (.lst acc) ∧ acc.length = i ∧ ∀ x ∈ acc, R x) ⟨Ex.mut (wo_le p H1) (by rw [wo_ne (Ne.symm hpd)]; exact hD), d1.upd hpd, [], upd_same, rfl, fun x hx => by cases hx⟩ (fun i H' hi pv => ?_) (fun H' pv => ?_)
    · obtain ⟨p1, p2, acc, p3, p4, p5⟩ := pv
      have e0 : (0 : Int) + (i : Int) = (i : Int) := Int.zero_add _
      show wipe ((wipe σ vs).set j (some (.int ((0 : Int) + (i : Int))))) vs = wipe σ vs ∧ te ((wipe σ vs).set j (some (.int ((0 : Int) + (i : Int))))) H' fun y H4 => ∃ acc, H4 Dl = some (.lst acc) ∧ acc.length < sizeLine ∧ _
      rw [e0]
      refine ⟨hw _, he i H' (wx_trans e (wx_trans e1 p1)) p2 _ fun y H4 hy e4 d4 => ?_⟩
      refine ⟨acc, e4 Dl _ (by rw [wo_ne (Ne.symm hpd)]; exact p3), sz_lt (by omega), Ex.mut (wx_trans p1 e4) (by rw [wo_ne (Ne.symm hpd)]; exact hD), d4.upd hpd, acc ++ [y], upd_same, by rw [List.length_append, p4]; rfl, fun x hx => ?_⟩
      rcases List.mem_append.mp hx with h | h
      · exact p5 x h
      · rw [List.mem_singleton.mp h]
        exact hy
    · obtain ⟨p1, p2, acc, p3, p4, p5⟩ := pv
      have hD0 : H0 Dl = none := by
        cases z : H0 Dl with
        | none => rfl
        | some o =>
          have := e1 Dl o (by rw [wo_ne (Ne.symm hpd)]; exact z)
          rw [hD] at this
          cases this
      exact q Dl H' acc ⟨by omega, p5⟩ hD0 (wx_trans e1 p1) p2 p3
def oneS (L : List Nat) (v : V) : Prop := ∃ c, v = .str ⟨#[c]⟩ ∧ c ∈ L
theorem ones_of {L : List Nat} : ∀ {xs : List V}, (∀ x ∈ xs, oneS L x) → ∃ l : List Nat, xs = l.map (fun c => V.str ⟨#[c]⟩) ∧ ∀ c ∈ l, c ∈ L
  | [], _ => ⟨[], rfl, fun c hc => by cases hc⟩
  | x :: r, h => by
    obtain ⟨l, e, hl⟩ := ones_of (xs := r) fun y hy => h y (List.mem_cons_of_mem _ hy)
    obtain ⟨c, ec, hc⟩ := h x List.mem_cons_self
    refine ⟨c :: l, by rw [ec, e]; rfl, fun y hy => ?_⟩
    rcases List.mem_cons.mp hy with z | z
    · rw [z]; exact hc
    · exact hl y z
def txtP (L : List Nat) (m : Nat) (v : V) : Prop := ∃ l : List Nat, v = .str (SX.S l) ∧ l.length ≤ m ∧ ∀ c ∈ l, c ∈ L
/-- ''.join(a list of single signs) -/
theorem e1_join {L : List Nat} {m : Nat} (hm : m ≤ 10000) (h : EvLD1 te σ p H (fun xs => (xs.length : Int) ≤ (m : Int) ∧ ∀ x ∈ xs, oneS L x)) : EvD1 (tM1 (fun x xs H Q => ∃ a p, ∃ ys : List Str, x = .str a ∧ xs = [.ref p] ∧ (SqL K H p (ys.map V.str) ∨ SqT K H p (ys.map V.str)) ∧
      (ys.map (·.length)).sum + ys.length * a.length ≤ 16777216 ∧ Q (.str (Txt.join a ys)) H) (tC (.str (PySem.Str.ofString ""))) te) σ p H (txtP L m) := fun H1 e d Q q => by
  refine ⟨⟨_, rfl⟩, h H1 e d _ fun l H2 xs hP hl e2 d2 h2 => ?_⟩
  obtain ⟨hlen, hxs⟩ := hP
  obtain ⟨w, rfl, hw⟩ := ones_of hxs
  rw [List.length_map] at hlen
  have hw2 : w.length ≤ m := by omega
  refine ⟨SX.S [], l, w.map fun c => (⟨#[c]⟩ : Str), by rw [c00], rfl, .inl (sq_of ?_), ?_, ?_⟩
  · rw [h2, List.map_map]
    rfl
  · have e9 : (w.map fun c => (⟨#[c]⟩ : Str)).map (·.length) = List.replicate w.length 1 := by
      rw [List.map_map, List.eq_replicate_iff]
      refine ⟨by rw [List.length_map], fun b hb => ?_⟩
      obtain ⟨c, _, rfl⟩ := List.mem_map.mp hb
      rfl
    rw [e9, List.sum_replicate_nat, List.length_map]
    show w.length * 1 + w.length * 0 ≤ _
    omega
  · rw [join_ones]
    exact q _ H2 ⟨w, rfl, hw2, hw⟩ e2 d2
/-- signs[_law_digit(state, m)] -/
theorem e1_sign {L : List Nat} {m : Int} {E : XK} {i : Nat} (hs : σ[i]? = some (some (.str (SX.S L)))) (hL : (L.length : Int) = m) (h0 : 0 < m) (hm : m ≤ 1000) (ha : Ev ta σ (wo p H) (.ref p)) (hb : Ev tb σ (wo p H) (.int m)) : EvD1 (tOp rIxS (tVar i) (tCall (sp__law_digit K) [] E (tCons ta (tCons tb tNil)))) σ p H (oneS L) := fun H1 e d Q q =>
  ⟨.str (SX.S L), hs, ez_digit ha hb h0 (by omega) H1 e d _ fun v H2 ⟨n, ev, n0, n1⟩ e2 d2 => by
    subst ev
    obtain ⟨k, rfl⟩ := Int.eq_ofNat_of_zero_le n0
    have hk : k < L.length := by omega
    exact ⟨SX.S L, (k : Int), L[k], rfl, rfl, by rw [SX.S_len]; exact sz_of (by omega), atI_nat (List.getElem?_eq_getElem hk), q _ H2 ⟨L[k], rfl, List.getElem_mem hk⟩ e2 d2⟩⟩
end
/-- a value that is drawn -/
inductive DV : V → Prop where
  | non : DV .non
  | bl (b : Bool) : DV (.bl b)
  | int (i : Int) (h : -1000000000000000 ≤ i ∧ i ≤ 1000000000000000) : DV (.int i)
  | str (l : List Nat) (h : l.length ≤ 4) (hc : ∀ c ∈ l, c ∈ signsL) : DV (.str (SX.S l))
theorem DV.pl {x : V} (h : DV x) : Pl x := by cases h <;> constructor
def sp__law_text (K : PySem.W.Frag) : Sp := fun vs H Q _ => ∃ p : Addr, vs = [.ref p] ∧ Dr p H ∧ ∀ v H', txtP signsL 4 v → Ex (wo p H) H' → Dr p H' → Q v H'
def sp__law_value (K : PySem.W.Frag) : Sp := fun vs H Q _ => ∃ p : Addr, vs = [.ref p] ∧ Dr p H ∧ ∀ v H', DV v → Ex (wo p H) H' → Dr p H' → Q v H'
section
variable {P : Program} {w : World} {K : PySem.W.Frag} {mg : Str → Option Value} {base : Heap}
theorem ok__law_text (D : Dn K mg "_law_text" s__law_text ["state"]) (c__law_digit : C8.Cal P w K mg base 1 "_law_digit" (sp__law_digit K) []) (z_range : mg "range" = none) :
    C8.Cal P w K mg base 2 "_law_text" (sp__law_text K) [] := by
  refine cal_of D sc__law_text (fun vs H Q E h => ?_) (fun f cdv A outer s H vs Q E hr h => ?_)
  · obtain ⟨_, rfl, _⟩ := h
    rfl
  refine ⟨_, (pss_cons (ps_set (i := 1) sc__law_text.nd rfl (.inr rfl) pe_str)
    (pss_one (ps_ret (pe_join pe_str (pe_lc (own := [("k", 2)]) (g := gName 2) (tt := tYes) rfl sc__law_text.nd (pi_range1 rfl z_range (pa_cons (C8.pe_c c__law_digit hr (by decide) (by rfl) (pa_cons (pv 0) (pa_cons pe_int pa_nil))) pa_nil)) (blkOk_by (N := n__law_text) (sc := C8.fnScope s__law_text) (by decide +kernel)) (fun _ _ _ _ _ => pg_name (i := 2) sc__law_text.nd rfl (Or.inl rfl)) (fun _ _ _ _ _ => pts_nil) (fun _ _ _ _ _ => (pe_ix ix_str (pv 1) (C8.pe_c c__law_digit hr (by decide) (by rfl) (pa_cons (pv 0) (pa_cons pe_int pa_nil))) (fun _ _ => rfl)))))))), ?_⟩
  obtain ⟨p, rfl, d, q⟩ := h
  refine q_asg (v := .str (SX.S fewS)) (ev_is ev_c (by rw [fewS_S])) fun H1 e1 => ?_
  refine s1_ret (P := txtP fewS 4) (e1_join (by decide) (e1_lc (m := 4) (ez_mono (ez_digit (ev_var rfl) ev_c (by decide) (by decide)) fun i hi => by omega) (by decide) (fun _ => rfl) fun i => e1_sign rfl (by rw [fewS_len]; rfl) (by decide) (by decide) (ev_var rfl) ev_c)) (d.ex e1) fun v H2 hv e2 d2 => ?_
  obtain ⟨l, rfl, hl, hc⟩ := hv
  exact q _ H2 ⟨l, rfl, hl, fun c h => fewS_in c (hc c h)⟩ (wx_trans (wx_of e1) e2) d2
section
variable {σ : L2.St} {H : Hp} {ta : TE} {E : XK} {p : Addr}
theorem e1_text (ha : Ev ta σ (wo p H) (.ref p)) : EvD1 (tCall (sp__law_text K) [] E (tCons ta tNil)) σ p H (txtP signsL 4) := fun H1 e d Q q =>
  ha H1 e _ fun H2 e2 => ⟨p, rfl, d.ex e2, fun v H3 hv e3 d3 => q v H3 hv (wx_trans (wx_of e2) e3) d3⟩
theorem e1_value (ha : Ev ta σ (wo p H) (.ref p)) : EvD1 (tCall (sp__law_value K) [] E (tCons ta tNil)) σ p H DV := fun H1 e d Q q =>
  ha H1 e _ fun H2 e2 => ⟨p, rfl, d.ex e2, fun v H3 hv e3 d3 => q v H3 hv (wx_trans (wx_of e2) e3) d3⟩
end
theorem ok__law_value (D : Dn K mg "_law_value" s__law_value ["state"]) (c__law_digit : C8.Cal P w K mg base 1 "_law_digit" (sp__law_digit K) []) (c__law_text : C8.Cal P w K mg base 2 "_law_text" (sp__law_text K) []) :
    C8.Cal P w K mg base 3 "_law_value" (sp__law_value K) [] := by
  refine cal_of D sc__law_value (fun vs H Q E h => ?_) (fun f cdv A outer s H vs Q E hr h => ?_)
  · obtain ⟨_, rfl, _⟩ := h
    rfl
  refine ⟨_, (pss_cons (ps_set (i := 1) sc__law_value.nd rfl (.inl rfl) (C8.pe_c c__law_digit hr (by decide) (by rfl) (pa_cons (pv 0) (pa_cons pe_int pa_nil))))
    (pss_cons (ps_if (pt_cmpR op_lt (pv 1) pe_int (nomark _))
      (pss_one (ps_ret pe_non))
      pss_nil)
    (pss_cons (ps_if (pt_cmpR op_eq (pv 1) pe_int (nomark _))
      (pss_one (ps_ret (pe_cmpR op_eq (C8.pe_c c__law_digit hr (by decide) (by rfl) (pa_cons (pv 0) (pa_cons pe_int pa_nil))) pe_int (nomark _))))
      pss_nil)
    (pss_cons (ps_if (pt_cmpR op_lt (pv 1) pe_int (nomark _))
      (pss_one (ps_ret (pe_op op_sub (C8.pe_c c__law_digit hr (by decide) (by rfl) (pa_cons (pv 0) (pa_cons pe_int pa_nil))) pe_int)))
      pss_nil)
    (pss_cons (ps_if (pt_cmpR op_eq (pv 1) pe_int (nomark _))
      (pss_one (ps_ret (pe_op op_mul (pe_op op_sub (pe_op op_mul (C8.pe_c c__law_digit hr (by decide) (by rfl) (pa_cons (pv 0) (pa_cons pe_int pa_nil))) pe_int) pe_int) (pe_op op_sub pe_int (C8.pe_c c__law_digit hr (by decide) (by rfl) (pa_cons (pv 0) (pa_cons pe_int pa_nil)))))))
      pss_nil)
    (pss_one (ps_ret (C8.pe_c c__law_text hr (by decide) (by rfl) (pa_cons (pv 0) pa_nil))))))))), ?_⟩
  obtain ⟨p, rfl, d, q⟩ := h
  refine qz_asg (ez_digit (ev_var rfl) ev_c (by decide) (by decide)) d fun kd H1 hk e1 d1 => ?_
  have w2 : ∀ {H2 : Hp}, Ex H1 H2 → Ex (wo p H) H2 := fun e => wx_trans e1 (wx_of e)
  refine q_when (b := decide (kd < 2)) (by walk_at "et") (fun _ H2 e2 => s_ret ev_c fun H3 e3 => q _ H3 .non (w2 (e2.trans e3)) (d1.ex (e2.trans e3))) fun _ H2 e2 => ?_
  have dg : ∀ {m : Int} {σ : L2.St} {H0 : Hp}, σ[0]? = some (some (V.ref p)) → 0 < m → m < 2 ^ 400 → EvD1 (tCall (sp__law_digit K) [] C8.E0 (tCons (tVar 0) (tCons (tC (.int m)) tNil))) σ p H0 (ZP fun d => 0 ≤ d ∧ d < m) := fun h0 a b => ez_digit (ev_var h0) ev_c a b
  have cc : ∀ {c : Int} {σ : L2.St} {H0 : Hp}, EvD1 (tC (.int c)) σ p H0 (ZP fun d => d = c) := e1_int ev_c rfl
  refine q_when (b := decide (V.int kd = V.int 2)) (by walk_at "et") (fun _ H3 e3 => ?_) fun _ H3 e3 => ?_
  · refine s1_ret (P := fun v => ∃ b, v = .bl b) (ez_eq (dg rfl (by decide) (by decide)) cc) (d1.ex (e2.trans e3)) fun v H4 hv e4 d4 => ?_
    obtain ⟨b, rfl⟩ := hv
    exact q _ H4 (.bl b) (wx_trans (w2 (e2.trans e3)) e4) d4
  have x3 := e2.trans e3
  refine q_when (b := decide (kd < 5)) (by walk_at "et") (fun _ H4 e4 => ?_) fun _ H4 e4 => ?_
  · refine s1_ret (P := ZP fun i => -3 ≤ i ∧ i < 4) (ez_op0 (dg rfl (by decide) (by decide)) cc fun i j hi hj => ⟨by omega, by omega⟩) (d1.ex (x3.trans e4)) fun v H5 hv e5 d5 => ?_
    obtain ⟨i, rfl, hi⟩ := hv
    exact q _ H5 (.int i (by omega)) (wx_trans (w2 (x3.trans e4)) e5) d5
  refine q_when (b := decide (V.int kd = V.int 5)) (by walk_at "et") (fun _ H5 e5 => ?_) fun _ H5 e5 => ?_
  · refine s1_ret (P := ZP fun i => -1000000000000000 ≤ i ∧ i ≤ 1000000000000000) ?_ (d1.ex ((x3.trans e4).trans e5)) fun v H6 hv e6 d6 => ?_
    · refine ez_op (PI := fun i => i = -1 ∨ i = 1) (RI := fun j => 0 ≤ j ∧ j ≤ 1000000000000000) (ez_op0 (PI := fun i => i = 0 ∨ i = 2) (ez_op (dg rfl (by decide) (by decide)) cc fun i j hi hj => ⟨.inl ⟨by omega, by omega⟩, by subst hj; omega⟩) cc fun i j hi hj => by omega) (ez_op0 cc (dg rfl (by decide) (by decide)) fun i j hi hj => ⟨by omega, by omega⟩) fun i j hi hj => ⟨.inl ⟨by omega, by omega⟩, ?_⟩
      rcases hi with h | h <;> subst h <;> omega
    · obtain ⟨i, rfl, hi⟩ := hv
      exact q _ H6 (.int i hi) (wx_trans (w2 ((x3.trans e4).trans e5)) e6) d6
  · refine s1_ret (e1_text (ev_var rfl)) (d1.ex ((x3.trans e4).trans e5)) fun v H6 hv e6 d6 => ?_
    obtain ⟨l, rfl, hl, hc⟩ := hv
    exact q _ H6 (.str l hl hc) (wx_trans (w2 ((x3.trans e4).trans e5)) e6) d6
end
def kr : V → Int
  | .non => 0
  | .bl _ => 1
  | .int _ => 2
  | _ => 3
def payV : V → V
  | .non => .int 0
  | .bl b => .int (if b then 1 else 0)
  | x => x
def rkL (x : V) : List V := [.int (kr x), payV x]
def payD : V → PyData
  | .non => .int 0
  | .bl b => .int (if b then 1 else 0)
  | .int i => .int i
  | .str s => .str s
  | _ => .none
def rkDs (x : V) : List PyData := [.int (kr x), payD x]
def rkD (x : V) : PyData := .tuple (rkDs x)
/-- plain, and its signs are signs -/
inductive Ok : V → Prop where
  | non : Ok .non
  | bl (b : Bool) : Ok (.bl b)
  | int (i : Int) : Ok (.int i)
  | str (s : Str) (h : PyData.strOk s = true) : Ok (.str s)
theorem Ok.pl {x : V} (h : Ok x) : Pl x := by cases h <;> constructor
theorem strOk_S {l : List Nat} (h : ∀ c ∈ l, 32 ≤ c ∧ c ≤ 126) : PyData.strOk (SX.S l) = true := by
  unfold PyData.strOk
  rw [Array.all_eq_true']
  intro c hc
  have := h c (by simpa using hc)
  exact decide_eq_true (by omega)
theorem dp_pay {K : PySem.W.Frag} {H : Hp} {x : V} (h : Ok x) : Dp K H (payV x) (payD x) := by
  cases h with
  | non => exact .int 0
  | bl b => exact .int _
  | int i => exact .int i
  | str s _ => exact .str s
theorem dp_rks {K : PySem.W.Frag} {H : Hp} {x : V} (h : Ok x) : DpAll K H (rkL x) (rkDs x) := .cons (.int _) (.cons (dp_pay h) .nil)
theorem dp_rk {K : PySem.W.Frag} {H : Hp} {x : V} {p : Addr} (h : Ok x) (hp : H p = some (.tup (rkL x))) : Dp K H (.ref p) (rkD x) := .tup (st_of hp) (dp_rks h)
theorem lay_rk {x : V} (h : Ok x) : (rkD x).canLay0 = true := by
  cases h with
  | non => rfl
  | bl b => rfl
  | int i => rfl
  | str s hs =>
    show (true && (PyData.strOk s && true)) = true
    rw [hs]
    rfl
theorem dep_rk {x : V} (h : Ok x) : (rkD x).depth = 1 := by cases h <;> rfl
theorem shaped_rk {x : V} (h : Ok x) : SeqAt.shaped (rkD x) = true := by
  unfold SeqAt.shaped
  rw [lay_rk h, dep_rk h]
  rfl
theorem noL_rk {x : V} (h : Ok x) : noL (rkD x) = true := by cases h <;> rfl
theorem ord_rk {x y : V} (hx : Ok x) (hy : Ok y) : ordD (rkD x) (rkD y) = true := by
  have step : ∀ (a b : Int) (p q : PyData), (a = b → ordD p q = true) → ordD (.tuple [.int a, p]) (.tuple [.int b, q]) = true := by
    intro a b p q h
    rw [ordD, ordDs]
    split
    · rename_i e
      rw [ordDs]
      split
      · rfl
      · exact h (beq_iff_eq.mp (show (a == b) = true from e))
    · rfl
  refine step _ _ _ _ fun e => ?_
  cases hx <;> cases hy <;> first | rfl | (simp [kr] at e)
def sp_kind_rank (K : PySem.W.Frag) : Sp := fun vs H Q _ => ∃ x : V, vs = [x] ∧ Ok x ∧ ∀ H', Ex H H' → Q (.int (kr x)) H'
def sp_is_integer (K : PySem.W.Frag) : Sp := fun vs H Q _ => ∃ x : V, vs = [x] ∧ Pl x ∧ ∀ H', Ex H H' → Q (.bl (isInt x)) H'
def sp__law_is_integer (K : PySem.W.Frag) : Sp := fun vs H Q _ => ∃ x : V, vs = [x] ∧ Pl x ∧ ∀ H', Ex H H' → Q (.bl (isInt x)) H'
def sp_rank (K : PySem.W.Frag) : Sp := fun vs H Q _ => ∃ x : V, vs = [x] ∧ Ok x ∧ ∀ p H', H p = none → Ex H H' → H' p = some (.tup (rkL x)) → Q (.ref p) H'
def sp__law_rank (K : PySem.W.Frag) : Sp := fun vs H Q _ => ∃ x : V, vs = [x] ∧ Ok x ∧ ∀ p H', H p = none → Ex H H' → H' p = some (.tup (rkL x)) → Q (.ref p) H'
def sp_same (K : PySem.W.Frag) : Sp := fun vs H Q _ => ∃ x y : V, vs = [x, y] ∧ Ok x ∧ Ok y ∧ ∀ H', Ex H H' → Q (.bl (PyData.eqv (rkD x) (rkD y))) H'
def sp_before (K : PySem.W.Frag) : Sp := fun vs H Q _ => ∃ x y : V, vs = [x, y] ∧ Ok x ∧ Ok y ∧ ∀ H', Ex H H' → Q (.bl (ltD (rkD x) (rkD y))) H'
section
variable {P : Program} {w : World} {K : PySem.W.Frag} {mg : Str → Option Value} {base : Heap}
section
variable {σ : L2.St} {H : Hp} {ta tb tc : TE} {E : XK} {x y : V}
theorem ec_isint0 (ha : Ev ta σ H x) (h : Pl x) : Ev (tCall (sp_is_integer K) [] E (tCons ta tNil)) σ H (.bl (isInt x)) := ev_call (ea_cons ha ea_nil) fun H1 e Q q E => ⟨x, rfl, h, q⟩
theorem ec_isint (ha : Ev ta σ H x) (h : Pl x) : Ev (tCall (sp__law_is_integer K) [] E (tCons ta tNil)) σ H (.bl (isInt x)) := ev_call (ea_cons ha ea_nil) fun H1 e Q q E => ⟨x, rfl, h, q⟩
theorem ec_kr (ha : Ev ta σ H x) (h : Ok x) : Ev (tCall (sp_kind_rank K) [] E (tCons ta tNil)) σ H (.int (kr x)) := ev_call (ea_cons ha ea_nil) fun H1 e Q q E => ⟨x, rfl, h, q⟩
theorem ec_rank (ha : Ev ta σ H x) (h : Ok x) : EvU (tCall (sp_rank K) [] E (tCons ta tNil)) σ H (rkL x) := eu_call (ea_cons ha ea_nil) fun H1 e Q q E => ⟨x, rfl, h, q⟩
theorem ec_lrank (ha : Ev ta σ H x) (h : Ok x) : EvU (tCall (sp__law_rank K) [] E (tCons ta tNil)) σ H (rkL x) := eu_call (ea_cons ha ea_nil) fun H1 e Q q E => ⟨x, rfl, h, q⟩
theorem ud_rk (h : EvU ta σ H (rkL x)) (hx : Ok x) : EvUD K ta σ H (rkDs x) := fun H1 e Q q => h H1 e _ fun p H2 hp e2 h2 => q p H2 _ hp e2 h2 (dp_rks hx)
theorem ed_rk (h : EvU ta σ H (rkL x)) (hx : Ok x) : EvD K ta σ H (rkD x) := ed_tupU (ud_rk h hx)
theorem ec_same (ha : Ev ta σ H x) (hb : Ev tb σ H y) (h1 : Ok x) (h2 : Ok y) : Ev (tCall (sp_same K) [] E (tCons ta (tCons tb tNil))) σ H (.bl (PyData.eqv (rkD x) (rkD y))) := ev_call (ea_cons ha (ea_cons hb ea_nil)) fun H1 e Q q E => ⟨x, y, rfl, h1, h2, q⟩
theorem ec_before (ha : Ev ta σ H x) (hb : Ev tb σ H y) (h1 : Ok x) (h2 : Ok y) : Ev (tCall (sp_before K) [] E (tCons ta (tCons tb tNil))) σ H (.bl (ltD (rkD x) (rkD y))) := ev_call (ea_cons ha (ea_cons hb ea_nil)) fun H1 e Q q E => ⟨x, y, rfl, h1, h2, q⟩
end
theorem ok_kind_rank (D : Dn K mg "kind_rank" s_kind_rank ["value"]) (z_bool : mg "bool" = none) (z_int : mg "int" = none) (z_isinstance : mg "isinstance" = none) :
    C8.Cal P w K mg base 1 "kind_rank" (sp_kind_rank K) [] := by
  refine cal_of D sc_kind_rank (fun vs H Q E h => ?_) (fun f cdv A outer s H vs Q E hr h => ?_)
  · obtain ⟨_, rfl, _⟩ := h
    rfl
  refine ⟨_, (pss_cons (ps_if (pt_cmpR op_isN (pv 0) pe_non (nomark _))
      (pss_one (ps_ret pe_int))
      pss_nil)
    (pss_cons (ps_if (pt_val (pe_callB call_isi (by rfl) z_isinstance (by decide +kernel) (pa_cons (pv 0) (pa_cons (pe_bltn (v := .ty "bool") (u := .type "bool") rfl z_bool (by decide +kernel) rfl) pa_nil))))
      (pss_one (ps_ret pe_int))
      pss_nil)
    (pss_cons (ps_if (pt_val (pe_callB call_isi (by rfl) z_isinstance (by decide +kernel) (pa_cons (pv 0) (pa_cons (pe_bltn (v := .ty "int") (u := .type "int") rfl z_int (by decide +kernel) rfl) pa_nil))))
      (pss_one (ps_ret pe_int))
      pss_nil)
    (pss_one (ps_ret pe_int))))), ?_⟩
  obtain ⟨x, rfl, hx, q⟩ := h
  refine q_when (b := decide (x = .non)) (by walk_at "et") (fun hb H1 e1 => s_ret (v := .int (kr x)) ?_ fun H2 e2 => q _ (e1.trans e2)) fun hb H1 e1 => ?_
  · rw [of_decide_eq_true hb]
    exact ev_c
  cases hx with
  | non => exact absurd hb (by decide)
  | bl b => exact q_when (b := true) (et_B (ev_isiP (ev_var rfl) (.bl b) (by show kitB "bool" "bool" = some true; decide +kernel))) (fun _ H2 e2 => s_ret ev_c fun H3 e3 => q _ ((e1.trans e2).trans e3)) fun hb => nomatch hb
  | int i => exact q_when (b := false) (et_B (ev_isiP (ev_var rfl) (.int i) (by show kitB "int" "bool" = some false; decide +kernel))) (fun hb => nomatch hb) fun _ H2 e2 => q_when (b := true) (et_B (ev_isiP (ev_var rfl) (.int i) (by show kitB "int" "int" = some true; decide +kernel))) (fun _ H3 e3 => s_ret ev_c fun H4 e4 => q _ (((e1.trans e2).trans e3).trans e4)) fun hb => nomatch hb
  | str s hs => exact q_when (b := false) (et_B (ev_isiP (ev_var rfl) (.str s) (by show kitB "str" "bool" = some false; decide +kernel))) (fun hb => nomatch hb) fun _ H2 e2 => q_when (b := false) (et_B (ev_isiP (ev_var rfl) (.str s) (by show kitB "str" "int" = some false; decide +kernel))) (fun hb => nomatch hb) fun _ H3 e3 => s_ret ev_c fun H4 e4 => q _ (((e1.trans e2).trans e3).trans e4)
theorem ok_is_integer (D : Dn K mg "is_integer" s_is_integer ["value"]) (z_bool : mg "bool" = none) (z_int : mg "int" = none) (z_isinstance : mg "isinstance" = none) :
    C8.Cal P w K mg base 1 "is_integer" (sp_is_integer K) [] := by
  refine cal_of D sc_is_integer (fun vs H Q E h => ?_) (fun f cdv A outer s H vs Q E hr h => ?_)
  · obtain ⟨_, rfl, _⟩ := h
    rfl
  refine ⟨_, (pss_one (ps_ret (pe_and (pe_callB call_isi (by rfl) z_isinstance (by decide +kernel) (pa_cons (pv 0) (pa_cons (pe_bltn (v := .ty "int") (u := .type "int") rfl z_int (by decide +kernel) rfl) pa_nil))) (pe_one (pe_not (pe_callB call_isi (by rfl) z_isinstance (by decide +kernel) (pa_cons (pv 0) (pa_cons (pe_bltn (v := .ty "bool") (u := .type "bool") rfl z_bool (by decide +kernel) rfl) pa_nil)))))))), ?_⟩
  obtain ⟨x, rfl, hx, q⟩ := h
  exact s_ret (ev_isInt (ev_var rfl) (ev_var rfl) hx) fun H2 e2 => q _ e2
theorem ok_rank (D : Dn K mg "rank" s_rank ["value"]) (c_kind_rank : C8.Cal P w K mg base 1 "kind_rank" (sp_kind_rank K) []) (z_int : mg "int" = none) :
    C8.Cal P w K mg base 2 "rank" (sp_rank K) [] := by
  refine cal_of D sc_rank (fun vs H Q E h => ?_) (fun f cdv A outer s H vs Q E hr h => ?_)
  · obtain ⟨_, rfl, _⟩ := h
    rfl
  refine ⟨_, (pss_cons (ps_set (i := 1) sc_rank.nd rfl (.inl rfl) (C8.pe_c c_kind_rank hr (by decide) (by rfl) (pa_cons (pv 0) pa_nil)))
    (pss_cons (ps_if (pt_cmpR op_eq (pv 1) pe_int (nomark _))
      (pss_one (ps_ret (pe_tup (pa_cons pe_int (pa_cons pe_int pa_nil)))))
      pss_nil)
    (pss_cons (ps_if (pt_cmpR op_eq (pv 1) pe_int (nomark _))
      (pss_one (ps_ret (pe_tup (pa_cons pe_int (pa_cons (pe_callTy call_int1 (by rfl) z_int (by decide +kernel) (pa_cons (pv 0) pa_nil)) pa_nil)))))
      pss_nil)
    (pss_one (ps_ret (pe_tup (pa_cons (pv 1) (pa_cons (pv 0) pa_nil)))))))), ?_⟩
  obtain ⟨x, rfl, hx, q⟩ := h
  refine q_asg (ec_kr (ev_var rfl) hx) fun H1 e1 => ?_
  refine q_when (b := decide (V.int (kr x) = V.int 0)) (by walk_at "et") (fun hb H2 e2 => s_retU (xs := rkL x) ?_ fun p H3 hp e3 h3 => q p H3 (fresh_back (e1.trans e2) hp) ((e1.trans e2).trans e3) h3) fun hb H2 e2 => ?_
  · cases hx with
    | non => exact eu_tup (ea_cons ev_c (ea_cons ev_c ea_nil)) (by show 2 ≤ 100000; decide)
    | _ => simp [kr] at hb
  refine q_when (b := decide (V.int (kr x) = V.int 1)) (by walk_at "et") (fun hb H3 e3 => s_retU (xs := rkL x) ?_ fun p H4 hp e4 h4 => q p H4 (fresh_back ((e1.trans e2).trans e3) hp) (((e1.trans e2).trans e3).trans e4) h4) fun hb H3 e3 => s_retU (xs := rkL x) ?_ fun p H4 hp e4 h4 => q p H4 (fresh_back ((e1.trans e2).trans e3) hp) (((e1.trans e2).trans e3).trans e4) h4
  · cases hx with
    | bl b => exact eu_tup (ea_cons ev_c (ea_cons (ev_intB (ev_var rfl)) ea_nil)) (by show 2 ≤ 100000; decide)
    | _ => simp [kr] at hb
  · cases hx with
    | non => exact absurd ‹decide (V.int (kr .non) = V.int 0) = false› (by decide)
    | bl b => exact absurd ‹decide (V.int (kr (.bl b)) = V.int 1) = false› (by show ¬ decide (V.int 1 = V.int 1) = false; decide)
    | int i => exact eu_tup (ea_cons (ev_var rfl) (ea_cons (ev_var rfl) ea_nil)) (by show 2 ≤ 100000; decide)
    | str s hs => exact eu_tup (ea_cons (ev_var rfl) (ea_cons (ev_var rfl) ea_nil)) (by show 2 ≤ 100000; decide)
theorem ok__law_rank (D : Dn K mg "_law_rank" s__law_rank ["value"]) (z_bool : mg "bool" = none) (z_int : mg "int" = none) (z_isinstance : mg "isinstance" = none) :
    C8.Cal P w K mg base 1 "_law_rank" (sp__law_rank K) [] := by
  refine cal_of D sc__law_rank (fun vs H Q E h => ?_) (fun f cdv A outer s H vs Q E hr h => ?_)
  · obtain ⟨_, rfl, _⟩ := h
    rfl
  refine ⟨_, (pss_cons (ps_if (pt_cmpR op_isN (pv 0) pe_non (nomark _))
      (pss_one (ps_ret (pe_tup (pa_cons pe_int (pa_cons pe_int pa_nil)))))
      pss_nil)
    (pss_cons (ps_if (pt_val (pe_callB call_isi (by rfl) z_isinstance (by decide +kernel) (pa_cons (pv 0) (pa_cons (pe_bltn (v := .ty "bool") (u := .type "bool") rfl z_bool (by decide +kernel) rfl) pa_nil))))
      (pss_one (ps_ret (pe_tup (pa_cons pe_int (pa_cons (pe_callTy call_int1 (by rfl) z_int (by decide +kernel) (pa_cons (pv 0) pa_nil)) pa_nil)))))
      pss_nil)
    (pss_cons (ps_if (pt_val (pe_callB call_isi (by rfl) z_isinstance (by decide +kernel) (pa_cons (pv 0) (pa_cons (pe_bltn (v := .ty "int") (u := .type "int") rfl z_int (by decide +kernel) rfl) pa_nil))))
      (pss_one (ps_ret (pe_tup (pa_cons pe_int (pa_cons (pv 0) pa_nil)))))
      pss_nil)
    (pss_one (ps_ret (pe_tup (pa_cons pe_int (pa_cons (pv 0) pa_nil)))))))), ?_⟩
  obtain ⟨x, rfl, hx, q⟩ := h
  have two : (2 : Nat) ≤ 100000 := by decide
  refine q_when (b := decide (x = .non)) (by walk_at "et") (fun hb H1 e1 => s_retU (xs := rkL x) ?_ fun p H2 hp e2 h2 => q p H2 (fresh_back e1 hp) (e1.trans e2) h2) fun hb H1 e1 => ?_
  · rw [of_decide_eq_true hb]
    exact eu_tup (ea_cons ev_c (ea_cons ev_c ea_nil)) (by show 2 ≤ 100000; decide)
  cases hx with
  | non => exact absurd hb (by decide)
  | bl b => exact q_when (b := true) (et_B (ev_isiP (ev_var rfl) (.bl b) (by show kitB "bool" "bool" = some true; decide +kernel))) (fun _ H2 e2 => s_retU (xs := rkL (.bl b)) (eu_tup (ea_cons ev_c (ea_cons (ev_intB (ev_var rfl)) ea_nil)) two) fun p H3 hp e3 h3 => q p H3 (fresh_back (e1.trans e2) hp) ((e1.trans e2).trans e3) h3) fun hb => nomatch hb
  | int i => exact q_when (b := false) (et_B (ev_isiP (ev_var rfl) (.int i) (by show kitB "int" "bool" = some false; decide +kernel))) (fun hb => nomatch hb) fun _ H2 e2 => q_when (b := true) (et_B (ev_isiP (ev_var rfl) (.int i) (by show kitB "int" "int" = some true; decide +kernel))) (fun _ H3 e3 => s_retU (xs := rkL (.int i)) (eu_tup (ea_cons ev_c (ea_cons (ev_var rfl) ea_nil)) two) fun p H4 hp e4 h4 => q p H4 (fresh_back ((e1.trans e2).trans e3) hp) (((e1.trans e2).trans e3).trans e4) h4) fun hb => nomatch hb
  | str s hs => exact q_when (b := false) (et_B (ev_isiP (ev_var rfl) (.str s) (by show kitB "str" "bool" = some false; decide +kernel))) (fun hb => nomatch hb) fun _ H2 e2 => q_when (b := false) (et_B (ev_isiP (ev_var rfl) (.str s) (by show kitB "str" "int" = some false; decide +kernel))) (fun hb => nomatch hb) fun _ H3 e3 => s_retU (xs := rkL (.str s)) (eu_tup (ea_cons ev_c (ea_cons (ev_var rfl) ea_nil)) two) fun p H4 hp e4 h4 => q p H4 (fresh_back ((e1.trans e2).trans e3) hp) (((e1.trans e2).trans e3).trans e4) h4
theorem ok_same (D : Dn K mg "same" s_same ["first", "second"]) (c_rank : C8.Cal P w K mg base 2 "rank" (sp_rank K) []) :
    C8.Cal P w K mg base 3 "same" (sp_same K) [] := by
  refine cal_of D sc_same (fun vs H Q E h => ?_) (fun f cdv A outer s H vs Q E hr h => ?_)
  · obtain ⟨_, _, rfl, _⟩ := h
    rfl
  refine ⟨_, (pss_one (ps_ret (pe_cmpR (op_eqD (hu64 hr)) (C8.pe_c c_rank hr (by decide) (by rfl) (pa_cons (pv 0) pa_nil)) (C8.pe_c c_rank hr (by decide) (by rfl) (pa_cons (pv 1) pa_nil)) (nomark _)))), ?_⟩
  obtain ⟨x, y, rfl, hx, hy, q⟩ := h
  exact s_ret (ev_eqD (ed_rk (ec_rank (ev_var rfl) hx) hx) (ed_rk (ec_rank (ev_var rfl) hy) hy) (shaped_rk hx) (shaped_rk hy)) fun H2 e2 => q _ e2
theorem ok_before (D : Dn K mg "before" s_before ["first", "second"]) (c_rank : C8.Cal P w K mg base 2 "rank" (sp_rank K) []) :
    C8.Cal P w K mg base 3 "before" (sp_before K) [] := by
  refine cal_of D sc_before (fun vs H Q E h => ?_) (fun f cdv A outer s H vs Q E hr h => ?_)
  · obtain ⟨_, _, rfl, _⟩ := h
    rfl
  refine ⟨_, (pss_one (ps_ret (pe_cmpR (op_ltD (hu64 hr)) (C8.pe_c c_rank hr (by decide) (by rfl) (pa_cons (pv 0) pa_nil)) (C8.pe_c c_rank hr (by decide) (by rfl) (pa_cons (pv 1) pa_nil)) (nomark _)))), ?_⟩
  obtain ⟨x, y, rfl, hx, hy, q⟩ := h
  exact s_ret (ev_ltD (ed_rk (ec_rank (ev_var rfl) hx) hx) (ed_rk (ec_rank (ev_var rfl) hy) hy) (shaped_rk hx) (shaped_rk hy) (ord_rk hx hy) (by rw [dep_rk hx]; decide)) fun H2 e2 => q _ e2
end
section
variable {P : Program} {w : World} {K : PySem.W.Frag} {mg : Str → Option Value} {base : Heap}
theorem ok__law_is_integer (D : Dn K mg "_law_is_integer" s__law_is_integer ["told"]) (z_bool : mg "bool" = none) (z_int : mg "int" = none) (z_isinstance : mg "isinstance" = none) :
    C8.Cal P w K mg base 1 "_law_is_integer" (sp__law_is_integer K) [] := by
  refine cal_of D sc__law_is_integer (fun vs H Q E h => ?_) (fun f cdv A outer s H vs Q E hr h => ?_)
  · obtain ⟨_, rfl, _⟩ := h
    rfl
  refine ⟨_, (pss_one (ps_ret (pe_and (pe_callB call_isi (by rfl) z_isinstance (by decide +kernel) (pa_cons (pv 0) (pa_cons (pe_bltn (v := .ty "int") (u := .type "int") rfl z_int (by decide +kernel) rfl) pa_nil))) (pe_one (pe_not (pe_callB call_isi (by rfl) z_isinstance (by decide +kernel) (pa_cons (pv 0) (pa_cons (pe_bltn (v := .ty "bool") (u := .type "bool") rfl z_bool (by decide +kernel) rfl) pa_nil)))))))), ?_⟩
  obtain ⟨x, rfl, hx, q⟩ := h
  exact s_ret (ev_isInt (ev_var rfl) (ev_var rfl) hx) fun H2 e2 => q _ e2
end
section
open PySem.SeqAt PySem.MeetsSeq PySem.MeetsSeq2 PySem.MeetsSeq3
open PySem.AutoSeq1 (wpAny_loadPart')
/-- the same of <=: z where none differ -/
inductive Lxe (A : Around) (s : Shared) (z : Bool) : List (Value × Value) → Bool → Prop
  | nil : Lxe A s z [] z
  | eq {y x : Value} {ps : List (Value × Value)} {c : Bool} : EqAt A s y x true → Lxe A s z ps c → Lxe A s z ((y, x) :: ps) c
  | le {y x : Value} {ps : List (Value × Value)} {c : Bool} : EqAt A s y x false → Ob.RcOp .LtE A s y x c → Lxe A s z ((y, x) :: ps) c
theorem le_meets (l b : Addr) (us vs : Array Value) (n m : Nat) (dl db : Option Addr) (sl sb : Array (Option Value)) :
    Meets (Builtin.«tuple.__le__» ⟨[.ref l, .ref b], []⟩)
      (fun A R s => s.heap.get? l = some { cls := .type "tuple", dict := dl, data := .seq us n, slots := sl } ∧ s.heap.get? b = some { cls := .type "tuple", dict := db, data := .seq vs m, slots := sb } ∧
        ∃ c, Lxe A.in1 s (decide (us.size ≤ vs.size)) (us.toList.zip vs.toList) c ∧ R (.ok (.ret (.bool c))) s) := by
  refine .of_wp fun prog w A R s h => ?_
  obtain ⟨hp, g, d, tk, os⟩ := s
  obtain ⟨hl, hb, c, hx, h⟩ := h
  have f2 := AutoSeq1.sub_tuple_tuple
  wp_walk using wpAny_loadPart' hl, wpAny_loadPart' hb, wpAny_forIn_list _ (fun ps b s' => b.1 = none ∧ s' = ⟨hp, g, d, tk, os⟩ ∧ ∃ c, Lxe A.in1 ⟨hp, g, d, tk, os⟩ (decide (us.size ≤ vs.size)) ps c ∧ R (.ok (.ret (.bool c))) ⟨hp, g, d, tk, os⟩) _
  case turn =>
    rintro ⟨y, x⟩ ps b s' ⟨hb', rfl, c, hz, hR⟩
    cases hz with
    | eq he ht =>
      refine wpAny_bind (he prog w _ _ ?_)
      wp_walk
      exact ⟨rfl, rfl, c, ht, hR⟩
    | le he hr =>
      refine wpAny_bind (he prog w _ _ ?_)
      have hri := hr prog w
      wp_walk using hri
      exact ⟨_, rfl, hR⟩
  case fin =>
    rintro ⟨b1, b2⟩ s' ⟨hb', rfl, c, hz, hR⟩
    simp only at hb'
    subst hb'
    cases hz
    wp_walk
    exact ⟨_, rfl, by simpa [Builtin.Tuple.tupleCompareSizes] using hR⟩
  case h => exact ⟨rfl, rfl, c, hx, h⟩
theorem le_tuples {A : Around} {s : Shared} {l b : Addr} {us vs : Array Value} {c : Bool} (hl : s.heap.IsTuple l us) (hb : s.heap.IsTuple b vs) (hu : A.units < cLine) (hx : Lxe A.in1 s (decide (us.size ≤ vs.size)) (us.toList.zip vs.toList) c) :
    Ob.RcOp .LtE A s (.ref l) (.ref b) c := by
  intro prog w E Q h
  obtain ⟨⟨k1, dl, da, sl⟩, ho, hc, n, hd⟩ := hl
  obtain ⟨⟨k2, db, da2, sb⟩, ho2, hc2, m, hd2⟩ := hb
  simp only at hc hd hc2 hd2
  subst hc hd hc2 hd2
  exact richCompare_meets_room (op := .LtE) ⟨_, ho, rfl⟩ ⟨_, ho2, rfl⟩ F.slot_tuple_le F.entry_tuple_le (F.args_tuple_le_2 _ _) (le_meets l b us vs n m dl db sl sb) ⟨ho, ho2, c, hx, ⟨(fun z => nomatch z), h⟩⟩ hu
end
/-- of two plain items of one kind -/
def leI : V → V → Bool
  | .int a, .int b => decide (a ≤ b)
  | .str x, .str y => !decide (y.cps.toList < x.cps.toList)
  | _, _ => false
def okI : V → V → Bool
  | .int _, .int _ => true
  | .str _, .str _ => true
  | _, _ => false
def rLe2 (K : PySem.W.Frag) : R2 := fun x y H Q => ∃ (a b : Addr) (i j : Int) (p q : V), x = .ref a ∧ y = .ref b ∧ SqT K H a [.int i, p] ∧ SqT K H b [.int j, q] ∧ flatV p = true ∧ flatV q = true ∧ (i = j → eqV p q = false → okI p q = true) ∧
  Q (.bl (if i = j then (if eqV p q = true then true else leI p q) else decide (i ≤ j))) H
theorem op_le2 {X : Cx} (hu : X.A.units + 64 < cLine) : OpR X (compareOp .LtE) (rLe2 X.K) := by
  intro pins s σ H x y v u Q I rx ry h
  obtain ⟨a, b, i, j, p, q, rfl, rfl, ha, hb, fp, fq, ho, k⟩ := h
  cases rx
  cases ry
  obtain ⟨us, r1, t1, _⟩ := I.tuple ha
  obtain ⟨vs, r2, t2, _⟩ := I.tuple hb
  cases r1 with
  | cons q1 w1 =>
    cases w1 with
    | cons q2 w2 =>
      cases w2
      cases r2 with
      | cons z1 y1 =>
        cases y1 with
        | cons z2 y2 =>
          cases y2
          obtain ⟨t, rfl⟩ := q1
          obtain ⟨t', rfl⟩ := z1
          refine le_tuples t1 t2 (by omega) (c := if i = j then (if eqV p q = true then true else leI p q) else decide (i ≤ j)) ?_ X.prog X.w _ _ ⟨.bl _, H, I, rfl, k⟩
          show Lxe X.A.in1 s true [_, _] _
          have e1 := SeqAt.EqAt.int_int (A := X.A.in1) (s := s) i t j t'
          by_cases e : i = j
          · rw [if_pos e]
            rw [show (i == j) = true from beq_iff_eq.mpr e] at e1
            refine .eq e1 ?_
            have e2 := eqAt_V (A := X.A.in1) (s := s) q2 z2 fp fq
            cases c : eqV p q with
            | true =>
              rw [c] at e2
              rw [if_pos rfl]
              exact .eq e2 .nil
            | false =>
              rw [c] at e2
              rw [if_neg (by decide)]
              refine .le e2 ?_
              have o := ho e c
              cases p <;> cases q <;> first | (simp [okI] at o; done) | skip
              · obtain ⟨_, rfl⟩ := q2
                obtain ⟨_, rfl⟩ := z2
                exact Ob.RcOp.le_int _ _ _ _
              · obtain ⟨_, rfl⟩ := q2
                obtain ⟨_, rfl⟩ := z2
                exact fun prog w E Q h => PySem.P.le_str h
          · rw [if_neg e]
            rw [show (i == j) = false from beq_eq_false_iff_ne.mpr e] at e1
            exact .le e1 (Ob.RcOp.le_int _ _ _ _)
section
open PySem.SeqAt PySem.MeetsSeq PySem.MeetsSeq2 PySem.MeetsSeq3
open PySem.AutoSeq1 (wpAny_loadPart')
inductive Lxg (A : Around) (s : Shared) (z : Bool) : List (Value × Value) → Bool → Prop
  | nil : Lxg A s z [] z
  | eq {y x : Value} {ps : List (Value × Value)} {c : Bool} : EqAt A s y x true → Lxg A s z ps c → Lxg A s z ((y, x) :: ps) c
  | gt {y x : Value} {ps : List (Value × Value)} {c : Bool} : EqAt A s y x false → Ob.RcOp .Gt A s y x c → Lxg A s z ((y, x) :: ps) c
theorem gt_meets (l b : Addr) (us vs : Array Value) (n m : Nat) (dl db : Option Addr) (sl sb : Array (Option Value)) :
    Meets (Builtin.«tuple.__gt__» ⟨[.ref l, .ref b], []⟩)
      (fun A R s => s.heap.get? l = some { cls := .type "tuple", dict := dl, data := .seq us n, slots := sl } ∧ s.heap.get? b = some { cls := .type "tuple", dict := db, data := .seq vs m, slots := sb } ∧
        ∃ c, Lxg A.in1 s (decide (us.size > vs.size)) (us.toList.zip vs.toList) c ∧ R (.ok (.ret (.bool c))) s) := by
  refine .of_wp fun prog w A R s h => ?_
  obtain ⟨hp, g, d, tk, os⟩ := s
  obtain ⟨hl, hb, c, hx, h⟩ := h
  have f2 := AutoSeq1.sub_tuple_tuple
  wp_walk using wpAny_loadPart' hl, wpAny_loadPart' hb, wpAny_forIn_list _ (fun ps b s' => b.1 = none ∧ s' = ⟨hp, g, d, tk, os⟩ ∧ ∃ c, Lxg A.in1 ⟨hp, g, d, tk, os⟩ (decide (us.size > vs.size)) ps c ∧ R (.ok (.ret (.bool c))) ⟨hp, g, d, tk, os⟩) _
  case turn =>
    rintro ⟨y, x⟩ ps b s' ⟨hb', rfl, c, hz, hR⟩
    cases hz with
    | eq he ht =>
      refine wpAny_bind (he prog w _ _ ?_)
      wp_walk
      exact ⟨rfl, rfl, c, ht, hR⟩
    | gt he hr =>
      refine wpAny_bind (he prog w _ _ ?_)
      have hri := hr prog w
      wp_walk using hri
      exact ⟨_, rfl, hR⟩
  case fin =>
    rintro ⟨b1, b2⟩ s' ⟨hb', rfl, c, hz, hR⟩
    simp only at hb'
    subst hb'
    cases hz
    wp_walk
    exact ⟨_, rfl, by simpa [Builtin.Tuple.tupleCompareSizes] using hR⟩
  case h => exact ⟨rfl, rfl, c, hx, h⟩
theorem gt_tuples {A : Around} {s : Shared} {l b : Addr} {us vs : Array Value} {c : Bool} (hl : s.heap.IsTuple l us) (hb : s.heap.IsTuple b vs) (hu : A.units < cLine) (hx : Lxg A.in1 s (decide (us.size > vs.size)) (us.toList.zip vs.toList) c) :
    Ob.RcOp .Gt A s (.ref l) (.ref b) c := by
  intro prog w E Q h
  obtain ⟨⟨k1, dl, da, sl⟩, ho, hc, n, hd⟩ := hl
  obtain ⟨⟨k2, db, da2, sb⟩, ho2, hc2, m, hd2⟩ := hb
  simp only at hc hd hc2 hd2
  subst hc hd hc2 hd2
  exact richCompare_meets_room (op := .Gt) ⟨_, ho, rfl⟩ ⟨_, ho2, rfl⟩ F.slot_tuple_gt F.entry_tuple_gt (F.args_tuple_gt_2 _ _) (gt_meets l b us vs n m dl db sl sb) ⟨ho, ho2, c, hx, ⟨(fun z => nomatch z), h⟩⟩ hu
end
def gtI : V → V → Bool
  | .int a, .int b => decide (b < a)
  | .str x, .str y => decide (y.cps.toList < x.cps.toList)
  | _, _ => false
abbrev Tks := List (Int ⊕ List Nat)
abbrev tkLt (a b : Tks) : Bool := PyProof.Rows.lexLt PyProof.Rows.itemOrd a b
structure KFam {β : Type} (k : β → List PyData) (t : β → Tks) (fst : Bool) (P : β → Prop) : Prop where
  lt : ∀ x y, P x → P y → ltDs (k x) (k y) = tkLt (t x) (t y)
  ord : ∀ x y, P x → P y → ordDs (k x) (k y) = true
  lay : ∀ x, P x → PyData.canLayAll0 (k x) = true
  dep : ∀ x, P x → PyData.depthAll (k x) ≤ 50
  nol : ∀ x, P x → noLs (k x) = true
  head : ∀ x, P x → ∃ d r, k x = d :: r ∧ if fst = true then ∃ n, d = .int n else ∃ ys, d = .tuple ys
def vlt (x y : V) : Bool := ltD (rkD x) (rkD y)
theorem vlt_two {x y : V} : vlt x y = (if kr x = kr y then (if PyData.eqv (payD x) (payD y) = true then false else ltD (payD x) (payD y)) else decide (kr x < kr y)) := by
  show ltD (.tuple [.int (kr x), payD x]) (.tuple [.int (kr y), payD y]) = _
  rw [ltD, ltDs]
  by_cases h : kr x = kr y
  · rw [if_pos (show PyData.eqv (.int (kr x)) (.int (kr y)) = true from beq_iff_eq.mpr h), if_pos h, ltDs]
    rfl
  · rw [if_neg (show ¬ PyData.eqv (.int (kr x)) (.int (kr y)) = true from fun z => h (beq_iff_eq.mp z)), if_neg h, ltD]
theorem flat_pay {x : V} (h : Ok x) : flatV (payV x) = true := by cases h <;> rfl
theorem okI_pay {x y : V} (hx : Ok x) (hy : Ok y) (h : kr x = kr y) : okI (payV x) (payV y) = true := by
  cases hx <;> cases hy <;> first | rfl | exact absurd h (by decide) | (simp [kr] at h)
theorem dle (a b : Int) : decide (a ≤ b) = !decide (b < a) := by
  by_cases h : a ≤ b
  · rw [decide_eq_true h, decide_eq_false (show ¬ b < a by omega)]
    rfl
  · rw [decide_eq_false h, decide_eq_true (show b < a by omega)]
    rfl
/-- of one kind: two ints or two texts -/
inductive Two : V → V → PyData → PyData → Prop where
  | int (a b : Int) : Two (.int a) (.int b) (.int a) (.int b)
  | str (a b : Str) : Two (.str a) (.str b) (.str a) (.str b)
theorem two_pay {x y : V} (hx : Ok x) (hy : Ok y) (h : kr x = kr y) : Two (payV x) (payV y) (payD x) (payD y) := by
  cases hx <;> cases hy <;> first | exact .int _ _ | exact .str _ _ | exact absurd h (by decide) | (simp [kr] at h)
theorem le_res {x y : V} (hx : Ok x) (hy : Ok y) : (if kr x = kr y then (if eqV (payV x) (payV y) = true then true else leI (payV x) (payV y)) else decide (kr x ≤ kr y)) = !vlt y x := by
  rw [vlt_two]
  by_cases h : kr x = kr y
  · rw [if_pos h, if_pos h.symm]
    have t := two_pay hx hy h
    generalize payV x = p at t ⊢
    generalize payV y = q at t ⊢
    generalize payD x = d at t ⊢
    generalize payD y = e at t ⊢
    cases t with
    | int a b =>
      show (if (a == b) = true then true else decide (a ≤ b)) = !(if (b == a) = true then false else ltD (.int b) (.int a))
      rw [ltD]
      by_cases z : a = b
      · subst z; simp
      · have z' : ¬ b = a := fun w => z w.symm
        simp [z, z', dle a b]
    | str a b =>
      show (if (a == b) = true then true else !decide (b.cps.toList < a.cps.toList)) = !(if (b == a) = true then false else ltD (.str b) (.str a))
      rw [ltD]
      by_cases z : a = b
      · subst z; simp
      · have z' : ¬ b = a := fun w => z w.symm
        simp [z, z']
  · have h' : ¬ kr y = kr x := fun z => h z.symm
    rw [if_neg h, if_neg h']
    exact dle _ _
theorem gt_res {x y : V} (hx : Ok x) (hy : Ok y) : (if kr x = kr y then (if eqV (payV x) (payV y) = true then false else gtI (payV x) (payV y)) else decide (kr y < kr x)) = vlt y x := by
  rw [vlt_two]
  by_cases h : kr x = kr y
  · rw [if_pos h, if_pos h.symm]
    have t := two_pay hx hy h
    generalize payV x = p at t ⊢
    generalize payV y = q at t ⊢
    generalize payD x = d at t ⊢
    generalize payD y = e at t ⊢
    cases t with
    | int a b =>
      show (if (a == b) = true then false else decide (b < a)) = (if (b == a) = true then false else ltD (.int b) (.int a))
      rw [ltD]
      by_cases z : a = b
      · subst z; simp
      · have z' : ¬ b = a := fun w => z w.symm
        simp [z, z']
    | str a b =>
      show (if (a == b) = true then false else decide (b.cps.toList < a.cps.toList)) = (if (b == a) = true then false else ltD (.str b) (.str a))
      rw [ltD]
      by_cases z : a = b
      · subst z; simp
      · have z' : ¬ b = a := fun w => z w.symm
        simp [z, z']
  · have h' : ¬ kr y = kr x := fun z => h z.symm
    rw [if_neg h, if_neg h']
section
variable {K : PySem.W.Frag} {H : Hp} {x y : V} {a b : Addr}
theorem rv_leR (ha : H a = some (.tup (rkL x))) (hb : H b = some (.tup (rkL y))) (hx : Ok x) (hy : Ok y) : RV (rLe2 K) (.ref a) (.ref b) H (.bl (!vlt y x)) := fun H1 e Q q =>
  ⟨a, b, kr x, kr y, payV x, payV y, rfl, rfl, st_of (e _ _ ha), st_of (e _ _ hb), flat_pay hx, flat_pay hy, fun h _ => okI_pay hx hy h, by rw [le_res hx hy]; exact q H1 (Ex.refl H1)⟩
end
section
variable {P : Program} {w : World} {K : PySem.W.Frag} {mg : Str → Option Value} {base : Heap}
noncomputable def calA {k : Nat} {x : Str} {sp : Sp} (c : C8.Cal P w K mg base k x sp []) : Addr := Classical.choose c.ex
theorem calA_mg {k : Nat} {x : Str} {sp : Sp} (c : C8.Cal P w K mg base k x sp []) : mg x = some (.ref (calA c)) := by
  obtain ⟨fd, ps, ds, F, hm, kp, b, v⟩ := Classical.choose_spec c.ex
  exact hm
theorem gdef {k : Nat} {x : Str} {sp : Sp} (c : C8.Cal P w K mg base k x sp []) : ∃ u, mg x = some u ∧ RelV (.ref (calA c)) u := ⟨_, calA_mg c, rfl⟩
theorem heldI {k : Nat} {f : Addr} {sp sp' : Sp} (h : L2.Held P w K mg base k f sp) (i : ∀ vs H Q E, sp' vs H Q E → sp vs H Q E) : L2.Held P w K mg base k f sp' := by
  obtain ⟨fd, ps, F, hk, hb⟩ := h.ex
  exact ⟨fd, ps, F.imp i, hk, hb⟩
end
def payT : V → Int ⊕ List Nat
  | .bl b => .inl (if b = true then 1 else 0)
  | .int i => .inl i
  | .str s => .inr s.cps.toList
  | _ => .inl 0
def tkR (x : V) : Tks := [.inl (kr x), payT x]
theorem lex_two (m n : Int) (a b : Int ⊕ List Nat) : tkLt [.inl m, a] [.inl n, b] = if m = n then PyProof.Rows.itemLt a b else decide (m < n) := by
  by_cases h : m = n
  · subst h
    rw [if_pos rfl]
    show PyProof.Rows.lexLt PyProof.Rows.itemOrd (Sum.inl m :: [a]) (Sum.inl m :: [b]) = _
    rw [PyProof.Rows.lex_self, PyProof.Rows.lex_cons]
    show (PyProof.Rows.itemLt a b || (!PyProof.Rows.itemLt b a && false)) = _
    rw [Bool.and_false, Bool.or_false]
  · rw [if_neg h]
    exact PyProof.Rows.lex_diff (O := PyProof.Rows.itemOrd) (x := Sum.inl m) (y := Sum.inl n) fun z => h (Sum.inl.inj z)
theorem kf_rank : KFam rkDs tkR true Ok where
  lt x y hx hy := by
    have e : ltDs (rkDs x) (rkDs y) = vlt x y := by
      show _ = ltD (.tuple (rkDs x)) (.tuple (rkDs y))
      rw [ltD]
    rw [e, vlt_two]
    have same : ∀ a b : Int, (if PyData.eqv (.int a) (.int b) = true then false else ltD (.int a) (.int b)) = decide (a < b) := fun a b => by
      show (if (a == b) = true then false else ltD (.int a) (.int b)) = _
      rw [ltD]
      by_cases z : a = b
      · subst z; simp
      · simp [z]
    rw [show tkLt (tkR x) (tkR y) = _ from lex_two _ _ _ _]
    by_cases h : kr x = kr y
    · rw [if_pos h, if_pos h]
      cases hx <;> cases hy <;> first | exact same _ _ | exact absurd h (by decide) | (simp [kr] at h; done) | skip
      rename_i a _ b _
      show (if (a == b) = true then false else ltD (.str a) (.str b)) = decide (a.cps.toList < b.cps.toList)
      rw [ltD]
      by_cases z : a = b
      · subst z; simp
      · simp [z]
    · rw [if_neg h, if_neg h]
  ord x y hx hy := by
    have := ord_rk hx hy
    rw [rkD, rkD, ordD] at this
    exact this
  lay x hx := by have := lay_rk hx; simpa [rkD, PyData.canLay0] using this
  dep x hx := by
    have := dep_rk hx
    have h2 : (rkD x).depth = PyData.depthAll (rkDs x) + 1 := rfl
    omega
  nol x hx := by have := noL_rk hx; simpa [rkD, noL] using this
  head x hx := ⟨_, _, rfl, by rw [if_pos rfl]; exact ⟨_, rfl⟩⟩
section
open PySem PySem.W
variable {prog : Program} {w : World} {A : Around} {R : Result → Shared → Prop} {I : Addr} {fp wr : List Addr} {G : Array GenState → Array GenState → Prop} {n : Nat} {P : Nat → Value → Prop} {St : Nat → Shared → Prop} {bt : Nat → Nat → Bool} {q : Addr}
/-- what the key asks: J0 ahead of the first, J b k with item b the best, its key k -/
structure KRun (prog : Program) (w : World) (A : Around) (q : Value) (op : CmpOp) (S : Addr) (wr : List Addr) (G : Array GenState → Array GenState → Prop) (n : Nat) (P : Nat → Value → Prop) (St : Nat → Shared → Prop) (J0 : Shared → Prop) (J : Nat → Value → Shared → Prop) (bt : Nat → Nat → Bool) : Prop where
  keep0 : ∀ s s', J0 s → Moved (S :: wr) G s s' → J0 s'
  keep : ∀ b k s s', J b k s → Moved (S :: wr) G s s' → J b k s'
  first : ∀ v (s : Shared) (it : Array Value) (c : Nat) (Q E : Value → Shared → Prop), 0 < n → P 0 v → J0 s → St 1 s → s.heap.get? S = some { cls := .type "list", dict := none, data := .seq it c, slots := #[] } → (∀ k s', J 0 k s' → St 1 s' → s'.heap.get? S = some { cls := .type "list", dict := none, data := .seq it c, slots := #[] } → Q k s') → wpAny (model prog w) A (call q [v]) Q E s
  turn : ∀ i b kb v (s : Shared) (it : Array Value) (c : Nat) (Q E : Value → Shared → Prop), i < n → b < n → P i v → J b kb s → St (i + 1) s → s.heap.get? S = some { cls := .type "list", dict := none, data := .seq it c, slots := #[] } →
    (∀ k s', J b kb s' → J i k s' → (∀ Q E : Value → Shared → Prop, Q (.bool (bt i b)) s' → wpAny (model prog w) A (richCompare op k kb) Q E s') → St (i + 1) s' → s'.heap.get? S = some { cls := .type "list", dict := none, data := .seq it c, slots := #[] } → Q k s') → wpAny (model prog w) A (call q [v]) Q E s
variable {J0 : Shared → Prop} {J : Nat → Value → Shared → Prop}
theorem best_lt (bt : Nat → Nat → Bool) : ∀ j, argBest bt j ≤ j
  | 0 => Nat.le_refl _
  | j + 1 => by
    have := best_lt bt j
    unfold argBest
    split <;> omega
theorem min_turns (W : WalksS prog w A.in1 I fp wr G n P St) (S : Addr) (hSf : S ∉ fp) (K : KRun prog w A.in1 (.ref q) .Lt S wr G n P St J0 J bt) (kw : List (Str × Value)) :
    ∀ (k j : Nat) (s : Shared) (vb kb : Value) (c : Nat), n - (j + 1) = k → j + 1 ≤ n → J (argBest bt j) kb s → St (j + 1) s → P (argBest bt j) vb →
    s.heap.get? S = some { cls := .type "list", dict := none, data := .seq #[vb, kb] c, slots := #[] } →
    (∀ v kb s', P (argBest bt (n - 1)) v → J (argBest bt (n - 1)) kb s' → R (.ok (.ret v)) s') → codeAny (model prog w) A (.builtin "min.loop" ⟨[.ref I, (.ref q), .ref S], kw⟩) R s := by
  have hSw : S ∉ wr := fun h => hSf (W.sub _ h)
  have hsub : ∀ b ∈ wr, b ∈ S :: wr := fun b hb => List.mem_cons_of_mem _ hb
  have nS : ∀ {b : Addr}, b ∉ S :: wr → S ≠ b := fun hb h => hb (by rw [h]; exact List.mem_cons_self)
  have own : ∀ (s : Shared) (f : Array Value → Array Value), Moved (S :: wr) G s { s with heap := s.heap.update S (Obj.mapSeq f), toks := s.toks } := fun s f => (Moved.refl W.grefl).then_heap (tk := s.toks) (Nat.le_refl _) fun b o hb e => (Heap.get?_update_other _ _ (nS hb)).trans e
  intro k
  induction k with
  | zero =>
    intro j s vb kb c hk hj hJ hst hPb hS hR
    have hin : j + 1 = n := by omega
    refine codeAny_builtin F.entry_min_loop ?_
    rw [Around.under_plainId F.plain_min_loop _]
    refine wpAny_bind (m := seqItems? (.ref S)) (wpAny_seqItems hS rfl ?_)
    refine wpAny_bind (m := tryCatch (pyNext (.ref I)) _) (wpAny_tryCatch (W.done s _ _ (hin ▸ hst) fun s' hm => ?_))
    have hS' := hm.heap S _ hSw hS
    refine wpAny_bind (m := updateSeq S (fun _ => #[])) (wpAny_updateSeq hS' rfl (wpAny_bind (wpAny_letGo (wpAny_pure ?_))))
    exact hR vb kb _ (by rw [← hin]; exact hPb) (by rw [← hin]; exact K.keep _ _ _ _ (K.keep _ _ _ _ hJ (hm.mono hsub)) (own s' _))
  | succ k ih =>
    intro j s vb kb c hk hj hJ hst hPb hS hR
    have hlt : j + 1 < n := by omega
    have hbn : argBest bt j < n := by have := best_lt bt j; omega
    refine codeAny_builtin F.entry_min_loop ?_
    rw [Around.under_plainId F.plain_min_loop _]
    refine wpAny_bind (m := seqItems? (.ref S)) (wpAny_seqItems hS rfl ?_)
    refine wpAny_bind (m := tryCatch (pyNext (.ref I)) _) (wpAny_tryCatch (W.item (j + 1) s _ _ hlt hst fun v s' hP hst' hm => ?_))
    have hS' := hm.heap S _ hSw hS
    refine wpAny_bind (m := tryCatch (holding [v] (call (.ref q) [v])) _) (wpAny_tryCatch (wpAny_holding (K.turn (j + 1) _ kb v s' _ _ _ _ hlt hbn hP (K.keep _ _ _ _ hJ (hm.mono hsub)) hst' hS' fun kx s2 hJb hJx hcmp hst2 hS2 => ?_)))
    refine wpAny_bind (m := tryCatch (holding [v, kx] (richCompare .Lt kx kb >>= _)) _) (wpAny_tryCatch (wpAny_holding (wpAny_bind (hcmp _ _ ?_))))
    refine wpAny_bind (wpAny_holding (wpAny_truthy_bool ?_))
    refine wpAny_bind (wpAny_letGo (wpAny_pure ?_))
    cases hb : bt (j + 1) (argBest bt j) with
    | true =>
      simp only [if_true]
      refine wpAny_bind ?_
      refine wpAny_updateSeq hS2 rfl (wpAny_bind (wpAny_letGo ?_))
      rw [show (toString "min" ++ toString ".loop" : String) = "min.loop" by decide]
      refine wpAny_pure ⟨plainId_quiet F.plain_min_loop _, ih (j + 1) _ v kx _ (by omega) hlt ?_ (W.frame _ s2 _ s2.toks hst2 (Nat.le_refl _) fun b hbf o e => (Heap.get?_update_other _ _ (fun h : S = b => hSf (by rw [h]; exact hbf))).trans e) (by simp only [argBest, hb, if_true]; exact hP) (Heap.get?_update_self _ hS2 rfl) hR⟩
      simp only [argBest, hb, if_true]
      exact K.keep _ _ _ _ hJx (own s2 _)
    | false =>
      simp only [Bool.false_eq_true, if_false]
      refine wpAny_bind (wpAny_letGo ?_)
      rw [show (toString "min" ++ toString ".loop" : String) = "min.loop" by decide]
      exact wpAny_pure ⟨plainId_quiet F.plain_min_loop _, ih (j + 1) _ vb kb c (by omega) hlt (by simp only [argBest, hb, Bool.false_eq_true, if_false]; exact hJb) hst2 (by simp only [argBest, hb, Bool.false_eq_true, if_false]; exact hPb) hS2 hR⟩
theorem min_all (W : WalksS prog w A.in1 I fp wr G n P St) (S : Addr) (hSf : S ∉ fp) (K : KRun prog w A.in1 (.ref q) .Lt S wr G n P St J0 J bt) (kw : List (Str × Value)) (hn : 0 < n) {s : Shared} {c : Nat} (hJ : J0 s) (hst : St 0 s)
    (hS : s.heap.get? S = some { cls := .type "list", dict := none, data := .seq #[] c, slots := #[] })
    (hR : ∀ v kb s', P (argBest bt (n - 1)) v → J (argBest bt (n - 1)) kb s' → R (.ok (.ret v)) s') : codeAny (model prog w) A (.builtin "min.loop" ⟨[.ref I, (.ref q), .ref S], kw⟩) R s := by
  have hSw : S ∉ wr := fun h => hSf (W.sub _ h)
  have hsub : ∀ b ∈ wr, b ∈ S :: wr := fun b hb => List.mem_cons_of_mem _ hb
  have nS : ∀ {b : Addr}, b ∉ S :: wr → S ≠ b := fun hb h => hb (by rw [h]; exact List.mem_cons_self)
  refine codeAny_builtin F.entry_min_loop ?_
  rw [Around.under_plainId F.plain_min_loop _]
  refine wpAny_bind (m := seqItems? (.ref S)) (wpAny_seqItems hS rfl ?_)
  refine wpAny_bind (m := tryCatch (pyNext (.ref I)) _) (wpAny_tryCatch (W.item 0 s _ _ hn hst fun v s' hP hst' hm => ?_))
  have hS' := hm.heap S _ hSw hS
  refine wpAny_bind (m := tryCatch (holding [v] (call (.ref q) [v])) _) (wpAny_tryCatch (wpAny_holding (K.first v s' _ _ _ _ hn hP (K.keep0 _ _ hJ (hm.mono hsub)) hst' hS' fun kx s2 hJx hst2 hS2 => ?_)))
  refine wpAny_bind (m := updateSeq S (fun _ => #[v, kx])) ?_
  refine wpAny_updateSeq hS2 rfl ?_
  rw [show (toString "min" ++ toString ".loop" : String) = "min.loop" by decide]
  refine wpAny_pure ⟨plainId_quiet F.plain_min_loop _, min_turns W S hSf K kw _ 0 _ v kx _ rfl hn (K.keep _ _ _ _ hJx ((Moved.refl W.grefl).then_heap (tk := s2.toks) (Nat.le_refl _) fun b o hb e => (Heap.get?_update_other _ _ (nS hb)).trans e)) (W.frame _ s2 _ s2.toks hst2 (Nat.le_refl _) fun b hbf o e => (Heap.get?_update_other _ _ (fun h : S = b => hSf (by rw [h]; exact hbf))).trans e) hP (Heap.get?_update_self _ hS2 rfl) hR⟩
theorem min_key {E : Value → Shared → Prop} {s : Shared} {x d : Value} {Q : Value → Shared → Prop}
    (h : wpAny (model prog w) A.in1 (pyIter x) (fun it s₂ => ∃ I fp wr G n P St J0 J bt, it = .ref I ∧ WalksS prog w A.in1 I fp wr G n P St ∧ St 0 s₂ ∧ (∀ b ∈ fp, b < s₂.heap.objs.size) ∧
      KRun prog w A.in1 (.ref q) .Lt s₂.heap.objs.size wr G n P St J0 J bt ∧ J0 s₂ ∧ (n = 0 → ∀ s', J0 s' → Q d s') ∧ (0 < n → ∀ v kb s', P (argBest bt (n - 1)) v → J (argBest bt (n - 1)) kb s' → Q v s')) E s) :
    wpAny (model prog w) A (call (.builtin "min") [x] [(Str.ofString "key", .ref q), (Str.ofString "default", d)]) Q E s := by
  refine PyProof.Rows.kmk_tree F.kind_min F.plain_min F.entry_min (args_min_key_default _ _ _) ?_
  refine wpAny_bind (m := Builtin.Builtins.bindParams "min" ["key", "default"] 0 ⟨[], [(Str.ofString "key", .ref q), (Str.ofString "default", d)]⟩) (wpAny_of_eq (show Builtin.Builtins.bindParams "min" ["key", "default"] 0 ⟨[], [(Str.ofString "key", .ref q), (Str.ofString "default", d)]⟩ = pure [some (.ref q), some d] from rfl) ?_)
  refine wpAny_bind (wpAny_pure ?_)
  refine wpAny_bind (wpAny_mono h (fun it s₂ h₂ => ?_) fun _ _ e => e)
  obtain ⟨I, fp, wr, G, n, P, St, J0, J, bt, rfl, W, hst, hfp, K, hJ, h0, hQ⟩ := h₂
  refine wpAny_bind (wpAny_newObj_type ?_)
  have hSf : s₂.heap.objs.size ∉ fp := fun hm => Nat.lt_irrefl _ (hfp _ hm)
  rw [show (toString "min" ++ toString ".loop" : String) = "min.loop" by decide]
  have hm0 : Moved (s₂.heap.objs.size :: wr) G s₂ { s₂ with heap := s₂.heap.push { cls := .type "list", data := .seq #[] 0 }, toks := s₂.toks } := (Moved.refl W.grefl).then_heap (tk := s₂.toks) (Nat.le_refl _) fun b o _ e => Heap.get?_push_of_some _ e
  have hst' := W.frame 0 s₂ (s₂.heap.push { cls := .type "list", data := .seq #[] 0 }) s₂.toks hst (Nat.le_refl _) fun b _ o e => Heap.get?_push_of_some _ e
  refine wpAny_pure ⟨plainId_quiet F.plain_min_loop _, ?_⟩
  rcases Nat.eq_zero_or_pos n with hn | hn
  · subst hn
    refine codeAny_min_loop_dflt (S := s₂.heap.objs.size) W hSf hst' (Heap.get?_push_size _ rfl) fun s' hm => ?_
    exact h0 rfl s' (K.keep0 _ _ hJ (Moved.trans W.gtrans hm0 (hm.mono (fun b hb => List.mem_cons_of_mem s₂.heap.objs.size hb))))
  · exact min_all W s₂.heap.objs.size hSf K _ hn (K.keep0 _ _ hJ hm0) hst' (Heap.get?_push_size _ rfl) (hQ hn)
end
section
open PySem PySem.W
variable {prog : Program} {w : World} {A : Around} {R : Result → Shared → Prop} {I : Addr} {fp wr : List Addr} {G : Array GenState → Array GenState → Prop} {n : Nat} {P : Nat → Value → Prop} {St : Nat → Shared → Prop} {bt : Nat → Nat → Bool} {q : Addr}
variable {J0 : Shared → Prop} {J : Nat → Value → Shared → Prop}
theorem max_turns (W : WalksS prog w A.in1 I fp wr G n P St) (S : Addr) (hSf : S ∉ fp) (K : KRun prog w A.in1 (.ref q) .Gt S wr G n P St J0 J bt) (kw : List (Str × Value)) :
    ∀ (k j : Nat) (s : Shared) (vb kb : Value) (c : Nat), n - (j + 1) = k → j + 1 ≤ n → J (argBest bt j) kb s → St (j + 1) s → P (argBest bt j) vb →
    s.heap.get? S = some { cls := .type "list", dict := none, data := .seq #[vb, kb] c, slots := #[] } →
    (∀ v kb s', P (argBest bt (n - 1)) v → J (argBest bt (n - 1)) kb s' → R (.ok (.ret v)) s') → codeAny (model prog w) A (.builtin "max.loop" ⟨[.ref I, (.ref q), .ref S], kw⟩) R s := by
  have hSw : S ∉ wr := fun h => hSf (W.sub _ h)
  have hsub : ∀ b ∈ wr, b ∈ S :: wr := fun b hb => List.mem_cons_of_mem _ hb
  have nS : ∀ {b : Addr}, b ∉ S :: wr → S ≠ b := fun hb h => hb (by rw [h]; exact List.mem_cons_self)
  have own : ∀ (s : Shared) (f : Array Value → Array Value), Moved (S :: wr) G s { s with heap := s.heap.update S (Obj.mapSeq f), toks := s.toks } := fun s f => (Moved.refl W.grefl).then_heap (tk := s.toks) (Nat.le_refl _) fun b o hb e => (Heap.get?_update_other _ _ (nS hb)).trans e
  intro k
  induction k with
  | zero =>
    intro j s vb kb c hk hj hJ hst hPb hS hR
    have hin : j + 1 = n := by omega
    refine codeAny_builtin F.entry_max_loop ?_
    rw [Around.under_plainId F.plain_max_loop _]
    refine wpAny_bind (m := seqItems? (.ref S)) (wpAny_seqItems hS rfl ?_)
    refine wpAny_bind (m := tryCatch (pyNext (.ref I)) _) (wpAny_tryCatch (W.done s _ _ (hin ▸ hst) fun s' hm => ?_))
    have hS' := hm.heap S _ hSw hS
    refine wpAny_bind (m := updateSeq S (fun _ => #[])) (wpAny_updateSeq hS' rfl (wpAny_bind (wpAny_letGo (wpAny_pure ?_))))
    exact hR vb kb _ (by rw [← hin]; exact hPb) (by rw [← hin]; exact K.keep _ _ _ _ (K.keep _ _ _ _ hJ (hm.mono hsub)) (own s' _))
  | succ k ih =>
    intro j s vb kb c hk hj hJ hst hPb hS hR
    have hlt : j + 1 < n := by omega
    have hbn : argBest bt j < n := by have := best_lt bt j; omega
    refine codeAny_builtin F.entry_max_loop ?_
    rw [Around.under_plainId F.plain_max_loop _]
    refine wpAny_bind (m := seqItems? (.ref S)) (wpAny_seqItems hS rfl ?_)
    refine wpAny_bind (m := tryCatch (pyNext (.ref I)) _) (wpAny_tryCatch (W.item (j + 1) s _ _ hlt hst fun v s' hP hst' hm => ?_))
    have hS' := hm.heap S _ hSw hS
    refine wpAny_bind (m := tryCatch (holding [v] (call (.ref q) [v])) _) (wpAny_tryCatch (wpAny_holding (K.turn (j + 1) _ kb v s' _ _ _ _ hlt hbn hP (K.keep _ _ _ _ hJ (hm.mono hsub)) hst' hS' fun kx s2 hJb hJx hcmp hst2 hS2 => ?_)))
    refine wpAny_bind (m := tryCatch (holding [v, kx] (richCompare .Gt kx kb >>= _)) _) (wpAny_tryCatch (wpAny_holding (wpAny_bind (hcmp _ _ ?_))))
    refine wpAny_bind (wpAny_holding (wpAny_truthy_bool ?_))
    refine wpAny_bind (wpAny_letGo (wpAny_pure ?_))
    cases hb : bt (j + 1) (argBest bt j) with
    | true =>
      simp only [if_true]
      refine wpAny_bind ?_
      refine wpAny_updateSeq hS2 rfl (wpAny_bind (wpAny_letGo ?_))
      rw [show (toString "max" ++ toString ".loop" : String) = "max.loop" by decide]
      refine wpAny_pure ⟨plainId_quiet F.plain_max_loop _, ih (j + 1) _ v kx _ (by omega) hlt ?_ (W.frame _ s2 _ s2.toks hst2 (Nat.le_refl _) fun b hbf o e => (Heap.get?_update_other _ _ (fun h : S = b => hSf (by rw [h]; exact hbf))).trans e) (by simp only [argBest, hb, if_true]; exact hP) (Heap.get?_update_self _ hS2 rfl) hR⟩
      simp only [argBest, hb, if_true]
      exact K.keep _ _ _ _ hJx (own s2 _)
    | false =>
      simp only [Bool.false_eq_true, if_false]
      refine wpAny_bind (wpAny_letGo ?_)
      rw [show (toString "max" ++ toString ".loop" : String) = "max.loop" by decide]
      exact wpAny_pure ⟨plainId_quiet F.plain_max_loop _, ih (j + 1) _ vb kb c (by omega) hlt (by simp only [argBest, hb, Bool.false_eq_true, if_false]; exact hJb) hst2 (by simp only [argBest, hb, Bool.false_eq_true, if_false]; exact hPb) hS2 hR⟩
theorem max_all (W : WalksS prog w A.in1 I fp wr G n P St) (S : Addr) (hSf : S ∉ fp) (K : KRun prog w A.in1 (.ref q) .Gt S wr G n P St J0 J bt) (kw : List (Str × Value)) (hn : 0 < n) {s : Shared} {c : Nat} (hJ : J0 s) (hst : St 0 s)
    (hS : s.heap.get? S = some { cls := .type "list", dict := none, data := .seq #[] c, slots := #[] })
    (hR : ∀ v kb s', P (argBest bt (n - 1)) v → J (argBest bt (n - 1)) kb s' → R (.ok (.ret v)) s') : codeAny (model prog w) A (.builtin "max.loop" ⟨[.ref I, (.ref q), .ref S], kw⟩) R s := by
  have hSw : S ∉ wr := fun h => hSf (W.sub _ h)
  have hsub : ∀ b ∈ wr, b ∈ S :: wr := fun b hb => List.mem_cons_of_mem _ hb
  have nS : ∀ {b : Addr}, b ∉ S :: wr → S ≠ b := fun hb h => hb (by rw [h]; exact List.mem_cons_self)
  refine codeAny_builtin F.entry_max_loop ?_
  rw [Around.under_plainId F.plain_max_loop _]
  refine wpAny_bind (m := seqItems? (.ref S)) (wpAny_seqItems hS rfl ?_)
  refine wpAny_bind (m := tryCatch (pyNext (.ref I)) _) (wpAny_tryCatch (W.item 0 s _ _ hn hst fun v s' hP hst' hm => ?_))
  have hS' := hm.heap S _ hSw hS
  refine wpAny_bind (m := tryCatch (holding [v] (call (.ref q) [v])) _) (wpAny_tryCatch (wpAny_holding (K.first v s' _ _ _ _ hn hP (K.keep0 _ _ hJ (hm.mono hsub)) hst' hS' fun kx s2 hJx hst2 hS2 => ?_)))
  refine wpAny_bind (m := updateSeq S (fun _ => #[v, kx])) ?_
  refine wpAny_updateSeq hS2 rfl ?_
  rw [show (toString "max" ++ toString ".loop" : String) = "max.loop" by decide]
  refine wpAny_pure ⟨plainId_quiet F.plain_max_loop _, max_turns W S hSf K kw _ 0 _ v kx _ rfl hn (K.keep _ _ _ _ hJx ((Moved.refl W.grefl).then_heap (tk := s2.toks) (Nat.le_refl _) fun b o hb e => (Heap.get?_update_other _ _ (nS hb)).trans e)) (W.frame _ s2 _ s2.toks hst2 (Nat.le_refl _) fun b hbf o e => (Heap.get?_update_other _ _ (fun h : S = b => hSf (by rw [h]; exact hbf))).trans e) hP (Heap.get?_update_self _ hS2 rfl) hR⟩
theorem max_key {E : Value → Shared → Prop} {s : Shared} {x d : Value} {Q : Value → Shared → Prop}
    (h : wpAny (model prog w) A.in1 (pyIter x) (fun it s₂ => ∃ I fp wr G n P St J0 J bt, it = .ref I ∧ WalksS prog w A.in1 I fp wr G n P St ∧ St 0 s₂ ∧ (∀ b ∈ fp, b < s₂.heap.objs.size) ∧
      KRun prog w A.in1 (.ref q) .Gt s₂.heap.objs.size wr G n P St J0 J bt ∧ J0 s₂ ∧ (n = 0 → ∀ s', J0 s' → Q d s') ∧ (0 < n → ∀ v kb s', P (argBest bt (n - 1)) v → J (argBest bt (n - 1)) kb s' → Q v s')) E s) :
    wpAny (model prog w) A (call (.builtin "max") [x] [(Str.ofString "key", .ref q), (Str.ofString "default", d)]) Q E s := by
  refine PyProof.Rows.kmk_tree F.kind_max F.plain_max F.entry_max (args_max_key_default _ _ _) ?_
  refine wpAny_bind (m := Builtin.Builtins.bindParams "max" ["key", "default"] 0 ⟨[], [(Str.ofString "key", .ref q), (Str.ofString "default", d)]⟩) (wpAny_of_eq (show Builtin.Builtins.bindParams "max" ["key", "default"] 0 ⟨[], [(Str.ofString "key", .ref q), (Str.ofString "default", d)]⟩ = pure [some (.ref q), some d] from rfl) ?_)
  refine wpAny_bind (wpAny_pure ?_)
  refine wpAny_bind (wpAny_mono h (fun it s₂ h₂ => ?_) fun _ _ e => e)
  obtain ⟨I, fp, wr, G, n, P, St, J0, J, bt, rfl, W, hst, hfp, K, hJ, h0, hQ⟩ := h₂
  refine wpAny_bind (wpAny_newObj_type ?_)
  have hSf : s₂.heap.objs.size ∉ fp := fun hm => Nat.lt_irrefl _ (hfp _ hm)
  rw [show (toString "max" ++ toString ".loop" : String) = "max.loop" by decide]
  have hm0 : Moved (s₂.heap.objs.size :: wr) G s₂ { s₂ with heap := s₂.heap.push { cls := .type "list", data := .seq #[] 0 }, toks := s₂.toks } := (Moved.refl W.grefl).then_heap (tk := s₂.toks) (Nat.le_refl _) fun b o _ e => Heap.get?_push_of_some _ e
  have hst' := W.frame 0 s₂ (s₂.heap.push { cls := .type "list", data := .seq #[] 0 }) s₂.toks hst (Nat.le_refl _) fun b _ o e => Heap.get?_push_of_some _ e
  refine wpAny_pure ⟨plainId_quiet F.plain_max_loop _, ?_⟩
  rcases Nat.eq_zero_or_pos n with hn | hn
  · subst hn
    refine codeAny_max_loop_dflt (S := s₂.heap.objs.size) W hSf hst' (Heap.get?_push_size _ rfl) fun s' hm => ?_
    exact h0 rfl s' (K.keep0 _ _ hJ (Moved.trans W.gtrans hm0 (hm.mono (fun b hb => List.mem_cons_of_mem s₂.heap.objs.size hb))))
  · exact max_all W s₂.heap.objs.size hSf K _ hn (K.keep0 _ _ hJ hm0) hst' (Heap.get?_push_size _ rfl) (hQ hn)
end
/-- > of two pairs, anywhere around -/
theorem gt_pair {X : Cx} {A : Around} {pins : List (Addr × Obj)} {σ : L2.St} {H : Hp} {s : Shared} {a b : Addr} {i j : Int} {p q : V} (I : Inv X pins σ H s) (hu : A.units + 64 < cLine) (ha : SqT X.K H a [.int i, p]) (hb : SqT X.K H b [.int j, q]) (fp : flatV p = true) (fq : flatV q = true) (ho : i = j → eqV p q = false → okI p q = true) :
    Ob.RcOp .Gt A s (.ref a) (.ref b) (if i = j then (if eqV p q = true then false else gtI p q) else decide (j < i)) := by
  obtain ⟨us, r1, t1, _⟩ := I.tuple ha
  obtain ⟨vs, r2, t2, _⟩ := I.tuple hb
  cases r1 with
  | cons q1 w1 =>
    cases w1 with
    | cons q2 w2 =>
      cases w2
      cases r2 with
      | cons z1 y1 =>
        cases y1 with
        | cons z2 y2 =>
          cases y2
          obtain ⟨t, rfl⟩ := q1
          obtain ⟨t', rfl⟩ := z1
          refine gt_tuples t1 t2 (by omega) (c := if i = j then (if eqV p q = true then false else gtI p q) else decide (j < i)) ?_
          show Lxg A.in1 s false [_, _] _
          have e1 := SeqAt.EqAt.int_int (A := A.in1) (s := s) i t j t'
          by_cases e : i = j
          · rw [if_pos e]
            rw [show (i == j) = true from beq_iff_eq.mpr e] at e1
            refine .eq e1 ?_
            have e2 := eqAt_V (A := A.in1) (s := s) q2 z2 fp fq
            cases c : eqV p q with
            | true =>
              rw [c] at e2
              rw [if_pos rfl]
              exact .eq e2 .nil
            | false =>
              rw [c] at e2
              rw [if_neg (by decide)]
              refine .gt e2 ?_
              have o := ho e c
              cases p <;> cases q <;> first | (simp [okI] at o; done) | skip
              · obtain ⟨_, rfl⟩ := q2
                obtain ⟨_, rfl⟩ := z2
                exact Ob.RcOp.gt_int _ _ _ _
              · obtain ⟨_, rfl⟩ := q2
                obtain ⟨_, rfl⟩ := z2
                exact fun prog w E Q h => PySem.P.gt_str h
          · rw [if_neg e]
            rw [show (i == j) = false from beq_eq_false_iff_ne.mpr e] at e1
            exact .gt e1 (Ob.RcOp.gt_int _ _ _ _)
def btR (mx : Bool) (xs : List V) (i j : Nat) : Bool := if mx = true then vlt (xs.getD j .non) (xs.getD i .non) else vlt (xs.getD i .non) (xs.getD j .non)
def bestV (mx : Bool) (xs : List V) : V := xs.getD (PySem.argBest (btR mx xs) (xs.length - 1)) .non
theorem op_cmpR {X : Cx} {A : Around} {pins : List (Addr × Obj)} {σ : L2.St} {H : Hp} {s : Shared} {a b : Addr} {x y : V} (mx : Bool) (I : Inv X pins σ H s) (hu : A.units + 64 < cLine) (ha : H a = some (.tup (rkL x))) (hb : H b = some (.tup (rkL y))) (hx : Ok x) (hy : Ok y) :
    Ob.RcOp (if mx = true then .Gt else .Lt) A s (.ref a) (.ref b) (if mx = true then vlt y x else vlt x y) := by
  cases mx with
  | true =>
    have := gt_pair (A := A) I hu (st_of ha : SqT X.K H a (rkL x)) (st_of hb : SqT X.K H b (rkL y)) (flat_pay hx) (flat_pay hy) fun h _ => okI_pay hx hy h
    rw [gt_res hx hy] at this
    exact this
  | false =>
    obtain ⟨as, r1⟩ := Dp.reads I (rkD x) (.ref a) (.ref a) (dp_rk hx ha) rfl
    obtain ⟨bs, r2⟩ := Dp.reads I (rkD y) (.ref b) (.ref b) (dp_rk hy hb) rfl
    exact lt_reads _ (rkD x) (rkD y) A s _ _ as bs (Nat.le_refl _) r1 r2 (lay_rk hx) (lay_rk hy) (ord_rk hx hy) (by rw [dep_rk hx]; omega)
/-- iter(a list), its items told by their words alone -/
theorem iter_words {prog : Program} {w : World} {A : Around} {s : Shared} {l : Addr} {xs : List V} (hh : A.handled = none) (hl : l < s.heap.objs.size) :
    PySem.WalksS prog w A s.heap.objs.size [s.heap.objs.size, l] [s.heap.objs.size] (fun a b => b = a) xs.length (fun i v => ∃ x, xs[i]? = some x ∧ RelV x v) (fun i s' => s'.heap.IsListIter s.heap.objs.size l i ∧ ∃ vs : Array Value, s'.heap.IsList l vs ∧ Vals xs vs.toList) := by
  have W := fun vs => (PySem.Walks.list (prog := prog) (w := w) (A := A) hh s.heap.objs.size l (Nat.ne_of_lt hl) vs).toS
  have len : ∀ {vs : Array Value}, Vals xs vs.toList → vs.size = xs.length := fun h => by rw [← Array.length_toList]; exact h.length.symm
  refine ⟨(W #[]).sub, fun _ => rfl, fun a b c h1 h2 => by rw [h2, h1], fun i s' h' tk st ht hk => ?_, fun i s' Q E hi st hQ => ?_, fun s' Q E st hQ => ?_, fun i s' Q E st hQ => ?_⟩
  · obtain ⟨it, vs, hl, hv⟩ := st
    have := (W vs).frame i s' h' tk ⟨it, hl⟩ ht hk
    exact ⟨this.1, vs, this.2, hv⟩
  · obtain ⟨it, vs, hl, hv⟩ := st
    refine (W vs).item i s' Q E (by rw [len hv]; exact hi) ⟨it, hl⟩ fun v s2 hP st2 hm => hQ v s2 ?_ ⟨st2.1, vs, st2.2, hv⟩ hm
    obtain ⟨u, hu, ru⟩ := hv.get (i := i) (List.getElem?_eq_getElem hi)
    refine ⟨xs[i], List.getElem?_eq_getElem hi, ?_⟩
    have : vs.toList[i]? = some v := by rw [Array.getElem?_toList]; exact hP
    rw [this] at hu
    cases hu
    exact ru
  · obtain ⟨it, vs, hl, hv⟩ := st
    exact (W vs).done s' Q E (by rw [len hv]; exact ⟨it, hl⟩) hQ
  · obtain ⟨it, vs, hl, hv⟩ := st
    exact (W vs).self i s' Q E ⟨it, hl⟩ hQ
def BestSt (xs : List V) (Ia l : Addr) (i : Nat) (s' : Shared) : Prop := s'.heap.IsListIter Ia l i ∧ ∃ vs : Array Value, s'.heap.IsList l vs ∧ Vals xs vs.toList
section
open PySem PySem.W
variable {X : Cx} {pins : List (Addr × Obj)} {σ : L2.St} {H : Hp} {s : Shared}
theorem inv_moved {H' : Hp} {s1 s2 : Shared} {S Ia : Addr} (I : Inv X pins σ H' s1) (hS : FpOk X pins H' S) (hI : FpOk X pins H' Ia) (m : Moved (S :: [Ia]) (fun a b => b = a) s1 s2) : Inv X pins σ H' s2 := by
  have e : s2 = { s1 with heap := s2.heap, toks := s2.toks } := by
    obtain ⟨hp, g, d, tk, os⟩ := s2
    have h1 : g = s1.gens := m.gens
    have h2 : d = s1.drawn := m.drawn
    have h3 : os = s1.os := m.os
    subst h1
    subst h2
    subst h3
    rfl
  rw [e]
  refine I.turnedL (t' := s2.toks) (ch := [S, Ia]) (fun b o hb eb => m.heap b o hb eb) fun b hb => ?_
  rcases (show b = S ∨ b = Ia by simpa using hb) with z | z <;> rw [z] <;> assumption
theorem best_call {lv : Nat} {H' : Hp} {s1 : Shared} {S Ia l f : Addr} {xs : List V} {x : V} {v : Value} {it : Array Value} {c i : Nat} {Q E : Value → Shared → Prop} (hr : Room lv X.A.in1) (I : Inv X pins σ H' s1) (hS : FpOk X pins H' S) (hI : FpOk X pins H' Ia) (hl : SqL X.K H' l xs)
    (hH : L2.Held X.prog X.w X.K X.mg X.base lv f (sp_rank X.K)) (ho : Ok x) (rv : RelV x v) (st : BestSt xs Ia l i s1) (hs : s1.heap.get? S = some { cls := .type "list", dict := none, data := .seq it c, slots := #[] })
    (q : ∀ p H2 s', Inv X pins σ H2 s' → Ex H' H2 → H2 S = none → H2 Ia = none → H2 p = some (.tup (rkL x)) → BestSt xs Ia l i s' → s'.heap.get? S = some { cls := .type "list", dict := none, data := .seq it c, slots := #[] } → Q (.ref p) s') :
    wpAny (model X.prog X.w) X.A.in1 (call (.ref f) [v]) Q E s1 := by
  obtain ⟨fd, ps, Fn, hk, hbd⟩ := hH.ex
  obtain ⟨⟨oi, hoi, hci, hdi⟩, vs0, hl0, hv0⟩ := id st
  have hsp : sp_rank X.K [x] H' (fun v H2 => Ex H' H2 ∧ ∃ p, v = .ref p ∧ H2 p = some (.tup (rkL x))) (fun _ _ _ => False) := ⟨x, rfl, ho, fun p H2 hp e2 h2 => ⟨e2, p, rfl, h2⟩⟩
  have Ip := I.pinned (fp := [S, Ia]) (fun b hb => by
    rcases (show b = S ∨ b = Ia by simpa using hb) with z | z <;> rw [z] <;> assumption) (fun b hb => by
    rcases (show b = S ∨ b = Ia by simpa using hb) with z | z <;> rw [z]
    · exact ⟨_, hs, fun v z => nomatch z⟩
    · exact ⟨_, hoi, fun v z => by rw [hdi] at z; cases z⟩)
  have hlen1 : [v].length = ps.length := Fn.len [x] H' _ _ hsp
  refine wpAny_call (codeAny_mono (Fn.run X.A.in1 X.stack s1 H' ⟨[v], []⟩ [v] [x] (fun v H2 => Ex H' H2 ∧ ∃ p, v = .ref p ∧ H2 p = some (.tup (rkL x))) (fun _ _ _ => False) hr (Ip.env0.in1) ?_ (.cons rv .nil) hsp) fun r s2 hq => ?_)
  · have := hbd s1 [v] I.kIn (by simpa using hlen1)
    simpa using this
  cases r with
  | error er => exact hq.elim
  | ok fl =>
    cases fl with
    | next => exact hq.elim
    | brk => exact hq.elim
    | cont => exact hq.elim
    | ret u3 =>
      obtain ⟨v3, H2, J2, rvv, ex2, p, rfl, h2⟩ := Ip.after hq
      have pn : ∀ b ∈ [S, Ia], ∀ o, s1.heap.get? b = some o → s2.heap.get? b = some o ∧ H2 b = none := fun b hb o ho => by
        have := J2.pin (b, o) (List.mem_append_right _ (List.mem_append_right _ (mem_pinsAt hb ho)))
        exact ⟨this.1, this.2.1⟩
      have nS := pn S (by simp) _ hs
      have nI := pn Ia (by simp) _ hoi
      have J := J2.unpinned
      cases (show u3 = Value.ref p from rvv)
      obtain ⟨its, rvs, hil, _⟩ := J.list (ex_l ex2 hl)
      exact q p H2 s2 J ex2 nS.2 nI.2 h2 ⟨⟨oi, nI.1, hci, hdi⟩, its.toArray, hil.isList, by simpa using rvs⟩ nS.1
theorem best_run {lv : Nat} (mx : Bool) {l f : Addr} {xs : List V} (hr : Room lv X.A.in1) (I : Inv X pins σ H s) (hl : SqL X.K H l xs) (hH : L2.Held X.prog X.w X.K X.mg X.base lv f (sp_rank X.K)) (ho : ∀ x ∈ xs, Ok x) {S Ia : Addr} (hS : FpOk X pins H S) (hI : FpOk X pins H Ia) :
    KRun X.prog X.w X.A.in1 (.ref f) (if mx = true then .Gt else .Lt) S [Ia] (fun a b => b = a) xs.length (fun i v => ∃ x, xs[i]? = some x ∧ RelV x v) (BestSt xs Ia l)
      (fun s' => ∃ H', Inv X pins σ H' s' ∧ Ex H H' ∧ H' S = none ∧ H' Ia = none) (fun b k s' => ∃ H' p, Inv X pins σ H' s' ∧ Ex H H' ∧ H' S = none ∧ H' Ia = none ∧ k = .ref p ∧ H' p = some (.tup (rkL (xs.getD b .non)))) (btR mx xs) := by
  have okD : ∀ j, Ok (xs.getD j .non) := fun j => by
    rw [List.getD_eq_getElem?_getD]
    cases e : xs[j]? with
    | none => exact .non
    | some x => exact ho x (List.mem_of_getElem? e)
  refine ⟨fun s1 s2 ⟨H', I', e', nS, nI⟩ m => ⟨H', inv_moved I' ⟨nS, hS.2⟩ ⟨nI, hI.2⟩ m, e', nS, nI⟩, fun b k s1 s2 ⟨H', p, I', e', nS, nI, ek, hp⟩ m => ⟨H', p, inv_moved I' ⟨nS, hS.2⟩ ⟨nI, hI.2⟩ m, e', nS, nI, ek, hp⟩, ?_, ?_⟩
  · rintro v s1 it c Q E hn ⟨x, hx, rv⟩ ⟨H', I', e', nS, nI⟩ st hs k
    have hg : xs.getD 0 .non = x := by rw [List.getD_eq_getElem?_getD, hx]; rfl
    refine best_call hr I' ⟨nS, hS.2⟩ ⟨nI, hI.2⟩ (ex_l e' hl) hH (ho x (List.mem_of_getElem? hx)) rv st hs fun p H2 s2 J e2 mS mI hp st2 hs2 => k _ s2 ⟨H2, p, J, e'.trans e2, mS, mI, rfl, by rw [hg]; exact hp⟩ st2 hs2
  · rintro i b kb v s1 it c Q E hi hb ⟨x, hx, rv⟩ ⟨H', pb, I', e', nS, nI, rfl, hpb⟩ st hs k
    have hg : xs.getD i .non = x := by rw [List.getD_eq_getElem?_getD, hx]; rfl
    refine best_call hr I' ⟨nS, hS.2⟩ ⟨nI, hI.2⟩ (ex_l e' hl) hH (ho x (List.mem_of_getElem? hx)) rv st hs fun p H2 s2 J e2 mS mI hp st2 hs2 => k _ s2 ⟨H2, pb, J, e'.trans e2, mS, mI, rfl, e2 _ _ hpb⟩ ⟨H2, p, J, e'.trans e2, mS, mI, rfl, by rw [hg]; exact hp⟩ (fun Q2 E2 hq => ?_) st2 hs2
    have hu : X.A.in1.units + 64 < cLine := by
      have := hr.un
      omega
    refine op_cmpR (A := X.A.in1) mx J hu hp (e2 _ _ hpb) (ho x (List.mem_of_getElem? hx)) (okD b) X.prog X.w E2 Q2 ?_
    have e : (if mx = true then vlt (xs.getD b .non) x else vlt x (xs.getD b .non)) = btR mx xs i b := by unfold btR; rw [hg]
    rw [e]
    exact hq
def rBestF (P : Program) (w : World) (K : PySem.W.Frag) (mg : Str → Option Value) (base : Heap) (lv : Nat) (mx : Bool) : List V → List V → Hp → VK → Prop := fun vs zs H Q => ∃ (a f : Addr) (xs : List V) (z : V),
  vs = [.ref a] ∧ zs = [.ref f, z] ∧ SqL K H a xs ∧ L2.Held P w K mg base lv f (sp_rank K) ∧ (∀ x ∈ xs, Ok x) ∧ ∀ H', Ex H H' → Q (if xs.isEmpty = true then z else bestV mx xs) H'
theorem best_lt2 {bt : Nat → Nat → Bool} {n : Nat} (h : 0 < n) : argBest bt (n - 1) < n := by
  have := best_lt bt (n - 1)
  omega
theorem cr_minF {lv : Nat} (hc : X.calm = true) (hr : Room (lv + 1) X.A) : CallRK X (.builtin "min") [Str.ofString "key", Str.ofString "default"] (rBestF X.prog X.w X.K X.mg X.base lv false) := by
  intro pins s σ H vs zs us ws Q I r rz h
  obtain ⟨a, f, xs, z, rfl, rfl, hs, hH, ho, q⟩ := h
  obtain rfl := Vals.ref1 r
  cases rz with
  | cons r1 rz1 =>
  cases rz1 with
  | cons r2 rz2 =>
  cases rz2
  cases r1
  obtain ⟨its, rv, hl, hz⟩ := I.list hs
  have hlt : a < s.heap.objs.size := by obtain ⟨_, e, _⟩ := hl.isList; exact Heap.lt_size e
  refine min_key (iter_listW (A := X.A.in1) (I.ok.hd hc) hl.isList fun s₂ e _ st hfp _ hk => ?_)
  have hS2 : s₂.heap.objs.size = s.heap.objs.size + 1 := by rw [e]; exact Heap.size_push _ _
  have I2 : Inv X pins σ H s₂ := by
    have := I.kept (h' := s₂.heap) (t' := s.toks) hk
    rw [e] at this ⊢
    exact this
  have fpI := I.fpOk (Nat.le_refl _) (I.hok.fresh (Nat.le_refl _))
  have fpS : FpOk X pins H s₂.heap.objs.size := I.fpOk (by omega) (I.hok.fresh (by omega))
  refine ⟨_, _, _, _, _, _, _, _, _, _, rfl, iter_words (xs := xs) (I.ok.hd hc) hlt, ⟨st.1, _, st.2, by simpa using rv⟩, hfp, best_run false (by exact hr.in1) I hs hH ho fpS fpI, ⟨H, I2, Ex.refl H, fpS.1, fpI.1⟩, fun h0 s' ⟨H', I', e', _, _⟩ => ?_, fun h0 v kb s' ⟨x, hx, rx⟩ ⟨H', p, I', e', _⟩ => ?_⟩
  · have hx : xs = [] := List.length_eq_zero_iff.mp h0
    have := q H' e'
    rw [hx] at this
    exact ⟨z, H', I', r2, this⟩
  · have hne : xs.isEmpty = false := by cases xs with | nil => exact absurd h0 (Nat.lt_irrefl 0) | cons _ _ => rfl
    have := q H' e'
    rw [hne, if_neg (by decide)] at this
    refine ⟨_, H', I', ?_, this⟩
    unfold bestV
    rw [List.getD_eq_getElem?_getD, hx]
    exact rx
theorem cr_maxF {lv : Nat} (hc : X.calm = true) (hr : Room (lv + 1) X.A) : CallRK X (.builtin "max") [Str.ofString "key", Str.ofString "default"] (rBestF X.prog X.w X.K X.mg X.base lv true) := by
  intro pins s σ H vs zs us ws Q I r rz h
  obtain ⟨a, f, xs, z, rfl, rfl, hs, hH, ho, q⟩ := h
  obtain rfl := Vals.ref1 r
  cases rz with
  | cons r1 rz1 =>
  cases rz1 with
  | cons r2 rz2 =>
  cases rz2
  cases r1
  obtain ⟨its, rv, hl, hz⟩ := I.list hs
  have hlt : a < s.heap.objs.size := by obtain ⟨_, e, _⟩ := hl.isList; exact Heap.lt_size e
  refine max_key (iter_listW (A := X.A.in1) (I.ok.hd hc) hl.isList fun s₂ e _ st hfp _ hk => ?_)
  have hS2 : s₂.heap.objs.size = s.heap.objs.size + 1 := by rw [e]; exact Heap.size_push _ _
  have I2 : Inv X pins σ H s₂ := by
    have := I.kept (h' := s₂.heap) (t' := s.toks) hk
    rw [e] at this ⊢
    exact this
  have fpI := I.fpOk (Nat.le_refl _) (I.hok.fresh (Nat.le_refl _))
  have fpS : FpOk X pins H s₂.heap.objs.size := I.fpOk (by omega) (I.hok.fresh (by omega))
  refine ⟨_, _, _, _, _, _, _, _, _, _, rfl, iter_words (xs := xs) (I.ok.hd hc) hlt, ⟨st.1, _, st.2, by simpa using rv⟩, hfp, best_run true (by exact hr.in1) I hs hH ho fpS fpI, ⟨H, I2, Ex.refl H, fpS.1, fpI.1⟩, fun h0 s' ⟨H', I', e', _, _⟩ => ?_, fun h0 v kb s' ⟨x, hx, rx⟩ ⟨H', p, I', e', _⟩ => ?_⟩
  · have hx : xs = [] := List.length_eq_zero_iff.mp h0
    have := q H' e'
    rw [hx] at this
    exact ⟨z, H', I', r2, this⟩
  · have hne : xs.isEmpty = false := by cases xs with | nil => exact absurd h0 (Nat.lt_irrefl 0) | cons _ _ => rfl
    have := q H' e'
    rw [hne, if_neg (by decide)] at this
    refine ⟨_, H', I', ?_, this⟩
    unfold bestV
    rw [List.getD_eq_getElem?_getD, hx]
    exact rx
end
def isS (a b : Str) : Bool := decide (V.str a = V.str b)
def vD : V → PyData
  | .bl b => .bool b
  | .int i => .int i
  | .str s => .str s
  | _ => .none
theorem dp_vD {K : PySem.W.Frag} {H : Hp} {x : V} (h : Ok x) : Dp K H x (vD x) := by
  cases h with
  | non => exact .non
  | bl b => exact .bl b
  | int i => exact .int i
  | str s _ => exact .str s
inductive Spn where
  | any
  | sp (null : Bool) (lo hi : V)
def Spn.d : Spn → PyData
  | .any => .str "any"
  | .sp n lo hi => .tuple [.bool n, vD lo, vD hi]
def Spn.isAny : Spn → Bool
  | .any => true
  | _ => false
def SOk : Spn → Prop
  | .any => True
  | .sp _ lo hi => Ok lo ∧ Ok hi ∧ vlt hi lo = false ∧ (lo = .non → hi = .non)
inductive SpV (K : PySem.W.Frag) (H : Hp) : Spn → V → Prop where
  | any : SpV K H .any (.str "any")
  | sp {b : Addr} {n : Bool} {lo hi : V} (h : SqT K H b [.bl n, lo, hi]) : SpV K H (.sp n lo hi) (.ref b)
def SpA (K : PySem.W.Frag) (H : Hp) (v : V) (s : Spn) : Prop := SpV K H s v ∧ SOk s
theorem SpA.ex {K : PySem.W.Frag} {H H' : Hp} {v : V} {s : Spn} (h : SpA K H v s) (e : Ex H H') : SpA K H' v s := by
  obtain ⟨h1, h2⟩ := h
  cases h1 with
  | any => exact ⟨.any, h2⟩
  | sp h => exact ⟨.sp (ex_t e h), h2⟩
theorem SpA.dp {K : PySem.W.Frag} {H : Hp} {v : V} {s : Spn} (h : SpA K H v s) : Dp K H v s.d := by
  obtain ⟨h1, h2⟩ := h
  cases h1 with
  | any => exact .str _
  | sp h => exact .tup h (.cons (.bl _) (.cons (dp_vD h2.1) (.cons (dp_vD h2.2.1) .nil)))
theorem lay_vD {x : V} (h : Ok x) : (vD x).canLay0 = true := by
  cases h with
  | str s hs => exact hs
  | _ => rfl
theorem dep_vD (x : V) : (vD x).depth = 0 := by cases x <;> rfl
theorem sp_shaped {s : Spn} (h : SOk s) : SeqAt.shaped s.d = true := by
  cases s with
  | any => decide +kernel
  | sp n lo hi =>
    show ((true && ((vD lo).canLay0 && ((vD hi).canLay0 && true))) && decide (max (PyData.bool n).depth (max (vD lo).depth (max (vD hi).depth 0)) + 1 ≤ 64)) = true
    rw [lay_vD h.1, lay_vD h.2.1, dep_vD, dep_vD]
    rfl
theorem any_shaped : SeqAt.shaped (.str "any") = true := by decide +kernel
theorem sp_eqv (s : Spn) : PyData.eqv s.d (.str "any") = s.isAny := by cases s <;> rfl
def canS (s : Spn) (v : V) : Bool := match s with
  | .any => true
  | .sp _ lo hi => !decide (lo = .non) && (!vlt v lo && !vlt hi v)
def truS (null hold fail : Bool) : Spn := if (!hold && !fail) = true then .sp null .non .non else .sp null (.bl (!fail)) (.bl hold)
def hasS : Spn → Bool
  | .any => true
  | .sp _ lo _ => !decide (lo = .non)
def mayN : Spn → Bool
  | .any => true
  | .sp n _ _ => n
def intsS : Spn → Option (Int × Int)
  | .sp _ (.int i) (.int j) => some (i, j)
  | _ => none
def notS (s : Spn) : Spn := truS true (canS s (.bl false)) (canS s (.bl true))
def nulS (s : Spn) : Spn := truS false (mayN s) (hasS s)
def mx2 (a b : Int) : Int := if b > a then b else a
def lowA (i j : Int) : Int := mx2 (mx2 i (-j)) 0
def unI (nm : Str) (i j : Int) : Spn :=
  if isS nm "negate" = true then .sp true (.int (-j)) (.int (-i)) else if isS nm "abs" = true then .sp true (.int (lowA i j)) (.int (mx2 (-i) j))
  else if isS nm "to decimal" = true then .sp true (.int (10000 * i)) (.int (10000 * j)) else .sp true (.int i) (.int j)
def isUn (nm : Str) : Bool := isS nm "negate" || isS nm "abs" || isS nm "as date" || isS nm "as decimal" || isS nm "to decimal"
def unS (nm : Str) (s : Spn) : Spn := if isS nm "not" = true then notS s else if isS nm "is null" = true then nulS s else if isUn nm = true then (match intsS s with | some p => unI nm p.1 p.2 | none => .any) else .any
def cmp2 (nm : Str) (lo hi l2 h2 : V) : Spn :=
  if isS nm "equal" = true then truS true (!vlt hi l2 && !vlt h2 lo) true else if isS nm "less" = true then truS true (vlt lo h2) (!vlt hi l2) else truS true (!vlt h2 lo) (vlt l2 hi)
def cmpS (nm : Str) (a b : Spn) : Spn := if (!hasS a || !hasS b) = true then .sp true .non .non else match a, b with
  | .sp _ lo hi, .sp _ l2 h2 => cmp2 nm lo hi l2 h2
  | _, _ => .sp true (.bl false) (.bl true)
def sumS (nm : Str) (a b : Spn) : Spn := match intsS a, intsS b with
  | some p, some q => if isS nm "subtract" = true then .sp true (.int (p.1 - q.2)) (.int (p.2 - q.1)) else .sp true (.int (p.1 + q.1)) (.int (p.2 + q.2))
  | _, _ => .any
def eitS : Spn → Spn → Spn
  | .sp n lo hi, .sp m l2 h2 => if lo = .non then .sp (n || m) l2 h2 else if l2 = .non then .sp (n || m) lo hi else .sp (n || m) (if vlt l2 lo = true then l2 else lo) (if vlt hi h2 = true then h2 else hi)
  | _, _ => .any
def andS (a b : Spn) : Spn := truS true (canS a (.bl true) && canS b (.bl true)) (canS a (.bl false) || canS b (.bl false))
def orS (a b : Spn) : Spn := truS true (canS a (.bl true) || canS b (.bl true)) (canS a (.bl false) && canS b (.bl false))
def binS (nm : Str) (a b : Spn) : Spn := if isS nm "and" = true then andS a b else if isS nm "or" = true then orS a b else if (isS nm "equal" || isS nm "less" || isS nm "at most") = true then cmpS nm a b
  else if (isS nm "add" || isS nm "add days" || isS nm "subtract") = true then sumS nm a b else if isS nm "coalesce" = true then eitS a b else .any
theorem vlt_int (i j : Int) : vlt (.int i) (.int j) = decide (i < j) := by
  rw [vlt_two, if_pos (show kr (.int i) = kr (.int j) from rfl)]
  show (if (i == j) = true then false else ltD (.int i) (.int j)) = _
  rw [ltD]
  by_cases z : i = j
  · subst z; simp
  · simp [z]
theorem vlt_tk {x y : V} (hx : Ok x) (hy : Ok y) : vlt x y = tkLt (tkR x) (tkR y) := by
  rw [← kf_rank.lt x y hx hy]
  show ltD (.tuple (rkDs x)) (.tuple (rkDs y)) = _
  rw [ltD]
theorem vlt_irr {x : V} (hx : Ok x) : vlt x x = false := by
  rw [vlt_tk hx hx]
  exact PyProof.Rows.lex_irrefl _
theorem vlt_neg {x y z : V} (hx : Ok x) (hy : Ok y) (hz : Ok z) (h : vlt x z = true) : vlt x y = true ∨ vlt y z = true := by
  rw [vlt_tk hx hz] at h
  rw [vlt_tk hx hy, vlt_tk hy hz]
  exact PyProof.Rows.lex_negTrans _ _ _ h
theorem vlt_no {x y z : V} (hx : Ok x) (hy : Ok y) (hz : Ok z) (h1 : vlt x y = false) (h2 : vlt y z = false) : vlt x z = false := by
  cases h : vlt x z with
  | false => rfl
  | true =>
    rcases vlt_neg hx hy hz h with z | z
    · rw [h1] at z; cases z
    · rw [h2] at z; cases z
theorem vlt_asym {x y : V} (hx : Ok x) (hy : Ok y) (h : vlt x y = true) : vlt y x = false := by
  cases z : vlt y x with
  | false => rfl
  | true =>
    rw [vlt_tk hx hy] at h
    rw [vlt_tk hy hx] at z
    have := PyProof.Rows.lex_trans _ _ _ h z
    rw [PyProof.Rows.lex_irrefl] at this
    cases this
theorem ord_non : vlt .non .non = false ∧ (V.non = .non → V.non = .non) := ⟨vlt_irr .non, fun h => h⟩
theorem bl_ok (h f : Bool) (hf : (!h && !f) = false) : vlt (.bl h) (.bl (!f)) = false := by
  cases h <;> cases f <;> first | (cases hf; done) | exact vlt_irr (.bl _) | (show vlt (.bl true) (.bl false) = false; decide +kernel)
theorem tru_ok (n h f : Bool) : SOk (truS n h f) := by
  unfold truS
  split
  · exact ⟨.non, .non, ord_non⟩
  · rename_i z
    exact ⟨.bl _, .bl _, bl_ok h f (by simpa using z), fun h => nomatch h⟩
theorem int_ok {i j : Int} (h : i ≤ j) (n : Bool) : SOk (.sp n (.int i) (.int j)) := ⟨.int _, .int _, by rw [vlt_int]; exact decide_eq_false (by omega), fun h => nomatch h⟩
theorem ints_at {s : Spn} {p : Int × Int} (h : intsS s = some p) : ∃ n, s = .sp n (.int p.1) (.int p.2) := by
  cases s with
  | any => cases h
  | sp n lo hi => cases lo <;> cases hi <;> first | (cases h; done) | (cases h; exact ⟨n, rfl⟩)
theorem ints_le {s : Spn} {p : Int × Int} (h : intsS s = some p) (o : SOk s) : p.1 ≤ p.2 := by
  obtain ⟨n, rfl⟩ := ints_at h
  have := o.2.2.1
  rw [vlt_int] at this
  have := of_decide_eq_false this
  omega
theorem unI_ok {nm : Str} {i j : Int} (h : i ≤ j) : SOk (unI nm i j) := by
  unfold unI
  split
  · exact int_ok (by omega) _
  split
  · refine int_ok ?_ _
    unfold lowA mx2
    split <;> split <;> split <;> omega
  split
  · exact int_ok (by omega) _
  · exact int_ok h _
theorem un_ok {nm : Str} {s : Spn} (h : SOk s) : SOk (unS nm s) := by
  unfold unS
  split
  · exact tru_ok _ _ _
  split
  · exact tru_ok _ _ _
  split
  · cases e : intsS s with
    | none => exact True.intro
    | some p => exact unI_ok (ints_le e h)
  · exact True.intro
theorem cmp_ok (nm : Str) (a b : Spn) : SOk (cmpS nm a b) := by
  unfold cmpS
  split
  · exact ⟨.non, .non, ord_non⟩
  split
  · unfold cmp2
    split
    · exact tru_ok _ _ _
    split
    · exact tru_ok _ _ _
    · exact tru_ok _ _ _
  · exact ⟨.bl _, .bl _, by decide +kernel, fun h => nomatch h⟩
theorem sum_ok {nm : Str} {a b : Spn} (ha : SOk a) (hb : SOk b) : SOk (sumS nm a b) := by
  unfold sumS
  split
  · rename_i p q e1 e2
    have h1 := ints_le e1 ha
    have h2 := ints_le e2 hb
    split
    · exact int_ok (by omega) _
    · exact int_ok (by omega) _
  · exact True.intro
theorem eit_ok {a b : Spn} (ha : SOk a) (hb : SOk b) : SOk (eitS a b) := by
  cases a with
  | any => exact True.intro
  | sp n lo hi => cases b with
    | any => exact True.intro
    | sp m l2 h2 =>
      obtain ⟨a1, a2, a3, a4⟩ := ha
      obtain ⟨b1, b2, b3, b4⟩ := hb
      show SOk (if lo = .non then _ else if l2 = .non then _ else _)
      split
      · exact ⟨b1, b2, b3, b4⟩
      split
      · exact ⟨a1, a2, a3, a4⟩
      · rename_i n1 n2
        refine ⟨by split; exact b1; exact a1, by split; exact b2; exact a2, ?_, fun z => absurd z (by split; exact n2; exact n1)⟩
        have l1 : ∀ c, (if vlt l2 lo = true then l2 else lo) = c → Ok c ∧ vlt lo c = false := fun c hc => by
          split at hc
          · rename_i h; subst hc; exact ⟨b1, vlt_asym b1 a1 h⟩
          · subst hc; exact ⟨a1, vlt_irr a1⟩
        have h1 : ∀ c, (if vlt hi h2 = true then h2 else hi) = c → Ok c ∧ vlt c hi = false := fun c hc => by
          split at hc
          · rename_i h; subst hc; exact ⟨b2, vlt_asym a2 b2 h⟩
          · subst hc; exact ⟨a2, vlt_irr a2⟩
        obtain ⟨o1, p1⟩ := l1 _ rfl
        obtain ⟨o2, p2⟩ := h1 _ rfl
        exact vlt_no o2 a2 o1 p2 (vlt_no a2 a1 o1 a3 p1)
theorem bin_ok {nm : Str} {a b : Spn} (ha : SOk a) (hb : SOk b) : SOk (binS nm a b) := by
  unfold binS
  split
  · exact tru_ok _ _ _
  split
  · exact tru_ok _ _ _
  split
  · exact cmp_ok _ _ _
  split
  · exact sum_ok ha hb
  split
  · exact eit_ok ha hb
  · exact True.intro
def spB (f : Spn → Bool) (K : PySem.W.Frag) : Sp := fun vs H Q _ => ∃ (v : V) (s : Spn), vs = [v] ∧ SpA K H v s ∧ ∀ H', Ex H H' → Q (.bl (f s)) H'
def spU (f : Spn → Spn) (K : PySem.W.Frag) : Sp := fun vs H Q _ => ∃ (v : V) (s : Spn), vs = [v] ∧ SpA K H v s ∧ ∀ v' H', Ex H H' → SpA K H' v' (f s) → Q v' H'
def spT (f : Spn → Spn → Spn) (K : PySem.W.Frag) : Sp := fun vs H Q _ => ∃ (v u : V) (s t : Spn), vs = [v, u] ∧ SpA K H v s ∧ SpA K H u t ∧ ∀ v' H', Ex H H' → SpA K H' v' (f s t) → Q v' H'
def spNU (f : Str → Spn → Spn) (K : PySem.W.Frag) : Sp := fun vs H Q _ => ∃ (nm : Str) (v : V) (s : Spn), vs = [.str nm, v] ∧ SpA K H v s ∧ ∀ v' H', Ex H H' → SpA K H' v' (f nm s) → Q v' H'
def spNT (f : Str → Spn → Spn → Spn) (g : Str → Prop) (K : PySem.W.Frag) : Sp := fun vs H Q _ => ∃ (nm : Str) (v u : V) (s t : Spn), vs = [.str nm, v, u] ∧ g nm ∧ SpA K H v s ∧ SpA K H u t ∧ ∀ v' H', Ex H H' → SpA K H' v' (f nm s t) → Q v' H'
def spCan (K : PySem.W.Frag) : Sp := fun vs H Q _ => ∃ (v x : V) (s : Spn), vs = [v, x] ∧ SpA K H v s ∧ Ok x ∧ ∀ H', Ex H H' → Q (.bl (canS s x)) H'
def spTru (K : PySem.W.Frag) : Sp := fun vs H Q _ => ∃ a b c : Bool, vs = [.bl a, .bl b, .bl c] ∧ ∀ v' H', Ex H H' → SpA K H' v' (truS a b c) → Q v' H'
def sp__has_values (K : PySem.W.Frag) : Sp := spB hasS K
def sp__may_be_none (K : PySem.W.Frag) : Sp := spB mayN K
def sp__has_integers (K : PySem.W.Frag) : Sp := spB (fun s => (intsS s).isSome) K
def sp_can_be (K : PySem.W.Frag) : Sp := spCan K
def sp__truth_span (K : PySem.W.Frag) : Sp := spTru K
def sp__not_span (K : PySem.W.Frag) : Sp := spU notS K
def sp__is_null_span (K : PySem.W.Frag) : Sp := spU nulS K
def sp__unary_span (K : PySem.W.Frag) : Sp := spNU unS K
def sp__and_span (K : PySem.W.Frag) : Sp := spT andS K
def sp__or_span (K : PySem.W.Frag) : Sp := spT orS K
def anyN (_ : Str) : Prop := True
def sp__comparison_span (K : PySem.W.Frag) : Sp := spNT cmpS anyN K
def sp__sum_span (K : PySem.W.Frag) : Sp := spNT sumS anyN K
def sp__either_span (K : PySem.W.Frag) : Sp := spT eitS K
def sp__binary_span (K : PySem.W.Frag) : Sp := spNT binS anyN K
theorem nuMax2_int (a b : Int) : nuMax2 (.int a) (.int b) = some (.int (mx2 a b)) := by
  show some (if decide (a < b) = true then V.int b else V.int a) = _
  unfold mx2
  by_cases h : a < b
  · rw [if_pos (decide_eq_true h), if_pos h]
  · rw [if_neg (by rw [decide_eq_false h]; decide), if_neg h]
theorem nuMax3_int (i j k : Int) : nuMax3 (.int i) (.int j) (.int k) = some (.int (mx2 (mx2 i j) k)) := by
  show (nuMax2 (.int i) (.int j)).bind (fun m => nuMax2 m (.int k)) = _
  rw [nuMax2_int]
  exact nuMax2_int _ _
def EvS (K : PySem.W.Frag) (te : TE) (σ : L2.St) (H : Hp) (s : Spn) : Prop := ∀ H1, Ex H H1 → ∀ Q : VK, (∀ v H2, Ex H1 H2 → SpA K H2 v s → Q v H2) → te σ H1 Q
section
variable {K : PySem.W.Frag} {σ : L2.St} {H H' : Hp} {ta tb tc te t1 t2 t3 : TE} {t : TT} {v x : V} {s r : Spn} {D : Ends} {tz tu tw : TS} {E : XK}
theorem EvS.mono (h : EvS K te σ H s) (e : Ex H H') : EvS K te σ H' s := fun H1 e1 Q q => h H1 (e.trans e1) Q q
theorem es_is (h : EvS K te σ H s) (e : s = r) : EvS K te σ H r := e ▸ h
theorem es_var {i : Nat} (hv : σ[i]? = some (some v)) (h : SpA K H v s) : EvS K (tVar i) σ H s := fun H1 e Q q => ev_var hv H1 (Ex.refl H1) Q fun H2 e2 => q v H2 e2 (h.ex (e.trans e2))
theorem es_any (h : Ev te σ H (.str "any")) : EvS K te σ H .any := fun H1 e Q q => h H1 e Q fun H2 e2 => q _ H2 e2 ⟨.any, True.intro⟩
theorem es_tup {n : Bool} {lo hi : V} (h1 : Ev t1 σ H (.bl n)) (h2 : Ev t2 σ H lo) (h3 : Ev t3 σ H hi) (ho : SOk (.sp n lo hi)) : EvS K (tTup (tCons t1 (tCons t2 (tCons t3 tNil)))) σ H (.sp n lo hi) := fun H1 e Q q =>
  eu_tup (ea_cons h1 (ea_cons h2 (ea_cons h3 ea_nil))) (by show 3 ≤ 100000; decide) H1 e Q fun p H2 hp e2 h2 => q _ H2 e2 ⟨.sp (st_of h2), ho⟩
theorem es_glob {b : Addr} {n : Bool} {lo hi : V} (hS : SqT K H b [.bl n, lo, hi]) (h : Ev te σ H (.ref b)) (ho : SOk (.sp n lo hi)) : EvS K te σ H (.sp n lo hi) := fun H1 e Q q => h H1 e Q fun H2 e2 => q _ H2 e2 ⟨.sp (ex_t (e.trans e2) hS), ho⟩
theorem s_retS (h : EvS K te σ H s) (k : ∀ v H1, Ex H H1 → SpA K H1 v s → D.rt v H1) : tRet te D σ H := h H (Ex.refl H) _ k
theorem q_asgS {i : Nat} (h : EvS K te σ H s) (k : ∀ v H1, Ex H H1 → SpA K H1 v s → tz D (σ.set i (some v)) H1) : tSeq (tAsg te (gName i)) tz D σ H := h H (Ex.refl H) _ k
theorem es_if {b : Bool} (h : EvT t σ H b) (h1 : b = true → EvS K ta σ H s) (h2 : b = false → EvS K tb σ H s) : EvS K (tIf t ta tb) σ H s := fun H1 e Q q => h H1 e _ fun H2 e2 => by
  cases b with
  | true =>
    show ta σ H2 Q
    exact h1 rfl H2 (e.trans e2) Q fun v H3 e3 => q v H3 (e2.trans e3)
  | false =>
    show tb σ H2 Q
    exact h2 rfl H2 (e.trans e2) Q fun v H3 e3 => q v H3 (e2.trans e3)
theorem q_asgT {g : TG} (h : te σ H fun v H1 => g v σ H1 (tz D)) : tSeq (tAsg te g) tz D σ H := h
theorem et_S {a b : Str} (ha : Ev ta σ H (.str a)) (hb : Ev tb σ H (.str b)) : EvT (tTest (tOp rEq ta tb)) σ H (isS a b) := et_test (ev_op ha hb (rv_eq rfl))
/-- span == ANY -/
theorem ev_isAny (ha : EvS K ta σ H s) (hb : Ev tb σ H (.str "any")) (ho : SOk s) : Ev (tOp (rEqD K) ta tb) σ H (.bl s.isAny) := fun H1 e Q q =>
  ha H1 e _ fun v H2 e2 h2 => hb H2 (e.trans e2) _ fun H3 e3 => ⟨s.d, .str "any", (h2.ex e3).dp, .str _, sp_shaped ho, any_shaped, by rw [sp_eqv]; exact q H3 (e2.trans e3)⟩
theorem ev_notAny (ha : EvS K ta σ H s) (hb : Ev tb σ H (.str "any")) (ho : SOk s) : Ev (tOp (rNeD K) ta tb) σ H (.bl (!s.isAny)) := fun H1 e Q q =>
  ha H1 e _ fun v H2 e2 h2 => hb H2 (e.trans e2) _ fun H3 e3 => ⟨s.d, .str "any", (h2.ex e3).dp, .str _, sp_shaped ho, any_shaped, by rw [sp_eqv]; exact q H3 (e2.trans e3)⟩
theorem sp_ref {n : Bool} {lo hi : V} (h : SpA K H v (.sp n lo hi)) : ∃ b, v = .ref b ∧ SqT K H b [.bl n, lo, hi] := by
  obtain ⟨h, _⟩ := h
  cases h with
  | sp h => exact ⟨_, rfl, h⟩
theorem eb_call {f : Spn → Bool} (ha : EvS K ta σ H s) : Ev (tCall (spB f K) [] E (tCons ta tNil)) σ H (.bl (f s)) := fun H1 e Q q => ha H1 e _ fun v H2 e2 h2 => ⟨v, s, rfl, h2, fun H3 e3 => q H3 (e2.trans e3)⟩
theorem eb_can (ha : EvS K ta σ H s) (hb : Ev tb σ H x) (hx : Ok x) : Ev (tCall (spCan K) [] E (tCons ta (tCons tb tNil))) σ H (.bl (canS s x)) := fun H1 e Q q => ha H1 e _ fun v H2 e2 h2 => hb H2 (e.trans e2) _ fun H3 e3 => ⟨v, x, s, rfl, h2.ex e3, hx, fun H4 e4 => q H4 (e2.trans (e3.trans e4))⟩
theorem es_callU {f : Spn → Spn} (ha : EvS K ta σ H s) : EvS K (tCall (spU f K) [] E (tCons ta tNil)) σ H (f s) := fun H1 e Q q => ha H1 e _ fun v H2 e2 h2 => ⟨v, s, rfl, h2, fun v' H3 e3 h3 => q v' H3 (e2.trans e3) h3⟩
theorem es_callT {f : Spn → Spn → Spn} (ha : EvS K ta σ H s) (hb : EvS K tb σ H r) : EvS K (tCall (spT f K) [] E (tCons ta (tCons tb tNil))) σ H (f s r) := fun H1 e Q q =>
  ha H1 e _ fun v H2 e2 h2 => hb H2 (e.trans e2) _ fun u H3 e3 h3 => ⟨v, u, s, r, rfl, h2.ex e3, h3, fun v' H4 e4 h4 => q v' H4 (e2.trans (e3.trans e4)) h4⟩
theorem es_callNU {f : Str → Spn → Spn} {nm : Str} (hn : Ev tc σ H (.str nm)) (ha : EvS K ta σ H s) : EvS K (tCall (spNU f K) [] E (tCons tc (tCons ta tNil))) σ H (f nm s) := fun H1 e Q q =>
  hn H1 e _ fun H2 e2 => ha H2 (e.trans e2) _ fun v H3 e3 h3 => ⟨nm, v, s, rfl, h3, fun v' H4 e4 h4 => q v' H4 (e2.trans (e3.trans e4)) h4⟩
theorem es_callNT {f : Str → Spn → Spn → Spn} {g : Str → Prop} {nm : Str} (hg : g nm) (hn : Ev tc σ H (.str nm)) (ha : EvS K ta σ H s) (hb : EvS K tb σ H r) : EvS K (tCall (spNT f g K) [] E (tCons tc (tCons ta (tCons tb tNil)))) σ H (f nm s r) := fun H1 e Q q =>
  hn H1 e _ fun H2 e2 => ha H2 (e.trans e2) _ fun v H3 e3 h3 => hb H3 ((e.trans e2).trans e3) _ fun u H4 e4 h4 => ⟨nm, v, u, s, r, rfl, hg, h3.ex e4, h4, fun v' H5 e5 h5 => q v' H5 (e2.trans (e3.trans (e4.trans e5))) h5⟩
theorem es_tru {a b c : Bool} (h1 : Ev t1 σ H (.bl a)) (h2 : Ev t2 σ H (.bl b)) (h3 : Ev t3 σ H (.bl c)) : EvS K (tCall (spTru K) [] E (tCons t1 (tCons t2 (tCons t3 tNil)))) σ H (truS a b c) := fun H1 e Q q =>
  h1 H1 e _ fun H2 e2 => h2 H2 (e.trans e2) _ fun H3 e3 => h3 H3 ((e.trans e2).trans e3) _ fun H4 e4 => ⟨a, b, c, rfl, fun v' H5 e5 h5 => q v' H5 (e2.trans (e3.trans (e4.trans e5))) h5⟩
theorem ev_ix {b : Addr} {xs : List V} {i : Nat} (ha : Ev ta σ H (.ref b)) (hS : SqT K H b xs) (hb : Ev tb σ H (.int (i : Int))) (hi : xs[i]? = some x) : Ev (tOp (rIxT K) ta tb) σ H x := ev_op ha hb (rv_ixT hS (atI_nat hi))
theorem inV_cons (a y : Str) (xs : List V) : inV (.str a) (.str y :: xs) = (isS a y || inV (.str a) xs) := by
  show (eqV (.str y) (.str a) || _) = _
  congr 1
  show (y == a) = _
  unfold isS
  rw [Bool.eq_iff_iff, beq_iff_eq, decide_eq_true_eq]
  exact ⟨fun h => by rw [h], fun h => (V.str.inj h).symm⟩
theorem et_in {neg : Bool} {a : Str} {xs : List V} {r : Bool} (ha : Ev ta σ H (.str a)) (h1 : EvU tb σ H xs) (hf : xs.all flatV = true) (hr : (if neg then !inV (.str a) xs else inV (.str a) xs) = r) : EvT (tTest (tOp (rIn K neg) ta tb)) σ H r := by
  rw [← hr]
  exact et_test fun H1 e1 Q q => ha H1 e1 _ fun H2 e2 => h1 H2 (e1.trans e2) _ fun p H3 hp e3 h3 => ⟨p, _, rfl, .inr (st_of h3), rfl, hf, q H3 (e2.trans e3)⟩
theorem ev_max3 {i j k : Int} (h1 : Ev t1 σ H (.int i)) (h2 : Ev t2 σ H (.int j)) (h3 : Ev t3 σ H (.int k)) : Ev (tCB (rNuC3 nuMax3) (tCons t1 (tCons t2 (tCons t3 tNil)))) σ H (.int (mx2 (mx2 i j) k)) := fun H1 e Q q =>
  h1 H1 e _ fun H2 e2 => h2 H2 (e.trans e2) _ fun H3 e3 => h3 H3 ((e.trans e2).trans e3) _ fun H4 e4 => ⟨.int i, .int j, .int k, .int (mx2 (mx2 i j) k), rfl, nuMax3_int i j k, q H4 (e2.trans (e3.trans e4))⟩
end
section
variable {P : Program} {w : World} {K : PySem.W.Frag} {mg : Str → Option Value} {base : Heap}
theorem ok__has_values (D : Dn K mg "_has_values" s__has_values ["span"]) (g_ANY : ∃ u, mg "ANY" = some u ∧ RelV (.str ("any")) u) :
    C8.Cal P w K mg base 1 "_has_values" (sp__has_values K) [] := by
  refine cal_of D sc__has_values (fun vs H Q E h => ?_) (fun f cdv A outer s H vs Q E hr h => ?_)
  · obtain ⟨_, _, rfl, _⟩ := h
    rfl
  refine ⟨_, (pss_one (ps_ret (pe_or (pe_cmpR (op_eqD (hu64 hr)) (pv 0) (C8.pe_gc rfl g_ANY) (nomark _)) (pe_one (pe_cmpR op_notN (pe_ix ix_tup (pv 0) pe_int (fun _ _ => rfl)) pe_non (nomark _)))))), ?_⟩
  obtain ⟨v, s, rfl, hs, q⟩ := h
  cases s with
  | any => exact s_ret (v := .bl true) (ev_is (ev_orV (a := true) (b := true) (ev_isAny (es_var rfl hs) ev_c hs.2) fun h => nomatch h) rfl) fun H1 e1 => q H1 e1
  | sp n lo hi =>
    obtain ⟨b, rfl, hS⟩ := sp_ref hs
    exact s_ret (v := .bl (!decide (lo = .non))) (ev_is (ev_orV (a := false) (ev_isAny (es_var rfl hs) ev_c hs.2) fun _ => ev_op (ev_ix (i := 1) (ev_var rfl) hS ev_c rfl) ev_c rv_notN) (by rw [Bool.false_or])) fun H1 e1 => q H1 e1
theorem ok__may_be_none (D : Dn K mg "_may_be_none" s__may_be_none ["span"]) (g_ANY : ∃ u, mg "ANY" = some u ∧ RelV (.str ("any")) u) :
    C8.Cal P w K mg base 1 "_may_be_none" (sp__may_be_none K) [] := by
  refine cal_of D sc__may_be_none (fun vs H Q E h => ?_) (fun f cdv A outer s H vs Q E hr h => ?_)
  · obtain ⟨_, _, rfl, _⟩ := h
    rfl
  refine ⟨_, (pss_one (ps_ret (pe_or (pe_cmpR (op_eqD (hu64 hr)) (pv 0) (C8.pe_gc rfl g_ANY) (nomark _)) (pe_one (pe_ix ix_tup (pv 0) pe_int (fun _ _ => rfl)))))), ?_⟩
  obtain ⟨v, s, rfl, hs, q⟩ := h
  cases s with
  | any => exact s_ret (v := .bl true) (ev_is (ev_orV (a := true) (b := true) (ev_isAny (es_var rfl hs) ev_c hs.2) fun h => nomatch h) rfl) fun H1 e1 => q H1 e1
  | sp n lo hi =>
    obtain ⟨b, rfl, hS⟩ := sp_ref hs
    exact s_ret (v := .bl n) (ev_is (ev_orV (a := false) (ev_isAny (es_var rfl hs) ev_c hs.2) fun _ => ev_ix (i := 0) (ev_var rfl) hS ev_c rfl) (by rw [Bool.false_or])) fun H1 e1 => q H1 e1
theorem ok_can_be (D : Dn K mg "can_be" s_can_be ["span", "value"]) (c_before : C8.Cal P w K mg base 3 "before" (sp_before K) []) (g_ANY : ∃ u, mg "ANY" = some u ∧ RelV (.str ("any")) u) :
    C8.Cal P w K mg base 4 "can_be" (sp_can_be K) [] := by
  refine cal_of D sc_can_be (fun vs H Q E h => ?_) (fun f cdv A outer s H vs Q E hr h => ?_)
  · obtain ⟨_, _, _, rfl, _⟩ := h
    rfl
  refine ⟨_, (pss_cons (ps_if (pt_cmpR (op_eqD (hu64 hr)) (pv 0) (C8.pe_gc rfl g_ANY) (nomark _))
      (pss_one (ps_ret pe_bl))
      pss_nil)
    (pss_cons (ps_asg (pv 0) (pg_tup rfl (pgs_cons (pg_name (i := 2) sc_can_be.nd rfl (.inl rfl)) (pgs_cons (pg_name (i := 3) sc_can_be.nd rfl (.inl rfl)) (pgs_cons (pg_name (i := 4) sc_can_be.nd rfl (.inl rfl)) pgs_nil)))))
    (pss_one (ps_ret (pe_and (pe_cmpR op_notN (pv 3) pe_non (nomark _)) (pe_and (pe_not (C8.pe_c c_before hr (by decide) (by rfl) (pa_cons (pv 1) (pa_cons (pv 3) pa_nil)))) (pe_one (pe_not (C8.pe_c c_before hr (by decide) (by rfl) (pa_cons (pv 4) (pa_cons (pv 1) pa_nil))))))))))), ?_⟩
  obtain ⟨v, x, s, rfl, hs, hx, q⟩ := h
  cases s with
  | any => exact q_when (b := true) (et_test (ev_isAny (es_var rfl hs) ev_c hs.2)) (fun _ H1 e1 => s_ret (v := .bl true) ev_c fun H2 e2 => q H2 (e1.trans e2)) fun h => nomatch h
  | sp n lo hi =>
    obtain ⟨b, rfl, hS⟩ := sp_ref hs
    obtain ⟨o1, o2, _⟩ := hs.2
    refine q_when (b := false) (et_test (ev_isAny (es_var rfl hs) ev_c hs.2)) (fun h => nomatch h) fun _ H1 e1 => ?_
    refine q_asgT (ev_var rfl H1 (Ex.refl H1) _ fun H2 e2 => gt3 (ex_t (e1.trans e2) hS) ?_)
    exact s_ret (v := .bl (canS (.sp n lo hi) x)) (ev_andV (ev_op (ev_var rfl) ev_c rv_notN) fun _ => ev_andV (ev_notV (ec_before (ev_var rfl) (ev_var rfl) hx o1)) fun _ => ev_notV (ec_before (ev_var rfl) (ev_var rfl) o2 hx)) fun H3 e3 => q H3 (e1.trans (e2.trans e3))
theorem ok__truth_span (D : Dn K mg "_truth_span" s__truth_span ["null", "can_hold", "can_fail"]) :
    C8.Cal P w K mg base 1 "_truth_span" (sp__truth_span K) [] := by
  refine cal_of D sc__truth_span (fun vs H Q E h => ?_) (fun f cdv A outer s H vs Q E hr h => ?_)
  · obtain ⟨_, _, _, rfl, _⟩ := h
    rfl
  refine ⟨_, (pss_cons (ps_if (PW.pt (pw_and (pt_not (pt_val (pv 1))) (pw_and1 (pt_not (pt_val (pv 2))))))
      (pss_one (ps_ret (pe_tup (pa_cons (pv 0) (pa_cons pe_non (pa_cons pe_non pa_nil))))))
      pss_nil)
    (pss_one (ps_ret (pe_tup (pa_cons (pv 0) (pa_cons (pe_not (pv 2)) (pa_cons (pv 1) pa_nil))))))), ?_⟩
  obtain ⟨a, b, c, rfl, q⟩ := h
  refine q_when (b := !b && !c) (et_and (et_not (et_B (ev_var rfl))) fun _ => et_not (et_B (ev_var rfl))) (fun hb H1 e1 => ?_) fun hb H1 e1 => ?_
  · refine s_retS (K := K) (s := truS a b c) (es_is (es_tup (ev_var rfl) ev_c ev_c ⟨.non, .non, ord_non⟩) ?_) fun v H2 e2 h2 => q v H2 (e1.trans e2) h2
    unfold truS
    rw [if_pos hb]
  · refine s_retS (K := K) (s := truS a b c) (es_is (es_tup (ev_var rfl) (ev_notV (ev_var rfl)) (ev_var rfl) ⟨.bl _, .bl _, bl_ok b c hb, fun h => nomatch h⟩) ?_) fun v H2 e2 h2 => q v H2 (e1.trans e2) h2
    unfold truS
    rw [if_neg (by rw [hb]; decide)]
theorem ok__not_span (D : Dn K mg "_not_span" s__not_span ["span"]) (c__truth_span : C8.Cal P w K mg base 1 "_truth_span" (sp__truth_span K) []) (c_can_be : C8.Cal P w K mg base 4 "can_be" (sp_can_be K) []) :
    C8.Cal P w K mg base 5 "_not_span" (sp__not_span K) [] := by
  refine cal_of D sc__not_span (fun vs H Q E h => ?_) (fun f cdv A outer s H vs Q E hr h => ?_)
  · obtain ⟨_, _, rfl, _⟩ := h
    rfl
  refine ⟨_, (pss_one (ps_ret (C8.pe_c c__truth_span hr (by decide) (by rfl) (pa_cons pe_bl (pa_cons (C8.pe_c c_can_be hr (by decide) (by rfl) (pa_cons (pv 0) (pa_cons pe_bl pa_nil))) (pa_cons (C8.pe_c c_can_be hr (by decide) (by rfl) (pa_cons (pv 0) (pa_cons pe_bl pa_nil))) pa_nil)))))), ?_⟩
  obtain ⟨v, s, rfl, hs, q⟩ := h
  exact s_retS (K := K) (s := notS s) (es_tru ev_c (eb_can (es_var rfl hs) ev_c (.bl _)) (eb_can (es_var rfl hs) ev_c (.bl _))) fun v H2 e2 h2 => q v H2 e2 h2
theorem ok__is_null_span (D : Dn K mg "_is_null_span" s__is_null_span ["span"]) (c__has_values : C8.Cal P w K mg base 1 "_has_values" (sp__has_values K) []) (c__may_be_none : C8.Cal P w K mg base 1 "_may_be_none" (sp__may_be_none K) []) (c__truth_span : C8.Cal P w K mg base 1 "_truth_span" (sp__truth_span K) []) :
    C8.Cal P w K mg base 2 "_is_null_span" (sp__is_null_span K) [] := by
  refine cal_of D sc__is_null_span (fun vs H Q E h => ?_) (fun f cdv A outer s H vs Q E hr h => ?_)
  · obtain ⟨_, _, rfl, _⟩ := h
    rfl
  refine ⟨_, (pss_one (ps_ret (C8.pe_c c__truth_span hr (by decide) (by rfl) (pa_cons pe_bl (pa_cons (C8.pe_c c__may_be_none hr (by decide) (by rfl) (pa_cons (pv 0) pa_nil)) (pa_cons (C8.pe_c c__has_values hr (by decide) (by rfl) (pa_cons (pv 0) pa_nil)) pa_nil)))))), ?_⟩
  obtain ⟨v, s, rfl, hs, q⟩ := h
  exact s_retS (K := K) (s := nulS s) (es_tru ev_c (eb_call (f := mayN) (es_var rfl hs)) (eb_call (f := hasS) (es_var rfl hs))) fun v H2 e2 h2 => q v H2 e2 h2
theorem ok__has_integers (D : Dn K mg "_has_integers" s__has_integers ["span"]) (c_is_integer : C8.Cal P w K mg base 1 "is_integer" (sp_is_integer K) []) (g_ANY : ∃ u, mg "ANY" = some u ∧ RelV (.str ("any")) u) :
    C8.Cal P w K mg base 2 "_has_integers" (sp__has_integers K) [] := by
  refine cal_of D sc__has_integers (fun vs H Q E h => ?_) (fun f cdv A outer s H vs Q E hr h => ?_)
  · obtain ⟨_, _, rfl, _⟩ := h
    rfl
  refine ⟨_, (pss_one (ps_ret (pe_and (pe_cmpR (op_neD (hu64 hr)) (pv 0) (C8.pe_gc rfl g_ANY) (nomark _)) (pe_and (C8.pe_c c_is_integer hr (by decide) (by rfl) (pa_cons (pe_ix ix_tup (pv 0) pe_int (fun _ _ => rfl)) pa_nil)) (pe_one (C8.pe_c c_is_integer hr (by decide) (by rfl) (pa_cons (pe_ix ix_tup (pv 0) pe_int (fun _ _ => rfl)) pa_nil))))))), ?_⟩
  obtain ⟨v, s, rfl, hs, q⟩ := h
  cases s with
  | any => exact s_ret (v := .bl false) (ev_is (ev_andV (a := false) (b := false) (ev_notAny (es_var rfl hs) ev_c hs.2) fun h => nomatch h) rfl) fun H1 e1 => q H1 e1
  | sp n lo hi =>
    obtain ⟨b, rfl, hS⟩ := sp_ref hs
    obtain ⟨o1, o2, _⟩ := hs.2
    have e : (isInt lo && isInt hi) = (intsS (.sp n lo hi)).isSome := by cases o1 <;> cases o2 <;> rfl
    exact s_ret (v := .bl ((intsS (.sp n lo hi)).isSome)) (ev_is (ev_andV (a := true) (ev_notAny (es_var rfl hs) ev_c hs.2) fun _ => ev_andV (ec_isint0 (ev_ix (i := 1) (ev_var rfl) hS ev_c rfl) o1.pl) fun _ => ec_isint0 (ev_ix (i := 2) (ev_var rfl) hS ev_c rfl) o2.pl) (by rw [Bool.true_and, e])) fun H1 e1 => q H1 e1
end
theorem unS_other {nm : Str} {s : Spn} (h1 : isS nm "not" = false) (h2 : isS nm "is null" = false) (h : (!isUn nm || !(intsS s).isSome) = true) : unS nm s = .any := by
  unfold unS
  rw [if_neg (by rw [h1]; decide), if_neg (by rw [h2]; decide)]
  split
  · rename_i hu
    rw [hu, Bool.not_true, Bool.false_or] at h
    cases e : intsS s with
    | none => rfl
    | some p => rw [e] at h; exact nomatch h
  · rfl
theorem unS_ints {nm : Str} {n : Bool} {i j : Int} (h1 : isS nm "not" = false) (h2 : isS nm "is null" = false) (h : isUn nm = true) : unS nm (.sp n (.int i) (.int j)) = unI nm i j := by
  unfold unS
  rw [if_neg (by rw [h1]; decide), if_neg (by rw [h2]; decide), if_pos h]
  rfl
section
variable {P : Program} {w : World} {K : PySem.W.Frag} {mg : Str → Option Value} {base : Heap}
theorem eu_lits {σ : L2.St} {H : Hp} {ta : TA} {xs : List V} (h : EvA ta σ H xs) (hl : xs.length ≤ 1000) : EvU (tTup ta) σ H xs := eu_tup h (by omega)
theorem ok__unary_span (D : Dn K mg "_unary_span" s__unary_span ["name", "span"]) (c__has_integers : C8.Cal P w K mg base 2 "_has_integers" (sp__has_integers K) []) (c__is_null_span : C8.Cal P w K mg base 2 "_is_null_span" (sp__is_null_span K) []) (c__not_span : C8.Cal P w K mg base 5 "_not_span" (sp__not_span K) []) (z_max : mg "max" = none) (g_ANY : ∃ u, mg "ANY" = some u ∧ RelV (.str ("any")) u) :
    C8.Cal P w K mg base 6 "_unary_span" (sp__unary_span K) [] := by
  refine cal_of D sc__unary_span (fun vs H Q E h => ?_) (fun f cdv A outer s H vs Q E hr h => ?_)
  · obtain ⟨_, _, _, rfl, _⟩ := h
    rfl
  refine ⟨_, (pss_cons (ps_if (pt_cmpR op_eq (pv 0) pe_str (nomark _))
      (pss_one (ps_ret (C8.pe_c c__not_span hr (by decide) (by rfl) (pa_cons (pv 1) pa_nil))))
      pss_nil)
    (pss_cons (ps_if (pt_cmpR op_eq (pv 0) pe_str (nomark _))
      (pss_one (ps_ret (C8.pe_c c__is_null_span hr (by decide) (by rfl) (pa_cons (pv 1) pa_nil))))
      pss_nil)
    (pss_cons (ps_if (PW.pt (pw_or (pt_cmpR op_notIn_seq (pv 0) (pe_tup (pa_cons pe_str (pa_cons pe_str (pa_cons pe_str (pa_cons pe_str (pa_cons pe_str pa_nil)))))) (by with_unfolding_all rfl)) (pw_or1 (pt_not (pt_val (C8.pe_c c__has_integers hr (by decide) (by rfl) (pa_cons (pv 1) pa_nil)))))))
      (pss_one (ps_ret (C8.pe_gc rfl g_ANY)))
      pss_nil)
    (pss_cons (ps_asg (pv 1) (pg_tup rfl (pgs_cons (pg_name (i := 2) sc__unary_span.nd rfl (.inl rfl)) (pgs_cons (pg_name (i := 3) sc__unary_span.nd rfl (.inl rfl)) (pgs_cons (pg_name (i := 4) sc__unary_span.nd rfl (.inl rfl)) pgs_nil)))))
    (pss_cons (ps_if (pt_cmpR op_eq (pv 0) pe_str (nomark _))
      (pss_one (ps_ret (pe_tup (pa_cons pe_bl (pa_cons (pe_un un_neg (pv 4)) (pa_cons (pe_un un_neg (pv 3)) pa_nil))))))
      pss_nil)
    (pss_cons (ps_if (pt_cmpR op_eq (pv 0) pe_str (nomark _))
      (pss_one (ps_ret (pe_tup (pa_cons pe_bl (pa_cons (pe_callB (call_max3Nu rfl) (by rfl) z_max (by decide +kernel) (pa_cons (pv 3) (pa_cons (pe_un un_neg (pv 4)) (pa_cons pe_int pa_nil)))) (pa_cons (pe_callB (call_max2 rfl) (by rfl) z_max (by decide +kernel) (pa_cons (pe_un un_neg (pv 3)) (pa_cons (pv 4) pa_nil))) pa_nil))))))
      pss_nil)
    (pss_cons (ps_if (pt_cmpR op_eq (pv 0) pe_str (nomark _))
      (pss_one (ps_ret (pe_tup (pa_cons pe_bl (pa_cons (pe_op op_mul pe_int (pv 3)) (pa_cons (pe_op op_mul pe_int (pv 4)) pa_nil))))))
      pss_nil)
    (pss_one (ps_ret (pe_tup (pa_cons pe_bl (pa_cons (pv 3) (pa_cons (pv 4) pa_nil))))))))))))), ?_⟩
  obtain ⟨nm, v, s, rfl, hs, q⟩ := h
  refine q_when (b := isS nm "not") (et_S (ev_var rfl) ev_c) (fun hb H1 e1 => ?_) fun h1 H1 e1 => ?_
  · refine s_retS (K := K) (s := unS nm s) (es_is (es_callU (f := notS) (es_var rfl (hs.ex e1))) ?_) fun v H2 e2 h2 => q v H2 (e1.trans e2) h2
    unfold unS
    rw [if_pos hb]
  refine q_when (b := isS nm "is null") (et_S (ev_var rfl) ev_c) (fun hb H2 e2 => ?_) fun h2 H2 e2 => ?_
  · refine s_retS (K := K) (s := unS nm s) (es_is (es_callU (f := nulS) (es_var rfl (hs.ex (e1.trans e2)))) ?_) fun v H3 e3 h3 => q v H3 (e1.trans (e2.trans e3)) h3
    unfold unS
    rw [if_neg (by rw [h1]; decide), if_pos hb]
  have x2 := e1.trans e2
  have hs2 := hs.ex x2
  refine q_when (b := !isUn nm || !(intsS s).isSome) (et_or (et_in (K := K) (neg := true) (xs := [.str "negate", .str "abs", .str "as date", .str "as decimal", .str "to decimal"]) (ev_var rfl) (eu_lits (ea_cons ev_c (ea_cons ev_c (ea_cons ev_c (ea_cons ev_c (ea_cons ev_c ea_nil))))) (by decide)) rfl ?_) fun _ => et_not (et_B (eb_call (f := fun s => (intsS s).isSome) (es_var rfl hs2)))) (fun hb H3 e3 => ?_) fun hb H3 e3 => ?_
  · rw [inV_cons, inV_cons, inV_cons, inV_cons, inV_cons]
    show (!(_ || (_ || (_ || (_ || (_ || false)))))) = _
    unfold isUn
    rw [Bool.or_false, Bool.or_assoc, Bool.or_assoc, Bool.or_assoc]
  · exact s_retS (K := K) (s := unS nm s) (es_is (es_any ev_c) (unS_other h1 h2 hb).symm) fun v H4 e4 h4 => q v H4 (x2.trans (e3.trans e4)) h4
  rw [Bool.or_eq_false_iff, Bool.not_eq_false', Bool.not_eq_false'] at hb
  obtain ⟨hu, hi⟩ := hb
  cases he : intsS s with
  | none => rw [he] at hi; cases hi
  | some p =>
    obtain ⟨n, rfl⟩ := ints_at he
    obtain ⟨i, j⟩ := p
    have hij : i ≤ j := ints_le he hs.2
    obtain ⟨b, rfl, hS⟩ := sp_ref hs2
    have hv := unS_ints (n := n) (i := i) (j := j) h1 h2 hu
    refine q_asgT (ev_var rfl H3 (Ex.refl H3) _ fun H4 e4 => gt3 (ex_t (e3.trans e4) hS) ?_)
    have x4 := x2.trans (e3.trans e4)
    refine q_when (b := isS nm "negate") (et_S (ev_var rfl) ev_c) (fun hb H5 e5 => ?_) fun h3 H5 e5 => ?_
    · refine s_retS (K := K) (es_is (es_tup ev_c (ev_un (ev_var rfl) ru_neg) (ev_un (ev_var rfl) ru_neg) (int_ok (by omega) _)) ?_) fun v H6 e6 h6 => q v H6 (x4.trans (e5.trans e6)) h6
      rw [hv]
      unfold unI
      rw [if_pos hb]
    refine q_when (b := isS nm "abs") (et_S (ev_var rfl) ev_c) (fun hb H6 e6 => ?_) fun h4 H6 e6 => ?_
    · refine s_retS (K := K) (es_is (es_tup ev_c (ev_max3 (ev_var rfl) (ev_un (ev_var rfl) ru_neg) ev_c) (Evl.ev_max2 (ev_un (ev_var rfl) ru_neg) (ev_var rfl)) (int_ok (by unfold mx2; split <;> split <;> split <;> omega) _)) ?_) fun v H7 e7 h7 => q v H7 (x4.trans (e5.trans (e6.trans e7))) h7
      rw [hv]
      unfold unI
      rw [if_neg (show ¬ isS nm "negate" = true by rw [h3]; decide), if_pos hb]
      rfl
    refine q_when (b := isS nm "to decimal") (et_S (ev_var rfl) ev_c) (fun hb H7 e7 => ?_) fun h5 H7 e7 => ?_
    · refine s_retS (K := K) (es_is (es_tup ev_c (ev_op ev_c (ev_var rfl) (rv_I (.inl ⟨by decide, by decide⟩))) (ev_op ev_c (ev_var rfl) (rv_I (.inl ⟨by decide, by decide⟩))) (int_ok (by omega) _)) ?_) fun v H8 e8 h8 => q v H8 (x4.trans (e5.trans (e6.trans (e7.trans e8)))) h8
      rw [hv]
      unfold unI
      rw [if_neg (by rw [h3]; decide), if_neg (by rw [h4]; decide), if_pos hb]
    · refine s_retS (K := K) (es_is (es_tup ev_c (ev_var rfl) (ev_var rfl) (int_ok hij _)) ?_) fun v H8 e8 h8 => q v H8 (x4.trans (e5.trans (e6.trans (e7.trans e8)))) h8
      rw [hv]
      unfold unI
      rw [if_neg (by rw [h3]; decide), if_neg (by rw [h4]; decide), if_neg (by rw [h5]; decide)]
theorem ok__and_span (D : Dn K mg "_and_span" s__and_span ["first", "second"]) (c__truth_span : C8.Cal P w K mg base 1 "_truth_span" (sp__truth_span K) []) (c_can_be : C8.Cal P w K mg base 4 "can_be" (sp_can_be K) []) :
    C8.Cal P w K mg base 5 "_and_span" (sp__and_span K) [] := by
  refine cal_of D sc__and_span (fun vs H Q E h => ?_) (fun f cdv A outer s H vs Q E hr h => ?_)
  · obtain ⟨_, _, _, _, rfl, _⟩ := h
    rfl
  refine ⟨_, (pss_cons (ps_set (i := 2) sc__and_span.nd rfl (.inl rfl) (pe_and (C8.pe_c c_can_be hr (by decide) (by rfl) (pa_cons (pv 0) (pa_cons pe_bl pa_nil))) (pe_one (C8.pe_c c_can_be hr (by decide) (by rfl) (pa_cons (pv 1) (pa_cons pe_bl pa_nil))))))
    (pss_one (ps_ret (C8.pe_c c__truth_span hr (by decide) (by rfl) (pa_cons pe_bl (pa_cons (pv 2) (pa_cons (pe_or (C8.pe_c c_can_be hr (by decide) (by rfl) (pa_cons (pv 0) (pa_cons pe_bl pa_nil))) (pe_one (C8.pe_c c_can_be hr (by decide) (by rfl) (pa_cons (pv 1) (pa_cons pe_bl pa_nil))))) pa_nil))))))), ?_⟩
  obtain ⟨v, u, s, t, rfl, hs, ht, q⟩ := h
  refine q_asg (v := .bl (canS s (.bl true) && canS t (.bl true))) (ev_andV (eb_can (es_var rfl hs) ev_c (.bl _)) fun _ => eb_can (es_var rfl ht) ev_c (.bl _)) fun H1 e1 => ?_
  exact s_retS (K := K) (s := andS s t) (es_tru ev_c (ev_var rfl) (ev_orV (eb_can (es_var rfl (hs.ex e1)) ev_c (.bl _)) fun _ => eb_can (es_var rfl (ht.ex e1)) ev_c (.bl _))) fun v H2 e2 h2 => q v H2 (e1.trans e2) h2
theorem ok__or_span (D : Dn K mg "_or_span" s__or_span ["first", "second"]) (c__truth_span : C8.Cal P w K mg base 1 "_truth_span" (sp__truth_span K) []) (c_can_be : C8.Cal P w K mg base 4 "can_be" (sp_can_be K) []) :
    C8.Cal P w K mg base 5 "_or_span" (sp__or_span K) [] := by
  refine cal_of D sc__or_span (fun vs H Q E h => ?_) (fun f cdv A outer s H vs Q E hr h => ?_)
  · obtain ⟨_, _, _, _, rfl, _⟩ := h
    rfl
  refine ⟨_, (pss_cons (ps_set (i := 2) sc__or_span.nd rfl (.inl rfl) (pe_and (C8.pe_c c_can_be hr (by decide) (by rfl) (pa_cons (pv 0) (pa_cons pe_bl pa_nil))) (pe_one (C8.pe_c c_can_be hr (by decide) (by rfl) (pa_cons (pv 1) (pa_cons pe_bl pa_nil))))))
    (pss_one (ps_ret (C8.pe_c c__truth_span hr (by decide) (by rfl) (pa_cons pe_bl (pa_cons (pe_or (C8.pe_c c_can_be hr (by decide) (by rfl) (pa_cons (pv 0) (pa_cons pe_bl pa_nil))) (pe_one (C8.pe_c c_can_be hr (by decide) (by rfl) (pa_cons (pv 1) (pa_cons pe_bl pa_nil))))) (pa_cons (pv 2) pa_nil))))))), ?_⟩
  obtain ⟨v, u, s, t, rfl, hs, ht, q⟩ := h
  refine q_asg (v := .bl (canS s (.bl false) && canS t (.bl false))) (ev_andV (eb_can (es_var rfl hs) ev_c (.bl _)) fun _ => eb_can (es_var rfl ht) ev_c (.bl _)) fun H1 e1 => ?_
  exact s_retS (K := K) (s := orS s t) (es_tru ev_c (ev_orV (eb_can (es_var rfl (hs.ex e1)) ev_c (.bl _)) fun _ => eb_can (es_var rfl (ht.ex e1)) ev_c (.bl _)) (ev_var rfl)) fun v H2 e2 h2 => q v H2 (e1.trans e2) h2
theorem ok__comparison_span (D : Dn K mg "_comparison_span" s__comparison_span ["name", "first", "second"]) (c__has_values : C8.Cal P w K mg base 1 "_has_values" (sp__has_values K) []) (c__truth_span : C8.Cal P w K mg base 1 "_truth_span" (sp__truth_span K) []) (c_before : C8.Cal P w K mg base 3 "before" (sp_before K) []) (g_ANY : ∃ u, mg "ANY" = some u ∧ RelV (.str ("any")) u) {p__NOTHING : Addr} (g__NOTHING : ∃ u, mg "_NOTHING" = some u ∧ RelV (.ref p__NOTHING) u) (h__NOTHING : ∀ H : Hp, SqT K H p__NOTHING ([.bl true, .non, .non])) :
    C8.Cal P w K mg base 4 "_comparison_span" (sp__comparison_span K) [] := by
  refine cal_of D sc__comparison_span (fun vs H Q E h => ?_) (fun f cdv A outer s H vs Q E hr h => ?_)
  · obtain ⟨_, _, _, _, _, rfl, _⟩ := h
    rfl
  refine ⟨_, (pss_cons (ps_if (PW.pt (pw_or (pt_not (pt_val (C8.pe_c c__has_values hr (by decide) (by rfl) (pa_cons (pv 1) pa_nil)))) (pw_or1 (pt_not (pt_val (C8.pe_c c__has_values hr (by decide) (by rfl) (pa_cons (pv 2) pa_nil)))))))
      (pss_one (ps_ret (C8.pe_gc rfl g__NOTHING)))
      pss_nil)
    (pss_cons (ps_if (PW.pt (pw_or (pt_cmpR (op_eqD (hu64 hr)) (pv 1) (C8.pe_gc rfl g_ANY) (nomark _)) (pw_or1 (pt_cmpR (op_eqD (hu64 hr)) (pv 2) (C8.pe_gc rfl g_ANY) (nomark _)))))
      (pss_one (ps_ret (pe_tup (pa_cons pe_bl (pa_cons pe_bl (pa_cons pe_bl pa_nil))))))
      pss_nil)
    (pss_cons (ps_asg (pv 1) (pg_tup rfl (pgs_cons (pg_name (i := 3) sc__comparison_span.nd rfl (.inl rfl)) (pgs_cons (pg_name (i := 4) sc__comparison_span.nd rfl (.inl rfl)) (pgs_cons (pg_name (i := 5) sc__comparison_span.nd rfl (.inl rfl)) pgs_nil)))))
    (pss_cons (ps_asg (pv 2) (pg_tup rfl (pgs_cons (pg_name (i := 3) sc__comparison_span.nd rfl (.inl rfl)) (pgs_cons (pg_name (i := 6) sc__comparison_span.nd rfl (.inl rfl)) (pgs_cons (pg_name (i := 7) sc__comparison_span.nd rfl (.inl rfl)) pgs_nil)))))
    (pss_cons (ps_if (pt_cmpR op_eq (pv 0) pe_str (nomark _))
      (pss_one (ps_ret (C8.pe_c c__truth_span hr (by decide) (by rfl) (pa_cons pe_bl (pa_cons (pe_and (pe_not (C8.pe_c c_before hr (by decide) (by rfl) (pa_cons (pv 5) (pa_cons (pv 6) pa_nil)))) (pe_one (pe_not (C8.pe_c c_before hr (by decide) (by rfl) (pa_cons (pv 7) (pa_cons (pv 4) pa_nil)))))) (pa_cons pe_bl pa_nil))))))
      pss_nil)
    (pss_cons (ps_if (pt_cmpR op_eq (pv 0) pe_str (nomark _))
      (pss_one (ps_ret (C8.pe_c c__truth_span hr (by decide) (by rfl) (pa_cons pe_bl (pa_cons (C8.pe_c c_before hr (by decide) (by rfl) (pa_cons (pv 4) (pa_cons (pv 7) pa_nil))) (pa_cons (pe_not (C8.pe_c c_before hr (by decide) (by rfl) (pa_cons (pv 5) (pa_cons (pv 6) pa_nil)))) pa_nil))))))
      pss_nil)
    (pss_one (ps_ret (C8.pe_c c__truth_span hr (by decide) (by rfl) (pa_cons pe_bl (pa_cons (pe_not (C8.pe_c c_before hr (by decide) (by rfl) (pa_cons (pv 7) (pa_cons (pv 4) pa_nil)))) (pa_cons (C8.pe_c c_before hr (by decide) (by rfl) (pa_cons (pv 6) (pa_cons (pv 5) pa_nil))) pa_nil)))))))))))), ?_⟩
  obtain ⟨nm, v, u, s, t, rfl, _, hs, ht, q⟩ := h
  refine q_when (b := !hasS s || !hasS t) (et_or (et_not (et_B (eb_call (f := hasS) (es_var rfl hs)))) fun _ => et_not (et_B (eb_call (f := hasS) (es_var rfl ht)))) (fun hb H1 e1 => ?_) fun hb H1 e1 => ?_
  · refine s_retS (K := K) (s := cmpS nm s t) (es_is (es_glob (h__NOTHING _) ev_c ⟨.non, .non, ord_non⟩) ?_) fun v H2 e2 h2 => q v H2 (e1.trans e2) h2
    unfold cmpS
    rw [if_pos hb]
  refine q_when (b := s.isAny || t.isAny) (et_or (et_test (ev_isAny (es_var rfl (hs.ex e1)) ev_c hs.2)) fun _ => et_test (ev_isAny (es_var rfl (ht.ex e1)) ev_c ht.2)) (fun hb2 H2 e2 => ?_) fun hb2 H2 e2 => ?_
  · refine s_retS (K := K) (s := cmpS nm s t) (es_is (es_tup ev_c ev_c ev_c ⟨.bl _, .bl _, by decide +kernel, fun h => nomatch h⟩) ?_) fun v H3 e3 h3 => q v H3 (e1.trans (e2.trans e3)) h3
    unfold cmpS
    rw [if_neg (by rw [hb]; decide)]
    cases s with
    | any => rfl
    | sp _ _ _ => cases t with
      | any => rfl
      | sp _ _ _ => cases hb2
  cases s with
  | any => cases hb2
  | sp n lo hi => cases t with
    | any => exact absurd hb2 (show ¬ (false || true) = false by decide)
    | sp n2 l2 h2 =>
      obtain ⟨b, rfl, hS⟩ := sp_ref (hs.ex (e1.trans e2))
      obtain ⟨c, rfl, hT⟩ := sp_ref (ht.ex (e1.trans e2))
      obtain ⟨o1, o2, _⟩ := hs.2
      obtain ⟨o3, o4, _⟩ := ht.2
      have hval : cmpS nm (.sp n lo hi) (.sp n2 l2 h2) = cmp2 nm lo hi l2 h2 := by
        unfold cmpS
        rw [if_neg (by rw [hb]; decide)]
      refine q_asgT (ev_var rfl H2 (Ex.refl H2) _ fun H3 e3 => gt3 (ex_t e3 hS) ?_)
      refine q_asgT (ev_var rfl H3 (Ex.refl H3) _ fun H4 e4 => gt3 (ex_t (e3.trans e4) hT) ?_)
      have x4 := e1.trans (e2.trans (e3.trans e4))
      refine q_when (b := isS nm "equal") (et_S (ev_var rfl) ev_c) (fun h5 H5 e5 => ?_) fun h5 H5 e5 => ?_
      · refine s_retS (K := K) (es_is (es_tru ev_c (ev_andV (ev_notV (ec_before (ev_var rfl) (ev_var rfl) o2 o3)) fun _ => ev_notV (ec_before (ev_var rfl) (ev_var rfl) o4 o1)) ev_c) ?_) fun v H6 e6 h6 => q v H6 (x4.trans (e5.trans e6)) h6
        rw [hval]
        unfold cmp2
        rw [if_pos h5]
        rfl
      refine q_when (b := isS nm "less") (et_S (ev_var rfl) ev_c) (fun h6 H6 e6 => ?_) fun h6 H6 e6 => ?_
      · refine s_retS (K := K) (es_is (es_tru ev_c (ec_before (ev_var rfl) (ev_var rfl) o1 o4) (ev_notV (ec_before (ev_var rfl) (ev_var rfl) o2 o3))) ?_) fun v H7 e7 h7 => q v H7 (x4.trans (e5.trans (e6.trans e7))) h7
        rw [hval]
        unfold cmp2
        rw [if_neg (by rw [h5]; decide), if_pos h6]
        rfl
      · refine s_retS (K := K) (es_is (es_tru ev_c (ev_notV (ec_before (ev_var rfl) (ev_var rfl) o4 o1)) (ec_before (ev_var rfl) (ev_var rfl) o3 o2)) ?_) fun v H7 e7 h7 => q v H7 (x4.trans (e5.trans (e6.trans e7))) h7
        rw [hval]
        unfold cmp2
        rw [if_neg (by rw [h5]; decide), if_neg (by rw [h6]; decide)]
        rfl
end
theorem sumS_no {nm : Str} {a b : Spn} (h : (!(intsS a).isSome || !(intsS b).isSome) = true) : sumS nm a b = .any := by
  unfold sumS
  cases ha : intsS a with
  | none => rfl
  | some p => cases hb : intsS b with
    | none => rfl
    | some r => rw [ha, hb] at h; exact nomatch h
section
variable {P : Program} {w : World} {K : PySem.W.Frag} {mg : Str → Option Value} {base : Heap}
theorem ok__sum_span (D : Dn K mg "_sum_span" s__sum_span ["name", "first", "second"]) (c__has_integers : C8.Cal P w K mg base 2 "_has_integers" (sp__has_integers K) []) (g_ANY : ∃ u, mg "ANY" = some u ∧ RelV (.str ("any")) u) :
    C8.Cal P w K mg base 3 "_sum_span" (sp__sum_span K) [] := by
  refine cal_of D sc__sum_span (fun vs H Q E h => ?_) (fun f cdv A outer s H vs Q E hr h => ?_)
  · obtain ⟨_, _, _, _, _, rfl, _⟩ := h
    rfl
  refine ⟨_, (pss_cons (ps_if (PW.pt (pw_or (pt_not (pt_val (C8.pe_c c__has_integers hr (by decide) (by rfl) (pa_cons (pv 1) pa_nil)))) (pw_or1 (pt_not (pt_val (C8.pe_c c__has_integers hr (by decide) (by rfl) (pa_cons (pv 2) pa_nil)))))))
      (pss_one (ps_ret (C8.pe_gc rfl g_ANY)))
      pss_nil)
    (pss_cons (ps_asg (pv 1) (pg_tup rfl (pgs_cons (pg_name (i := 3) sc__sum_span.nd rfl (.inl rfl)) (pgs_cons (pg_name (i := 4) sc__sum_span.nd rfl (.inl rfl)) (pgs_cons (pg_name (i := 5) sc__sum_span.nd rfl (.inl rfl)) pgs_nil)))))
    (pss_cons (ps_asg (pv 2) (pg_tup rfl (pgs_cons (pg_name (i := 3) sc__sum_span.nd rfl (.inl rfl)) (pgs_cons (pg_name (i := 6) sc__sum_span.nd rfl (.inl rfl)) (pgs_cons (pg_name (i := 7) sc__sum_span.nd rfl (.inl rfl)) pgs_nil)))))
    (pss_cons (ps_if (pt_cmpR op_eq (pv 0) pe_str (nomark _))
      (pss_one (ps_ret (pe_tup (pa_cons pe_bl (pa_cons (pe_op op_sub (pv 4) (pv 7)) (pa_cons (pe_op op_sub (pv 5) (pv 6)) pa_nil))))))
      pss_nil)
    (pss_one (ps_ret (pe_tup (pa_cons pe_bl (pa_cons (pe_op op_add (pv 4) (pv 6)) (pa_cons (pe_op op_add (pv 5) (pv 7)) pa_nil)))))))))), ?_⟩
  obtain ⟨nm, v, u, s, t, rfl, _, hs, ht, q⟩ := h
  refine q_when (b := !(intsS s).isSome || !(intsS t).isSome) (et_or (et_not (et_B (eb_call (f := fun s => (intsS s).isSome) (es_var rfl hs)))) fun _ => et_not (et_B (eb_call (f := fun s => (intsS s).isSome) (es_var rfl ht)))) (fun hb H1 e1 => ?_) fun hb H1 e1 => ?_
  · exact s_retS (K := K) (s := sumS nm s t) (es_is (es_any ev_c) (sumS_no hb).symm) fun v H2 e2 h2 => q v H2 (e1.trans e2) h2
  rw [Bool.or_eq_false_iff, Bool.not_eq_false', Bool.not_eq_false'] at hb
  cases he : intsS s with
  | none => rw [he] at hb; exact nomatch hb.1
  | some p => cases hf : intsS t with
    | none => rw [hf] at hb; exact nomatch hb.2
    | some r =>
      have hp := ints_le he hs.2
      have hr' := ints_le hf ht.2
      have hval : sumS nm s t = if isS nm "subtract" = true then .sp true (.int (p.1 - r.2)) (.int (p.2 - r.1)) else .sp true (.int (p.1 + r.1)) (.int (p.2 + r.2)) := by
        unfold sumS
        rw [he, hf]
      obtain ⟨n, rfl⟩ := ints_at he
      obtain ⟨n2, rfl⟩ := ints_at hf
      obtain ⟨b, rfl, hS⟩ := sp_ref (hs.ex e1)
      obtain ⟨c, rfl, hT⟩ := sp_ref (ht.ex e1)
      refine q_asgT (ev_var rfl H1 (Ex.refl H1) _ fun H3 e3 => gt3 (ex_t e3 hS) ?_)
      refine q_asgT (ev_var rfl H3 (Ex.refl H3) _ fun H4 e4 => gt3 (ex_t (e3.trans e4) hT) ?_)
      have x4 := e1.trans (e3.trans e4)
      refine q_when (b := isS nm "subtract") (et_S (ev_var rfl) ev_c) (fun h5 H5 e5 => ?_) fun h5 H5 e5 => ?_
      · refine s_retS (K := K) (es_is (es_tup ev_c (ev_op (ev_var rfl) (ev_var rfl) rv_I0) (ev_op (ev_var rfl) (ev_var rfl) rv_I0) (int_ok (by omega) _)) ?_) fun v H6 e6 h6 => q v H6 (x4.trans (e5.trans e6)) h6
        rw [hval, if_pos h5]
      · refine s_retS (K := K) (es_is (es_tup ev_c (ev_op (ev_var rfl) (ev_var rfl) rv_I0) (ev_op (ev_var rfl) (ev_var rfl) rv_I0) (int_ok (by omega) _)) ?_) fun v H6 e6 h6 => q v H6 (x4.trans (e5.trans e6)) h6
        rw [hval, if_neg (by rw [h5]; decide)]
theorem ok__either_span (D : Dn K mg "_either_span" s__either_span ["first", "second"]) (c_before : C8.Cal P w K mg base 3 "before" (sp_before K) []) (g_ANY : ∃ u, mg "ANY" = some u ∧ RelV (.str ("any")) u) :
    C8.Cal P w K mg base 4 "_either_span" (sp__either_span K) [] := by
  refine cal_of D sc__either_span (fun vs H Q E h => ?_) (fun f cdv A outer s H vs Q E hr h => ?_)
  · obtain ⟨_, _, _, _, rfl, _⟩ := h
    rfl
  refine ⟨_, (pss_cons (ps_if (PW.pt (pw_or (pt_cmpR (op_eqD (hu64 hr)) (pv 0) (C8.pe_gc rfl g_ANY) (nomark _)) (pw_or1 (pt_cmpR (op_eqD (hu64 hr)) (pv 1) (C8.pe_gc rfl g_ANY) (nomark _)))))
      (pss_one (ps_ret (C8.pe_gc rfl g_ANY)))
      pss_nil)
    (pss_cons (ps_set (i := 2) sc__either_span.nd rfl (.inl rfl) (pe_or (pe_ix ix_tup (pv 0) pe_int (fun _ _ => rfl)) (pe_one (pe_ix ix_tup (pv 1) pe_int (fun _ _ => rfl)))))
    (pss_cons (ps_if (pt_cmpR op_isN (pe_ix ix_tup (pv 0) pe_int (fun _ _ => rfl)) pe_non (nomark _))
      (pss_one (ps_ret (pe_tup (pa_cons (pv 2) (pa_cons (pe_ix ix_tup (pv 1) pe_int (fun _ _ => rfl)) (pa_cons (pe_ix ix_tup (pv 1) pe_int (fun _ _ => rfl)) pa_nil))))))
      pss_nil)
    (pss_cons (ps_if (pt_cmpR op_isN (pe_ix ix_tup (pv 1) pe_int (fun _ _ => rfl)) pe_non (nomark _))
      (pss_one (ps_ret (pe_tup (pa_cons (pv 2) (pa_cons (pe_ix ix_tup (pv 0) pe_int (fun _ _ => rfl)) (pa_cons (pe_ix ix_tup (pv 0) pe_int (fun _ _ => rfl)) pa_nil))))))
      pss_nil)
    (pss_cons (ps_set (i := 3) sc__either_span.nd rfl (.inl rfl) (pe_ifExp (pt_val (C8.pe_c c_before hr (by decide) (by rfl) (pa_cons (pe_ix ix_tup (pv 1) pe_int (fun _ _ => rfl)) (pa_cons (pe_ix ix_tup (pv 0) pe_int (fun _ _ => rfl)) pa_nil)))) (pe_ix ix_tup (pv 1) pe_int (fun _ _ => rfl)) (pe_ix ix_tup (pv 0) pe_int (fun _ _ => rfl))))
    (pss_cons (ps_set (i := 4) sc__either_span.nd rfl (.inl rfl) (pe_ifExp (pt_val (C8.pe_c c_before hr (by decide) (by rfl) (pa_cons (pe_ix ix_tup (pv 0) pe_int (fun _ _ => rfl)) (pa_cons (pe_ix ix_tup (pv 1) pe_int (fun _ _ => rfl)) pa_nil)))) (pe_ix ix_tup (pv 1) pe_int (fun _ _ => rfl)) (pe_ix ix_tup (pv 0) pe_int (fun _ _ => rfl))))
    (pss_one (ps_ret (pe_tup (pa_cons (pv 2) (pa_cons (pv 3) (pa_cons (pv 4) pa_nil)))))))))))), ?_⟩
  obtain ⟨v, u, s, t, rfl, hs, ht, q⟩ := h
  refine q_when (b := s.isAny || t.isAny) (et_or (et_test (ev_isAny (es_var rfl hs) ev_c hs.2)) fun _ => et_test (ev_isAny (es_var rfl ht) ev_c ht.2)) (fun hb2 H2 e2 => ?_) fun hb2 H2 e2 => ?_
  · refine s_retS (K := K) (s := eitS s t) (es_is (es_any ev_c) ?_) fun v H3 e3 h3 => q v H3 (e2.trans e3) h3
    cases s with
    | any => rfl
    | sp _ _ _ => cases t with
      | any => rfl
      | sp _ _ _ => cases hb2
  cases s with
  | any => cases hb2
  | sp n lo hi => cases t with
    | any => exact absurd hb2 (show ¬ (false || true) = false by decide)
    | sp m l2 h2 =>
      have ho := eit_ok hs.2 ht.2
      obtain ⟨b, rfl, hS⟩ := sp_ref (hs.ex e2)
      obtain ⟨c, rfl, hT⟩ := sp_ref (ht.ex e2)
      obtain ⟨o1, o2, o12⟩ := hs.2
      obtain ⟨o3, o4, o34⟩ := ht.2
      refine q_asg (v := .bl (n || m)) (ev_orV (ev_ix (i := 0) (ev_var rfl) hS ev_c rfl) fun _ => ev_ix (i := 0) (ev_var rfl) hT ev_c rfl) fun H3 e3 => ?_
      have hS3 := ex_t e3 hS
      have hT3 := ex_t e3 hT
      refine q_when (b := decide (lo = .non)) (et_test (ev_op (ev_ix (i := 1) (ev_var rfl) hS3 ev_c rfl) ev_c rv_isN)) (fun h5 H4 e4 => ?_) fun h5 H4 e4 => ?_
      · refine s_retS (K := K) (es_is (es_tup (ev_var rfl) (ev_ix (i := 1) (ev_var rfl) (ex_t e4 hT3) ev_c rfl) (ev_ix (i := 2) (ev_var rfl) (ex_t e4 hT3) ev_c rfl) ⟨o3, o4, o34⟩) ?_) fun v H5 e5 h6 => q v H5 (e2.trans (e3.trans (e4.trans e5))) h6
        show _ = (if lo = .non then _ else _)
        rw [if_pos (of_decide_eq_true h5)]
      refine q_when (b := decide (l2 = .non)) (et_test (ev_op (ev_ix (i := 1) (ev_var rfl) (ex_t e4 hT3) ev_c rfl) ev_c rv_isN)) (fun h6 H5 e5 => ?_) fun h6 H5 e5 => ?_
      · refine s_retS (K := K) (es_is (es_tup (ev_var rfl) (ev_ix (i := 1) (ev_var rfl) (ex_t (e4.trans e5) hS3) ev_c rfl) (ev_ix (i := 2) (ev_var rfl) (ex_t (e4.trans e5) hS3) ev_c rfl) ⟨o1, o2, o12⟩) ?_) fun v H6 e6 h7 => q v H6 (e2.trans (e3.trans (e4.trans (e5.trans e6)))) h7
        show _ = (if lo = .non then _ else if l2 = .non then _ else _)
        rw [if_neg (of_decide_eq_false h5), if_pos (of_decide_eq_true h6)]
      have hval : eitS (.sp n lo hi) (.sp m l2 h2) = .sp (n || m) (if vlt l2 lo = true then l2 else lo) (if vlt hi h2 = true then h2 else hi) := by
        show (if lo = .non then _ else if l2 = .non then _ else _) = _
        rw [if_neg (of_decide_eq_false h5), if_neg (of_decide_eq_false h6)]
      rw [hval] at ho
      have s1 : ∀ {σ : L2.St} {H0 : Hp}, Ex H3 H0 → σ[0]? = some (some (.ref b)) → (∀ (i : Nat) (x : V), ([V.bl n, lo, hi] : List V)[i]? = some x → Ev (tOp (rIxT K) (tVar 0) (tC (.int (i : Int)))) σ H0 x) := fun e h i x hx => ev_ix (ev_var h) (ex_t e hS3) ev_c hx
      have s2 : ∀ {σ : L2.St} {H0 : Hp}, Ex H3 H0 → σ[1]? = some (some (.ref c)) → (∀ (i : Nat) (x : V), ([V.bl m, l2, h2] : List V)[i]? = some x → Ev (tOp (rIxT K) (tVar 1) (tC (.int (i : Int)))) σ H0 x) := fun e h i x hx => ev_ix (ev_var h) (ex_t e hT3) ev_c hx
      have x5 := e4.trans e5
      refine q_asg (v := if vlt l2 lo = true then l2 else lo) (ev_if (b := vlt l2 lo) (et_B (ec_before (s2 x5 rfl 1 _ rfl) (s1 x5 rfl 1 _ rfl) o3 o1)) (fun hd => ev_is (s2 x5 rfl 1 _ rfl) (by rw [if_pos hd])) fun hd => ev_is (s1 x5 rfl 1 _ rfl) (by rw [if_neg (by rw [hd]; decide)])) fun H6 e6 => ?_
      have x6 := x5.trans e6
      refine q_asg (v := if vlt hi h2 = true then h2 else hi) (ev_if (b := vlt hi h2) (et_B (ec_before (s1 x6 rfl 2 _ rfl) (s2 x6 rfl 2 _ rfl) o2 o4)) (fun hd => ev_is (s2 x6 rfl 2 _ rfl) (by rw [if_pos hd])) fun hd => ev_is (s1 x6 rfl 2 _ rfl) (by rw [if_neg (by rw [hd]; decide)])) fun H7 e7 => ?_
      exact s_retS (K := K) (es_is (es_tup (ev_var rfl) (ev_var rfl) (ev_var rfl) ho) hval.symm) fun v H8 e8 h8 => q v H8 (e2.trans (e3.trans (x6.trans (e7.trans e8)))) h8
theorem ok__binary_span (D : Dn K mg "_binary_span" s__binary_span ["name", "first", "second"]) (c__and_span : C8.Cal P w K mg base 5 "_and_span" (sp__and_span K) []) (c__comparison_span : C8.Cal P w K mg base 4 "_comparison_span" (sp__comparison_span K) []) (c__either_span : C8.Cal P w K mg base 4 "_either_span" (sp__either_span K) []) (c__or_span : C8.Cal P w K mg base 5 "_or_span" (sp__or_span K) []) (c__sum_span : C8.Cal P w K mg base 3 "_sum_span" (sp__sum_span K) []) (g_ANY : ∃ u, mg "ANY" = some u ∧ RelV (.str ("any")) u) :
    C8.Cal P w K mg base 6 "_binary_span" (sp__binary_span K) [] := by
  refine cal_of D sc__binary_span (fun vs H Q E h => ?_) (fun f cdv A outer s H vs Q E hr h => ?_)
  · obtain ⟨_, _, _, _, _, rfl, _⟩ := h
    rfl
  refine ⟨_, (pss_cons (ps_if (pt_cmpR op_eq (pv 0) pe_str (nomark _))
      (pss_one (ps_ret (C8.pe_c c__and_span hr (by decide) (by rfl) (pa_cons (pv 1) (pa_cons (pv 2) pa_nil)))))
      pss_nil)
    (pss_cons (ps_if (pt_cmpR op_eq (pv 0) pe_str (nomark _))
      (pss_one (ps_ret (C8.pe_c c__or_span hr (by decide) (by rfl) (pa_cons (pv 1) (pa_cons (pv 2) pa_nil)))))
      pss_nil)
    (pss_cons (ps_if (pt_cmpR op_in_seq (pv 0) (pe_tup (pa_cons pe_str (pa_cons pe_str (pa_cons pe_str pa_nil)))) (by with_unfolding_all rfl))
      (pss_one (ps_ret (C8.pe_c c__comparison_span hr (by decide) (by rfl) (pa_cons (pv 0) (pa_cons (pv 1) (pa_cons (pv 2) pa_nil))))))
      pss_nil)
    (pss_cons (ps_if (pt_cmpR op_in_seq (pv 0) (pe_tup (pa_cons pe_str (pa_cons pe_str (pa_cons pe_str pa_nil)))) (by with_unfolding_all rfl))
      (pss_one (ps_ret (C8.pe_c c__sum_span hr (by decide) (by rfl) (pa_cons (pv 0) (pa_cons (pv 1) (pa_cons (pv 2) pa_nil))))))
      pss_nil)
    (pss_one (ps_ret (pe_ifExp (pt_cmpR op_eq (pv 0) pe_str (nomark _)) (C8.pe_c c__either_span hr (by decide) (by rfl) (pa_cons (pv 1) (pa_cons (pv 2) pa_nil))) (C8.pe_gc rfl g_ANY)))))))), ?_⟩
  obtain ⟨nm, v, u, s, t, rfl, _, hs, ht, q⟩ := h
  refine q_when (b := isS nm "and") (et_S (ev_var rfl) ev_c) (fun hb H1 e1 => ?_) fun h1 H1 e1 => ?_
  · refine s_retS (K := K) (s := binS nm s t) (es_is (es_callT (f := andS) (es_var rfl (hs.ex e1)) (es_var rfl (ht.ex e1))) ?_) fun v H2 e2 h2 => q v H2 (e1.trans e2) h2
    unfold binS
    rw [if_pos hb]
  refine q_when (b := isS nm "or") (et_S (ev_var rfl) ev_c) (fun hb H2 e2 => ?_) fun h2 H2 e2 => ?_
  · refine s_retS (K := K) (s := binS nm s t) (es_is (es_callT (f := orS) (es_var rfl (hs.ex (e1.trans e2))) (es_var rfl (ht.ex (e1.trans e2)))) ?_) fun v H3 e3 h3 => q v H3 (e1.trans (e2.trans e3)) h3
    unfold binS
    rw [if_neg (by rw [h1]; decide), if_pos hb]
  have x2 := e1.trans e2
  refine q_when (b := isS nm "equal" || isS nm "less" || isS nm "at most") (et_in (K := K) (neg := false) (xs := [.str "equal", .str "less", .str "at most"]) (ev_var rfl) (eu_lits (ea_cons ev_c (ea_cons ev_c (ea_cons ev_c ea_nil))) (by decide)) rfl ?_) (fun hb H3 e3 => ?_) fun h3 H3 e3 => ?_
  · rw [inV_cons, inV_cons, inV_cons]
    show (_ || (_ || (_ || false))) = _
    rw [Bool.or_false, Bool.or_assoc]
  · refine s_retS (K := K) (s := binS nm s t) (es_is (es_callNT (f := cmpS) (g := anyN) True.intro (ev_var rfl) (es_var rfl (hs.ex (x2.trans e3))) (es_var rfl (ht.ex (x2.trans e3)))) ?_) fun v H4 e4 h4 => q v H4 (x2.trans (e3.trans e4)) h4
    unfold binS
    rw [if_neg (by rw [h1]; decide), if_neg (by rw [h2]; decide), if_pos hb]
  have x3 := x2.trans e3
  refine q_when (b := isS nm "add" || isS nm "add days" || isS nm "subtract") (et_in (K := K) (neg := false) (xs := [.str "add", .str "add days", .str "subtract"]) (ev_var rfl) (eu_lits (ea_cons ev_c (ea_cons ev_c (ea_cons ev_c ea_nil))) (by decide)) rfl ?_) (fun hb H4 e4 => ?_) fun h4 H4 e4 => ?_
  · rw [inV_cons, inV_cons, inV_cons]
    show (_ || (_ || (_ || false))) = _
    rw [Bool.or_false, Bool.or_assoc]
  · refine s_retS (K := K) (s := binS nm s t) (es_is (es_callNT (f := sumS) (g := anyN) True.intro (ev_var rfl) (es_var rfl (hs.ex (x3.trans e4))) (es_var rfl (ht.ex (x3.trans e4)))) ?_) fun v H5 e5 h5 => q v H5 (x3.trans (e4.trans e5)) h5
    unfold binS
    rw [if_neg (by rw [h1]; decide), if_neg (by rw [h2]; decide), if_neg (by rw [h3]; decide), if_pos hb]
  have x4 := x3.trans e4
  refine s_retS (K := K) (s := binS nm s t) (es_if (b := isS nm "coalesce") (et_S (ev_var rfl) ev_c) (fun hb => es_is (es_callT (f := eitS) (es_var rfl (hs.ex x4)) (es_var rfl (ht.ex x4))) ?_) fun hb => es_is (es_any ev_c) ?_) fun v H5 e5 h5 => q v H5 (x4.trans e5) h5
  · unfold binS
    rw [if_neg (by rw [h1]; decide), if_neg (by rw [h2]; decide), if_neg (by rw [h3]; decide), if_neg (by rw [h4]; decide), if_pos hb]
  · unfold binS
    rw [if_neg (by rw [h1]; decide), if_neg (by rw [h2]; decide), if_neg (by rw [h3]; decide), if_neg (by rw [h4]; decide), if_neg (by rw [hb]; decide)]
end
theorem pi_listK {X : L2.Cx} {K : PySem.W.Frag} {tg e : Expr} {te : TE} (h : X.K = K) (he : PE X e te) : PI X tg e (iList K te) := h ▸ pi_list he
def RowAt (H : Hp) (p : Addr) (xs : List V) : Prop := H p = some (.lst xs)
def Mn {α : Type} (R : Hp → Addr → α → Prop) : Prop := ∀ H H' q l, Ex H H' → R H q l → R H' q l
theorem RowAt.mn : Mn RowAt := fun H H' q l e h => e _ _ h
theorem Lst2.mn {α : Type} {R : Hp → Addr → α → Prop} (hm : Mn R) : Mn (Lst2 R) := fun H H' q l e h => h.mono e fun q l h => hm _ _ _ _ e h
/-- what is new since H0 -/
def nu (H0 H : Hp) : Hp := fun a => match H0 a with
  | none => H a
  | some _ => none
theorem nu_le {H0 H : Hp} : Ex (nu H0 H) H := fun a o h => by
  unfold nu at h
  split at h
  · exact h
  · cases h
theorem nu_mono {H0 H1 H2 : Hp} (e : Ex H1 H2) : Ex (nu H0 H1) (nu H0 H2) := fun a o h => by
  unfold nu at h ⊢
  cases z : H0 a with
  | none => rw [z] at h; exact e a o h
  | some u => rw [z] at h; cases h
theorem nu_back {H0 H1 H : Hp} (e : Ex H0 H1) : Ex (nu H1 H) (nu H0 H) := fun a o h => by
  unfold nu at h ⊢
  cases z : H1 a with
  | none => rw [z] at h; rw [fresh_back e z]; exact h
  | some u => rw [z] at h; cases h
theorem nu_at {H0 H : Hp} {p : Addr} {o : HO} (h0 : H0 p = none) (h : H p = some o) : nu H0 H p = some o := by
  unfold nu
  rw [h0]
  exact h
theorem nu_wo2 {H0 H1 H : Hp} {D : Addr} {o : HO} (h : H1 D = some o) (e : Ex H0 H1) : Ex (nu H1 H) (wo D (nu H0 H)) := fun a u ha => by
  have hn : a ≠ D := fun z => by
    unfold nu at ha
    rw [z, h] at ha
    cases ha
  rw [wo_ne hn]
  exact nu_back e a u ha
theorem wo_nu_upd {H0 H : Hp} {D : Addr} {o : HO} : wo D (nu H0 (upd H D o)) = wo D (nu H0 H) := by
  funext a
  by_cases h : a = D
  · rw [h, wo_self, wo_self]
  · rw [wo_ne h, wo_ne h]
    unfold nu
    rw [upd_ne h]
def EvRn (R : Hp → Addr → Prop) (te : TE) (σ : L2.St) (H : Hp) : Prop := ∀ H1, Ex H H1 → ∀ Q : VK, (∀ p H2, H1 p = none → Ex H1 H2 → R (nu H1 H2) p → Q (.ref p) H2) → te σ H1 Q
def EvRo (R : Hp → Addr → Prop) (te : TE) (σ : L2.St) (H : Hp) : Prop := ∀ H1, Ex H H1 → ∀ Q : VK, (∀ p H2, H1 p = none → Ex H1 H2 → R H2 p → Q (.ref p) H2) → te σ H1 Q
/-- a new list, the items' words stand beside it -/
def Lst3 {α : Type} (R : Hp → Addr → α → Prop) (H : Hp) (p : Addr) (L : List α) : Prop := ∃ qs, H p = some (.lst (qs.map V.ref)) ∧ Al2 R (wo p H) qs L
theorem Lst3.two {α : Type} {R : Hp → Addr → α → Prop} (hm : Mn R) {H : Hp} {p : Addr} {L : List α} (h : Lst3 R H p L) : Lst2 R H p L := by
  obtain ⟨qs, h1, h2⟩ := h
  exact ⟨qs, h1, h2.mono fun q l _ => hm _ _ _ _ (wo_le _ _)⟩
section
variable {K : PySem.W.Frag} {σ : L2.St} {H : Hp} {ta tb te tl : TE} {α : Type} {R : Hp → Addr → α → Prop} {D : Ends} {tz : TS}
theorem q_asgR {i : Nat} {R : Hp → Addr → Prop} (h : EvRn R te σ H) (k : ∀ p H1, H p = none → Ex H H1 → R (nu H H1) p → tz D (σ.set i (some (.ref p))) H1) : tSeq (tAsg te (gName i)) tz D σ H := h H (Ex.refl H) _ k
theorem s_retO {R : Hp → Addr → Prop} (h : EvRo R te σ H) (k : ∀ p H1, H p = none → Ex H H1 → R H1 p → D.rt (.ref p) H1) : tRet te D σ H := h H (Ex.refl H) _ k
end
section
variable {K : PySem.W.Frag} {σ : L2.St} {H : Hp} {p : Addr} {te tn : TE} {R : V → Prop}
/-- [what is drawn for k in range(n)] -/
theorem e1_lcE {j : Nat} {vs : List Nat} {n : Nat} (hn : Ev tn σ (wo p H) (.int (n : Int))) (hm : n ≤ 10000) (hw : ∀ x, wipe ((wipe σ vs).set j (some x)) vs = wipe σ vs)
    (he : ∀ i : Nat, EvD1 te ((wipe σ vs).set j (some (.int (i : Int)))) p H R) : EvLD1 (tLc (iRng1 (tCons tn tNil)) (gName j) tYes te vs) σ p H (fun xs => xs.length = n ∧ ∀ x ∈ xs, R x) := fun H0 e d Q q =>
  hn H0 e _ fun H1 e1 => by
    have d1 := d.ex e1
    refine ⟨(n : Int), rfl, by omega, by omega, fun Dl hD => ?_⟩
    have hpd : p ≠ Dl := dr_ne d1 hD
    refine lc_range (lo := 0) (n := ((n : Int)).toNat) (fun i H' => Ex (wo p H1) H' ∧ Dr p H' ∧ ∃ acc, H' Dl = some (.lst acc) ∧ acc.length = i ∧ ∀ x ∈ acc, R x) ⟨Ex.mut (wo_le p H1) (by rw [wo_ne (Ne.symm hpd)]; exact hD), d1.upd hpd, [], upd_same, rfl, fun x hx => by cases hx⟩ (fun i H' hi pv => ?_) (fun H' pv => ?_)
    · obtain ⟨p1, p2, acc, p3, p4, p5⟩ := pv
      have e0 : (0 : Int) + (i : Int) = (i : Int) := Int.zero_add _
      show wipe ((wipe σ vs).set j (some (.int ((0 : Int) + (i : Int))))) vs = wipe σ vs ∧ te ((wipe σ vs).set j (some (.int ((0 : Int) + (i : Int))))) H' fun y H4 => ∃ acc, H4 Dl = some (.lst acc) ∧ acc.length < sizeLine ∧ _
      rw [e0]
      refine ⟨hw _, he i H' (wx_trans e (wx_trans (wx_of e1) p1)) p2 _ fun y H4 hy e4 d4 => ?_⟩
      refine ⟨acc, e4 Dl _ (by rw [wo_ne (Ne.symm hpd)]; exact p3), sz_lt (by omega), Ex.mut (wx_trans p1 e4) (by rw [wo_ne (Ne.symm hpd)]; exact hD), d4.upd hpd, acc ++ [y], upd_same, by rw [List.length_append, p4]; rfl, fun x hx => ?_⟩
      rcases List.mem_append.mp hx with h | h
      · exact p5 x h
      · rw [List.mem_singleton.mp h]
        exact hy
    · obtain ⟨p1, p2, acc, p3, p4, p5⟩ := pv
      exact q Dl H' acc ⟨by rw [p4]; exact Int.toNat_natCast n, p5⟩ (fresh_back e1 hD) (wx_trans (wx_of e1) p1) p2 p3
theorem q1_asgL {i : Nat} {P : List V → Prop} {D : Ends} {tz : TS} (h : EvLD1 te σ p H P) (d : Dr p H) (k : ∀ l H1 xs, P xs → H l = none → Ex (wo p H) H1 → Dr p H1 → H1 l = some (.lst xs) → tz D (σ.set i (some (.ref l))) H1) : tSeq (tAsg te (gName i)) tz D σ H := h H (wo_le p H) d _ fun l H1 xs hP hl e d1 h1 => k l H1 xs hP hl e d1 h1
end
theorem given_filter (xs : List V) (f : V → Bool) : (given xs.length (fun i => f (xs.getD i .non)) fun i => xs.getD i .non) = xs.filter f := by
  unfold given
  have h : ∀ (n : Nat), n ≤ xs.length → (((List.range n).filter fun i => f (xs.getD i .non)).map fun i => xs.getD i .non) = (xs.take n).filter f := by
    intro n
    induction n with
    | zero => intro _; rfl
    | succ n ih =>
      intro hn
      have hx : xs[n]? = some xs[n] := List.getElem?_eq_getElem (by omega)
      rw [List.range_succ, List.filter_append, List.map_append, ih (by omega), List.take_add_one, hx, List.filter_append]
      show _ ++ (([n].filter fun i => f (xs.getD i .non)).map _) = _ ++ [xs[n]].filter f
      have hg : xs.getD n .non = xs[n] := by rw [List.getD_eq_getElem?_getD, hx]; rfl
      rw [List.filter_cons, List.filter_cons, hg]
      cases f xs[n]
      · rfl
      · show _ ++ [xs.getD n .non] = _ ++ [xs[n]]
        rw [hg]
  have := h xs.length (Nat.le_refl _)
  rw [List.take_length] at this
  exact this
theorem getD_is {xs : List V} {i : Nat} {x : V} (hi : xs[i]? = some x) : xs.getD i .non = x := by rw [List.getD_eq_getElem?_getD, hi]; rfl
structure Zn where
  many : Nat
  nul : Nat
  lo : V
  hi : V
def znF (m n l g : V) : List (Str × V) := putF "greatest" g (putF "least" l (putF "nulls" n (putF "many" m [])))
section
variable {m n l g : V}
theorem znF_n : (znF m n l g).lookup ("nulls" : Str) = some n := by
  unfold znF
  rw [lookup_putF, if_neg (by decide +kernel), lookup_putF, if_neg (by decide +kernel), lookup_putF, if_pos rfl]
theorem znF_l : (znF m n l g).lookup ("least" : Str) = some l := by
  unfold znF
  rw [lookup_putF, if_neg (by decide +kernel), lookup_putF, if_pos rfl]
theorem znF_g : (znF m n l g).lookup ("greatest" : Str) = some g := by
  unfold znF
  rw [lookup_putF, if_pos rfl]
end
theorem putF_le (f : Str) (v : V) : ∀ fs : List (Str × V), (putF f v fs).length ≤ fs.length + 1
  | [] => Nat.le_refl _
  | (g, x) :: r => by
    unfold putF
    split
    · show r.length + 1 ≤ r.length + 1 + 1
      omega
    · have := putF_le f v r
      show (putF f v r).length + 1 ≤ r.length + 1 + 1
      omega
def ZnAt (K : PySem.W.Frag) (H : Hp) (p : Addr) (z : Zn) : Prop := ∃ dx, H p = some (.ins (clsAt K "Zone") dx (znF (.int (z.many : Int)) (.int (z.nul : Int)) z.lo z.hi))
theorem ZnAt.mn (K : PySem.W.Frag) : Mn (ZnAt K) := fun H H' q l e ⟨dx, h⟩ => ⟨dx, e _ _ h⟩
def pres (xs : List V) : List V := xs.filter fun x => !decide (x = .non)
def endV (mx : Bool) (ys : List V) : V := if ys.isEmpty = true then .non else bestV mx ys
def znOf (xs : List V) : Zn := ⟨xs.length, xs.length - (pres xs).length, endV false (pres xs), endV true (pres xs)⟩
def sp_Zone____init__ (K : PySem.W.Frag) : Sp := fun vs H Q _ => ∃ (p dx : Addr) (m n l g : V), vs = [.ref p, m, n, l, g] ∧ H p = some (.ins (clsAt K "Zone") dx []) ∧ ∀ H', Ex (wo p H) H' → H' p = some (.ins (clsAt K "Zone") dx (znF m n l g)) → Q .non H'
def SpO (R : Hp → Addr → Prop) (H : Hp) (Q : VK) : Prop := ∀ p H', H p = none → Ex H H' → R H' p → Q (.ref p) H'
def sp_zone_of (K : PySem.W.Frag) : Sp := fun vs H Q _ => ∃ (a : Addr) (xs : List V), vs = [.ref a] ∧ SqL K H a xs ∧ (∀ x ∈ xs, Ok x) ∧ xs.length ≤ 1000 ∧ SpO (fun H' p => ZnAt K H' p (znOf xs)) H Q
theorem best_in (mx : Bool) {xs : List V} (h : xs ≠ []) : bestV mx xs ∈ xs := by
  have hp := List.length_pos_iff.mpr h
  have hl := best_lt2 (bt := btR mx xs) hp
  unfold bestV
  rw [List.getD_eq_getElem?_getD, List.getElem?_eq_getElem hl]
  exact List.getElem_mem hl
theorem best_min {xs : List V} (ho : ∀ x ∈ xs, Ok x) : ∀ j, j < xs.length → ∀ i, i ≤ j → vlt (xs.getD i .non) (xs.getD (PySem.argBest (btR false xs) j) .non) = false := by
  have okD : ∀ j, Ok (xs.getD j .non) := fun j => by
    rw [List.getD_eq_getElem?_getD]
    cases e : xs[j]? with
    | none => exact .non
    | some x => exact ho x (List.mem_of_getElem? e)
  intro j
  induction j with
  | zero =>
    intro _ i hi
    have : i = 0 := by omega
    subst this
    exact vlt_irr (okD 0)
  | succ j ih =>
    intro hj i hi
    have ih := ih (by omega)
    cases hb : btR false xs (j + 1) (PySem.argBest (btR false xs) j) with
    | true =>
      have e : PySem.argBest (btR false xs) (j + 1) = j + 1 := by simp only [PySem.argBest, hb, if_true]
      rw [e]
      have hlt : vlt (xs.getD (j + 1) .non) (xs.getD (PySem.argBest (btR false xs) j) .non) = true := hb
      rcases Nat.lt_or_ge i (j + 1) with z | z
      · have h1 := ih i (by omega)
        exact vlt_no (okD _) (okD _) (okD _) h1 (vlt_asym (okD _) (okD _) hlt)
      · have : i = j + 1 := by omega
        subst this
        exact vlt_irr (okD _)
    | false =>
      have e : PySem.argBest (btR false xs) (j + 1) = PySem.argBest (btR false xs) j := by simp only [PySem.argBest, hb, Bool.false_eq_true, if_false]
      rw [e]
      rcases Nat.lt_or_ge i (j + 1) with z | z
      · exact ih i (by omega)
      · have : i = j + 1 := by omega
        subst this
        exact hb
theorem best_max {xs : List V} (ho : ∀ x ∈ xs, Ok x) : ∀ j, j < xs.length → ∀ i, i ≤ j → vlt (xs.getD (PySem.argBest (btR true xs) j) .non) (xs.getD i .non) = false := by
  have okD : ∀ j, Ok (xs.getD j .non) := fun j => by
    rw [List.getD_eq_getElem?_getD]
    cases e : xs[j]? with
    | none => exact .non
    | some x => exact ho x (List.mem_of_getElem? e)
  intro j
  induction j with
  | zero =>
    intro _ i hi
    have : i = 0 := by omega
    subst this
    exact vlt_irr (okD 0)
  | succ j ih =>
    intro hj i hi
    have ih := ih (by omega)
    cases hb : btR true xs (j + 1) (PySem.argBest (btR true xs) j) with
    | true =>
      have e : PySem.argBest (btR true xs) (j + 1) = j + 1 := by simp only [PySem.argBest, hb, if_true]
      rw [e]
      have hlt : vlt (xs.getD (PySem.argBest (btR true xs) j) .non) (xs.getD (j + 1) .non) = true := hb
      rcases Nat.lt_or_ge i (j + 1) with z | z
      · have h1 := ih i (by omega)
        exact vlt_no (okD _) (okD _) (okD _) (vlt_asym (okD _) (okD _) hlt) h1
      · have : i = j + 1 := by omega
        subst this
        exact vlt_irr (okD _)
    | false =>
      have e : PySem.argBest (btR true xs) (j + 1) = PySem.argBest (btR true xs) j := by simp only [PySem.argBest, hb, Bool.false_eq_true, if_false]
      rw [e]
      rcases Nat.lt_or_ge i (j + 1) with z | z
      · exact ih i (by omega)
      · have : i = j + 1 := by omega
        subst this
        exact hb
/-- one of them, none below (none above) -/
def IsEnd (mx : Bool) (xs : List V) (m : V) : Prop := m ∈ xs ∧ ∀ y ∈ xs, (if mx = true then vlt m y else vlt y m) = false
theorem best_end (mx : Bool) {xs : List V} (ho : ∀ x ∈ xs, Ok x) (h : xs ≠ []) : IsEnd mx xs (bestV mx xs) := by
  refine ⟨best_in mx h, fun y hy => ?_⟩
  have hp := List.length_pos_iff.mpr h
  obtain ⟨i, hi, rfl⟩ := List.getElem_of_mem hy
  have hg : xs.getD i .non = xs[i] := getD_is (List.getElem?_eq_getElem hi)
  rw [← hg]
  cases mx with
  | true => exact best_max ho (xs.length - 1) (by omega) i (by omega)
  | false => exact best_min ho (xs.length - 1) (by omega) i (by omega)
theorem ends_ok {xs : List V} (ho : ∀ x ∈ xs, Ok x) (hn : ∀ x ∈ xs, x ≠ .non) (b : Bool) : SOk (.sp b (endV false xs) (endV true xs)) := by
  unfold endV
  cases xs with
  | nil => exact ⟨.non, .non, ord_non⟩
  | cons x r =>
    have hne : (x :: r) ≠ [] := fun z => nomatch z
    rw [if_neg (show ¬ (x :: r).isEmpty = true from fun z => nomatch z), if_neg (show ¬ (x :: r).isEmpty = true from fun z => nomatch z)]
    obtain ⟨a1, a2⟩ := best_end false ho hne
    obtain ⟨b1, b2⟩ := best_end true ho hne
    exact ⟨ho _ a1, ho _ b1, b2 _ a1, fun z => absurd z (hn _ a1)⟩
section
variable {K : PySem.W.Frag} {σ : L2.St} {H : Hp} {ta tb te tv tl tk td t1 t2 t3 t4 : TE} {D : Ends} {tz : TS} {p C dx a : Addr} {fs : List (Str × V)} {f : Str} {v z : V} {xs : List V} {E : XK}
theorem ev_fld (ha : Ev ta σ H (.ref p)) (hp : H p = some (.ins C dx fs)) (c : Cls K C) (n : NoAttr K C f) (l : fs.lookup f = some v) : Ev (tFld K ta f) σ H v := fun H1 e Q q => ha H1 e _ fun H2 e2 => ⟨p, C, dx, fs, v, rfl, (e.trans e2) _ _ hp, c, n, l, q H2 e2⟩
theorem s_fld (hv : Ev tv σ H v) (ha : ∀ H1, Ex H H1 → Ev ta σ H1 (.ref p)) (hp : H p = some (.ins C dx fs)) (c : Cls K C) (n : NoAttr K C f) (hl : fs.length < 1000) (k : ∀ H1, Ex H H1 → D.nx σ (upd H1 p (.ins C dx (putF f v fs)))) : sFld K ta tv f D σ H :=
  hv H (Ex.refl H) _ fun H1 e1 => ha H1 e1 H1 (Ex.refl H1) _ fun H2 e2 => ⟨p, C, dx, fs, rfl, (e1.trans e2) _ _ hp, c, n, hl, k H2 (e1.trans e2)⟩
theorem q_fld (hv : Ev tv σ H v) (ha : ∀ H1, Ex H H1 → Ev ta σ H1 (.ref p)) (hp : H p = some (.ins C dx fs)) (c : Cls K C) (n : NoAttr K C f) (hl : fs.length < 1000) (k : ∀ H1, Ex H H1 → tz D σ (upd H1 p (.ins C dx (putF f v fs)))) : tSeq (sFld K ta tv f) tz D σ H := s_fld (D := { D with nx := tz D }) hv ha hp c n hl k
theorem ro_zone {z : Zn} (h1 : Ev t1 σ H (.int (z.many : Int))) (h2 : Ev t2 σ H (.int (z.nul : Int))) (h3 : Ev t3 σ H z.lo) (h4 : Ev t4 σ H z.hi) :
    EvRo (fun H p => ZnAt K H p z) (tMake (clsAt K "Zone") (sp_Zone____init__ K) [] C8.E0 (tCons t1 (tCons t2 (tCons t3 (tCons t4 tNil))))) σ H := fun H0 e0 Q q =>
  h1 H0 e0 _ fun H1 e1 => h2 H1 (e0.trans e1) _ fun H2 e2 => h3 H2 ((e0.trans e1).trans e2) _ fun H3 e3 => h4 H3 (((e0.trans e1).trans e2).trans e3) _ fun H4 e4 => fun x dx hx hdx ne => by
    have up : Ex H4 (wo x (upd (upd H4 dx (.own x)) x (.ins (clsAt K "Zone") dx []))) := fun b o hb => by
      have nb : b ≠ x := fun z => by rw [z, hx] at hb; cases hb
      have nd : b ≠ dx := fun z => by rw [z, hdx] at hb; cases hb
      rw [wo_ne nb, upd_ne nb, upd_ne nd]
      exact hb
    have x4 : Ex H0 H4 := ((e1.trans e2).trans e3).trans e4
    exact ⟨x, dx, _, _, _, _, rfl, upd_same, fun H' e' h' => ⟨rfl, q x H' (fresh_back x4 hx) (x4.trans (up.trans e')) ⟨dx, h'⟩⟩⟩
theorem ev_best {P : Program} {w : World} {mg : Str → Option Value} {base : Heap} {lv : Nat} (mx : Bool) {g : Addr} (h : Ev te σ H (.ref a)) (hx : SqL K H a xs) (hk : ∀ H1, Ev tk σ H1 (.ref g)) (hd : ∀ H1, Ev td σ H1 .non) (hH : L2.Held P w K mg base lv g (sp_rank K)) (ho : ∀ x ∈ xs, Ok x) :
    Ev (tCKw (rBestF P w K mg base lv mx) (tCons te tNil) (tCons tk (tCons td tNil))) σ H (endV mx xs) := fun H1 e Q q =>
  h H1 e _ fun H2 e2 => hk H2 H2 (Ex.refl H2) _ fun H3 e3 => hd H3 H3 (Ex.refl H3) _ fun H4 e4 => ⟨a, g, xs, .non, rfl, rfl, ex_l (((e.trans e2).trans e3).trans e4) hx, hH, ho, fun H5 e5 => q H5 (((e2.trans e3).trans e4).trans e5)⟩
end
section
variable {P : Program} {w : World} {K : PySem.W.Frag} {mg : Str → Option Value} {base : Heap}
theorem ok_Zone____init__ (D : MetD K "Zone" "__init__" "Zone.__init__" s_Zone____init__ ["self", "many", "nulls", "least", "greatest"]) (C_Zone : ClsD K mg "Zone" ["many", "nulls", "least", "greatest"]) (I_Zone : OwnI K "Zone") (N_Zone : PySem.W.findIn K (.ref (clsAt K "Zone")) "__eq__" = some (some (.builtin "object.__eq__"))) :
    C8.Mak P w K mg base 1 "Zone" (clsAt K "Zone") (sp_Zone____init__ K) [] := by
  refine mak_of C_Zone D sc_Zone____init__ (fun vs H Q E h => ?_) (fun f cdv A outer s H vs Q E hr h => ?_)
  · obtain ⟨_, _, _, _, _, _, rfl, _⟩ := h
    rfl
  refine ⟨_, (pss_cons (ps_fld (pv 0) (pv 1) rfl)
    (pss_cons (ps_fld (pv 0) (pv 2) rfl)
    (pss_cons (ps_fld (pv 0) (pv 3) rfl)
    (pss_one (ps_fld (pv 0) (pv 4) rfl))))), ?_⟩
  obtain ⟨p, dx, m, n, l, g, rfl, hp, q⟩ := h
  have cl := C_Zone.cl
  have lt1 : ∀ (g : Str) (v : V) (fs : List (Str × V)) (m : Nat), fs.length ≤ m → m < 998 → (putF g v fs).length < 1000 := fun g v fs m h1 h2 => by
    have := putF_le g v fs
    omega
  have le1 : ∀ (g : Str) (v : V) (fs : List (Str × V)) (m : Nat), fs.length ≤ m → (putF g v fs).length ≤ m + 1 := fun g v fs m h1 => by
    have := putF_le g v fs
    omega
  refine q_fld (ev_var rfl) (fun _ _ => ev_var rfl) hp cl C_Zone.na.1 (by decide) fun H1 e1 => ?_
  have xa : Ex (wo p H) (upd H1 p (.ins (clsAt K "Zone") dx (putF "many" m []))) := wx_mut (wx_of e1)
  refine q_fld (ev_var rfl) (fun _ _ => ev_var rfl) upd_same cl C_Zone.na.2.1 (lt1 _ _ _ 0 (Nat.le_refl _) (by decide)) fun H2 e2 => ?_
  have xb : Ex (wo p H) (upd H2 p (.ins (clsAt K "Zone") dx (putF "nulls" n (putF "many" m [])))) := wx_mut (xa.trans e2)
  refine q_fld (ev_var rfl) (fun _ _ => ev_var rfl) upd_same cl C_Zone.na.2.2.1 (lt1 _ _ _ 1 (le1 _ _ _ 0 (Nat.le_refl _)) (by decide)) fun H3 e3 => ?_
  have xc : Ex (wo p H) (upd H3 p (.ins (clsAt K "Zone") dx (putF "least" l (putF "nulls" n (putF "many" m []))))) := wx_mut (xb.trans e3)
  exact s_fld (ev_var rfl) (fun _ _ => ev_var rfl) upd_same cl C_Zone.na.2.2.2.1 (lt1 _ _ _ 2 (le1 _ _ _ 1 (le1 _ _ _ 0 (Nat.le_refl _))) (by decide)) fun H4 e4 => q _ (wx_mut (xc.trans e4)) upd_same
theorem ok_zone_of (D : Dn K mg "zone_of" s_zone_of ["values"]) (c_Zone____init__ : C8.Mak P w K mg base 1 "Zone" (clsAt K "Zone") (sp_Zone____init__ K) []) (c_rank : C8.Cal P w K mg base 2 "rank" (sp_rank K) []) (z_len : mg "len" = none) (z_max : mg "max" = none) (z_min : mg "min" = none) :
    C8.Cal P w K mg base 12 "zone_of" (sp_zone_of K) [] := by
  refine cal_of D sc_zone_of (fun vs H Q E h => ?_) (fun f cdv A outer s H vs Q E hr h => ?_)
  · obtain ⟨_, _, rfl, _⟩ := h
    rfl
  refine ⟨_, (pss_cons (ps_setLc (i := 1) (own := [("value", 4)]) (g := gName 4) rfl sc_zone_of.nd rfl rfl (sw_true rfl rfl rfl (by decide +kernel)) (pi_list (pv 0)) (blkOk_by (N := n_zone_of) (sc := C8.fnScope s_zone_of) (by decide +kernel)) (fun _ _ _ _ _ => pg_name (i := 4) sc_zone_of.nd rfl (Or.inl rfl)) (fun _ _ _ _ _ => (pts_one (pt_cmpR op_notN (pv 4) pe_non (nomark _)))) (fun _ _ _ _ _ => (pv 4)))
    (pss_cons (ps_set (i := 2) sc_zone_of.nd rfl (.inl rfl) (pe_callBK (cr_minF (lv := 8) rfl (hr.mono (by omega))) (by rfl) z_min (by decide +kernel) (pa_cons (pv 1) pa_nil) (pk_cons (C8.pe_gc rfl (gdef c_rank)) (pk_cons pe_non pk_nil))))
    (pss_cons (ps_set (i := 3) sc_zone_of.nd rfl (.inl rfl) (pe_callBK (cr_maxF (lv := 8) rfl (hr.mono (by omega))) (by rfl) z_max (by decide +kernel) (pa_cons (pv 1) pa_nil) (pk_cons (C8.pe_gc rfl (gdef c_rank)) (pk_cons pe_non pk_nil))))
    (pss_one (ps_ret (C8.pe_mk c_Zone____init__ hr (by decide) (by rfl) (pa_cons (pe_callB call_len_seq (by rfl) z_len PySem.boot_len (pa_cons (pv 0) pa_nil)) (pa_cons (pe_op op_sub (pe_callB call_len_seq (by rfl) z_len PySem.boot_len (pa_cons (pv 0) pa_nil)) (pe_callB call_len_seq (by rfl) z_len PySem.boot_len (pa_cons (pv 1) pa_nil))) (pa_cons (pv 2) (pa_cons (pv 3) pa_nil)))))))))), ?_⟩
  obtain ⟨a, xs, rfl, hS, hok, hz, q⟩ := h
  have hH : L2.Held P w K mg base 8 (calA c_rank) (sp_rank K) := held_of c_rank (calA_mg _) (by decide)
  have hpo : ∀ x ∈ pres xs, Ok x := fun x hx => hok x (List.mem_filter.mp hx).1
  have hpl : (pres xs).length ≤ xs.length := List.length_filter_le _ _
  refine q_asgL (xs := pres xs) ?_ fun pp H1 hpp e1 h1 => ?_
  · unfold pres
    rw [← given_filter]
    refine el_lcL _ _ (ev_var rfl) hS (by omega) (fun _ => rfl) (fun i x H1 e1 hi => ?_) (fun i x H1 e1 hi _ => ?_)
    · rw [getD_is hi]
      walk_at "et"
    · rw [getD_is hi]
      exact ev_var rfl
  refine q_asg (v := endV false (pres xs)) (ev_best (lv := 8) false (ev_var rfl) (sq_of h1) (fun _ => ev_c) (fun _ => ev_c) hH hpo) fun H2 e2 => ?_
  refine q_asg (v := endV true (pres xs)) (ev_best (lv := 8) true (ev_var rfl) (sq_of (e2 _ _ h1)) (fun _ => ev_c) (fun _ => ev_c) hH hpo) fun H3 e3 => ?_
  have x3 := e1.trans (e2.trans e3)
  have h3 := (e2.trans e3) _ _ h1
  exact s_retO (ro_zone (z := znOf xs) (ev_len (ev_var rfl) (ex_l x3 hS)) (ev_is (ev_op (ev_len (ev_var rfl) (ex_l x3 hS)) (ev_len (ev_var rfl) (sq_of h3)) rv_I0) (by rw [show ((xs.length : Nat) : Int) - (((pres xs).length : Nat) : Int) = ((xs.length - (pres xs).length : Nat) : Int) by omega]; rfl)) (ev_var rfl) (ev_var rfl)) fun p H' hp e' h' => q p H' (fresh_back x3 hp) (x3.trans e') h'
end
inductive Xp where
  | col (n : Nat)
  | cst (v : V)
  | un (nm : Str) (a : Xp)
  | bin (nm : Str) (a b : Xp)
  | cho (c a b : Xp)
def Xp.d : Xp → PyData
  | .col n => .tuple [.str "column", .int (n : Int)]
  | .cst v => .tuple [.str "constant", vD v]
  | .un nm a => .tuple [.str "unary", .str nm, a.d]
  | .bin nm a b => .tuple [.str "binary", .str nm, a.d, b.d]
  | .cho c a b => .tuple [.str "choice", c.d, a.d, b.d]
def Xp.dep : Xp → Nat
  | .col _ => 1
  | .cst _ => 1
  | .un _ a => a.dep + 1
  | .bin _ a b => max a.dep b.dep + 1
  | .cho c a b => max c.dep (max a.dep b.dep) + 1
inductive XOk : Xp → Prop where
  | col (n : Nat) : XOk (.col n)
  | cst (v : V) (h : DV v) : XOk (.cst v)
  | un (nm : Str) (a : Xp) (ha : XOk a) : XOk (.un nm a)
  | bin (nm : Str) (a b : Xp) (ha : XOk a) (hb : XOk b) : XOk (.bin nm a b)
  | cho (c a b : Xp) (hc : XOk c) (ha : XOk a) (hb : XOk b) : XOk (.cho c a b)
theorem dv_ok {x : V} (h : DV x) : Ok x := by
  cases h with
  | non => exact .non
  | bl b => exact .bl b
  | int i _ => exact .int i
  | str l hl hc => exact .str _ (strOk_S fun c h => signs_ok c (hc c h))
theorem dp_tupD {K : PySem.W.Frag} {H : Hp} {v : V} {ds : List PyData} (h : Dp K H v (.tuple ds)) : ∃ b ys, v = .ref b ∧ SqT K H b ys ∧ DpAll K H ys ds := by
  cases h with
  | tup hS hd => exact ⟨_, _, rfl, hS, hd⟩
theorem dp_strD {K : PySem.W.Frag} {H : Hp} {v : V} {s : Str} (h : Dp K H v (.str s)) : v = .str s := by cases h; rfl
theorem dp_intD {K : PySem.W.Frag} {H : Hp} {v : V} {n : Int} (h : Dp K H v (.int n)) : v = .int n := by cases h; rfl
theorem vD_is {K : PySem.W.Frag} {H : Hp} {v x : V} (h : Ok x) (hd : Dp K H v (vD x)) : v = x := by cases h <;> cases hd <;> rfl
def Xa (K : PySem.W.Frag) (H : Hp) (v : V) (e : Xp) : Prop := Dp K H v e.d ∧ XOk e
theorem Xa.ex {K : PySem.W.Frag} {H H' : Hp} {v : V} {e : Xp} (h : Xa K H v e) (x : Ex H H') : Xa K H' v e := ⟨ex_dp x h.1, h.2⟩
inductive XV (K : PySem.W.Frag) (H : Hp) : Xp → List V → Prop where
  | col (n : Nat) : XV K H (.col n) [.str "column", .int (n : Int)]
  | cst (x : V) (h : DV x) : XV K H (.cst x) [.str "constant", x]
  | un (nm : Str) (a : Xp) (y : V) (h : Xa K H y a) : XV K H (.un nm a) [.str "unary", .str nm, y]
  | bin (nm : Str) (a b : Xp) (y z : V) (h : Xa K H y a) (g : Xa K H z b) : XV K H (.bin nm a b) [.str "binary", .str nm, y, z]
  | cho (c a b : Xp) (x y z : V) (f : Xa K H x c) (h : Xa K H y a) (g : Xa K H z b) : XV K H (.cho c a b) [.str "choice", x, y, z]
theorem xa_at {K : PySem.W.Frag} {H : Hp} {v : V} {e : Xp} (h : Xa K H v e) : ∃ b ys, v = .ref b ∧ SqT K H b ys ∧ XV K H e ys := by
  obtain ⟨hd, ho⟩ := h
  cases ho with
  | col n =>
    obtain ⟨b, ys, e1, hS, hds⟩ := dp_tupD (ds := [.str "column", .int (n : Int)]) hd
    cases hds with
    | cons h1 h2 => cases h2 with
      | cons h3 h4 =>
        cases h4
        cases dp_strD h1
        cases dp_intD h3
        exact ⟨b, _, e1, hS, .col n⟩
  | cst x hv =>
    obtain ⟨b, ys, e1, hS, hds⟩ := dp_tupD (ds := [.str "constant", vD x]) hd
    cases hds with
    | cons h1 h2 => cases h2 with
      | cons h3 h4 =>
        cases h4
        cases dp_strD h1
        cases vD_is (dv_ok hv) h3
        exact ⟨b, _, e1, hS, .cst _ hv⟩
  | un nm a ha =>
    obtain ⟨b, ys, e1, hS, hds⟩ := dp_tupD (ds := [.str "unary", .str nm, a.d]) hd
    cases hds with
    | cons h1 h2 => cases h2 with
      | cons h3 h4 => cases h4 with
        | cons h5 h6 =>
          cases h6
          cases dp_strD h1
          cases dp_strD h3
          exact ⟨b, _, e1, hS, .un nm a _ ⟨h5, ha⟩⟩
  | bin nm a c ha hb =>
    obtain ⟨b, ys, e1, hS, hds⟩ := dp_tupD (ds := [.str "binary", .str nm, a.d, c.d]) hd
    cases hds with
    | cons h1 h2 => cases h2 with
      | cons h3 h4 => cases h4 with
        | cons h5 h6 => cases h6 with
          | cons h7 h8 =>
            cases h8
            cases dp_strD h1
            cases dp_strD h3
            exact ⟨b, _, e1, hS, .bin nm a c _ _ ⟨h5, ha⟩ ⟨h7, hb⟩⟩
  | cho cc a c hc ha hb =>
    obtain ⟨b, ys, e1, hS, hds⟩ := dp_tupD (ds := [.str "choice", cc.d, a.d, c.d]) hd
    cases hds with
    | cons h1 h2 => cases h2 with
      | cons h3 h4 => cases h4 with
        | cons h5 h6 => cases h6 with
          | cons h7 h8 =>
            cases h8
            cases dp_strD h1
            exact ⟨b, _, e1, hS, .cho cc a c _ _ _ ⟨h3, hc⟩ ⟨h5, ha⟩ ⟨h7, hb⟩⟩
def Xp.hd : Xp → Str
  | .col _ => "column"
  | .cst _ => "constant"
  | .un _ _ => "unary"
  | .bin _ _ _ => "binary"
  | .cho _ _ _ => "choice"
theorem XV.hd {K : PySem.W.Frag} {H : Hp} {e : Xp} {ys : List V} (h : XV K H e ys) : ys[0]? = some (.str e.hd) := by cases h <;> rfl
theorem xdep_pos : ∀ e : Xp, 1 ≤ e.dep
  | .col _ => Nat.le_refl _
  | .cst _ => Nat.le_refl _
  | .un _ a => Nat.le_add_left _ _
  | .bin _ a b => Nat.le_add_left _ _
  | .cho _ _ _ => Nat.le_add_left _ _
def znS (z : Zn) : Spn := .sp (decide ((z.nul : Int) > 0)) z.lo z.hi
def colS (zs : List Zn) (n : Nat) : Spn := match zs[n]? with
  | some z => znS z
  | none => .sp true .non .non
def spI (zs : List Zn) : Xp → Spn
  | .col n => colS zs n
  | .cst v => .sp (decide (v = .non)) v v
  | .un nm a => unS nm (spI zs a)
  | .bin nm a b => binS nm (spI zs a) (spI zs b)
  | .cho _ a b => eitS (spI zs a) (spI zs b)
def ZsAt (K : PySem.W.Frag) (H : Hp) (p : Addr) (zs : List Zn) : Prop := Lst2 (ZnAt K) H p zs ∧ (∀ z ∈ zs, SOk (znS z)) ∧ zs.length ≤ 1000
theorem ZsAt.ex {K : PySem.W.Frag} {H H' : Hp} {p : Addr} {zs : List Zn} (h : ZsAt K H p zs) (e : Ex H H') : ZsAt K H' p zs := ⟨Lst2.mn (ZnAt.mn K) _ _ _ _ e h.1, h.2⟩
theorem col_ok {zs : List Zn} (h : ∀ z ∈ zs, SOk (znS z)) (n : Nat) : SOk (colS zs n) := by
  unfold colS
  cases e : zs[n]? with
  | none => exact ⟨.non, .non, ord_non⟩
  | some z => exact h z (List.mem_of_getElem? e)
theorem spI_ok {zs : List Zn} (h : ∀ z ∈ zs, SOk (znS z)) : ∀ {e : Xp}, XOk e → SOk (spI zs e)
  | _, .col n => col_ok h n
  | _, .cst v hv => ⟨dv_ok hv, dv_ok hv, vlt_irr (dv_ok hv), fun h => h⟩
  | _, .un nm a ha => un_ok (spI_ok h ha)
  | _, .bin nm a b ha hb => bin_ok (spI_ok h ha) (spI_ok h hb)
  | _, .cho c a b hc ha hb => eit_ok (spI_ok h ha) (spI_ok h hb)
def sp__column_span (K : PySem.W.Frag) : Sp := fun vs H Q _ => ∃ (n : Nat) (p : Addr) (zs : List Zn), vs = [.int (n : Int), .ref p] ∧ ZsAt K H p zs ∧ ∀ v' H', Ex H H' → SpA K H' v' (colS zs n) → Q v' H'
def spSpan (n : Nat) (K : PySem.W.Frag) : Sp := fun vs H Q _ => ∃ (v : V) (e : Xp) (p : Addr) (zs : List Zn), vs = [v, .ref p] ∧ Xa K H v e ∧ e.dep ≤ n ∧ ZsAt K H p zs ∧ ∀ v' H', Ex H H' → SpA K H' v' (spI zs e) → Q v' H'
def spR_span_of : Nat → PySem.W.Frag → Sp
  | 0, _ => fun _ _ _ _ => False
  | n + 1, K => spSpan (n + 1) K
def sp_span_of (K : PySem.W.Frag) : Sp := spR_span_of 6 K
def sp_may_hold (K : PySem.W.Frag) : Sp := fun vs H Q _ => ∃ (v : V) (e : Xp) (p : Addr) (zs : List Zn), vs = [v, .ref p] ∧ Xa K H v e ∧ e.dep ≤ 6 ∧ ZsAt K H p zs ∧ ∀ H', Ex H H' → Q (.bl (canS (spI zs e) (.bl true))) H'
theorem cal_no {P : Program} {w : World} {K : PySem.W.Frag} {mg : Str → Option Value} {base : Heap} {x : Str} {st : Stmt} {N ps : List Str} {k : Nat} {sp : Sp} (D : Dn K mg x st ps) (S : FnScope N ps (C8.fnScope st)) (no : ∀ vs H Q E, sp vs H Q E → False) : C8.Cal P w K mg base (k + 1) x sp [] :=
  cal_of D S (fun vs H Q E h => (no vs H Q E h).elim) fun f cdv A outer s H vs Q E hr h => (no vs H Q E h).elim
section
variable {K : PySem.W.Frag} {σ : L2.St} {H : Hp} {ta tb : TE} {v : V} {E : XK} {p : Addr} {zs : List Zn} {e : Xp} {n : Nat}
theorem es_col (ha : Ev ta σ H (.int (n : Int))) (hb : Ev tb σ H (.ref p)) (h : ZsAt K H p zs) : EvS K (tCall (sp__column_span K) [] E (tCons ta (tCons tb tNil))) σ H (colS zs n) := fun H1 e1 Q q =>
  ha H1 e1 _ fun H2 e2 => hb H2 (e1.trans e2) _ fun H3 e3 => ⟨n, p, zs, rfl, h.ex ((e1.trans e2).trans e3), fun v' H4 e4 h4 => q v' H4 (e2.trans (e3.trans e4)) h4⟩
theorem es_span (ha : Ev ta σ H v) (hb : Ev tb σ H (.ref p)) (hx : Xa K H v e) (hd : e.dep ≤ n) (h : ZsAt K H p zs) : EvS K (tCall (spSpan n K) [] E (tCons ta (tCons tb tNil))) σ H (spI zs e) := fun H1 e1 Q q =>
  ha H1 e1 _ fun H2 e2 => hb H2 (e1.trans e2) _ fun H3 e3 => ⟨v, e, p, zs, rfl, hx.ex ((e1.trans e2).trans e3), hd, h.ex ((e1.trans e2).trans e3), fun v' H4 e4 h4 => q v' H4 (e2.trans (e3.trans e4)) h4⟩
end
section
variable {P : Program} {w : World} {K : PySem.W.Frag} {mg : Str → Option Value} {base : Heap}
theorem ok__column_span (D : Dn K mg "_column_span" s__column_span ["number", "zones"]) (C_Zone : ClsD K mg "Zone" ["many", "nulls", "least", "greatest"]) (I_Zone : OwnI K "Zone") (N_Zone : PySem.W.findIn K (.ref (clsAt K "Zone")) "__eq__" = some (some (.builtin "object.__eq__"))) (z_len : mg "len" = none) {p__NOTHING : Addr} (g__NOTHING : ∃ u, mg "_NOTHING" = some u ∧ RelV (.ref p__NOTHING) u) (h__NOTHING : ∀ H : Hp, SqT K H p__NOTHING ([.bl true, .non, .non])) :
    C8.Cal P w K mg base 1 "_column_span" (sp__column_span K) [] := by
  refine cal_of D sc__column_span (fun vs H Q E h => ?_) (fun f cdv A outer s H vs Q E hr h => ?_)
  · obtain ⟨_, _, _, rfl, _⟩ := h
    rfl
  refine ⟨_, (pss_cons (ps_if (pt_cmpR op_ge (pv 0) (pe_callB call_len_seq (by rfl) z_len PySem.boot_len (pa_cons (pv 1) pa_nil)) (nomark _))
      (pss_one (ps_ret (C8.pe_gc rfl g__NOTHING)))
      pss_nil)
    (pss_cons (ps_set (i := 2) sc__column_span.nd rfl (.inl rfl) (pe_ix ix_list (pv 1) (pv 0) (fun _ _ => rfl)))
    (pss_one (ps_ret (pe_tup (pa_cons (pe_cmpR op_gt (pe_fld (pv 2) (by rfl)) pe_int (nomark _)) (pa_cons (pe_fld (pv 2) (by rfl)) (pa_cons (pe_fld (pv 2) (by rfl)) pa_nil)))))))), ?_⟩
  obtain ⟨n, p, zs, rfl, ⟨⟨qs, h1, h2⟩, ho, hz⟩, q⟩ := h
  have hlen : (qs.map V.ref).length = zs.length := by rw [List.length_map, h2.1]
  refine q_when (b := decide ((n : Int) ≥ ((zs.length : Nat) : Int))) (et_test (ev_op (ev_var rfl) (ev_is (ev_len (ev_var rfl) (sq_of h1)) (by rw [hlen])) rv_I0)) (fun hb H1 e1 => ?_) fun hb H1 e1 => ?_
  · have := of_decide_eq_true hb
    refine s_retS (K := K) (s := colS zs n) (es_is (es_glob (h__NOTHING _) ev_c ⟨.non, .non, ord_non⟩) ?_) fun v H2 e2 h3 => q v H2 (e1.trans e2) h3
    unfold colS
    rw [List.getElem?_eq_none (by omega)]
  · have := of_decide_eq_false hb
    have hn : n < zs.length := by omega
    obtain ⟨r, hr1, hR⟩ := h2.get hn
    have hzn : zs[n]? = some zs[n] := List.getElem?_eq_getElem hn
    have hok := ho _ (List.getElem_mem hn)
    obtain ⟨dx, hd⟩ := hR
    refine q_asg (v := .ref r) (ev_op (ev_var rfl) (ev_var rfl) (rv_ixL (sq_of (e1 _ _ h1)) (atI_nat (by rw [List.getElem?_map, hr1]; rfl)))) fun H2 e2 => ?_
    have hd2 := (e1.trans e2) _ _ hd
    refine s_retS (K := K) (s := colS zs n) (es_is (es_tup (ev_op (ev_fld (ev_var rfl) hd2 C_Zone.cl C_Zone.na.2.1 znF_n) ev_c rv_I0) (ev_fld (ev_var rfl) hd2 C_Zone.cl C_Zone.na.2.2.1 znF_l) (ev_fld (ev_var rfl) hd2 C_Zone.cl C_Zone.na.2.2.2.1 znF_g) hok) ?_) fun v H3 e3 h3 => q v H3 (e1.trans (e2.trans e3)) h3
    unfold colS
    rw [hzn]
    rfl
theorem ok_span_of {rn : Nat} (D : Dn K mg "span_of" s_span_of ["expression", "zones"]) (c__binary_span : C8.Cal P w K mg base 6 "_binary_span" (sp__binary_span K) []) (c__column_span : C8.Cal P w K mg base 1 "_column_span" (sp__column_span K) []) (c__either_span : C8.Cal P w K mg base 4 "_either_span" (sp__either_span K) []) (c__unary_span : C8.Cal P w K mg base 6 "_unary_span" (sp__unary_span K) []) (g_ANY : ∃ u, mg "ANY" = some u ∧ RelV (.str ("any")) u) (c_span_of : C8.Cal P w K mg base (7 + rn) "span_of" (spR_span_of rn K) []) :
    C8.Cal P w K mg base (7 + rn + 1) "span_of" (spR_span_of (rn + 1) K) [] := by
  refine cal_of D sc_span_of (fun vs H Q E h => ?_) (fun f cdv A outer s H vs Q E hr h => ?_)
  · obtain ⟨_, _, _, _, rfl, _⟩ := h
    rfl
  refine ⟨_, (pss_cons (ps_set (i := 2) sc_span_of.nd rfl (.inl rfl) (pe_ix ix_tup (pv 0) pe_int (fun _ _ => rfl)))
    (pss_cons (ps_if (pt_cmpR op_eq (pv 2) pe_str (nomark _))
      (pss_cons (ps_set (i := 3) sc_span_of.nd rfl (.inl rfl) (pe_ix ix_tup (pv 0) pe_int (fun _ _ => rfl)))
    (pss_one (ps_ret (pe_tup (pa_cons (pe_cmpR op_isN (pv 3) pe_non (nomark _)) (pa_cons (pv 3) (pa_cons (pv 3) pa_nil)))))))
      pss_nil)
    (pss_cons (ps_if (pt_cmpR op_eq (pv 2) pe_str (nomark _))
      (pss_one (ps_ret (C8.pe_c c__column_span hr (by omega) (by rfl) (pa_cons (pe_ix ix_tup (pv 0) pe_int (fun _ _ => rfl)) (pa_cons (pv 1) pa_nil)))))
      pss_nil)
    (pss_cons (ps_if (pt_cmpR op_eq (pv 2) pe_str (nomark _))
      (pss_one (ps_ret (C8.pe_c c__unary_span hr (by omega) (by rfl) (pa_cons (pe_ix ix_tup (pv 0) pe_int (fun _ _ => rfl)) (pa_cons (C8.pe_c c_span_of hr (Nat.le_refl _) (by rfl) (pa_cons (pe_ix ix_tup (pv 0) pe_int (fun _ _ => rfl)) (pa_cons (pv 1) pa_nil))) pa_nil)))))
      pss_nil)
    (pss_cons (ps_if (pt_cmpR op_eq (pv 2) pe_str (nomark _))
      (pss_one (ps_ret (C8.pe_c c__binary_span hr (by omega) (by rfl) (pa_cons (pe_ix ix_tup (pv 0) pe_int (fun _ _ => rfl)) (pa_cons (C8.pe_c c_span_of hr (Nat.le_refl _) (by rfl) (pa_cons (pe_ix ix_tup (pv 0) pe_int (fun _ _ => rfl)) (pa_cons (pv 1) pa_nil))) (pa_cons (C8.pe_c c_span_of hr (Nat.le_refl _) (by rfl) (pa_cons (pe_ix ix_tup (pv 0) pe_int (fun _ _ => rfl)) (pa_cons (pv 1) pa_nil))) pa_nil))))))
      pss_nil)
    (pss_cons (ps_if (pt_cmpR op_eq (pv 2) pe_str (nomark _))
      (pss_one (ps_ret (C8.pe_c c__either_span hr (by omega) (by rfl) (pa_cons (C8.pe_c c_span_of hr (Nat.le_refl _) (by rfl) (pa_cons (pe_ix ix_tup (pv 0) pe_int (fun _ _ => rfl)) (pa_cons (pv 1) pa_nil))) (pa_cons (C8.pe_c c_span_of hr (Nat.le_refl _) (by rfl) (pa_cons (pe_ix ix_tup (pv 0) pe_int (fun _ _ => rfl)) (pa_cons (pv 1) pa_nil))) pa_nil)))))
      pss_nil)
    (pss_one (ps_ret (C8.pe_gc rfl g_ANY))))))))), ?_⟩
  obtain ⟨v, e, p, zs, rfl, hx, hd, hz, q⟩ := h
  obtain ⟨ad, ys, rfl, hS, hV⟩ := xa_at hx
  refine q_asg (v := .str e.hd) (ev_ix (i := 0) (ev_var rfl) hS ev_c hV.hd) fun H1 e1 => ?_
  have hS1 := ex_t e1 hS
  have no : ∀ {a b : Str} {H0 : Hp} {σ : L2.St} {r : Bool}, σ[2]? = some (some (.str a)) → isS a b = r → EvT (tTest (tOp rEq (tVar 2) (tC (.str b)))) σ H0 r := fun h hr => et_is (et_S (ev_var h) ev_c) hr
  have hpos := xdep_pos e
  cases hV with
  | col n =>
    refine q_when (b := false) (no rfl (by show isS "column" "constant" = false; decide +kernel)) (fun h => nomatch h) fun _ H2 e2 => ?_
    refine q_when (b := true) (no rfl (by show isS "column" "column" = true; decide +kernel)) (fun _ H3 e3 => ?_) fun h => nomatch h
    exact s_retS (K := K) (s := colS zs n) (es_col (ev_ix (i := 1) (ev_var rfl) (ex_t (e2.trans e3) hS1) ev_c rfl) (ev_var rfl) (hz.ex (e1.trans (e2.trans e3)))) fun v H4 e4 h4 => q v H4 (e1.trans (e2.trans (e3.trans e4))) h4
  | cst x hxv =>
    refine q_when (b := true) (no rfl (by show isS "constant" "constant" = true; decide +kernel)) (fun _ H2 e2 => ?_) fun h => nomatch h
    refine q_asg (v := x) (ev_ix (i := 1) (ev_var rfl) (ex_t e2 hS1) ev_c rfl) fun H3 e3 => ?_
    exact s_retS (K := K) (s := spI zs (.cst x)) (es_tup (ev_op (ev_var rfl) ev_c rv_isN) (ev_var rfl) (ev_var rfl) ⟨dv_ok hxv, dv_ok hxv, vlt_irr (dv_ok hxv), fun h => h⟩) fun v H4 e4 h4 => q v H4 (e1.trans (e2.trans (e3.trans e4))) h4
  | un nm a y ha =>
    have hda : a.dep + 1 ≤ rn + 1 := hd
    have hpa := xdep_pos a
    cases rn with
    | zero => omega
    | succ n =>
    refine q_when (b := false) (no rfl (by show isS "unary" "constant" = false; decide +kernel)) (fun h => nomatch h) fun _ H2 e2 => ?_
    refine q_when (b := false) (no rfl (by show isS "unary" "column" = false; decide +kernel)) (fun h => nomatch h) fun _ H3 e3 => ?_
    refine q_when (b := true) (no rfl (by show isS "unary" "unary" = true; decide +kernel)) (fun _ H4 e4 => ?_) fun h => nomatch h
    have x4 := e1.trans (e2.trans (e3.trans e4))
    have hS4 := ex_t (e2.trans (e3.trans e4)) hS1
    exact s_retS (K := K) (s := unS nm (spI zs a)) (es_callNU (f := unS) (ev_ix (i := 1) (ev_var rfl) hS4 ev_c rfl) (es_span (n := n + 1) (ev_ix (i := 2) (ev_var rfl) hS4 ev_c rfl) (ev_var rfl) (ha.ex x4) (by omega) (hz.ex x4))) fun v H5 e5 h5 => q v H5 (x4.trans e5) h5
  | bin nm a b y z ha hb =>
    have hda : max a.dep b.dep + 1 ≤ rn + 1 := hd
    have hpa := xdep_pos a
    cases rn with
    | zero => omega
    | succ n =>
    refine q_when (b := false) (no rfl (by show isS "binary" "constant" = false; decide +kernel)) (fun h => nomatch h) fun _ H2 e2 => ?_
    refine q_when (b := false) (no rfl (by show isS "binary" "column" = false; decide +kernel)) (fun h => nomatch h) fun _ H3 e3 => ?_
    refine q_when (b := false) (no rfl (by show isS "binary" "unary" = false; decide +kernel)) (fun h => nomatch h) fun _ H4 e4 => ?_
    refine q_when (b := true) (no rfl (by show isS "binary" "binary" = true; decide +kernel)) (fun _ H5 e5 => ?_) fun h => nomatch h
    have x5 := e1.trans (e2.trans (e3.trans (e4.trans e5)))
    have hS5 := ex_t (e2.trans (e3.trans (e4.trans e5))) hS1
    exact s_retS (K := K) (s := binS nm (spI zs a) (spI zs b)) (es_callNT (f := binS) (g := anyN) True.intro (ev_ix (i := 1) (ev_var rfl) hS5 ev_c rfl) (es_span (n := n + 1) (ev_ix (i := 2) (ev_var rfl) hS5 ev_c rfl) (ev_var rfl) (ha.ex x5) (by omega) (hz.ex x5)) (es_span (n := n + 1) (ev_ix (i := 3) (ev_var rfl) hS5 ev_c rfl) (ev_var rfl) (hb.ex x5) (by omega) (hz.ex x5))) fun v H6 e6 h6 => q v H6 (x5.trans e6) h6
  | cho c a b x y z hc ha hb =>
    have hda : max c.dep (max a.dep b.dep) + 1 ≤ rn + 1 := hd
    have hpa := xdep_pos a
    cases rn with
    | zero => omega
    | succ n =>
    refine q_when (b := false) (no rfl (by show isS "choice" "constant" = false; decide +kernel)) (fun h => nomatch h) fun _ H2 e2 => ?_
    refine q_when (b := false) (no rfl (by show isS "choice" "column" = false; decide +kernel)) (fun h => nomatch h) fun _ H3 e3 => ?_
    refine q_when (b := false) (no rfl (by show isS "choice" "unary" = false; decide +kernel)) (fun h => nomatch h) fun _ H4 e4 => ?_
    refine q_when (b := false) (no rfl (by show isS "choice" "binary" = false; decide +kernel)) (fun h => nomatch h) fun _ H5 e5 => ?_
    refine q_when (b := true) (no rfl (by show isS "choice" "choice" = true; decide +kernel)) (fun _ H6 e6 => ?_) fun h => nomatch h
    have x6 := e1.trans (e2.trans (e3.trans (e4.trans (e5.trans e6))))
    have hS6 := ex_t (e2.trans (e3.trans (e4.trans (e5.trans e6)))) hS1
    exact s_retS (K := K) (s := eitS (spI zs a) (spI zs b)) (es_callT (f := eitS) (es_span (n := n + 1) (ev_ix (i := 2) (ev_var rfl) hS6 ev_c rfl) (ev_var rfl) (ha.ex x6) (by omega) (hz.ex x6)) (es_span (n := n + 1) (ev_ix (i := 3) (ev_var rfl) hS6 ev_c rfl) (ev_var rfl) (hb.ex x6) (by omega) (hz.ex x6))) fun v H7 e7 h7 => q v H7 (x6.trans e7) h7
theorem ok_may_hold (D : Dn K mg "may_hold" s_may_hold ["condition", "zones"]) (c_can_be : C8.Cal P w K mg base 4 "can_be" (sp_can_be K) []) (c_span_of : C8.Cal P w K mg base 13 "span_of" (sp_span_of K) []) :
    C8.Cal P w K mg base 14 "may_hold" (sp_may_hold K) [] := by
  refine cal_of D sc_may_hold (fun vs H Q E h => ?_) (fun f cdv A outer s H vs Q E hr h => ?_)
  · obtain ⟨_, _, _, _, rfl, _⟩ := h
    rfl
  refine ⟨_, (pss_one (ps_ret (C8.pe_c c_can_be hr (by decide) (by rfl) (pa_cons (C8.pe_c c_span_of hr (by decide) (by rfl) (pa_cons (pv 0) (pa_cons (pv 1) pa_nil))) (pa_cons pe_bl pa_nil))))), ?_⟩
  obtain ⟨v, e, p, zs, rfl, hx, hd, hz, q⟩ := h
  exact s_ret (eb_can (es_span (n := 6) (ev_var rfl) (ev_var rfl) hx hd hz) ev_c (.bl _)) fun H1 e1 => q H1 e1
end
def neg3 (x : V) : V := if x = .bl true then .bl false else if x = .bl false then .bl true else .non
def and3 (x y : V) : V := if x = .bl false ∨ y = .bl false then .bl false else if x = .bl true ∧ y = .bl true then .bl true else .non
def or3 (x y : V) : V := if x = .bl true ∨ y = .bl true then .bl true else if x = .bl false ∧ y = .bl false then .bl false else .non
def sp_negated (K : PySem.W.Frag) : Sp := fun vs H Q _ => ∃ x : V, vs = [x] ∧ ∀ H', Ex H H' → Q (neg3 x) H'
def sp_both (K : PySem.W.Frag) : Sp := fun vs H Q _ => ∃ x y : V, vs = [x, y] ∧ ∀ H', Ex H H' → Q (and3 x y) H'
def sp_either (K : PySem.W.Frag) : Sp := fun vs H Q _ => ∃ x y : V, vs = [x, y] ∧ ∀ H', Ex H H' → Q (or3 x y) H'
section
variable {P : Program} {w : World} {K : PySem.W.Frag} {mg : Str → Option Value} {base : Heap}
theorem ok_both (D : Dn K mg "both" s_both ["first", "second"]) :
    C8.Cal P w K mg base 1 "both" (sp_both K) [] := by
  refine cal_of D sc_both (fun vs H Q E h => ?_) (fun f cdv A outer s H vs Q E hr h => ?_)
  · obtain ⟨_, _, rfl, _⟩ := h
    rfl
  refine ⟨_, (pss_cons (ps_if (PW.pt (pw_or (pt_cmpR op_isTF (pv 0) pe_bl (nomark _)) (pw_or1 (pt_cmpR op_isTF (pv 1) pe_bl (nomark _)))))
      (pss_one (ps_ret pe_bl))
      pss_nil)
    (pss_cons (ps_if (PW.pt (pw_and (pt_cmpR op_isTF (pv 0) pe_bl (nomark _)) (pw_and1 (pt_cmpR op_isTF (pv 1) pe_bl (nomark _)))))
      (pss_one (ps_ret pe_bl))
      pss_nil)
    (pss_one (ps_ret pe_non)))), ?_⟩
  obtain ⟨x, y, rfl, q⟩ := h
  refine q_when (b := decide (x = .bl false) || decide (y = .bl false)) (by walk_at "et") (fun hb H1 e1 => s_ret (v := and3 x y) ?_ fun H2 e2 => q _ (e1.trans e2)) fun hb H1 e1 => ?_
  · refine ev_is ev_c ?_
    unfold and3
    rw [if_pos (by rw [Bool.or_eq_true, decide_eq_true_eq, decide_eq_true_eq] at hb; exact hb)]
  have nb : ¬ (x = .bl false ∨ y = .bl false) := by
    intro z
    rw [Bool.or_eq_false_iff, decide_eq_false_iff_not, decide_eq_false_iff_not] at hb
    exact z.elim hb.1 hb.2
  refine q_when (b := decide (x = .bl true) && decide (y = .bl true)) (by walk_at "et") (fun hc H2 e2 => s_ret (v := and3 x y) ?_ fun H3 e3 => q _ ((e1.trans e2).trans e3)) fun hc H2 e2 => s_ret (v := and3 x y) ?_ fun H3 e3 => q _ ((e1.trans e2).trans e3)
  · refine ev_is ev_c ?_
    unfold and3
    rw [if_neg nb, if_pos (by rw [Bool.and_eq_true, decide_eq_true_eq, decide_eq_true_eq] at hc; exact hc)]
  · refine ev_is ev_c ?_
    unfold and3
    rw [if_neg nb, if_neg (fun z => by rw [decide_eq_true z.1, decide_eq_true z.2] at hc; cases hc)]
theorem ok_either (D : Dn K mg "either" s_either ["first", "second"]) :
    C8.Cal P w K mg base 1 "either" (sp_either K) [] := by
  refine cal_of D sc_either (fun vs H Q E h => ?_) (fun f cdv A outer s H vs Q E hr h => ?_)
  · obtain ⟨_, _, rfl, _⟩ := h
    rfl
  refine ⟨_, (pss_cons (ps_if (PW.pt (pw_or (pt_cmpR op_isTF (pv 0) pe_bl (nomark _)) (pw_or1 (pt_cmpR op_isTF (pv 1) pe_bl (nomark _)))))
      (pss_one (ps_ret pe_bl))
      pss_nil)
    (pss_cons (ps_if (PW.pt (pw_and (pt_cmpR op_isTF (pv 0) pe_bl (nomark _)) (pw_and1 (pt_cmpR op_isTF (pv 1) pe_bl (nomark _)))))
      (pss_one (ps_ret pe_bl))
      pss_nil)
    (pss_one (ps_ret pe_non)))), ?_⟩
  obtain ⟨x, y, rfl, q⟩ := h
  refine q_when (b := decide (x = .bl true) || decide (y = .bl true)) (by walk_at "et") (fun hb H1 e1 => s_ret (v := or3 x y) ?_ fun H2 e2 => q _ (e1.trans e2)) fun hb H1 e1 => ?_
  · refine ev_is ev_c ?_
    unfold or3
    rw [if_pos (by rw [Bool.or_eq_true, decide_eq_true_eq, decide_eq_true_eq] at hb; exact hb)]
  have nb : ¬ (x = .bl true ∨ y = .bl true) := by
    intro z
    rw [Bool.or_eq_false_iff, decide_eq_false_iff_not, decide_eq_false_iff_not] at hb
    exact z.elim hb.1 hb.2
  refine q_when (b := decide (x = .bl false) && decide (y = .bl false)) (by walk_at "et") (fun hc H2 e2 => s_ret (v := or3 x y) ?_ fun H3 e3 => q _ ((e1.trans e2).trans e3)) fun hc H2 e2 => s_ret (v := or3 x y) ?_ fun H3 e3 => q _ ((e1.trans e2).trans e3)
  · refine ev_is ev_c ?_
    unfold or3
    rw [if_neg nb, if_pos (by rw [Bool.and_eq_true, decide_eq_true_eq, decide_eq_true_eq] at hc; exact hc)]
  · refine ev_is ev_c ?_
    unfold or3
    rw [if_neg nb, if_neg (fun z => by rw [decide_eq_true z.1, decide_eq_true z.2] at hc; cases hc)]
section
variable {σ : L2.St} {H : Hp} {ta tb : TE} {E : XK} {x y : V}
theorem ec_both (ha : Ev ta σ H x) (hb : Ev tb σ H y) : Ev (tCall (sp_both K) [] E (tCons ta (tCons tb tNil))) σ H (and3 x y) := ev_call (ea_cons ha (ea_cons hb ea_nil)) fun H1 e Q q E => ⟨x, y, rfl, q⟩
theorem ec_either (ha : Ev ta σ H x) (hb : Ev tb σ H y) : Ev (tCall (sp_either K) [] E (tCons ta (tCons tb tNil))) σ H (or3 x y) := ev_call (ea_cons ha (ea_cons hb ea_nil)) fun H1 e Q q E => ⟨x, y, rfl, q⟩
end
end
section
variable {P : Program} {w : World} {K : PySem.W.Frag} {mg : Str → Option Value} {base : Heap}
theorem ok_negated (D : Dn K mg "negated" s_negated ["value"]) :
    C8.Cal P w K mg base 1 "negated" (sp_negated K) [] := by
  refine cal_of D sc_negated (fun vs H Q E h => ?_) (fun f cdv A outer s H vs Q E hr h => ?_)
  · obtain ⟨_, rfl, _⟩ := h
    rfl
  refine ⟨_, (pss_cons (ps_if (pt_cmpR op_isTF (pv 0) pe_bl (nomark _))
      (pss_one (ps_ret pe_bl))
      pss_nil)
    (pss_cons (ps_if (pt_cmpR op_isTF (pv 0) pe_bl (nomark _))
      (pss_one (ps_ret pe_bl))
      pss_nil)
    (pss_one (ps_ret pe_non)))), ?_⟩
  obtain ⟨x, rfl, q⟩ := h
  refine q_when (b := decide (x = .bl true)) (by walk_at "et") (fun hb H1 e1 => s_ret (v := neg3 x) ?_ fun H2 e2 => q _ (e1.trans e2)) fun hb H1 e1 => ?_
  · refine ev_is ev_c ?_
    unfold neg3
    rw [if_pos (of_decide_eq_true hb)]
  refine q_when (b := decide (x = .bl false)) (by walk_at "et") (fun hc H2 e2 => s_ret (v := neg3 x) ?_ fun H3 e3 => q _ ((e1.trans e2).trans e3)) fun hc H2 e2 => s_ret (v := neg3 x) ?_ fun H3 e3 => q _ ((e1.trans e2).trans e3)
  · refine ev_is ev_c ?_
    unfold neg3
    rw [if_neg (of_decide_eq_false hb), if_pos (of_decide_eq_true hc)]
  · refine ev_is ev_c ?_
    unfold neg3
    rw [if_neg (of_decide_eq_false hb), if_neg (of_decide_eq_false hc)]
end
def bdV : V → Prop
  | .int i => -1152921504606846976 ≤ i ∧ i ≤ 1152921504606846976
  | .str s => s.length ≤ 100
  | _ => True
def bothOk (x y : V) : Prop := Ok x ∧ Ok y
def anyV (_ _ : V) : Prop := True
def intB (x : V) : Prop := ∃ a : Int, x = .int a ∧ -1152921504606846976 ≤ a ∧ a ≤ 1152921504606846976
def twoI (x y : V) : Prop := intB x ∧ intB y
def isDayI (i : Int) : Bool := decide (-719162 ≤ i) && decide (i ≤ 2932896)
def isDay : V → Bool
  | .int i => isDayI i
  | _ => false
def dayP (x : V) : Prop := ∃ a : Int, x = .int a ∧ isDayI a = true
def dayI (x y : V) : Prop := dayP x ∧ intB y
def sameV (x y : V) : V := .bl (PyData.eqv (rkD x) (rkD y))
def lessV (x y : V) : V := .bl (ltD (rkD x) (rkD y))
def mostV (x y : V) : V := .bl (!ltD (rkD y) (rkD x))
def coalV (x y : V) : V := if x = .non then y else x
def arV (g : Int → Int → Int) : V → V → V
  | .int i, .int j => limV (g i j)
  | _, _ => .non
def dayV : V → V
  | .int i => if isDayI i = true then .int i else .non
  | _ => .non
def adV : V → V → V
  | .int i, .int j => dayV (.int (i + j))
  | _, _ => .non
def isStr : V → Bool
  | .str _ => true
  | _ => false
def negV : V → V
  | .int i => .int (-i)
  | _ => .non
def absV : V → V
  | .int i => .int (if i < 0 then -i else i)
  | _ => .non
def idV (x : V) : V := x
def decV : V → V
  | .int i => limV (10000 * i)
  | _ => .non
def lenV : V → V
  | .str s => .int (s.length : Int)
  | _ => .non
def alike (x y : V) : Bool := (!decide (x = .non)) && decide (V.int (kr x) = V.int (kr y))
def iff1 (b : Bool) (x : V) : V := if b = true then x else .non
def binV (nm : Str) (x y : V) : V :=
  if nm = "and" then and3 x y else if nm = "or" then or3 x y else if nm = "same" then sameV x y else if nm = "coalesce" then coalV x y
  else if nm = "add" then iff1 (isInt x && isInt y) (arV (· + ·) x y) else if nm = "subtract" then iff1 (isInt x && isInt y) (arV (· - ·) x y) else if nm = "multiply" then iff1 (isInt x && isInt y) (arV (· * ·) x y)
  else if nm = "add days" then iff1 (isDay x && isInt y) (adV x y)
  else if nm = "equal" then iff1 (alike x y) (sameV x y) else if nm = "less" then iff1 (alike x y) (lessV x y) else iff1 (alike x y) (mostV x y)
def unV (nm : Str) (x : V) : V := if nm = "not" then neg3 x else if nm = "is null" then .bl (decide (x = .non)) else if nm = "negate" then iff1 (isInt x) (negV x) else if nm = "abs" then iff1 (isInt x) (absV x)
  else if nm = "as decimal" then iff1 (isInt x) (idV x) else if nm = "to decimal" then iff1 (isInt x) (decV x) else if nm = "as date" then iff1 (isDay x) (idV x) else iff1 (isStr x) (lenV x)
def unL : List Str := ["not", "is null", "negate", "abs", "as date", "as decimal", "to decimal", "is null", "length"]
def binL : List Str := ["and", "or", "equal", "less", "at most", "add", "subtract", "coalesce", "add days", "same", "multiply", "less"]
def XN : Xp → Prop
  | .col _ => True
  | .cst _ => True
  | .un nm a => nm ∈ unL ∧ XN a
  | .bin nm a b => nm ∈ binL ∧ XN a ∧ XN b
  | .cho c a b => XN c ∧ XN a ∧ XN b
def evX (xs : List V) : Xp → V
  | .col n => xs.getD n .non
  | .cst v => v
  | .un nm a => unV nm (evX xs a)
  | .bin nm a b => binV nm (evX xs a) (evX xs b)
  | .cho c a b => if evX xs c = .bl true then evX xs a else evX xs b
def VOk (x : V) : Prop := Ok x ∧ bdV x
theorem lim_vok (n : Int) : VOk (limV n) := by
  unfold limV
  split
  · exact ⟨.int _, by rename_i h; exact ⟨by omega, by omega⟩⟩
  · exact ⟨.non, trivial⟩
theorem bl_vok (b : Bool) : VOk (.bl b) := ⟨.bl _, trivial⟩
theorem non_vok : VOk .non := ⟨.non, trivial⟩
theorem iff_vok {b : Bool} {x : V} (h : b = true → VOk x) : VOk (iff1 b x) := by
  unfold iff1
  split
  · rename_i z; exact h z
  · exact non_vok
theorem neg3_vok (x : V) : VOk (neg3 x) := by unfold neg3; split; exact bl_vok _; split; exact bl_vok _; exact non_vok
theorem and3_vok (x y : V) : VOk (and3 x y) := by unfold and3; split; exact bl_vok _; split; exact bl_vok _; exact non_vok
theorem or3_vok (x y : V) : VOk (or3 x y) := by unfold or3; split; exact bl_vok _; split; exact bl_vok _; exact non_vok
theorem ar_vok (g : Int → Int → Int) (x y : V) : VOk (arV g x y) := by unfold arV; split; exact lim_vok _; exact non_vok
theorem day_vok (x : V) : VOk (dayV x) := by
  unfold dayV
  split
  · split
    · rename_i h
      unfold isDayI at h
      rw [Bool.and_eq_true, decide_eq_true_eq, decide_eq_true_eq] at h
      exact ⟨.int _, by omega, by omega⟩
    · exact non_vok
  · exact non_vok
theorem ad_vok (x y : V) : VOk (adV x y) := by unfold adV; split; exact day_vok _; exact non_vok
theorem un_vok (nm : Str) {x : V} (h : VOk x) : VOk (unV nm x) := by
  obtain ⟨h1, h2⟩ := h
  unfold unV
  split
  · exact neg3_vok x
  split
  · exact bl_vok _
  split
  · refine iff_vok fun _ => ?_
    cases h1 <;> first | exact non_vok | exact ⟨.int _, by have := h2.2; omega, by have := h2.1; omega⟩
  split
  · refine iff_vok fun _ => ?_
    cases h1 with
    | int i => exact ⟨.int _, by have := h2.1; have := h2.2; show -1152921504606846976 ≤ (if i < 0 then -i else i) ∧ (if i < 0 then -i else i) ≤ 1152921504606846976; split <;> omega⟩
    | _ => exact non_vok
  split
  · exact iff_vok fun _ => ⟨h1, h2⟩
  split
  · refine iff_vok fun _ => ?_
    cases h1 <;> first | exact non_vok | exact lim_vok _
  split
  · exact iff_vok fun _ => ⟨h1, h2⟩
  · refine iff_vok fun _ => ?_
    cases h1 with
    | str s hs => exact ⟨.int _, by omega, by have : s.length ≤ 100 := h2; omega⟩
    | _ => exact non_vok
theorem bin_vok (nm : Str) {x y : V} (hx : VOk x) (hy : VOk y) : VOk (binV nm x y) := by
  unfold binV
  split
  · exact and3_vok x y
  split
  · exact or3_vok x y
  split
  · exact bl_vok _
  split
  · unfold coalV; split <;> assumption
  split
  · exact iff_vok fun _ => ar_vok _ x y
  split
  · exact iff_vok fun _ => ar_vok _ x y
  split
  · exact iff_vok fun _ => ar_vok _ x y
  split
  · exact iff_vok fun _ => ad_vok x y
  split
  · exact iff_vok fun _ => bl_vok _
  split
  · exact iff_vok fun _ => bl_vok _
  · exact iff_vok fun _ => bl_vok _
theorem dv_vok {x : V} (h : DV x) : VOk x := by
  cases h with
  | non => exact non_vok
  | bl b => exact bl_vok b
  | int i h => exact ⟨.int i, by omega, by omega⟩
  | str l hl hc => exact ⟨dv_ok (.str l hl hc), by show (SX.S l).length ≤ 100; rw [SX.S_len]; omega⟩
def RwOk (xs : List V) : Prop := ∀ x ∈ xs, VOk x
theorem row_vok {xs : List V} (h : RwOk xs) (n : Nat) : VOk (xs.getD n .non) := by
  rw [List.getD_eq_getElem?_getD]
  cases e : xs[n]? with
  | none => exact non_vok
  | some x => exact h x (List.mem_of_getElem? e)
theorem ev_vok {xs : List V} (h : RwOk xs) : ∀ {e : Xp}, XOk e → VOk (evX xs e)
  | _, .col n => row_vok h n
  | _, .cst v hv => dv_vok hv
  | _, .un nm a ha => un_vok nm (ev_vok h ha)
  | _, .bin nm a b ha hb => bin_vok nm (ev_vok h ha) (ev_vok h hb)
  | _, .cho c a b hc ha hb => by
    show VOk (if evX xs c = .bl true then evX xs a else evX xs b)
    split
    · exact ev_vok h ha
    · exact ev_vok h hb
def spUn (pre : V → Prop) (op : V → V) : Sp := fun vs H Q _ => ∃ x : V, vs = [x] ∧ pre x ∧ ∀ H', Ex H H' → Q (op x) H'
inductive Opr2 (P : Program) (w : World) (K : PySem.W.Frag) (mg : Str → Option Value) (base : Heap) (dA dL dI dT dD : Addr) : Str → V → V → V → Prop
  | any {nm : Str} {x y : V} {f : Addr} {pre : V → V → Prop} {op : V → V → V} : PySem.W.nsIn K dA nm = some (some (.ref f)) → L2.Held P w K mg base 4 f (spBin pre op) → pre x y → Opr2 P w K mg base dA dL dI dT dD nm x y (op x y)
  | alike {nm : Str} {x y : V} {f : Addr} {op : V → V → V} : PySem.W.nsIn K dA nm = some none → PySem.W.nsIn K dL nm = some (some (.ref f)) → L2.Held P w K mg base 4 f (spBin bothOk op) → Opr2 P w K mg base dA dL dI dT dD nm x y (iff1 (alike x y) (op x y))
  | nums {nm : Str} {x y : V} {f : Addr} {op : V → V → V} : PySem.W.nsIn K dA nm = some none → PySem.W.nsIn K dL nm = some none → PySem.W.nsIn K dI nm = some (some (.ref f)) → L2.Held P w K mg base 4 f (spBin twoI op) → Opr2 P w K mg base dA dL dI dT dD nm x y (iff1 (isInt x && isInt y) (op x y))
  | days {nm : Str} {x y : V} {f : Addr} {op : V → V → V} : PySem.W.nsIn K dA nm = some none → PySem.W.nsIn K dL nm = some none → PySem.W.nsIn K dI nm = some none → PySem.W.nsIn K dT nm = some none → PySem.W.nsIn K dD nm = some (some (.ref f)) → L2.Held P w K mg base 4 f (spBin dayI op) → Opr2 P w K mg base dA dL dI dT dD nm x y (iff1 (isDay x && isInt y) (op x y))
inductive Opr1 (P : Program) (w : World) (K : PySem.W.Frag) (mg : Str → Option Value) (base : Heap) (dI dT dD : Addr) : Str → V → V → Prop
  | inty {nm : Str} {x : V} {f : Addr} {op : V → V} : PySem.W.nsIn K dI nm = some (some (.ref f)) → L2.Held P w K mg base 4 f (spUn intB op) → Opr1 P w K mg base dI dT dD nm x (iff1 (isInt x) (op x))
  | wrds {nm : Str} {x : V} {f : Addr} {op : V → V} : PySem.W.nsIn K dI nm = some none → PySem.W.nsIn K dT nm = some (some (.ref f)) → L2.Held P w K mg base 4 f (spUn (fun x => ∃ s : Str, x = .str s ∧ s.length ≤ 100) op) → Opr1 P w K mg base dI dT dD nm x (iff1 (isStr x) (op x))
  | days {nm : Str} {x : V} {f : Addr} {op : V → V} : PySem.W.nsIn K dI nm = some none → PySem.W.nsIn K dT nm = some none → PySem.W.nsIn K dD nm = some (some (.ref f)) → L2.Held P w K mg base 4 f (spUn (fun _ => True) op) → Opr1 P w K mg base dI dT dD nm x (iff1 (isDay x) (op x))
theorem rv_inKD {K : PySem.W.Frag} {d : Addr} {z : Str} {r : Option Value} {H : Hp} (e : PySem.W.nsIn K d z = some r) : RV (fun x y H Q => ∃ (z : Str) (r : Option Value), x = .str z ∧ y = .ref d ∧ PySem.W.nsIn K d z = some r ∧ Q (.bl r.isSome) H) (.str z) (.ref d) H (.bl r.isSome) :=
  fun H1 _ _ q => ⟨z, r, rfl, rfl, e, q H1 (Ex.refl H1)⟩
theorem rv_ixKD {K : PySem.W.Frag} {w : World} {d : Addr} {es : Array DictEntry} {n : Nat} {z : Str} {u : Value} {v : V} {H : Hp} (D : KDict K w d es n) (e : PySem.W.nsIn K d z = some (some u)) (r : RelV v u) : RV (rIxD K w) (.ref d) (.str z) H v :=
  fun H1 _ _ q => ⟨d, z, v, rfl, rfl, ⟨es, n, u, D.at_, D.lit, e, r⟩, q H1 (Ex.refl H1)⟩
def sp__both (K : PySem.W.Frag) : Sp := spBin anyV and3
def sp__either (K : PySem.W.Frag) : Sp := spBin anyV or3
def sp__same (K : PySem.W.Frag) : Sp := spBin bothOk sameV
def sp__equal (K : PySem.W.Frag) : Sp := spBin bothOk sameV
def sp__less (K : PySem.W.Frag) : Sp := spBin bothOk lessV
def sp__at_most (K : PySem.W.Frag) : Sp := spBin bothOk mostV
def sp__first_known (K : PySem.W.Frag) : Sp := spBin anyV coalV
def sp__add (K : PySem.W.Frag) : Sp := spBin twoI (arV (· + ·))
def sp__subtract (K : PySem.W.Frag) : Sp := spBin twoI (arV (· - ·))
def sp__multiply (K : PySem.W.Frag) : Sp := spBin twoI (arV (· * ·))
def sp__add_days (K : PySem.W.Frag) : Sp := spBin dayI adV
def sp__negate (K : PySem.W.Frag) : Sp := spUn intB negV
def sp__size (K : PySem.W.Frag) : Sp := spUn intB absV
def sp__value (K : PySem.W.Frag) : Sp := spUn (fun _ => True) idV
def sp__to_decimal (K : PySem.W.Frag) : Sp := spUn intB decV
def sp__length (K : PySem.W.Frag) : Sp := spUn (fun x => ∃ s : Str, x = .str s ∧ s.length ≤ 100) lenV
def sp_is_day (K : PySem.W.Frag) : Sp := fun vs H Q _ => ∃ x : V, vs = [x] ∧ Pl x ∧ ∀ H', Ex H H' → Q (.bl (isDay x)) H'
def sp_limited (K : PySem.W.Frag) : Sp := fun vs H Q _ => ∃ n : Int, vs = [.int n] ∧ ∀ H', Ex H H' → Q (limV n) H'
def sp__are_alike (K : PySem.W.Frag) : Sp := fun vs H Q _ => ∃ x y : V, vs = [x, y] ∧ Ok x ∧ Ok y ∧ ∀ H', Ex H H' → Q (.bl (alike x y)) H'
def sp_value_of_two (K : PySem.W.Frag) : Sp := fun vs H Q _ => ∃ (nm : Str) (x y : V), vs = [.str nm, x, y] ∧ nm ∈ binL ∧ VOk x ∧ VOk y ∧ ∀ H', Ex H H' → Q (binV nm x y) H'
abbrev sp_binary (K : PySem.W.Frag) : Sp := sp_value_of_two K
def sp_value_of_one (K : PySem.W.Frag) : Sp := fun vs H Q _ => ∃ (nm : Str) (x : V), vs = [.str nm, x] ∧ nm ∈ unL ∧ VOk x ∧ ∀ H', Ex H H' → Q (unV nm x) H'
abbrev sp_unary (K : PySem.W.Frag) : Sp := sp_value_of_one K
def spR_evaluate : Nat → PySem.W.Frag → Sp
  | 0, _ => fun _ _ _ _ => False
  | n + 1, K => fun vs H Q _ => ∃ (v : V) (e : Xp) (a : Addr) (xs : List V), vs = [v, .ref a] ∧ (Xa K H v e ∧ XN e ∧ e.dep ≤ n + 1) ∧ SqL K H a xs ∧ RwOk xs ∧ xs.length ≤ 1000 ∧ ∀ H', Ex H H' → Q (evX xs e) H'
def sp_evaluate (K : PySem.W.Frag) : Sp := spR_evaluate 6 K
def sp_holds (K : PySem.W.Frag) : Sp := fun vs H Q _ => ∃ (v : V) (e : Xp) (a : Addr) (xs : List V), vs = [v, .ref a] ∧ (Xa K H v e ∧ XN e ∧ e.dep ≤ 6) ∧ SqL K H a xs ∧ RwOk xs ∧ xs.length ≤ 1000 ∧ ∀ H', Ex H H' → Q (.bl (decide (evX xs e = .bl true))) H'
section
variable {P : Program} {w : World} {K : PySem.W.Frag} {mg : Str → Option Value} {base : Heap}
section
variable {σ : L2.St} {H : Hp} {ta tb tc : TE} {E : XK} {x y v : V} {nm : Str} {e : Xp} {n : Nat} {a : Addr} {xs : List V}
theorem ev_isStr (ha : Ev ta σ H x) (h : Ok x) : Ev (tCB (rIsi K) (tCons ta (tCons (tC (.ty "str")) tNil))) σ H (.bl (isStr x)) := by
  cases h with
  | non => exact ev_isiP (b := false) ha .non (by show kitB "NoneType" "str" = some false; decide +kernel)
  | bl b => exact ev_isiP (b := false) ha (.bl b) (by show kitB "bool" "str" = some false; decide +kernel)
  | int i => exact ev_isiP (b := false) ha (.int i) (by show kitB "int" "str" = some false; decide +kernel)
  | str s _ => exact ev_isiP (b := true) ha (.str s) (by show kitB "str" "str" = some true; decide +kernel)
theorem ec_alike (ha : Ev ta σ H x) (hb : Ev tb σ H y) (h1 : Ok x) (h2 : Ok y) : Ev (tCall (sp__are_alike K) [] E (tCons ta (tCons tb tNil))) σ H (.bl (alike x y)) := ev_call (ea_cons ha (ea_cons hb ea_nil)) fun H1 e Q q E => ⟨x, y, rfl, h1, h2, q⟩
theorem ec_neg3 (ha : Ev ta σ H x) : Ev (tCall (sp_negated K) [] E (tCons ta tNil)) σ H (neg3 x) := ev_call (ea_cons ha ea_nil) fun H1 e Q q E => ⟨x, rfl, q⟩
theorem ec_isday (ha : Ev ta σ H x) (h : Pl x) : Ev (tCall (sp_is_day K) [] E (tCons ta tNil)) σ H (.bl (isDay x)) := ev_call (ea_cons ha ea_nil) fun H1 e Q q E => ⟨x, rfl, h, q⟩
theorem ec_lim {n : Int} (ha : Ev ta σ H (.int n)) : Ev (tCall (sp_limited K) [] E (tCons ta tNil)) σ H (limV n) := ev_call (ea_cons ha ea_nil) fun H1 e Q q E => ⟨n, rfl, q⟩
theorem ec_held1 {i k : Nat} {f : Addr} {pre : V → Prop} {op : V → V} (hσ : σ[i]? = some (some (.ref f))) (h : L2.Held P w K mg base k f (spUn pre op)) (hp : pre x) (ha : Ev ta σ H x) : Ev (tCallH P w K mg base i k (tCons ta tNil)) σ H (op x) := fun H1 e Q q =>
  ⟨f, _, hσ, h, ha H1 e _ fun H2 e2 => ⟨x, rfl, hp, fun H' e' => q H' (e2.trans e')⟩⟩
theorem ec_two (h : nm ∈ binL) (h1 : VOk x) (h2 : VOk y) (ha : Ev ta σ H (.str nm)) (hb : Ev tb σ H x) (hc : Ev tc σ H y) : Ev (tCall (sp_value_of_two K) [] E (tCons ta (tCons tb (tCons tc tNil)))) σ H (binV nm x y) := ev_call (ea_cons ha (ea_cons hb (ea_cons hc ea_nil))) fun H1 e Q q E => ⟨nm, x, y, rfl, h, h1, h2, q⟩
theorem ec_one (h : nm ∈ unL) (h1 : VOk x) (ha : Ev ta σ H (.str nm)) (hb : Ev tb σ H x) : Ev (tCall (sp_value_of_one K) [] E (tCons ta (tCons tb tNil))) σ H (unV nm x) := ev_call (ea_cons ha (ea_cons hb ea_nil)) fun H1 e Q q E => ⟨nm, x, rfl, h, h1, q⟩
theorem ec_evalR (ha : Ev ta σ H v) (hb : Ev tb σ H (.ref a)) (he : Xa K H v e) (hN : XN e) (hd : e.dep ≤ n + 1) (hS : SqL K H a xs) (hx : RwOk xs) (hl : xs.length ≤ 1000) : Ev (tCall (spR_evaluate (n + 1) K) [] E (tCons ta (tCons tb tNil))) σ H (evX xs e) := ev_call (ea_cons ha (ea_cons hb ea_nil)) fun H1 e1 Q q E => ⟨v, e, a, xs, rfl, ⟨he.ex e1, hN, hd⟩, ex_l e1 hS, hx, hl, q⟩
theorem ec_eval (ha : Ev ta σ H v) (hb : Ev tb σ H (.ref a)) (he : Xa K H v e) (hN : XN e) (hd : e.dep ≤ 6) (hS : SqL K H a xs) (hx : RwOk xs) (hl : xs.length ≤ 1000) : Ev (tCall (sp_evaluate K) [] E (tCons ta (tCons tb tNil))) σ H (evX xs e) := ec_evalR ha hb he hN hd hS hx hl
theorem ec_holds (ha : Ev ta σ H v) (hb : Ev tb σ H (.ref a)) (he : Xa K H v e) (hN : XN e) (hd : e.dep ≤ 6) (hS : SqL K H a xs) (hx : RwOk xs) (hl : xs.length ≤ 1000) : Ev (tCall (sp_holds K) [] E (tCons ta (tCons tb tNil))) σ H (.bl (decide (evX xs e = .bl true))) := ev_call (ea_cons ha (ea_cons hb ea_nil)) fun H1 e1 Q q E => ⟨v, e, a, xs, rfl, ⟨he.ex e1, hN, hd⟩, ex_l e1 hS, hx, hl, q⟩
end
theorem ok_is_day (D : Dn K mg "is_day" s_is_day ["value"]) (c_is_integer : C8.Cal P w K mg base 1 "is_integer" (sp_is_integer K) []) (g_FIRST_DAY : ∃ u, mg "FIRST_DAY" = some u ∧ RelV (.int (-719162)) u) (g_LAST_DAY : ∃ u, mg "LAST_DAY" = some u ∧ RelV (.int (2932896)) u) :
    C8.Cal P w K mg base 2 "is_day" (sp_is_day K) [] := by
  refine cal_of D sc_is_day (fun vs H Q E h => ?_) (fun f cdv A outer s H vs Q E hr h => ?_)
  · obtain ⟨_, rfl, _⟩ := h
    rfl
  refine ⟨_, (pss_one (ps_ret (pe_and (C8.pe_c c_is_integer hr (by decide) (by rfl) (pa_cons (pv 0) pa_nil)) (pe_one (pe_chain op_le op_le (C8.pe_gc rfl g_FIRST_DAY) (pv 0) (C8.pe_gc rfl g_LAST_DAY)))))), ?_⟩
  obtain ⟨x, rfl, hx, q⟩ := h
  refine s_ret (v := .bl (isDay x)) ?_ fun H2 e2 => q _ e2
  cases hx with
  | int i => exact ev_is (ev_andV (ec_isint0 (ev_var rfl) (.int i)) fun _ => ev_chain ev_c (ev_var rfl) rv_I0 (fun _ => ev_c) (fun _ => rv_I0)) rfl
  | non => exact ev_is (ev_andV (b := true) (ec_isint0 (ev_var rfl) .non) fun z => nomatch z) rfl
  | bl b => exact ev_is (ev_andV (b := true) (ec_isint0 (ev_var rfl) (.bl b)) fun z => nomatch z) rfl
  | str s => exact ev_is (ev_andV (b := true) (ec_isint0 (ev_var rfl) (.str s)) fun z => nomatch z) rfl
theorem ok__both (D : Dn K mg "_both" s__both ["first", "second"]) (c_both : C8.Cal P w K mg base 1 "both" (sp_both K) []) :
    C8.Cal P w K mg base 2 "_both" (sp__both K) [] := by
  refine cal_of D sc__both (fun vs H Q E h => ?_) (fun f cdv A outer s H vs Q E hr h => ?_)
  · obtain ⟨_, _, rfl, _⟩ := h
    rfl
  refine ⟨_, (pss_one (ps_ret (C8.pe_c c_both hr (by decide) (by rfl) (pa_cons (pv 0) (pa_cons (pv 1) pa_nil))))), ?_⟩
  obtain ⟨x, y, rfl, _, q⟩ := h
  exact s_ret (ec_both (ev_var rfl) (ev_var rfl)) fun H2 e2 => q _ e2
theorem ok__either (D : Dn K mg "_either" s__either ["first", "second"]) (c_either : C8.Cal P w K mg base 1 "either" (sp_either K) []) :
    C8.Cal P w K mg base 2 "_either" (sp__either K) [] := by
  refine cal_of D sc__either (fun vs H Q E h => ?_) (fun f cdv A outer s H vs Q E hr h => ?_)
  · obtain ⟨_, _, rfl, _⟩ := h
    rfl
  refine ⟨_, (pss_one (ps_ret (C8.pe_c c_either hr (by decide) (by rfl) (pa_cons (pv 0) (pa_cons (pv 1) pa_nil))))), ?_⟩
  obtain ⟨x, y, rfl, _, q⟩ := h
  exact s_ret (ec_either (ev_var rfl) (ev_var rfl)) fun H2 e2 => q _ e2
theorem ok__same (D : Dn K mg "_same" s__same ["first", "second"]) (c_same : C8.Cal P w K mg base 3 "same" (sp_same K) []) :
    C8.Cal P w K mg base 4 "_same" (sp__same K) [] := by
  refine cal_of D sc__same (fun vs H Q E h => ?_) (fun f cdv A outer s H vs Q E hr h => ?_)
  · obtain ⟨_, _, rfl, _⟩ := h
    rfl
  refine ⟨_, (pss_one (ps_ret (C8.pe_c c_same hr (by decide) (by rfl) (pa_cons (pv 0) (pa_cons (pv 1) pa_nil))))), ?_⟩
  obtain ⟨x, y, rfl, ⟨hx, hy⟩, q⟩ := h
  exact s_ret (ec_same (ev_var rfl) (ev_var rfl) hx hy) fun H2 e2 => q _ e2
theorem ok__equal (D : Dn K mg "_equal" s__equal ["first", "second"]) (c_same : C8.Cal P w K mg base 3 "same" (sp_same K) []) :
    C8.Cal P w K mg base 4 "_equal" (sp__equal K) [] := by
  refine cal_of D sc__equal (fun vs H Q E h => ?_) (fun f cdv A outer s H vs Q E hr h => ?_)
  · obtain ⟨_, _, rfl, _⟩ := h
    rfl
  refine ⟨_, (pss_one (ps_ret (C8.pe_c c_same hr (by decide) (by rfl) (pa_cons (pv 0) (pa_cons (pv 1) pa_nil))))), ?_⟩
  obtain ⟨x, y, rfl, ⟨hx, hy⟩, q⟩ := h
  exact s_ret (ec_same (ev_var rfl) (ev_var rfl) hx hy) fun H2 e2 => q _ e2
theorem ok__less (D : Dn K mg "_less" s__less ["first", "second"]) (c_before : C8.Cal P w K mg base 3 "before" (sp_before K) []) :
    C8.Cal P w K mg base 4 "_less" (sp__less K) [] := by
  refine cal_of D sc__less (fun vs H Q E h => ?_) (fun f cdv A outer s H vs Q E hr h => ?_)
  · obtain ⟨_, _, rfl, _⟩ := h
    rfl
  refine ⟨_, (pss_one (ps_ret (C8.pe_c c_before hr (by decide) (by rfl) (pa_cons (pv 0) (pa_cons (pv 1) pa_nil))))), ?_⟩
  obtain ⟨x, y, rfl, ⟨hx, hy⟩, q⟩ := h
  exact s_ret (ec_before (ev_var rfl) (ev_var rfl) hx hy) fun H2 e2 => q _ e2
theorem ok__at_most (D : Dn K mg "_at_most" s__at_most ["first", "second"]) (c_before : C8.Cal P w K mg base 3 "before" (sp_before K) []) :
    C8.Cal P w K mg base 4 "_at_most" (sp__at_most K) [] := by
  refine cal_of D sc__at_most (fun vs H Q E h => ?_) (fun f cdv A outer s H vs Q E hr h => ?_)
  · obtain ⟨_, _, rfl, _⟩ := h
    rfl
  refine ⟨_, (pss_one (ps_ret (pe_not (C8.pe_c c_before hr (by decide) (by rfl) (pa_cons (pv 1) (pa_cons (pv 0) pa_nil)))))), ?_⟩
  obtain ⟨x, y, rfl, ⟨hx, hy⟩, q⟩ := h
  exact s_ret (ev_notV (ec_before (ev_var rfl) (ev_var rfl) hy hx)) fun H2 e2 => q _ e2
theorem ok__are_alike (D : Dn K mg "_are_alike" s__are_alike ["first", "second"]) (c_kind_rank : C8.Cal P w K mg base 1 "kind_rank" (sp_kind_rank K) []) :
    C8.Cal P w K mg base 2 "_are_alike" (sp__are_alike K) [] := by
  refine cal_of D sc__are_alike (fun vs H Q E h => ?_) (fun f cdv A outer s H vs Q E hr h => ?_)
  · obtain ⟨_, _, rfl, _⟩ := h
    rfl
  refine ⟨_, (pss_one (ps_ret (pe_and (pe_cmpR op_notN (pv 0) pe_non (nomark _)) (pe_one (pe_cmpR op_eq (C8.pe_c c_kind_rank hr (by decide) (by rfl) (pa_cons (pv 0) pa_nil)) (C8.pe_c c_kind_rank hr (by decide) (by rfl) (pa_cons (pv 1) pa_nil)) (nomark _)))))), ?_⟩
  obtain ⟨x, y, rfl, hx, hy, q⟩ := h
  exact s_ret (ev_andV (ev_op (ev_var rfl) ev_c rv_notN) fun _ => ev_op (ec_kr (ev_var rfl) hx) (ec_kr (ev_var rfl) hy) (rv_eq rfl)) fun H2 e2 => q _ e2
theorem ok__first_known (D : Dn K mg "_first_known" s__first_known ["first", "second"]) :
    C8.Cal P w K mg base 1 "_first_known" (sp__first_known K) [] := by
  refine cal_of D sc__first_known (fun vs H Q E h => ?_) (fun f cdv A outer s H vs Q E hr h => ?_)
  · obtain ⟨_, _, rfl, _⟩ := h
    rfl
  refine ⟨_, (pss_one (ps_ret (pe_ifExp (pt_cmpR op_isN (pv 0) pe_non (nomark _)) (pv 1) (pv 0)))), ?_⟩
  obtain ⟨x, y, rfl, _, q⟩ := h
  refine s_ret (v := coalV x y) (ev_if (b := decide (x = .non)) (et_test (ev_op (ev_var rfl) ev_c rv_isN)) (fun hb => ev_is (ev_var rfl) ?_) fun hb => ev_is (ev_var rfl) ?_) fun H2 e2 => q _ e2
  · unfold coalV; rw [if_pos (of_decide_eq_true hb)]
  · unfold coalV; rw [if_neg (of_decide_eq_false hb)]
theorem ok_limited (D : Dn K mg "limited" s_limited ["number"]) (g_GREATEST : ∃ u, mg "GREATEST" = some u ∧ RelV (.int (1000000000000000)) u) :
    C8.Cal P w K mg base 1 "limited" (sp_limited K) [] := by
  refine cal_of D sc_limited (fun vs H Q E h => ?_) (fun f cdv A outer s H vs Q E hr h => ?_)
  · obtain ⟨_, rfl, _⟩ := h
    rfl
  refine ⟨_, (pss_cons (ps_if (pt_chain op_le op_le (pe_un un_neg (C8.pe_gc rfl g_GREATEST)) (pv 0) (C8.pe_gc rfl g_GREATEST))
      (pss_one (ps_ret (pv 0)))
      pss_nil)
    (pss_one (ps_ret pe_non))), ?_⟩
  obtain ⟨n, rfl, q⟩ := h
  refine q_when (b := decide (-1000000000000000 ≤ n) && decide (n ≤ 1000000000000000)) (et_test (ev_chain (ev_un ev_c ru_neg) (ev_var rfl) rv_I0 (fun _ => ev_c) (fun _ => rv_I0))) (fun hb H1 e1 => s_ret (v := limV n) ?_ fun H2 e2 => q _ (e1.trans e2)) fun hb H1 e1 => s_ret (v := limV n) ?_ fun H2 e2 => q _ (e1.trans e2)
  · rw [Bool.and_eq_true, decide_eq_true_eq, decide_eq_true_eq] at hb
    refine ev_is (ev_var rfl) ?_
    unfold limV
    rw [if_pos hb]
  · refine ev_is ev_c ?_
    unfold limV
    rw [if_neg]
    intro z
    rw [decide_eq_true z.1, decide_eq_true z.2] at hb
    cases hb
theorem ok__add (D : Dn K mg "_add" s__add ["first", "second"]) (c_limited : C8.Cal P w K mg base 1 "limited" (sp_limited K) []) :
    C8.Cal P w K mg base 2 "_add" (sp__add K) [] := by
  refine cal_of D sc__add (fun vs H Q E h => ?_) (fun f cdv A outer s H vs Q E hr h => ?_)
  · obtain ⟨_, _, rfl, _⟩ := h
    rfl
  refine ⟨_, (pss_one (ps_ret (C8.pe_c c_limited hr (by decide) (by rfl) (pa_cons (pe_op op_add (pv 0) (pv 1)) pa_nil)))), ?_⟩
  obtain ⟨x, y, rfl, ⟨⟨a, rfl, _⟩, b, rfl, _⟩, q⟩ := h
  exact s_ret (ec_lim (ev_op (ev_var rfl) (ev_var rfl) rv_I0)) fun H2 e2 => q _ e2
theorem ok__subtract (D : Dn K mg "_subtract" s__subtract ["first", "second"]) (c_limited : C8.Cal P w K mg base 1 "limited" (sp_limited K) []) :
    C8.Cal P w K mg base 2 "_subtract" (sp__subtract K) [] := by
  refine cal_of D sc__subtract (fun vs H Q E h => ?_) (fun f cdv A outer s H vs Q E hr h => ?_)
  · obtain ⟨_, _, rfl, _⟩ := h
    rfl
  refine ⟨_, (pss_one (ps_ret (C8.pe_c c_limited hr (by decide) (by rfl) (pa_cons (pe_op op_sub (pv 0) (pv 1)) pa_nil)))), ?_⟩
  obtain ⟨x, y, rfl, ⟨⟨a, rfl, _⟩, b, rfl, _⟩, q⟩ := h
  exact s_ret (ec_lim (ev_op (ev_var rfl) (ev_var rfl) rv_I0)) fun H2 e2 => q _ e2
theorem ok__multiply (D : Dn K mg "_multiply" s__multiply ["first", "second"]) (c_limited : C8.Cal P w K mg base 1 "limited" (sp_limited K) []) :
    C8.Cal P w K mg base 2 "_multiply" (sp__multiply K) [] := by
  refine cal_of D sc__multiply (fun vs H Q E h => ?_) (fun f cdv A outer s H vs Q E hr h => ?_)
  · obtain ⟨_, _, rfl, _⟩ := h
    rfl
  refine ⟨_, (pss_one (ps_ret (C8.pe_c c_limited hr (by decide) (by rfl) (pa_cons (pe_op op_mul (pv 0) (pv 1)) pa_nil)))), ?_⟩
  obtain ⟨x, y, rfl, ⟨⟨a, rfl, ha⟩, b, rfl, _⟩, q⟩ := h
  exact s_ret (ec_lim (ev_op (ev_var rfl) (ev_var rfl) (rv_I (.inl ⟨by have := ha.1; show -(2 ^ 64) < a; omega, by have := ha.2; show a < 2 ^ 64; omega⟩)))) fun H2 e2 => q _ e2
theorem ok__add_days (D : Dn K mg "_add_days" s__add_days ["day", "many"]) (c_is_day : C8.Cal P w K mg base 2 "is_day" (sp_is_day K) []) :
    C8.Cal P w K mg base 3 "_add_days" (sp__add_days K) [] := by
  refine cal_of D sc__add_days (fun vs H Q E h => ?_) (fun f cdv A outer s H vs Q E hr h => ?_)
  · obtain ⟨_, _, rfl, _⟩ := h
    rfl
  refine ⟨_, (pss_cons (ps_set (i := 2) sc__add_days.nd rfl (.inl rfl) (pe_op op_add (pv 0) (pv 1)))
    (pss_one (ps_ret (pe_ifExp (pt_val (C8.pe_c c_is_day hr (by decide) (by rfl) (pa_cons (pv 2) pa_nil))) (pv 2) pe_non)))), ?_⟩
  obtain ⟨x, y, rfl, ⟨⟨a, rfl, _⟩, b, rfl, _⟩, q⟩ := h
  refine q_asg (v := .int (a + b)) (ev_op (ev_var rfl) (ev_var rfl) rv_I0) fun H1 e1 => ?_
  refine s_ret (v := dayV (.int (a + b))) (ev_if (b := isDayI (a + b)) (et_B (ec_isday (ev_var rfl) (.int _))) (fun hb => ev_is (ev_var rfl) ?_) fun hb => ev_is ev_c ?_) fun H2 e2 => q _ (e1.trans e2)
  · show _ = if isDayI (a + b) = true then _ else _
    rw [if_pos hb]
  · show _ = if isDayI (a + b) = true then _ else _
    rw [if_neg (by rw [hb]; decide)]
theorem ok__negate (D : Dn K mg "_negate" s__negate ["number"]) :
    C8.Cal P w K mg base 1 "_negate" (sp__negate K) [] := by
  refine cal_of D sc__negate (fun vs H Q E h => ?_) (fun f cdv A outer s H vs Q E hr h => ?_)
  · obtain ⟨_, rfl, _⟩ := h
    rfl
  refine ⟨_, (pss_one (ps_ret (pe_un un_neg (pv 0)))), ?_⟩
  obtain ⟨x, rfl, ⟨i, rfl, _⟩, q⟩ := h
  exact s_ret (ev_un (ev_var rfl) ru_neg) fun H1 e1 => q H1 e1
theorem ok__size (D : Dn K mg "_size" s__size ["number"]) (z_abs : mg "abs" = none) :
    C8.Cal P w K mg base 1 "_size" (sp__size K) [] := by
  refine cal_of D sc__size (fun vs H Q E h => ?_) (fun f cdv A outer s H vs Q E hr h => ?_)
  · obtain ⟨_, rfl, _⟩ := h
    rfl
  refine ⟨_, (pss_one (ps_ret (pe_callB call_abs (by rfl) z_abs (by decide +kernel) (pa_cons (pv 0) pa_nil)))), ?_⟩
  obtain ⟨x, rfl, ⟨i, rfl, _⟩, q⟩ := h
  exact s_ret (ev_abs (ev_var rfl)) fun H1 e1 => q H1 e1
theorem ok__value (D : Dn K mg "_value" s__value ["value"]) :
    C8.Cal P w K mg base 1 "_value" (sp__value K) [] := by
  refine cal_of D sc__value (fun vs H Q E h => ?_) (fun f cdv A outer s H vs Q E hr h => ?_)
  · obtain ⟨_, rfl, _⟩ := h
    rfl
  refine ⟨_, (pss_one (ps_ret (pv 0))), ?_⟩
  obtain ⟨x, rfl, _, q⟩ := h
  exact s_ret (ev_var rfl) fun H1 e1 => q H1 e1
theorem ok__to_decimal (D : Dn K mg "_to_decimal" s__to_decimal ["number"]) (c_limited : C8.Cal P w K mg base 1 "limited" (sp_limited K) []) :
    C8.Cal P w K mg base 2 "_to_decimal" (sp__to_decimal K) [] := by
  refine cal_of D sc__to_decimal (fun vs H Q E h => ?_) (fun f cdv A outer s H vs Q E hr h => ?_)
  · obtain ⟨_, rfl, _⟩ := h
    rfl
  refine ⟨_, (pss_one (ps_ret (C8.pe_c c_limited hr (by decide) (by rfl) (pa_cons (pe_op op_mul pe_int (pv 0)) pa_nil)))), ?_⟩
  obtain ⟨x, rfl, ⟨i, rfl, _⟩, q⟩ := h
  exact s_ret (ec_lim (ev_op ev_c (ev_var rfl) (rv_I (.inl ⟨by decide, by decide⟩)))) fun H1 e1 => q H1 e1
theorem ok__length (D : Dn K mg "_length" s__length ["text"]) (z_len : mg "len" = none) :
    C8.Cal P w K mg base 1 "_length" (sp__length K) [] := by
  refine cal_of D sc__length (fun vs H Q E h => ?_) (fun f cdv A outer s H vs Q E hr h => ?_)
  · obtain ⟨_, rfl, _⟩ := h
    rfl
  refine ⟨_, (pss_one (ps_ret (pe_callB call_len_str (by rfl) z_len PySem.boot_len (pa_cons (pv 0) pa_nil)))), ?_⟩
  obtain ⟨x, rfl, ⟨s, rfl, hs⟩, q⟩ := h
  exact s_ret (ev_lenS (ev_var rfl) (by omega)) fun H1 e1 => q H1 e1
end
section
variable {P : Program} {w : World} {K : PySem.W.Frag} {mg : Str → Option Value} {base : Heap}
theorem ok_value_of_two (D : Dn K mg "value_of_two" s_value_of_two ["name", "first", "second"]) (c__are_alike : C8.Cal P w K mg base 2 "_are_alike" (sp__are_alike K) []) (c_is_day : C8.Cal P w K mg base 2 "is_day" (sp_is_day K) []) (c_is_integer : C8.Cal P w K mg base 1 "is_integer" (sp_is_integer K) []) {p_OF_DATES_of_two : Addr} {es_OF_DATES_of_two : Array DictEntry} {n_OF_DATES_of_two : Nat} (g_OF_DATES_of_two : ∃ u, mg "OF_DATES_of_two" = some u ∧ RelV (.ref p_OF_DATES_of_two) u) (h_OF_DATES_of_two : KDict K w p_OF_DATES_of_two es_OF_DATES_of_two n_OF_DATES_of_two) {p_OF_INTEGERS_of_two : Addr} {es_OF_INTEGERS_of_two : Array DictEntry} {n_OF_INTEGERS_of_two : Nat} (g_OF_INTEGERS_of_two : ∃ u, mg "OF_INTEGERS_of_two" = some u ∧ RelV (.ref p_OF_INTEGERS_of_two) u) (h_OF_INTEGERS_of_two : KDict K w p_OF_INTEGERS_of_two es_OF_INTEGERS_of_two n_OF_INTEGERS_of_two) {p_OF_TEXTS_of_two : Addr} {es_OF_TEXTS_of_two : Array DictEntry} {n_OF_TEXTS_of_two : Nat} (g_OF_TEXTS_of_two : ∃ u, mg "OF_TEXTS_of_two" = some u ∧ RelV (.ref p_OF_TEXTS_of_two) u) (h_OF_TEXTS_of_two : KDict K w p_OF_TEXTS_of_two es_OF_TEXTS_of_two n_OF_TEXTS_of_two) {p__OF_ALIKE : Addr} {es__OF_ALIKE : Array DictEntry} {n__OF_ALIKE : Nat} (g__OF_ALIKE : ∃ u, mg "_OF_ALIKE" = some u ∧ RelV (.ref p__OF_ALIKE) u) (h__OF_ALIKE : KDict K w p__OF_ALIKE es__OF_ALIKE n__OF_ALIKE) {p__OF_ANY : Addr} {es__OF_ANY : Array DictEntry} {n__OF_ANY : Nat} (g__OF_ANY : ∃ u, mg "_OF_ANY" = some u ∧ RelV (.ref p__OF_ANY) u) (h__OF_ANY : KDict K w p__OF_ANY es__OF_ANY n__OF_ANY) (tab : ∀ nm x y, nm ∈ binL → Ok x → Ok y → Opr2 P w K mg base p__OF_ANY p__OF_ALIKE p_OF_INTEGERS_of_two p_OF_TEXTS_of_two p_OF_DATES_of_two nm x y (binV nm x y)) :
    C8.Cal P w K mg base 5 "value_of_two" (sp_value_of_two K) [] := by
  refine cal_of D sc_value_of_two (fun vs H Q E h => ?_) (fun f cdv A outer s H vs Q E hr h => ?_)
  · obtain ⟨_, _, _, rfl, _⟩ := h
    rfl
  refine ⟨_, (pss_cons (ps_if (pt_cmpR (op_in_kd h__OF_ANY) (pv 0) (C8.pe_gc rfl g__OF_ANY) (by with_unfolding_all rfl))
      (pss_cons (ps_set (i := 3) sc_value_of_two.nd rfl (.inl rfl) (pe_ix ix_kdict (C8.pe_gc rfl g__OF_ANY) (pv 0) (fun _ _ => rfl)))
    (pss_one (ps_ret (pe_callH (i := 3) hr rfl (Or.inl rfl) (pa_cons (pv 1) (pa_cons (pv 2) pa_nil))))))
      pss_nil)
    (pss_cons (ps_if (pt_cmpR (op_in_kd h__OF_ALIKE) (pv 0) (C8.pe_gc rfl g__OF_ALIKE) (by with_unfolding_all rfl))
      (pss_cons (ps_set (i := 3) sc_value_of_two.nd rfl (.inl rfl) (pe_ix ix_kdict (C8.pe_gc rfl g__OF_ALIKE) (pv 0) (fun _ _ => rfl)))
    (pss_one (ps_ret (pe_ifExp (pt_val (C8.pe_c c__are_alike hr (by decide) (by rfl) (pa_cons (pv 1) (pa_cons (pv 2) pa_nil)))) (pe_callH (i := 3) hr rfl (Or.inl rfl) (pa_cons (pv 1) (pa_cons (pv 2) pa_nil))) pe_non))))
      pss_nil)
    (pss_cons (ps_if (pt_cmpR (op_in_kd h_OF_INTEGERS_of_two) (pv 0) (C8.pe_gc rfl g_OF_INTEGERS_of_two) (by with_unfolding_all rfl))
      (pss_cons (ps_set (i := 3) sc_value_of_two.nd rfl (.inl rfl) (pe_ix ix_kdict (C8.pe_gc rfl g_OF_INTEGERS_of_two) (pv 0) (fun _ _ => rfl)))
    (pss_one (ps_ret (pe_ifExp (PW.pt (pw_and (pt_val (C8.pe_c c_is_integer hr (by decide) (by rfl) (pa_cons (pv 1) pa_nil))) (pw_and1 (pt_val (C8.pe_c c_is_integer hr (by decide) (by rfl) (pa_cons (pv 2) pa_nil)))))) (pe_callH (i := 3) hr rfl (Or.inl rfl) (pa_cons (pv 1) (pa_cons (pv 2) pa_nil))) pe_non))))
      pss_nil)
    (pss_cons (ps_if (pt_cmpR (op_in_kd h_OF_TEXTS_of_two) (pv 0) (C8.pe_gc rfl g_OF_TEXTS_of_two) (by with_unfolding_all rfl))
      (pss_cons ps_never
    (pss_one ps_never))
      pss_nil)
    (pss_cons (ps_set (i := 3) sc_value_of_two.nd rfl (.inl rfl) (pe_ix ix_kdict (C8.pe_gc rfl g_OF_DATES_of_two) (pv 0) (fun _ _ => rfl)))
    (pss_one (ps_ret (pe_ifExp (PW.pt (pw_and (pt_val (C8.pe_c c_is_day hr (by decide) (by rfl) (pa_cons (pv 1) pa_nil))) (pw_and1 (pt_val (C8.pe_c c_is_integer hr (by decide) (by rfl) (pa_cons (pv 2) pa_nil)))))) (pe_callH (i := 3) hr rfl (Or.inl rfl) (pa_cons (pv 1) (pa_cons (pv 2) pa_nil))) pe_non)))))))), ?_⟩
  obtain ⟨nm, x, y, rfl, hnm, ⟨hx, bx⟩, ⟨hy, hb⟩, q⟩ := h
  have T := tab nm x y hnm hx hy
  have no : ∀ {d : Addr} {H0 : Hp}, PySem.W.nsIn K d nm = some none → EvT (tTest (tOp (fun x y H Q => ∃ (z : Str) (r : Option Value), x = .str z ∧ y = .ref d ∧ PySem.W.nsIn K d z = some r ∧ Q (.bl r.isSome) H) (tVar 0) (tC (.ref d)))) (start n_value_of_two [.str nm, x, y]) H0 false := fun e => et_test (ev_op (ev_var rfl) ev_c (rv_inKD e))
  have yes : ∀ {d f : Addr} {H0 : Hp}, PySem.W.nsIn K d nm = some (some (.ref f)) → EvT (tTest (tOp (fun x y H Q => ∃ (z : Str) (r : Option Value), x = .str z ∧ y = .ref d ∧ PySem.W.nsIn K d z = some r ∧ Q (.bl r.isSome) H) (tVar 0) (tC (.ref d)))) (start n_value_of_two [.str nm, x, y]) H0 true := fun e => et_test (ev_op (ev_var rfl) ev_c (rv_inKD e))
  have isI : ∀ {z : V}, isInt z = true → Ok z → bdV z → intB z := fun h o b => by
    cases o <;> first | (simp [isInt] at h; done) | exact ⟨_, rfl, b.1, b.2⟩
  have isD : ∀ {z : V}, isDay z = true → Ok z → dayP z := fun h o => by
    cases o <;> first | (simp [isDay] at h; done) | exact ⟨_, rfl, h⟩
  generalize binV nm x y = z at T q
  cases T with
  | any e1 hh hp =>
    refine q_when (yes e1) (fun _ H1 x1 => ?_) fun hb => nomatch hb
    refine q_asg (ev_op ev_c (ev_var rfl) (rv_ixKD (v := .ref _) h__OF_ANY e1 rfl)) fun H2 x2 => ?_
    exact s_ret (ec_held rfl hh hp (ev_var rfl) (ev_var rfl)) fun H3 x3 => q _ ((x1.trans x2).trans x3)
  | alike e1 e2 hh =>
    refine q_when (no e1) (fun hb => nomatch hb) fun _ H1 x1 => ?_
    refine q_when (yes e2) (fun _ H2 x2 => ?_) fun hb => nomatch hb
    refine q_asg (ev_op ev_c (ev_var rfl) (rv_ixKD (v := .ref _) h__OF_ALIKE e2 rfl)) fun H3 x3 => ?_
    refine s_ret (ev_if (et_B (ec_alike (ev_var rfl) (ev_var rfl) hx hy)) (fun hb => ?_) fun hb => ?_) fun H4 x4 => q _ (((x1.trans x2).trans x3).trans x4)
    · exact ev_is (ec_held rfl hh ⟨hx, hy⟩ (ev_var rfl) (ev_var rfl)) (by unfold iff1; rw [if_pos hb])
    · exact ev_is ev_c (by unfold iff1; rw [if_neg (by rw [hb]; decide)])
  | nums e1 e2 e3 hh =>
    refine q_when (no e1) (fun hb => nomatch hb) fun _ H1 x1 => ?_
    refine q_when (no e2) (fun hb => nomatch hb) fun _ H2 x2 => ?_
    refine q_when (yes e3) (fun _ H3 x3 => ?_) fun hb => nomatch hb
    refine q_asg (ev_op ev_c (ev_var rfl) (rv_ixKD (v := .ref _) h_OF_INTEGERS_of_two e3 rfl)) fun H4 x4 => ?_
    refine s_ret (ev_if (b := isInt x && isInt y) (et_and (et_B (ec_isint0 (ev_var rfl) hx.pl)) fun _ => et_B (ec_isint0 (ev_var rfl) hy.pl)) (fun hc => ?_) fun hc => ?_) fun H5 x5 => q _ ((((x1.trans x2).trans x3).trans x4).trans x5)
    · have h2 := hc
      rw [Bool.and_eq_true] at h2
      exact ev_is (ec_held rfl hh ⟨isI h2.1 hx bx, isI h2.2 hy hb⟩ (ev_var rfl) (ev_var rfl)) (by unfold iff1; rw [if_pos hc])
    · exact ev_is ev_c (by unfold iff1; rw [if_neg (by rw [hc]; decide)])
  | days e1 e2 e3 e4 e5 hh =>
    refine q_when (no e1) (fun hb => nomatch hb) fun _ H1 x1 => ?_
    refine q_when (no e2) (fun hb => nomatch hb) fun _ H2 x2 => ?_
    refine q_when (no e3) (fun hb => nomatch hb) fun _ H3 x3 => ?_
    refine q_when (no e4) (fun hb => nomatch hb) fun _ H4 x4 => ?_
    refine q_asg (ev_op ev_c (ev_var rfl) (rv_ixKD (v := .ref _) h_OF_DATES_of_two e5 rfl)) fun H5 x5 => ?_
    refine s_ret (ev_if (b := isDay x && isInt y) (et_and (et_B (ec_isday (ev_var rfl) hx.pl)) fun _ => et_B (ec_isint0 (ev_var rfl) hy.pl)) (fun hc => ?_) fun hc => ?_) fun H6 x6 => q _ (((((x1.trans x2).trans x3).trans x4).trans x5).trans x6)
    · have h2 := hc
      rw [Bool.and_eq_true] at h2
      exact ev_is (ec_held rfl hh ⟨isD h2.1 hx, isI h2.2 hy hb⟩ (ev_var rfl) (ev_var rfl)) (by unfold iff1; rw [if_pos hc])
    · exact ev_is ev_c (by unfold iff1; rw [if_neg (by rw [hc]; decide)])
theorem ok_binary (D : Dn K mg "binary" s_binary ["name", "first", "second"]) (c_value_of_two : C8.Cal P w K mg base 5 "value_of_two" (sp_value_of_two K) []) :
    C8.Cal P w K mg base 6 "binary" (sp_binary K) [] := by
  refine cal_of D sc_binary (fun vs H Q E h => ?_) (fun f cdv A outer s H vs Q E hr h => ?_)
  · obtain ⟨_, _, _, rfl, _⟩ := h
    rfl
  refine ⟨_, (pss_one (ps_ret (C8.pe_c c_value_of_two hr (by decide) (by rfl) (pa_cons (pv 0) (pa_cons (pv 1) (pa_cons (pv 2) pa_nil)))))), ?_⟩
  obtain ⟨nm, x, y, rfl, hnm, hx, hy, q⟩ := h
  exact s_ret (ec_two hnm hx hy (ev_var rfl) (ev_var rfl) (ev_var rfl)) fun H2 e2 => q _ e2
theorem ok_value_of_one (D : Dn K mg "value_of_one" s_value_of_one ["name", "value"]) (c_is_day : C8.Cal P w K mg base 2 "is_day" (sp_is_day K) []) (c_is_integer : C8.Cal P w K mg base 1 "is_integer" (sp_is_integer K) []) (c_negated : C8.Cal P w K mg base 1 "negated" (sp_negated K) []) (z_isinstance : mg "isinstance" = none) (z_str : mg "str" = none) {p_OF_DATES_of_one : Addr} {es_OF_DATES_of_one : Array DictEntry} {n_OF_DATES_of_one : Nat} (g_OF_DATES_of_one : ∃ u, mg "OF_DATES_of_one" = some u ∧ RelV (.ref p_OF_DATES_of_one) u) (h_OF_DATES_of_one : KDict K w p_OF_DATES_of_one es_OF_DATES_of_one n_OF_DATES_of_one) {p_OF_INTEGERS_of_one : Addr} {es_OF_INTEGERS_of_one : Array DictEntry} {n_OF_INTEGERS_of_one : Nat} (g_OF_INTEGERS_of_one : ∃ u, mg "OF_INTEGERS_of_one" = some u ∧ RelV (.ref p_OF_INTEGERS_of_one) u) (h_OF_INTEGERS_of_one : KDict K w p_OF_INTEGERS_of_one es_OF_INTEGERS_of_one n_OF_INTEGERS_of_one) {p_OF_TEXTS_of_one : Addr} {es_OF_TEXTS_of_one : Array DictEntry} {n_OF_TEXTS_of_one : Nat} (g_OF_TEXTS_of_one : ∃ u, mg "OF_TEXTS_of_one" = some u ∧ RelV (.ref p_OF_TEXTS_of_one) u) (h_OF_TEXTS_of_one : KDict K w p_OF_TEXTS_of_one es_OF_TEXTS_of_one n_OF_TEXTS_of_one) (tab1 : ∀ nm x, nm ∈ unL → nm ≠ "not" → nm ≠ "is null" → Opr1 P w K mg base p_OF_INTEGERS_of_one p_OF_TEXTS_of_one p_OF_DATES_of_one nm x (unV nm x)) :
    C8.Cal P w K mg base 5 "value_of_one" (sp_value_of_one K) [] := by
  refine cal_of D sc_value_of_one (fun vs H Q E h => ?_) (fun f cdv A outer s H vs Q E hr h => ?_)
  · obtain ⟨_, _, rfl, _⟩ := h
    rfl
  refine ⟨_, (pss_cons (ps_if (pt_cmpR op_eq (pv 0) pe_str (nomark _))
      (pss_one (ps_ret (C8.pe_c c_negated hr (by decide) (by rfl) (pa_cons (pv 1) pa_nil))))
      pss_nil)
    (pss_cons (ps_if (pt_cmpR op_eq (pv 0) pe_str (nomark _))
      (pss_one (ps_ret (pe_cmpR op_isN (pv 1) pe_non (nomark _))))
      pss_nil)
    (pss_cons (ps_if (pt_cmpR (op_in_kd h_OF_INTEGERS_of_one) (pv 0) (C8.pe_gc rfl g_OF_INTEGERS_of_one) (by with_unfolding_all rfl))
      (pss_cons (ps_set (i := 2) sc_value_of_one.nd rfl (.inl rfl) (pe_ix ix_kdict (C8.pe_gc rfl g_OF_INTEGERS_of_one) (pv 0) (fun _ _ => rfl)))
    (pss_one (ps_ret (pe_ifExp (pt_val (C8.pe_c c_is_integer hr (by decide) (by rfl) (pa_cons (pv 1) pa_nil))) (pe_callH (i := 2) hr rfl (Or.inl rfl) (pa_cons (pv 1) pa_nil)) pe_non))))
      pss_nil)
    (pss_cons (ps_if (pt_cmpR (op_in_kd h_OF_TEXTS_of_one) (pv 0) (C8.pe_gc rfl g_OF_TEXTS_of_one) (by with_unfolding_all rfl))
      (pss_cons (ps_set (i := 2) sc_value_of_one.nd rfl (.inl rfl) (pe_ix ix_kdict (C8.pe_gc rfl g_OF_TEXTS_of_one) (pv 0) (fun _ _ => rfl)))
    (pss_one (ps_ret (pe_ifExp (pt_val (pe_callB call_isi (by rfl) z_isinstance (by decide +kernel) (pa_cons (pv 1) (pa_cons (pe_bltn (v := .ty "str") (u := .type "str") rfl z_str (by decide +kernel) rfl) pa_nil)))) (pe_callH (i := 2) hr rfl (Or.inl rfl) (pa_cons (pv 1) pa_nil)) pe_non))))
      pss_nil)
    (pss_cons (ps_set (i := 2) sc_value_of_one.nd rfl (.inl rfl) (pe_ix ix_kdict (C8.pe_gc rfl g_OF_DATES_of_one) (pv 0) (fun _ _ => rfl)))
    (pss_one (ps_ret (pe_ifExp (pt_val (C8.pe_c c_is_day hr (by decide) (by rfl) (pa_cons (pv 1) pa_nil))) (pe_callH (i := 2) hr rfl (Or.inl rfl) (pa_cons (pv 1) pa_nil)) pe_non)))))))), ?_⟩
  obtain ⟨nm, x, rfl, hnm, ⟨hx, bx⟩, q⟩ := h
  refine q_when (b := decide (V.str nm = V.str "not")) (et_test (ev_op (ev_var rfl) ev_c (rv_eq rfl))) (fun hb H1 e1 => ?_) fun hb1 H1 e1 => ?_
  · have hn : nm = "not" := V.str.inj (of_decide_eq_true hb)
    subst hn
    exact s_ret (v := unV "not" x) (ec_neg3 (ev_var rfl)) fun H2 e2 => q H2 (e1.trans e2)
  have hn1 : nm ≠ "not" := fun z => by rw [z] at hb1; exact absurd hb1 (by decide +kernel)
  refine q_when (b := decide (V.str nm = V.str "is null")) (et_test (ev_op (ev_var rfl) ev_c (rv_eq rfl))) (fun hb H2 e2 => ?_) fun hb2 H2 e2 => ?_
  · have hn : nm = "is null" := V.str.inj (of_decide_eq_true hb)
    subst hn
    exact s_ret (v := unV "is null" x) (ev_is (ev_op (ev_var rfl) ev_c rv_isN) rfl) fun H3 e3 => q H3 (e1.trans (e2.trans e3))
  have hn2 : nm ≠ "is null" := fun z => by rw [z] at hb2; exact absurd hb2 (by decide +kernel)
  have T := tab1 nm x hnm hn1 hn2
  generalize unV nm x = z at T q
  cases T with
  | inty e3 hh =>
    refine q_when (b := true) (et_test (ev_op (ev_var rfl) ev_c (rv_inKD e3))) (fun _ H3 x3 => ?_) fun h => nomatch h
    refine q_asg (ev_op ev_c (ev_var rfl) (rv_ixKD (v := .ref _) h_OF_INTEGERS_of_one e3 rfl)) fun H4 x4 => ?_
    refine s_ret (ev_if (b := isInt x) (et_B (ec_isint0 (ev_var rfl) hx.pl)) (fun hc => ?_) fun hc => ?_) fun H5 x5 => q _ ((e1.trans e2).trans ((x3.trans x4).trans x5))
    · refine ev_is (ec_held1 rfl hh ?_ (ev_var rfl)) (by unfold iff1; rw [if_pos hc])
      cases hx <;> first | (simp [isInt] at hc; done) | exact ⟨_, rfl, bx.1, bx.2⟩
    · exact ev_is ev_c (by unfold iff1; rw [if_neg (by rw [hc]; decide)])
  | wrds e3 e4 hh =>
    refine q_when (b := false) (et_test (ev_op (ev_var rfl) ev_c (rv_inKD e3))) (fun h => nomatch h) fun _ H3 x3 => ?_
    refine q_when (b := true) (et_test (ev_op (ev_var rfl) ev_c (rv_inKD e4))) (fun _ H4 x4 => ?_) fun h => nomatch h
    refine q_asg (ev_op ev_c (ev_var rfl) (rv_ixKD (v := .ref _) h_OF_TEXTS_of_one e4 rfl)) fun H5 x5 => ?_
    refine s_ret (ev_if (b := isStr x) (et_B (ev_isStr (ev_var rfl) hx)) (fun hc => ?_) fun hc => ?_) fun H6 x6 => q _ ((e1.trans e2).trans ((x3.trans x4).trans (x5.trans x6)))
    · refine ev_is (ec_held1 rfl hh ?_ (ev_var rfl)) (by unfold iff1; rw [if_pos hc])
      cases hx <;> first | (simp [isStr] at hc; done) | exact ⟨_, rfl, bx⟩
    · exact ev_is ev_c (by unfold iff1; rw [if_neg (by rw [hc]; decide)])
  | days e3 e4 e5 hh =>
    refine q_when (b := false) (et_test (ev_op (ev_var rfl) ev_c (rv_inKD e3))) (fun h => nomatch h) fun _ H3 x3 => ?_
    refine q_when (b := false) (et_test (ev_op (ev_var rfl) ev_c (rv_inKD e4))) (fun h => nomatch h) fun _ H4 x4 => ?_
    refine q_asg (ev_op ev_c (ev_var rfl) (rv_ixKD (v := .ref _) h_OF_DATES_of_one e5 rfl)) fun H5 x5 => ?_
    refine s_ret (ev_if (b := isDay x) (et_B (ec_isday (ev_var rfl) hx.pl)) (fun hc => ?_) fun hc => ?_) fun H6 x6 => q _ ((e1.trans e2).trans ((x3.trans x4).trans (x5.trans x6)))
    · exact ev_is (ec_held1 rfl hh trivial (ev_var rfl)) (by unfold iff1; rw [if_pos hc])
    · exact ev_is ev_c (by unfold iff1; rw [if_neg (by rw [hc]; decide)])
theorem ok_unary (D : Dn K mg "unary" s_unary ["name", "value"]) (c_value_of_one : C8.Cal P w K mg base 5 "value_of_one" (sp_value_of_one K) []) :
    C8.Cal P w K mg base 6 "unary" (sp_unary K) [] := by
  refine cal_of D sc_unary (fun vs H Q E h => ?_) (fun f cdv A outer s H vs Q E hr h => ?_)
  · obtain ⟨_, _, rfl, _⟩ := h
    rfl
  refine ⟨_, (pss_one (ps_ret (C8.pe_c c_value_of_one hr (by decide) (by rfl) (pa_cons (pv 0) (pa_cons (pv 1) pa_nil))))), ?_⟩
  obtain ⟨nm, x, rfl, hnm, hx, q⟩ := h
  exact s_ret (ec_one hnm hx (ev_var rfl) (ev_var rfl)) fun H2 e2 => q _ e2
theorem ok_evaluate {rn : Nat} (D : Dn K mg "evaluate" s_evaluate ["expression", "row"]) (c_binary : C8.Cal P w K mg base 6 "binary" (sp_binary K) []) (c_unary : C8.Cal P w K mg base 6 "unary" (sp_unary K) []) (z_len : mg "len" = none) (c_evaluate : C8.Cal P w K mg base (7 + rn) "evaluate" (spR_evaluate rn K) []) :
    C8.Cal P w K mg base (7 + rn + 1) "evaluate" (spR_evaluate (rn + 1) K) [] := by
  refine cal_of D sc_evaluate (fun vs H Q E h => ?_) (fun f cdv A outer s H vs Q E hr h => ?_)
  · obtain ⟨_, _, _, _, rfl, _⟩ := h
    rfl
  refine ⟨_, (pss_cons (ps_set (i := 2) sc_evaluate.nd rfl (.inl rfl) (pe_ix ix_tup (pv 0) pe_int (fun _ _ => rfl)))
    (pss_cons (ps_if (pt_cmpR op_eq (pv 2) pe_str (nomark _))
      (pss_one (ps_ret (pe_ix ix_tup (pv 0) pe_int (fun _ _ => rfl))))
      pss_nil)
    (pss_cons (ps_if (pt_cmpR op_eq (pv 2) pe_str (nomark _))
      (pss_cons (ps_set (i := 3) sc_evaluate.nd rfl (.inl rfl) (pe_ix ix_tup (pv 0) pe_int (fun _ _ => rfl)))
    (pss_one (ps_ret (pe_ifExp (pt_cmpR op_lt (pv 3) (pe_callB call_len_seq (by rfl) z_len PySem.boot_len (pa_cons (pv 1) pa_nil)) (nomark _)) (pe_ix ix_list (pv 1) (pv 3) (fun _ _ => rfl)) pe_non))))
      pss_nil)
    (pss_cons (ps_if (pt_cmpR op_eq (pv 2) pe_str (nomark _))
      (pss_one (ps_ret (C8.pe_c c_unary hr (by omega) (by rfl) (pa_cons (pe_ix ix_tup (pv 0) pe_int (fun _ _ => rfl)) (pa_cons (C8.pe_c c_evaluate hr (Nat.le_refl _) (by rfl) (pa_cons (pe_ix ix_tup (pv 0) pe_int (fun _ _ => rfl)) (pa_cons (pv 1) pa_nil))) pa_nil)))))
      pss_nil)
    (pss_cons (ps_if (pt_cmpR op_eq (pv 2) pe_str (nomark _))
      (pss_one (ps_ret (C8.pe_c c_binary hr (by omega) (by rfl) (pa_cons (pe_ix ix_tup (pv 0) pe_int (fun _ _ => rfl)) (pa_cons (C8.pe_c c_evaluate hr (Nat.le_refl _) (by rfl) (pa_cons (pe_ix ix_tup (pv 0) pe_int (fun _ _ => rfl)) (pa_cons (pv 1) pa_nil))) (pa_cons (C8.pe_c c_evaluate hr (Nat.le_refl _) (by rfl) (pa_cons (pe_ix ix_tup (pv 0) pe_int (fun _ _ => rfl)) (pa_cons (pv 1) pa_nil))) pa_nil))))))
      pss_nil)
    (pss_cons (ps_if (pt_cmpR op_eq (pv 2) pe_str (nomark _))
      (pss_cons (ps_set (i := 4) sc_evaluate.nd rfl (.inl rfl) (pe_ifExp (pt_cmpR op_isTF (C8.pe_c c_evaluate hr (Nat.le_refl _) (by rfl) (pa_cons (pe_ix ix_tup (pv 0) pe_int (fun _ _ => rfl)) (pa_cons (pv 1) pa_nil))) pe_bl (nomark _)) pe_int pe_int))
    (pss_one (ps_ret (C8.pe_c c_evaluate hr (Nat.le_refl _) (by rfl) (pa_cons (pe_ix ix_tup (pv 0) (pv 4) (fun _ _ => rfl)) (pa_cons (pv 1) pa_nil))))))
      pss_nil)
    (pss_cons ps_never
    (pss_one ps_never)))))))), ?_⟩
  obtain ⟨v, e, p, xs, rfl, ⟨hx, hN, hd⟩, hS, hw, hl, q⟩ := h
  obtain ⟨ad, ys, rfl, hT, hV⟩ := xa_at hx
  refine q_asg (v := .str e.hd) (ev_ix (i := 0) (ev_var rfl) hT ev_c hV.hd) fun H1 e1 => ?_
  have hT1 := ex_t e1 hT
  have no : ∀ {a b : Str} {H0 : Hp} {σ : L2.St} {r : Bool}, σ[2]? = some (some (.str a)) → isS a b = r → EvT (tTest (tOp rEq (tVar 2) (tC (.str b)))) σ H0 r := fun h hr => et_is (et_S (ev_var h) ev_c) hr
  have hpos := xdep_pos e
  cases hV with
  | cst x hxv =>
    refine q_when (b := true) (no rfl (by show isS "constant" "constant" = true; decide +kernel)) (fun _ H2 e2 => ?_) fun h => nomatch h
    exact s_ret (ev_ix (i := 1) (ev_var rfl) (ex_t e2 hT1) ev_c rfl) fun H3 e3 => q H3 (e1.trans (e2.trans e3))
  | col n =>
    refine q_when (b := false) (no rfl (by show isS "column" "constant" = false; decide +kernel)) (fun h => nomatch h) fun _ H2 e2 => ?_
    refine q_when (b := true) (no rfl (by show isS "column" "column" = true; decide +kernel)) (fun _ H3 e3 => ?_) fun h => nomatch h
    refine q_asg (v := .int (n : Int)) (ev_ix (i := 1) (ev_var rfl) (ex_t (e2.trans e3) hT1) ev_c rfl) fun H4 e4 => ?_
    have x4 := e1.trans (e2.trans (e3.trans e4))
    refine s_ret (v := evX xs (.col n)) (ev_if (b := decide ((n : Int) < (xs.length : Int))) (et_test (ev_op (ev_var rfl) (ev_len (ev_var rfl) (ex_l x4 hS)) rv_I0)) (fun hb => ?_) fun hb => ?_) fun H5 e5 => q H5 (x4.trans e5)
    · have hlt : n < xs.length := by have := of_decide_eq_true hb; omega
      exact ev_op (ev_var rfl) (ev_var rfl) (rv_ixL (ex_l x4 hS) (atI_nat (by rw [List.getElem?_eq_getElem hlt]; show some xs[n] = some (xs.getD n .non); rw [List.getD_eq_getElem?_getD, List.getElem?_eq_getElem hlt]; rfl)))
    · have hlt : ¬ n < xs.length := by have := of_decide_eq_false hb; omega
      refine ev_is ev_c ?_
      show V.non = xs.getD n .non
      rw [List.getD_eq_getElem?_getD, List.getElem?_eq_none (by omega)]
      rfl
  | un nm a y ha =>
    have hda : a.dep + 1 ≤ rn + 1 := hd
    have hpa := xdep_pos a
    cases rn with
    | zero => omega
    | succ n =>
    refine q_when (b := false) (no rfl (by show isS "unary" "constant" = false; decide +kernel)) (fun h => nomatch h) fun _ H2 e2 => ?_
    refine q_when (b := false) (no rfl (by show isS "unary" "column" = false; decide +kernel)) (fun h => nomatch h) fun _ H3 e3 => ?_
    refine q_when (b := true) (no rfl (by show isS "unary" "unary" = true; decide +kernel)) (fun _ H4 e4 => ?_) fun h => nomatch h
    have x4 := e1.trans (e2.trans (e3.trans e4))
    have hT4 := ex_t (e2.trans (e3.trans e4)) hT1
    exact s_ret (ec_one hN.1 (ev_vok hw ha.2) (ev_ix (i := 1) (ev_var rfl) hT4 ev_c rfl) (ec_evalR (n := n) (ev_ix (i := 2) (ev_var rfl) hT4 ev_c rfl) (ev_var rfl) (ha.ex x4) hN.2 (by omega) (ex_l x4 hS) hw hl)) fun H5 e5 => q H5 (x4.trans e5)
  | bin nm a b y z ha hb =>
    have hda : max a.dep b.dep + 1 ≤ rn + 1 := hd
    have hpa := xdep_pos a
    cases rn with
    | zero => omega
    | succ n =>
    refine q_when (b := false) (no rfl (by show isS "binary" "constant" = false; decide +kernel)) (fun h => nomatch h) fun _ H2 e2 => ?_
    refine q_when (b := false) (no rfl (by show isS "binary" "column" = false; decide +kernel)) (fun h => nomatch h) fun _ H3 e3 => ?_
    refine q_when (b := false) (no rfl (by show isS "binary" "unary" = false; decide +kernel)) (fun h => nomatch h) fun _ H4 e4 => ?_
    refine q_when (b := true) (no rfl (by show isS "binary" "binary" = true; decide +kernel)) (fun _ H5 e5 => ?_) fun h => nomatch h
    have x5 := e1.trans (e2.trans (e3.trans (e4.trans e5)))
    have hT5 := ex_t (e2.trans (e3.trans (e4.trans e5))) hT1
    exact s_ret (ec_two hN.1 (ev_vok hw ha.2) (ev_vok hw hb.2) (ev_ix (i := 1) (ev_var rfl) hT5 ev_c rfl) (ec_evalR (n := n) (ev_ix (i := 2) (ev_var rfl) hT5 ev_c rfl) (ev_var rfl) (ha.ex x5) hN.2.1 (by omega) (ex_l x5 hS) hw hl) (ec_evalR (n := n) (ev_ix (i := 3) (ev_var rfl) hT5 ev_c rfl) (ev_var rfl) (hb.ex x5) hN.2.2 (by omega) (ex_l x5 hS) hw hl)) fun H6 e6 => q H6 (x5.trans e6)
  | cho c a b x y z hc ha hb =>
    have hda : max c.dep (max a.dep b.dep) + 1 ≤ rn + 1 := hd
    have hpa := xdep_pos a
    cases rn with
    | zero => omega
    | succ n =>
    refine q_when (b := false) (no rfl (by show isS "choice" "constant" = false; decide +kernel)) (fun h => nomatch h) fun _ H2 e2 => ?_
    refine q_when (b := false) (no rfl (by show isS "choice" "column" = false; decide +kernel)) (fun h => nomatch h) fun _ H3 e3 => ?_
    refine q_when (b := false) (no rfl (by show isS "choice" "unary" = false; decide +kernel)) (fun h => nomatch h) fun _ H4 e4 => ?_
    refine q_when (b := false) (no rfl (by show isS "choice" "binary" = false; decide +kernel)) (fun h => nomatch h) fun _ H5 e5 => ?_
    refine q_when (b := true) (no rfl (by show isS "choice" "choice" = true; decide +kernel)) (fun _ H6 e6 => ?_) fun h => nomatch h
    have x6 := e1.trans (e2.trans (e3.trans (e4.trans (e5.trans e6))))
    have hT6 := ex_t (e2.trans (e3.trans (e4.trans (e5.trans e6)))) hT1
    refine q_asg (v := .int (if evX xs c = .bl true then 2 else 3)) (ev_if (b := decide (evX xs c = .bl true)) (et_test (ev_op (ec_evalR (n := n) (ev_ix (i := 1) (ev_var rfl) hT6 ev_c rfl) (ev_var rfl) (hc.ex x6) hN.1 (by omega) (ex_l x6 hS) hw hl) ev_c rv_isT)) (fun hz => ev_is ev_c (by rw [if_pos (of_decide_eq_true hz)])) fun hz => ev_is ev_c (by rw [if_neg (of_decide_eq_false hz)])) fun H7 e7 => ?_
    have x7 := x6.trans e7
    have hT7 := ex_t e7 hT6
    show tRet _ _ _ _
    have hq : (evX xs (.cho c a b)) = if evX xs c = .bl true then evX xs a else evX xs b := rfl
    rw [hq] at q
    by_cases hz : evX xs c = .bl true
    · rw [if_pos hz] at q ⊢
      exact s_ret (ec_evalR (n := n) (ev_ix (i := 2) (ev_var rfl) hT7 (ev_var rfl) rfl) (ev_var rfl) (ha.ex x7) hN.2.1 (by omega) (ex_l x7 hS) hw hl) fun H8 e8 => q H8 (x7.trans e8)
    · rw [if_neg hz] at q ⊢
      exact s_ret (ec_evalR (n := n) (ev_ix (i := 3) (ev_var rfl) hT7 (ev_var rfl) rfl) (ev_var rfl) (hb.ex x7) hN.2.2 (by omega) (ex_l x7 hS) hw hl) fun H8 e8 => q H8 (x7.trans e8)
theorem ok_holds (D : Dn K mg "holds" s_holds ["expression", "row"]) (c_evaluate : C8.Cal P w K mg base 13 "evaluate" (sp_evaluate K) []) :
    C8.Cal P w K mg base 14 "holds" (sp_holds K) [] := by
  refine cal_of D sc_holds (fun vs H Q E h => ?_) (fun f cdv A outer s H vs Q E hr h => ?_)
  · obtain ⟨_, _, _, _, rfl, _⟩ := h
    rfl
  refine ⟨_, (pss_one (ps_ret (pe_cmpR op_isTF (C8.pe_c c_evaluate hr (by decide) (by rfl) (pa_cons (pv 0) (pa_cons (pv 1) pa_nil))) pe_bl (nomark _)))), ?_⟩
  obtain ⟨v, e, a, xs, rfl, ⟨hx, hN, hd⟩, hS, hw, hl, q⟩ := h
  exact s_ret (ev_op (ec_eval (ev_var rfl) (ev_var rfl) hx hN hd hS hw hl) ev_c rv_isT) fun H1 e1 => q H1 e1
end
def inB (s : Spn) (v : V) : Bool := match s with
  | .any => true
  | .sp n lo hi => if v = .non then n else canS (.sp n lo hi) v
theorem in_can {s : Spn} {v : V} (h : inB s v = true) (hn : v ≠ .non) : canS s v = true := by
  cases s with
  | any => rfl
  | sp n lo hi =>
    unfold inB at h
    simp only at h
    rw [if_neg hn] at h
    exact h
theorem in_sp {n : Bool} {lo hi v : V} (h : inB (.sp n lo hi) v = true) (hn : v ≠ .non) : lo ≠ .non ∧ vlt v lo = false ∧ vlt hi v = false := by
  have h := in_can h hn
  unfold canS at h
  simp only [Bool.and_eq_true, Bool.not_eq_true', decide_eq_false_iff_not] at h
  exact ⟨h.1, h.2.1, h.2.2⟩
theorem sp_in {n : Bool} {lo hi v : V} (h0 : v = .non → n = true) (h1 : v ≠ .non → lo ≠ .non ∧ vlt v lo = false ∧ vlt hi v = false) : inB (.sp n lo hi) v = true := by
  unfold inB
  simp only
  by_cases z : v = .non
  · rw [if_pos z]; exact h0 z
  · rw [if_neg z]
    unfold canS
    obtain ⟨a, b, c⟩ := h1 z
    simp only [Bool.and_eq_true, Bool.not_eq_true', decide_eq_false_iff_not]
    exact ⟨a, b, c⟩
theorem tru_in {n h f : Bool} {x : V} (hx : x = .non ∨ x = .bl true ∨ x = .bl false) (a : x = .bl true → h = true) (b : x = .bl false → f = true) (c : x = .non → n = true) : inB (truS n h f) x = true := by
  unfold truS
  rcases hx with rfl | rfl | rfl
  · have := c rfl
    split <;> exact sp_in (fun _ => this) (fun z => (z rfl).elim)
  · have := a rfl
    subst this
    rw [if_neg (by simp)]
    refine sp_in (fun z => nomatch z) fun _ => ⟨nofun, ?_, vlt_irr (.bl _)⟩
    cases f
    · exact vlt_irr (.bl _)
    · show vlt (.bl true) (.bl false) = false
      decide +kernel
  · have := b rfl
    subst this
    rw [if_neg (by simp)]
    refine sp_in (fun z => nomatch z) fun _ => ⟨nofun, vlt_irr (.bl _), ?_⟩
    cases h
    · exact vlt_irr (.bl _)
    · show vlt (.bl true) (.bl false) = false
      decide +kernel
theorem truth_of (b : Bool) : V.bl b = .non ∨ V.bl b = .bl true ∨ V.bl b = .bl false := by cases b; exact .inr (.inr rfl); exact .inr (.inl rfl)
theorem neg_of (x : V) : neg3 x = .non ∨ neg3 x = .bl true ∨ neg3 x = .bl false := by unfold neg3; split; exact truth_of _; split; exact truth_of _; exact .inl rfl
theorem and_of (x y : V) : and3 x y = .non ∨ and3 x y = .bl true ∨ and3 x y = .bl false := by unfold and3; split; exact truth_of _; split; exact truth_of _; exact .inl rfl
theorem or_of (x y : V) : or3 x y = .non ∨ or3 x y = .bl true ∨ or3 x y = .bl false := by unfold or3; split; exact truth_of _; split; exact truth_of _; exact .inl rfl
theorem bl_non (b : Bool) : V.bl b ≠ .non := nofun
theorem not_in {s : Spn} {v : V} (h : inB s v = true) : inB (notS s) (neg3 v) = true := by
  refine tru_in (neg_of v) (fun z => ?_) (fun z => ?_) fun _ => rfl
  · unfold neg3 at z
    split at z
    · cases z
    · split at z
      · rename_i e; exact in_can (by rw [← e]; exact h) (bl_non _)
      · cases z
  · unfold neg3 at z
    split at z
    · rename_i e; exact in_can (by rw [← e]; exact h) (bl_non _)
    · split at z <;> cases z
theorem nul_in {s : Spn} {v : V} (h : inB s v = true) : inB (nulS s) (.bl (decide (v = .non))) = true := by
  refine tru_in (truth_of _) (fun z => ?_) (fun z => ?_) fun z => nomatch z
  · have hv : v = .non := of_decide_eq_true (V.bl.inj z)
    subst hv
    cases s with
    | any => rfl
    | sp n lo hi => exact h
  · have hv : v ≠ .non := of_decide_eq_false (V.bl.inj z)
    cases s with
    | any => rfl
    | sp n lo hi =>
      show (!decide (lo = .non)) = true
      rw [decide_eq_false (in_sp h hv).1]
      rfl
/-- whole numbers -/
theorem int_in {n : Bool} {i j k : Int} (h : inB (.sp n (.int i) (.int j)) (.int k) = true) : i ≤ k ∧ k ≤ j := by
  obtain ⟨_, a, b⟩ := in_sp h nofun
  rw [vlt_int] at a b
  have := of_decide_eq_false a
  have := of_decide_eq_false b
  omega
theorem in_int {i j k : Int} (h : i ≤ k ∧ k ≤ j) : inB (.sp true (.int i) (.int j)) (.int k) = true := sp_in (fun _ => rfl) fun _ => ⟨nofun, by rw [vlt_int]; exact decide_eq_false (by omega), by rw [vlt_int]; exact decide_eq_false (by omega)⟩
theorem in_non {lo hi : V} : inB (.sp true lo hi) .non = true := sp_in (fun _ => rfl) fun z => (z rfl).elim
theorem in_lim {i j k : Int} (h : i ≤ k ∧ k ≤ j) : inB (.sp true (.int i) (.int j)) (limV k) = true := by
  unfold limV
  split
  · exact in_int h
  · exact in_non
theorem in_day {i j k : Int} (h : i ≤ k ∧ k ≤ j) : inB (.sp true (.int i) (.int j)) (dayV (.int k)) = true := by
  show inB _ (if isDayI k = true then .int k else .non) = true
  split
  · exact in_int h
  · exact in_non
theorem in_iff {b : Bool} {s : Spn} {x : V} (h0 : inB s .non = true) (h : b = true → inB s x = true) : inB s (iff1 b x) = true := by
  unfold iff1
  split
  · rename_i z; exact h z
  · exact h0
theorem isI_at {v : V} (h : isInt v = true) : ∃ k : Int, v = .int k := by cases v <;> first | (simp [isInt] at h; done) | exact ⟨_, rfl⟩
theorem isD_at {v : V} (h : isDay v = true) : ∃ k : Int, v = .int k ∧ isDayI k = true := by cases v <;> first | (simp [isDay] at h; done) | exact ⟨_, rfl, h⟩
theorem isS_yes (a : Str) : isS a a = true := decide_eq_true rfl
theorem un_in {nm : Str} {s : Spn} {v : V} (hn : nm ∈ unL) (h : inB s v = true) : inB (unS nm s) (unV nm v) = true := by
  have num : ∀ {x : V}, isUn nm = true → isS nm "not" = false → isS nm "is null" = false → (∀ p, intsS s = some p → inB (unI nm p.1 p.2) x = true) → inB (unS nm s) x = true := fun {x} h1 h2 h3 k => by
    unfold unS
    rw [if_neg (by rw [h2]; decide), if_neg (by rw [h3]; decide), if_pos h1]
    cases e : intsS s with
    | none => rfl
    | some p => exact k p e
  simp only [unL, List.mem_cons, List.not_mem_nil, or_false] at hn
  rcases hn with rfl | rfl | rfl | rfl | rfl | rfl | rfl | rfl | rfl
  · exact not_in h
  · exact nul_in h
  · refine num (by decide +kernel) (by decide +kernel) (by decide +kernel) fun p e => ?_
    obtain ⟨n, rfl⟩ := ints_at e
    show inB (.sp true (.int (-p.2)) (.int (-p.1))) (iff1 (isInt v) (negV v)) = true
    refine in_iff in_non fun hi => ?_
    obtain ⟨k, rfl⟩ := isI_at hi
    have := int_in h
    exact in_int ⟨by omega, by omega⟩
  · refine num (by decide +kernel) (by decide +kernel) (by decide +kernel) fun p e => ?_
    obtain ⟨n, rfl⟩ := ints_at e
    show inB (.sp true (.int (lowA p.1 p.2)) (.int (mx2 (-p.1) p.2))) (iff1 (isInt v) (absV v)) = true
    refine in_iff in_non fun hi => ?_
    obtain ⟨k, rfl⟩ := isI_at hi
    have := int_in h
    refine in_int (k := if k < 0 then -k else k) ?_
    unfold lowA mx2
    split <;> split <;> split <;> split <;> omega
  · refine num (by decide +kernel) (by decide +kernel) (by decide +kernel) fun p e => ?_
    obtain ⟨n, rfl⟩ := ints_at e
    show inB (.sp true (.int p.1) (.int p.2)) (iff1 (isDay v) (idV v)) = true
    refine in_iff in_non fun hi => ?_
    obtain ⟨k, rfl, _⟩ := isD_at hi
    exact in_int (int_in h)
  · refine num (by decide +kernel) (by decide +kernel) (by decide +kernel) fun p e => ?_
    obtain ⟨n, rfl⟩ := ints_at e
    show inB (.sp true (.int p.1) (.int p.2)) (iff1 (isInt v) (idV v)) = true
    refine in_iff in_non fun hi => ?_
    obtain ⟨k, rfl⟩ := isI_at hi
    exact in_int (int_in h)
  · refine num (by decide +kernel) (by decide +kernel) (by decide +kernel) fun p e => ?_
    obtain ⟨n, rfl⟩ := ints_at e
    show inB (.sp true (.int (10000 * p.1)) (.int (10000 * p.2))) (iff1 (isInt v) (decV v)) = true
    refine in_iff in_non fun hi => ?_
    obtain ⟨k, rfl⟩ := isI_at hi
    have := int_in h
    exact in_lim ⟨by omega, by omega⟩
  · exact nul_in h
  · have e : unS "length" s = .any := by
      unfold unS
      rw [if_neg (by decide +kernel), if_neg (by decide +kernel), if_neg (by decide +kernel)]
    rw [e]
    rfl
theorem eit_in {a b : Spn} {v : V} (oa : SOk a) (ob : SOk b) (hv : Ok v) (h : inB a v = true ∨ inB b v = true) : inB (eitS a b) v = true := by
  cases a with
  | any => rfl
  | sp n lo hi => cases b with
    | any => rfl
    | sp m l2 h2 =>
      obtain ⟨a1, a2, a3, a4⟩ := oa
      obtain ⟨b1, b2, b3, b4⟩ := ob
      by_cases z : v = .non
      · have hnm : (n || m) = true := by
          subst z
          rcases h with h | h
          · have : n = true := h
            rw [this]; rfl
          · have : m = true := h
            rw [this]; simp
        show inB (if lo = .non then _ else if l2 = .non then _ else _) v = true
        split
        · exact sp_in (fun _ => hnm) fun w => (w z).elim
        split
        · exact sp_in (fun _ => hnm) fun w => (w z).elim
        · exact sp_in (fun _ => hnm) fun w => (w z).elim
      · have h' : (lo ≠ .non ∧ vlt v lo = false ∧ vlt hi v = false) ∨ (l2 ≠ .non ∧ vlt v l2 = false ∧ vlt h2 v = false) := h.imp (fun h => in_sp h z) fun h => in_sp h z
        show inB (if lo = .non then _ else if l2 = .non then _ else _) v = true
        split
        · rename_i e
          exact sp_in (fun w => (z w).elim) fun _ => h'.elim (fun h => (h.1 e).elim) id
        split
        · rename_i e
          exact sp_in (fun w => (z w).elim) fun _ => h'.elim id fun h => (h.1 e).elim
        · rename_i n1 n2
          refine sp_in (fun w => (z w).elim) fun _ => ⟨by split; exact n2; exact n1, ?_, ?_⟩
          · split
            · rename_i c
              rcases h' with h | h
              · exact vlt_no hv a1 b1 h.2.1 (vlt_asym b1 a1 c)
              · exact h.2.1
            · rename_i c
              have c : vlt l2 lo = false := by cases w : vlt l2 lo; rfl; exact (c w).elim
              rcases h' with h | h
              · exact h.2.1
              · exact vlt_no hv b1 a1 h.2.1 c
          · split
            · rename_i c
              rcases h' with h | h
              · exact vlt_no b2 a2 hv (vlt_asym a2 b2 c) h.2.2
              · exact h.2.2
            · rename_i c
              have c : vlt hi h2 = false := by cases w : vlt hi h2; rfl; exact (c w).elim
              rcases h' with h | h
              · exact h.2.2
              · exact vlt_no a2 b2 hv c h.2.2
theorem and_in {a b : Spn} {x y : V} (ha : inB a x = true) (hb : inB b y = true) : inB (andS a b) (and3 x y) = true := by
  refine tru_in (and_of x y) (fun z => ?_) (fun z => ?_) fun _ => rfl
  · unfold and3 at z
    split at z
    · cases z
    · split at z
      · rename_i e
        rw [in_can (by rw [← e.1]; exact ha) (bl_non _), in_can (by rw [← e.2]; exact hb) (bl_non _)]
        rfl
      · cases z
  · unfold and3 at z
    split at z
    · rename_i e
      rcases e with e | e
      · rw [in_can (by rw [← e]; exact ha) (bl_non _)]; rfl
      · rw [in_can (s := b) (by rw [← e]; exact hb) (bl_non _), Bool.or_true]
    · split at z <;> cases z
theorem or_in {a b : Spn} {x y : V} (ha : inB a x = true) (hb : inB b y = true) : inB (orS a b) (or3 x y) = true := by
  refine tru_in (or_of x y) (fun z => ?_) (fun z => ?_) fun _ => rfl
  · unfold or3 at z
    split at z
    · rename_i e
      rcases e with e | e
      · rw [in_can (by rw [← e]; exact ha) (bl_non _)]; rfl
      · rw [in_can (s := b) (by rw [← e]; exact hb) (bl_non _), Bool.or_true]
    · split at z <;> cases z
  · unfold or3 at z
    split at z
    · cases z
    · split at z
      · rename_i e
        rw [in_can (by rw [← e.1]; exact ha) (bl_non _), in_can (by rw [← e.2]; exact hb) (bl_non _)]
        rfl
      · cases z
theorem alike_nn {x y : V} (h : alike x y = true) (hx : Ok x) (hy : Ok y) : x ≠ .non ∧ y ≠ .non := by
  unfold alike at h
  rw [Bool.and_eq_true, Bool.not_eq_true', decide_eq_false_iff_not] at h
  refine ⟨h.1, fun z => ?_⟩
  subst z
  have := V.int.inj (of_decide_eq_true h.2)
  cases hx with
  | non => exact h.1 rfl
  | bl b => exact absurd this (by show (1 : Int) ≠ 0; decide)
  | int i => exact absurd this (by show (2 : Int) ≠ 0; decide)
  | str s hs => exact absurd this (by show (3 : Int) ≠ 0; decide)
theorem same_eq {x y : V} (hx : Ok x) (hy : Ok y) (h : PyData.eqv (rkD x) (rkD y) = true) : x = y := by
  have two : ∀ {a b : Int} {p q : PyData}, PyData.eqv (.tuple [.int a, p]) (.tuple [.int b, q]) = true → a = b ∧ PyData.eqv p q = true := fun {a b p q} h => by
    have h' : ((a == b) && (PyData.eqv p q && true)) = true := h
    rw [Bool.and_eq_true, Bool.and_true, beq_iff_eq] at h'
    exact h'
  cases hx with
  | non => cases hy with
    | non => rfl
    | bl b => exact absurd (two h).1 (by simp [kr])
    | int i => exact absurd (two h).1 (by simp [kr])
    | str s hs => exact absurd (two h).1 (by simp [kr])
  | bl b => cases hy with
    | non => exact absurd (two h).1 (by simp [kr])
    | bl c =>
      have := (two h).2
      have e : ((if b then (1 : Int) else 0) == (if c then 1 else 0)) = true := this
      cases b <;> cases c <;> first | rfl | exact absurd e (by decide)
    | int i => exact absurd (two h).1 (by simp [kr])
    | str s hs => exact absurd (two h).1 (by simp [kr])
  | int i => cases hy with
    | non => exact absurd (two h).1 (by simp [kr])
    | bl b => exact absurd (two h).1 (by simp [kr])
    | int j =>
      have e : (i == j) = true := (two h).2
      rw [beq_iff_eq.mp e]
    | str s hs => exact absurd (two h).1 (by simp [kr])
  | str s hs => cases hy with
    | non => exact absurd (two h).1 (by simp [kr])
    | bl b => exact absurd (two h).1 (by simp [kr])
    | int i => exact absurd (two h).1 (by simp [kr])
    | str t ht =>
      have e : (s == t) = true := (two h).2
      rw [beq_iff_eq.mp e]
theorem cmp_in {nm : Str} {a b : Spn} {x y : V} {g : V → V → V} (hn : nm = "equal" ∨ nm = "less" ∨ nm = "at most") (hg : g = if nm = "equal" then sameV else if nm = "less" then lessV else mostV) (oa : SOk a) (ob : SOk b) (hx : Ok x) (hy : Ok y) (ha : inB a x = true) (hb : inB b y = true) : inB (cmpS nm a b) (iff1 (alike x y) (g x y)) = true := by
  have hB : ∃ r, g x y = .bl r := by
    rw [hg]
    split
    · exact ⟨_, rfl⟩
    split
    · exact ⟨_, rfl⟩
    · exact ⟨_, rfl⟩
  unfold cmpS
  split
  · rename_i hh
    refine in_iff in_non fun hal => ?_
    obtain ⟨nx, ny⟩ := alike_nn hal hx hy
    have has : ∀ {s : Spn} {v : V}, inB s v = true → v ≠ .non → hasS s = true := fun {s v} h hv => by
      cases s with
      | any => rfl
      | sp n lo hi =>
        show (!decide (lo = .non)) = true
        rw [decide_eq_false (in_sp h hv).1]
        rfl
    rw [has ha nx, has hb ny] at hh
    cases hh
  · have anyC : inB (.sp true (.bl false) (.bl true)) (iff1 (alike x y) (g x y)) = true := by
      obtain ⟨t, ht⟩ := hB
      rw [ht]
      refine in_iff in_non fun _ => sp_in (fun z => nomatch z) fun _ => ⟨nofun, ?_, ?_⟩
      · show vlt (.bl t) (.bl false) = false
        cases t <;> decide +kernel
      · show vlt (.bl true) (.bl t) = false
        cases t <;> decide +kernel
    cases a with
    | any => exact anyC
    | sp n lo hi => cases b with
      | any => exact anyC
      | sp m l2 h2 =>
        show inB (cmp2 nm lo hi l2 h2) _ = true
        obtain ⟨a1, a2, a3, a4⟩ := oa
        obtain ⟨b1, b2, b3, b4⟩ := ob
        have base : ∀ {h f : Bool} {r : V}, (∃ t, r = .bl t) → (alike x y = true → r = .bl true → h = true) → (alike x y = true → r = .bl false → f = true) → inB (truS true h f) (iff1 (alike x y) r) = true := fun {h f r} hr k1 k2 => by
          obtain ⟨t, rfl⟩ := hr
          unfold iff1
          split
          · rename_i hal
            exact tru_in (truth_of t) (k1 hal) (k2 hal) fun z => nomatch z
          · exact tru_in (.inl rfl) (fun z => nomatch z) (fun z => nomatch z) fun _ => rfl
        unfold cmp2
        rcases hn with rfl | rfl | rfl
        · rw [if_pos (isS_yes _)]
          rw [if_pos rfl] at hg
          subst hg
          refine base hB (fun hal hz => ?_) fun _ _ => rfl
          obtain ⟨nx, ny⟩ := alike_nn hal hx hy
          obtain ⟨_, p1, p2⟩ := in_sp ha nx
          obtain ⟨_, q1, q2⟩ := in_sp hb ny
          have he := V.bl.inj hz
          have e := same_eq hx hy he
          subst e
          have z1 : vlt hi l2 = false := by
            cases z : vlt hi l2 with
            | false => rfl
            | true =>
              rcases vlt_neg a2 hx b1 z with w | w
              · rw [w] at p2; cases p2
              · rw [w] at q1; cases q1
          have z2 : vlt h2 lo = false := by
            cases z : vlt h2 lo with
            | false => rfl
            | true =>
              rcases vlt_neg b2 hx a1 z with w | w
              · rw [w] at q2; cases q2
              · rw [w] at p1; cases p1
          rw [z1, z2]
          rfl
        · rw [if_neg (by decide +kernel), if_pos (isS_yes _)]
          rw [if_neg (by decide +kernel), if_pos rfl] at hg
          subst hg
          refine base hB (fun hal hz => ?_) fun hal hz => ?_
          · obtain ⟨nx, ny⟩ := alike_nn hal hx hy
            obtain ⟨_, p1, p2⟩ := in_sp ha nx
            obtain ⟨_, q1, q2⟩ := in_sp hb ny
            have he : vlt x y = true := V.bl.inj hz
            rcases vlt_neg hx a1 hy he with w | w
            · rw [w] at p1; cases p1
            · rcases vlt_neg a1 b2 hy w with w | w
              · exact w
              · rw [w] at q2; cases q2
          · obtain ⟨nx, ny⟩ := alike_nn hal hx hy
            obtain ⟨_, p1, p2⟩ := in_sp ha nx
            obtain ⟨_, q1, q2⟩ := in_sp hb ny
            have he : vlt x y = false := V.bl.inj hz
            rw [Bool.not_eq_true']
            cases z : vlt hi l2 with
            | false => rfl
            | true =>
              rcases vlt_neg a2 hx b1 z with w | w
              · rw [w] at p2; cases p2
              · rcases vlt_neg hx hy b1 w with w | w
                · rw [w] at he; cases he
                · rw [w] at q1; cases q1
        · rw [if_neg (by decide +kernel), if_neg (by decide +kernel)]
          rw [if_neg (by decide +kernel), if_neg (by decide +kernel)] at hg
          subst hg
          refine base hB (fun hal hz => ?_) fun hal hz => ?_
          · obtain ⟨nx, ny⟩ := alike_nn hal hx hy
            obtain ⟨_, p1, p2⟩ := in_sp ha nx
            obtain ⟨_, q1, q2⟩ := in_sp hb ny
            have he : (!vlt y x) = true := V.bl.inj hz
            rw [Bool.not_eq_true'] at he ⊢
            cases z : vlt h2 lo with
            | false => rfl
            | true =>
              rcases vlt_neg b2 hy a1 z with w | w
              · rw [w] at q2; cases q2
              · rcases vlt_neg hy hx a1 w with w | w
                · rw [w] at he; cases he
                · rw [w] at p1; cases p1
          · obtain ⟨nx, ny⟩ := alike_nn hal hx hy
            obtain ⟨_, p1, p2⟩ := in_sp ha nx
            obtain ⟨_, q1, q2⟩ := in_sp hb ny
            have he : (!vlt y x) = false := V.bl.inj hz
            rw [Bool.not_eq_false'] at he
            rcases vlt_neg hy b1 hx he with w | w
            · rw [w] at q1; cases q1
            · rcases vlt_neg b1 a2 hx w with w | w
              · exact w
              · rw [w] at p2; cases p2
theorem sum_in {nm : Str} {a b : Spn} {x y : V} (hn : nm = "add" ∨ nm = "add days" ∨ nm = "subtract") (ha : inB a x = true) (hb : inB b y = true) :
    inB (sumS nm a b) (if nm = "add" then iff1 (isInt x && isInt y) (arV (· + ·) x y) else if nm = "subtract" then iff1 (isInt x && isInt y) (arV (· - ·) x y) else iff1 (isDay x && isInt y) (adV x y)) = true := by
  unfold sumS
  split
  · rename_i p q e1 e2
    obtain ⟨n1, rfl⟩ := ints_at e1
    obtain ⟨n2, rfl⟩ := ints_at e2
    rcases hn with rfl | rfl | rfl
    · rw [if_neg (by decide +kernel), if_pos rfl]
      refine in_iff in_non fun h => ?_
      rw [Bool.and_eq_true] at h
      obtain ⟨i, rfl⟩ := isI_at h.1
      obtain ⟨j, rfl⟩ := isI_at h.2
      have := int_in ha
      have := int_in hb
      exact in_lim (k := i + j) ⟨by omega, by omega⟩
    · rw [if_neg (by decide +kernel), if_neg (by decide +kernel), if_neg (by decide +kernel)]
      refine in_iff in_non fun h => ?_
      rw [Bool.and_eq_true] at h
      obtain ⟨i, rfl, _⟩ := isD_at h.1
      obtain ⟨j, rfl⟩ := isI_at h.2
      have := int_in ha
      have := int_in hb
      exact in_day ⟨by omega, by omega⟩
    · rw [if_pos (isS_yes _), if_neg (by decide +kernel), if_pos rfl]
      refine in_iff in_non fun h => ?_
      rw [Bool.and_eq_true] at h
      obtain ⟨i, rfl⟩ := isI_at h.1
      obtain ⟨j, rfl⟩ := isI_at h.2
      have := int_in ha
      have := int_in hb
      exact in_lim (k := i - j) ⟨by omega, by omega⟩
  · rfl
theorem binS_any {nm : Str} {a b : Spn} (h : nm = "same" ∨ nm = "multiply") : binS nm a b = .any := by
  rcases h with rfl | rfl
  · unfold binS
    rw [if_neg (by decide +kernel), if_neg (by decide +kernel), if_neg (by decide +kernel), if_neg (by decide +kernel), if_neg (by decide +kernel)]
  · unfold binS
    rw [if_neg (by decide +kernel), if_neg (by decide +kernel), if_neg (by decide +kernel), if_neg (by decide +kernel), if_neg (by decide +kernel)]
theorem bin_in {nm : Str} {a b : Spn} {x y : V} (hn : nm ∈ binL) (oa : SOk a) (ob : SOk b) (hx : Ok x) (hy : Ok y) (ha : inB a x = true) (hb : inB b y = true) : inB (binS nm a b) (binV nm x y) = true := by
  simp only [binL, List.mem_cons, List.not_mem_nil, or_false] at hn
  have hless : inB (binS "less" a b) (binV "less" x y) = true := cmp_in (nm := "less") (g := lessV) (.inr (.inl rfl)) (by rw [if_neg (by decide +kernel), if_pos rfl]) oa ob hx hy ha hb
  rcases hn with rfl | rfl | rfl | rfl | rfl | rfl | rfl | rfl | rfl | rfl | rfl | rfl
  · exact and_in ha hb
  · exact or_in ha hb
  · exact cmp_in (nm := "equal") (g := sameV) (.inl rfl) (by rw [if_pos rfl]) oa ob hx hy ha hb
  · exact hless
  · exact cmp_in (nm := "at most") (g := mostV) (.inr (.inr rfl)) (by rw [if_neg (by decide +kernel), if_neg (by decide +kernel)]) oa ob hx hy ha hb
  · exact sum_in (nm := "add") (.inl rfl) ha hb
  · exact sum_in (nm := "subtract") (.inr (.inr rfl)) ha hb
  · have e : binV "coalesce" x y = coalV x y := rfl
    rw [e]
    show inB (eitS a b) (coalV x y) = true
    unfold coalV
    split
    · exact eit_in oa ob hy (.inr hb)
    · exact eit_in oa ob hx (.inl ha)
  · exact sum_in (nm := "add days") (.inr (.inl rfl)) ha hb
  · rw [binS_any (.inl rfl)]; rfl
  · rw [binS_any (.inr rfl)]; rfl
  · exact hless
theorem sound {zs : List Zn} {xs : List V} (hz : ∀ z ∈ zs, SOk (znS z)) (hw : RwOk xs) (hc : ∀ n, inB (colS zs n) (xs.getD n .non) = true) : ∀ {e : Xp}, XOk e → XN e → inB (spI zs e) (evX xs e) = true
  | _, .col n, _ => hc n
  | _, .cst v hv, _ => sp_in (fun h => decide_eq_true h) fun h => ⟨h, vlt_irr (dv_ok hv), vlt_irr (dv_ok hv)⟩
  | _, .un nm a ha, hN => un_in hN.1 (sound hz hw hc ha hN.2)
  | _, .bin nm a b ha hb, hN => bin_in hN.1 (spI_ok hz ha) (spI_ok hz hb) (ev_vok hw ha).1 (ev_vok hw hb).1 (sound hz hw hc ha hN.2.1) (sound hz hw hc hb hN.2.2)
  | _, .cho c a b hcc ha hb, hN => by
    show inB (eitS (spI zs a) (spI zs b)) (if evX xs c = .bl true then evX xs a else evX xs b) = true
    split
    · exact eit_in (spI_ok hz ha) (spI_ok hz hb) (ev_vok hw ha).1 (.inl (sound hz hw hc ha hN.2.1))
    · exact eit_in (spI_ok hz ha) (spI_ok hz hb) (ev_vok hw hb).1 (.inr (sound hz hw hc hb hN.2.2))
mutual
theorem dp_wo {K : PySem.W.Frag} {H : Hp} {p : Addr} {ys : List V} (hp : H p = some (.lst ys)) : ∀ {v : V} {d : PyData}, noL d = true → Dp K H v d → Dp K (wo p H) v d
  | _, _, _, .non => .non
  | _, _, _, .bl b => .bl b
  | _, _, _, .int i => .int i
  | _, _, _, .str x => .str x
  | _, _, n, .lst h a => by simp [noL] at n
  | _, _, n, .tup h a => by
    refine .tup ?_ (dps_wo hp (by simpa [noL] using n) a)
    rcases h with (h | ⟨o, h⟩) | h
    · exact .inl (.inl (by rw [wo_ne (by intro z; rw [z, hp] at h; cases h)]; exact h))
    · exact .inl (.inr ⟨o, by rw [wo_ne (by intro z; rw [z, hp] at h; cases h)]; exact h⟩)
    · exact .inr h
theorem dps_wo {K : PySem.W.Frag} {H : Hp} {p : Addr} {ys : List V} (hp : H p = some (.lst ys)) : ∀ {vs : List V} {ds : List PyData}, noLs ds = true → DpAll K H vs ds → DpAll K (wo p H) vs ds
  | _, _, _, .nil => .nil
  | _, _, n, .cons h t => by
    have n' : (noL _ && noLs _) = true := n
    rw [Bool.and_eq_true] at n'
    exact .cons (dp_wo hp n'.1 h) (dps_wo hp n'.2 t)
end
theorem Dr.at {p : Addr} {H : Hp} (d : Dr p H) : ∃ xs, H p = some (.lst xs) := by
  obtain ⟨s, _, h⟩ := d
  exact ⟨_, h⟩
theorem dp_wx {K : PySem.W.Frag} {H H' : Hp} {p : Addr} {v : V} {d : PyData} (hd : Dp K H v d) (n : noL d = true) (dr : Dr p H) (e : Ex (wo p H) H') : Dp K H' v d := by
  obtain ⟨xs, hx⟩ := dr.at
  exact ex_dp e (dp_wo hx n hd)
/-- an expression that is drawn -/
def EvX (K : PySem.W.Frag) (te : TE) (σ : L2.St) (p : Addr) (H : Hp) (P : PyData → Prop) : Prop := ∀ H1, Ex (wo p H) H1 → Dr p H1 → ∀ Q : VK, (∀ v H2 d, P d → noL d = true → Dp K H2 v d → Ex (wo p H1) H2 → Dr p H2 → Q v H2) → te σ H1 Q
def EvXA (K : PySem.W.Frag) (ta : TA) (σ : L2.St) (p : Addr) (H : Hp) (P : List PyData → Prop) : Prop := ∀ H1, Ex (wo p H) H1 → Dr p H1 → ∀ Q : List V → Hp → Prop, (∀ vs H2 ds, P ds → noLs ds = true → DpAll K H2 vs ds → Ex (wo p H1) H2 → Dr p H2 → Q vs H2) → ta σ H1 Q
section
variable {K : PySem.W.Frag} {σ : L2.St} {H : Hp} {p : Addr} {ta tb te : TE} {tr : TA} {P R : PyData → Prop} {PL : List PyData → Prop} {D : Ends} {tz : TS} {E : XK} {v : V} {t : TT}
theorem x_pure {d : PyData} (h : Ev te σ (wo p H) v) (hd : ∀ H, Dp K H v d) (n : noL d = true) : EvX K te σ p H (· = d) := fun H1 e dr Q q => h H1 e Q fun H2 e2 => q v H2 d rfl n (hd H2) (wx_of e2) (dr.ex e2)
theorem x_var {i : Nat} {d : PyData} (h : σ[i]? = some (some v)) (hd : Dp K H v d) (n : noL d = true) (d0 : Dr p H) : EvX K (tVar i) σ p H (· = d) := fun H1 e dr Q q => ⟨v, h, q v H1 d rfl n (dp_wx hd n d0 e) (wo_le p H1) dr⟩
theorem x_int {PI : Int → Prop} (h : EvD1 te σ p H (ZP PI)) : EvX K te σ p H (fun d => ∃ i, PI i ∧ d = .int i) := fun H1 e dr Q q => h H1 e dr Q fun v H2 ⟨i, ev, hi⟩ e2 d2 => by
  subst ev
  exact q _ H2 (.int i) ⟨i, hi, rfl⟩ rfl (.int i) e2 d2
theorem x_mono (h : EvX K te σ p H P) (k : ∀ d, P d → R d) : EvX K te σ p H R := fun H1 e dr Q q => h H1 e dr Q fun v H2 d hd => q v H2 d (k d hd)
theorem xa_nil : EvXA K tNil σ p H (· = []) := fun H1 _ dr _ q => q [] H1 [] rfl rfl .nil (wo_le p H1) dr
theorem xa_cons (h : EvX K te σ p H P) (hr : EvXA K tr σ p H PL) : EvXA K (tCons te tr) σ p H (fun ds => ∃ d r, ds = d :: r ∧ P d ∧ PL r) := fun H1 e dr Q q =>
  h H1 e dr _ fun v H2 d hd n hv e2 d2 => hr H2 (wx_trans e e2) d2 _ fun vs H3 r hr' n' hvs e3 d3 => q (v :: vs) H3 (d :: r) ⟨d, r, rfl, hd, hr'⟩ (by show (noL d && noLs r) = true; rw [n, n']; rfl) (.cons (dp_wx hv n d2 e3) hvs) (wx_trans e2 e3) d3
theorem x_tup (h : EvXA K tr σ p H PL) (hl : ∀ ds, PL ds → ds.length ≤ 100000) : EvX K (tTup tr) σ p H (fun d => ∃ ds, d = .tuple ds ∧ PL ds) := fun H1 e dr Q q =>
  h H1 e dr _ fun vs H2 ds hds n hvs e2 d2 => ⟨sz_of (by rw [dps_len hvs]; exact hl ds hds), fun a ha => q (.ref a) _ (.tuple ds) ⟨ds, rfl, hds⟩ n (.tup (st_of upd_same) (ex_dps (Ex.new ha) hvs)) (e2.trans (Ex.new ha)) (d2.ex (Ex.new ha))⟩
theorem qx_asg {i : Nat} (h : EvX K te σ p H P) (d : Dr p H) (k : ∀ v H1 d', P d' → noL d' = true → Dp K H1 v d' → Ex (wo p H) H1 → Dr p H1 → tz D (σ.set i (some v)) H1) : tSeq (tAsg te (gName i)) tz D σ H := h H (wo_le p H) d _ k
theorem sx_ret (h : EvX K te σ p H P) (d : Dr p H) (k : ∀ v H1 d', P d' → noL d' = true → Dp K H1 v d' → Ex (wo p H) H1 → Dr p H1 → D.rt v H1) : tRet te D σ H := h H (wo_le p H) d _ k
/-- (a, b, c)[i] -/
theorem ev_ixD {xs : List V} {i : Nat} {x : V} (ha : EvU ta σ H xs) (hb : Ev tb σ H (.int (i : Int))) (hi : xs[i]? = some x) : Ev (tOp (rIxT K) ta tb) σ H x := fun H1 e Q q =>
  ha H1 e _ fun a H2 ha2 e2 h2 => hb H2 (e.trans e2) _ fun H3 e3 => rv_ixT (st_of (e3 _ _ h2)) (atI_nat hi) H3 (Ex.refl H3) Q fun H4 e4 => q H4 ((e2.trans e3).trans e4)
end
theorem noL_vD (v : V) : noL (vD v) = true := by cases v <;> rfl
def XD (n : Nat) (d : PyData) : Prop := ∃ e : Xp, d = e.d ∧ XOk e ∧ XN e ∧ e.dep ≤ n
theorem x_dv2 {K : PySem.W.Frag} {σ : L2.St} {H : Hp} {p : Addr} {te : TE} (h : EvD1 te σ p H DV) : EvX K te σ p H (fun d => ∃ x, DV x ∧ d = vD x) := fun H1 e dr Q q => h H1 e dr Q fun v H2 hv e2 d2 => q v H2 (vD v) ⟨v, hv, rfl⟩ (noL_vD v) (dp_vD (dv_ok hv)) e2 d2
def sp__law_leaf (K : PySem.W.Frag) : Sp := fun vs H Q _ => ∃ (p : Addr) (w : Nat), vs = [.ref p, .int (w : Int)] ∧ Dr p H ∧ 0 < w ∧ w ≤ 1000 ∧ ∀ v H' d, XD 1 d → noL d = true → Dp K H' v d → Ex (wo p H) H' → Dr p H' → Q v H'
def spR__law_expression : Nat → PySem.W.Frag → Sp
  | 0, _ => fun _ _ _ _ => False
  | n + 1, K => fun vs H Q _ => ∃ (p : Addr) (w dp : Nat), vs = [.ref p, .int (w : Int), .int (dp : Int)] ∧ Dr p H ∧ 0 < w ∧ w ≤ 1000 ∧ dp ≤ n ∧ ∀ v H' d, XD (dp + 1) d → noL d = true → Dp K H' v d → Ex (wo p H) H' → Dr p H' → Q v H'
def sp__law_expression (K : PySem.W.Frag) : Sp := spR__law_expression 5 K
section
variable {K : PySem.W.Frag} {σ : L2.St} {H : Hp} {p : Addr} {ta tb tc : TE} {E : XK} {n wd dp : Nat}
theorem x_leaf (ha : Ev ta σ (wo p H) (.ref p)) (hb : Ev tb σ (wo p H) (.int (wd : Int))) (h0 : 0 < wd) (h1 : wd ≤ 1000) : EvX K (tCall (sp__law_leaf K) [] E (tCons ta (tCons tb tNil))) σ p H (XD 1) := fun H1 e d Q q =>
  ha H1 e _ fun H2 e2 => hb H2 (e.trans e2) _ fun H3 e3 => ⟨p, wd, rfl, d.ex (e2.trans e3), h0, h1, fun v H5 dd hd n hv e5 d5 => q v H5 dd hd n hv (wx_trans (wx_of (e2.trans e3)) e5) d5⟩
theorem x_exp (ha : Ev ta σ (wo p H) (.ref p)) (hb : Ev tb σ (wo p H) (.int (wd : Int))) (hc : Ev tc σ (wo p H) (.int (dp : Int))) (h0 : 0 < wd) (h1 : wd ≤ 1000) (h2 : dp ≤ n) :
    EvX K (tCall (spR__law_expression (n + 1) K) [] E (tCons ta (tCons tb (tCons tc tNil)))) σ p H (XD (dp + 1)) := fun H1 e d Q q =>
  ha H1 e _ fun H2 e2 => hb H2 (e.trans e2) _ fun H3 e3 => hc H3 ((e.trans e2).trans e3) _ fun H4 e4 => ⟨p, wd, dp, rfl, d.ex ((e2.trans e3).trans e4), h0, h1, h2, fun v H5 dd hd n hv e5 d5 => q v H5 dd hd n hv (wx_trans (wx_of ((e2.trans e3).trans e4)) e5) d5⟩
end
/-- a local tuple of texts, [i] -/
theorem x_ixV {K : PySem.W.Frag} {σ : L2.St} {H : Hp} {p t : Addr} {tb : TE} {i : Nat} {xs : List Str} (hv : σ[i]? = some (some (.ref t))) (hne : t ≠ p) (ht : H t = some (.tup (xs.map V.str))) (hb : EvD1 tb σ p H (ZP fun j => 0 ≤ j ∧ j < (xs.length : Int))) : EvX K (tOp (rIxT K) (tVar i) tb) σ p H (fun d => ∃ s ∈ xs, d = .str s) := fun H1 e dr Q q =>
  ⟨.ref t, hv, hb H1 e dr _ fun y H3 ⟨j, ey, hj⟩ e3 d3 => by
    subst ey
    obtain ⟨jn, rfl⟩ := Int.eq_ofNat_of_zero_le hj.1
    have hjn : jn < xs.length := by omega
    have h1 : H1 t = some (.tup (xs.map V.str)) := e _ _ (by rw [wo_ne hne]; exact ht)
    have h3 : H3 t = some (.tup (xs.map V.str)) := e3 _ _ (by rw [wo_ne hne]; exact h1)
    refine rv_ixT (st_of h3) (atI_nat (j := jn) (v := .str xs[jn]) (by rw [List.getElem?_map, List.getElem?_eq_getElem hjn]; rfl)) H3 (Ex.refl H3) Q fun H4 e4 => ?_
    exact q _ H4 _ ⟨_, List.getElem_mem hjn, rfl⟩ rfl (.str _) (wx_trans e3 (wx_of e4)) (d3.ex e4)⟩
section
variable {P : Program} {w : World} {K : PySem.W.Frag} {mg : Str → Option Value} {base : Heap}
theorem ok__law_leaf (D : Dn K mg "_law_leaf" s__law_leaf ["state", "width"]) (c__law_digit : C8.Cal P w K mg base 1 "_law_digit" (sp__law_digit K) []) (c__law_value : C8.Cal P w K mg base 3 "_law_value" (sp__law_value K) []) :
    C8.Cal P w K mg base 4 "_law_leaf" (sp__law_leaf K) [] := by
  refine cal_of D sc__law_leaf (fun vs H Q E h => ?_) (fun f cdv A outer s H vs Q E hr h => ?_)
  · obtain ⟨_, _, rfl, _⟩ := h
    rfl
  refine ⟨_, (pss_cons (ps_if (pt_cmpR op_gt (C8.pe_c c__law_digit hr (by decide) (by rfl) (pa_cons (pv 0) (pa_cons pe_int pa_nil))) pe_int (nomark _))
      (pss_one (ps_ret (pe_tup (pa_cons pe_str (pa_cons (C8.pe_c c__law_digit hr (by decide) (by rfl) (pa_cons (pv 0) (pa_cons (pv 1) pa_nil))) pa_nil)))))
      pss_nil)
    (pss_one (ps_ret (pe_tup (pa_cons pe_str (pa_cons (C8.pe_c c__law_value hr (by decide) (by rfl) (pa_cons (pv 0) pa_nil)) pa_nil)))))), ?_⟩
  obtain ⟨p, wd, rfl, dr, w0, w1, q⟩ := h
  have two : ∀ {a b : PyData → Prop} (ds : List PyData), (∃ d r, ds = d :: r ∧ a d ∧ ∃ d' r', r = d' :: r' ∧ b d' ∧ r' = []) → ds.length ≤ 100000 := fun ds h => by
    obtain ⟨d1, r1, rfl, _, d2, r2, rfl, _, rfl⟩ := h
    show 2 ≤ 100000
    decide
  refine q1_when (edt_test (ez_cmp (g := fun i j => decide (i > j)) (ez_digit (m := 3) (ev_var rfl) ev_c (by decide) (by decide)) (e1_int (PI := fun j => j = 0) ev_c rfl))) dr (fun H1 e1 d1 => ?_) fun H1 e1 d1 => ?_
  · refine sx_ret (K := K) (x_tup (xa_cons (x_pure ev_c (fun _ => .str _) rfl) (xa_cons (x_int (ez_digit (ev_var rfl) (ev_var rfl) (by omega) (by omega))) xa_nil)) two) d1 fun v H2 d' hd n hv e2 d2 => q v H2 d' ?_ n hv (wx_trans e1 e2) d2
    obtain ⟨ds, rfl, _, _, rfl, rfl, _, _, rfl, ⟨j, hj, rfl⟩, rfl⟩ := hd
    obtain ⟨jn, rfl⟩ := Int.eq_ofNat_of_zero_le hj.1
    exact ⟨.col jn, rfl, .col jn, trivial, Nat.le_refl _⟩
  · refine sx_ret (K := K) (x_tup (xa_cons (x_pure ev_c (fun _ => .str _) rfl) (xa_cons (x_dv2 (e1_value (ev_var rfl))) xa_nil)) two) d1 fun v H2 d' hd n hv e2 d2 => q v H2 d' ?_ n hv (wx_trans e1 e2) d2
    obtain ⟨ds, rfl, _, _, rfl, rfl, _, _, rfl, ⟨x, hx, rfl⟩, rfl⟩ := hd
    exact ⟨.cst x, rfl, .cst x hx, trivial, Nat.le_refl _⟩
theorem ok__law_expression {rn : Nat} (D : Dn K mg "_law_expression" s__law_expression ["state", "width", "depth"]) (c__law_digit : C8.Cal P w K mg base 1 "_law_digit" (sp__law_digit K) []) (c__law_leaf : C8.Cal P w K mg base 4 "_law_leaf" (sp__law_leaf K) []) (c__law_expression : C8.Cal P w K mg base (5 + rn) "_law_expression" (spR__law_expression rn K) []) :
    C8.Cal P w K mg base (5 + rn + 1) "_law_expression" (spR__law_expression (rn + 1) K) [] := by
  refine cal_of D sc__law_expression (fun vs H Q E h => ?_) (fun f cdv A outer s H vs Q E hr h => ?_)
  · obtain ⟨_, _, _, rfl, _⟩ := h
    rfl
  refine ⟨_, (pss_cons (ps_set (i := 3) sc__law_expression.nd rfl (.inl rfl) (C8.pe_c c__law_digit hr (by omega) (by rfl) (pa_cons (pv 0) (pa_cons pe_int pa_nil))))
    (pss_cons (ps_if (PW.pt (pw_or (pt_cmpR op_eq (pv 2) pe_int (nomark _)) (pw_or1 (pt_cmpR op_lt (pv 3) pe_int (nomark _)))))
      (pss_one (ps_ret (C8.pe_c c__law_leaf hr (by omega) (by rfl) (pa_cons (pv 0) (pa_cons (pv 1) pa_nil)))))
      pss_nil)
    (pss_cons (ps_set (i := 4) sc__law_expression.nd rfl (.inl rfl) (C8.pe_c c__law_expression hr (Nat.le_refl _) (by rfl) (pa_cons (pv 0) (pa_cons (pv 1) (pa_cons (pe_op op_sub (pv 2) pe_int) pa_nil)))))
    (pss_cons (ps_if (pt_cmpR op_eq (pv 3) pe_int (nomark _))
      (pss_cons (ps_set (i := 5) sc__law_expression.nd rfl (.inl rfl) (pe_tup (pa_cons pe_str (pa_cons pe_str (pa_cons pe_str (pa_cons pe_str (pa_cons pe_str (pa_cons pe_str (pa_cons pe_str (pa_cons pe_str (pa_cons pe_str pa_nil)))))))))))
    (pss_one (ps_ret (pe_tup (pa_cons pe_str (pa_cons (pe_ix ix_tup (pv 5) (C8.pe_c c__law_digit hr (by omega) (by rfl) (pa_cons (pv 0) (pa_cons pe_int pa_nil))) (fun _ _ => rfl)) (pa_cons (pv 4) pa_nil)))))))
      pss_nil)
    (pss_cons (ps_set (i := 6) sc__law_expression.nd rfl (.inl rfl) (C8.pe_c c__law_expression hr (Nat.le_refl _) (by rfl) (pa_cons (pv 0) (pa_cons (pv 1) (pa_cons (pe_op op_sub (pv 2) pe_int) pa_nil)))))
    (pss_cons (ps_if (pt_cmpR op_eq (pv 3) pe_int (nomark _))
      (pss_one (ps_ret (pe_tup (pa_cons pe_str (pa_cons (C8.pe_c c__law_expression hr (Nat.le_refl _) (by rfl) (pa_cons (pv 0) (pa_cons (pv 1) (pa_cons (pe_op op_sub (pv 2) pe_int) pa_nil)))) (pa_cons (pv 4) (pa_cons (pv 6) pa_nil)))))))
      pss_nil)
    (pss_cons (ps_set (i := 5) sc__law_expression.nd rfl (.inl rfl) (pe_tup (pa_cons pe_str (pa_cons pe_str (pa_cons pe_str (pa_cons pe_str (pa_cons pe_str (pa_cons pe_str (pa_cons pe_str (pa_cons pe_str (pa_cons pe_str (pa_cons pe_str (pa_cons pe_str (pa_cons pe_str pa_nil))))))))))))))
    (pss_one (ps_ret (pe_tup (pa_cons pe_str (pa_cons (pe_ix ix_tup (pv 5) (C8.pe_c c__law_digit hr (by omega) (by rfl) (pa_cons (pv 0) (pa_cons pe_int pa_nil))) (fun _ _ => rfl)) (pa_cons (pv 4) (pa_cons (pv 6) pa_nil)))))))))))))), ?_⟩
  obtain ⟨p, wd, dp, rfl, dr, w0, w1, hdp, q⟩ := h
  have three : ∀ {a b c : PyData → Prop} (ds : List PyData), (∃ d r, ds = d :: r ∧ a d ∧ ∃ d' r', r = d' :: r' ∧ b d' ∧ ∃ d2 r2, r' = d2 :: r2 ∧ c d2 ∧ r2 = []) → ds.length ≤ 100000 := fun ds h => by
    obtain ⟨d1, r1, rfl, _, d2, r2, rfl, _, d3, r3, rfl, _, rfl⟩ := h
    show 3 ≤ 100000
    decide
  have four : ∀ {a b c e : PyData → Prop} (ds : List PyData), (∃ d r, ds = d :: r ∧ a d ∧ ∃ d' r', r = d' :: r' ∧ b d' ∧ ∃ d2 r2, r' = d2 :: r2 ∧ c d2 ∧ ∃ d3 r3, r2 = d3 :: r3 ∧ e d3 ∧ r3 = []) → ds.length ≤ 100000 := fun ds h => by
    obtain ⟨d1, r1, rfl, _, d2, r2, rfl, _, d3, r3, rfl, _, d4, r4, rfl, _, rfl⟩ := h
    show 4 ≤ 100000
    decide
  refine qz_asg (ez_digit (ev_var rfl) ev_c (by decide) (by decide)) dr fun kd H1 hk e1 d1 => ?_
  refine q_when (b := decide (V.int (dp : Int) = V.int 0) || decide (kd < 2)) (et_or (et_test (ev_op (ev_var rfl) ev_c (rv_eq rfl))) fun _ => et_test (ev_op (ev_var rfl) ev_c rv_I0)) (fun hb H2 e2 => ?_) fun hb H2 e2 => ?_
  · refine sx_ret (K := K) (x_leaf (ev_var rfl) (ev_var rfl) w0 w1) (d1.ex e2) fun v H3 d' hd n hv e3 d3 => q v H3 d' ?_ n hv (wx_trans e1 (wx_trans (wx_of e2) e3)) d3
    obtain ⟨e, rfl, h1, h1n, h2⟩ := hd
    exact ⟨e, rfl, h1, h1n, by omega⟩
  rw [Bool.or_eq_false_iff] at hb
  have hdp0 : 0 < dp := by
    rcases Nat.eq_zero_or_pos dp with z | z
    · rw [z] at hb; exact absurd hb.1 (by decide)
    · exact z
  cases rn with
  | zero => omega
  | succ m =>
  have hdv : ∀ {H0 : Hp} {σ : L2.St}, σ[2]? = some (some (V.int (dp : Int))) → Ev (tOp (rI0 fun i j => .int (i - j)) (tVar 2) (tC (.int 1))) σ H0 (.int ((dp - 1 : Nat) : Int)) := fun h => ev_is (ev_op (ev_var h) ev_c rv_I0) (by rw [show (dp : Int) - 1 = ((dp - 1 : Nat) : Int) by omega])
  have d2 := d1.ex e2
  refine qx_asg (K := K) (x_exp (n := m) (ev_var rfl) (ev_var rfl) (hdv rfl) w0 w1 (by omega)) d2 fun va H3 da hda na hva e3 d3 => ?_
  obtain ⟨ea, rfl, oa, xna, la⟩ := hda
  have w3 : ∀ {H' : Hp}, Ex (wo p H3) H' → Ex (wo p H) H' := fun e => wx_trans e1 (wx_trans (wx_of e2) (wx_trans e3 e))
  refine q_when (b := decide (V.int kd = V.int 2)) (by walk_at "et") (fun _ H4 e4 => ?_) fun _ H4 e4 => ?_
  · refine q_asgU (xs := unL.map V.str) (eu_tup (ea_cons ev_c (ea_cons ev_c (ea_cons ev_c (ea_cons ev_c (ea_cons ev_c (ea_cons ev_c (ea_cons ev_c (ea_cons ev_c (ea_cons ev_c ea_nil))))))))) (by show 9 ≤ 100000; decide)) fun t H5 ht e5 h5 => ?_
    have d5 := (d3.ex e4).ex e5
    have htp : t ≠ p := fun z => by
      obtain ⟨s, hs⟩ := (d3.ex e4).at
      rw [z, hs] at ht
      cases ht
    refine sx_ret (K := K) (x_tup (xa_cons (x_pure ev_c (fun _ => .str _) rfl) (xa_cons (x_ixV (xs := unL) rfl htp h5 (ez_digit (m := 9) (ev_var rfl) ev_c (by decide) (by decide))) (xa_cons (x_var rfl (ex_dp (e4.trans e5) hva) na d5) xa_nil))) three) d5 fun v H6 d' hd n hv e6 d6 => q v H6 d' ?_ n hv (w3 (wx_trans (wx_of (e4.trans e5)) e6)) d6
    obtain ⟨ds, rfl, _, _, rfl, rfl, _, _, rfl, ⟨nm, hnm, rfl⟩, _, _, rfl, rfl, rfl⟩ := hd
    exact ⟨.un nm ea, rfl, .un nm ea oa, ⟨hnm, xna⟩, by show ea.dep + 1 ≤ _; omega⟩
  have d4 := d3.ex e4
  refine qx_asg (K := K) (x_exp (n := m) (ev_var rfl) (ev_var rfl) (hdv rfl) w0 w1 (by omega)) d4 fun vb H5 db hdb nb hvb e5 d5 => ?_
  obtain ⟨eb, rfl, ob, xnb, lb⟩ := hdb
  have hva5 := dp_wx (ex_dp e4 hva) na d4 e5
  have w5 : ∀ {H' : Hp}, Ex (wo p H5) H' → Ex (wo p H) H' := fun e => w3 (wx_trans (wx_of e4) (wx_trans e5 e))
  refine q_when (b := decide (V.int kd = V.int 3)) (by walk_at "et") (fun _ H6 e6 => ?_) fun _ H6 e6 => ?_
  · have d6 := d5.ex e6
    refine sx_ret (K := K) (x_tup (xa_cons (x_pure ev_c (fun _ => .str _) rfl) (xa_cons (x_exp (n := m) (ev_var rfl) (ev_var rfl) (hdv rfl) w0 w1 (by omega)) (xa_cons (x_var rfl (ex_dp e6 hva5) na d6) (xa_cons (x_var rfl (ex_dp e6 hvb) nb d6) xa_nil)))) four) d6 fun v H7 d' hd n hv e7 d7 => q v H7 d' ?_ n hv (w5 (wx_trans (wx_of e6) e7)) d7
    obtain ⟨ds, rfl, _, _, rfl, rfl, _, _, rfl, ⟨ec, rfl, oc, xnc, lc⟩, _, _, rfl, rfl, _, _, rfl, rfl, rfl⟩ := hd
    exact ⟨.cho ec ea eb, rfl, .cho ec ea eb oc oa ob, ⟨xnc, xna, xnb⟩, by show max ec.dep (max ea.dep eb.dep) + 1 ≤ _; omega⟩
  · refine q_asgU (xs := binL.map V.str) (eu_tup (ea_cons ev_c (ea_cons ev_c (ea_cons ev_c (ea_cons ev_c (ea_cons ev_c (ea_cons ev_c (ea_cons ev_c (ea_cons ev_c (ea_cons ev_c (ea_cons ev_c (ea_cons ev_c (ea_cons ev_c ea_nil)))))))))))) (by show 12 ≤ 100000; decide)) fun t H7 ht e7 h7 => ?_
    have d7 := (d5.ex e6).ex e7
    have htp : t ≠ p := fun z => by
      obtain ⟨s, hs⟩ := (d5.ex e6).at
      rw [z, hs] at ht
      cases ht
    have x7 := e6.trans e7
    refine sx_ret (K := K) (x_tup (xa_cons (x_pure ev_c (fun _ => .str _) rfl) (xa_cons (x_ixV (xs := binL) rfl htp h7 (ez_digit (m := 12) (ev_var rfl) ev_c (by decide) (by decide))) (xa_cons (x_var rfl (ex_dp x7 hva5) na d7) (xa_cons (x_var rfl (ex_dp x7 hvb) nb d7) xa_nil)))) four) d7 fun v H8 d' hd n hv e8 d8 => q v H8 d' ?_ n hv (w5 (wx_trans (wx_of x7) e8)) d8
    obtain ⟨ds, rfl, _, _, rfl, rfl, _, _, rfl, ⟨nm, hnm, rfl⟩, _, _, rfl, rfl, _, _, rfl, rfl, rfl⟩ := hd
    exact ⟨.bin nm ea eb, rfl, .bin nm ea eb oa ob, ⟨hnm, xna, xnb⟩, by show max ea.dep eb.dep + 1 ≤ _; omega⟩
end
def spR__law_condition : Nat → PySem.W.Frag → Sp
  | 0, _ => fun _ _ _ _ => False
  | n + 1, K => fun vs H Q _ => ∃ (p : Addr) (w dp : Nat), vs = [.ref p, .int (w : Int), .int (dp : Int)] ∧ Dr p H ∧ 0 < w ∧ w ≤ 1000 ∧ dp ≤ n ∧ ∀ v H' d, XD (dp + 2) d → noL d = true → Dp K H' v d → Ex (wo p H) H' → Dr p H' → Q v H'
def sp__law_condition (K : PySem.W.Frag) : Sp := spR__law_condition 4 K
theorem x_cond {K : PySem.W.Frag} {σ : L2.St} {H : Hp} {p : Addr} {ta tb tc : TE} {E : XK} {n wd dp : Nat} (ha : Ev ta σ (wo p H) (.ref p)) (hb : Ev tb σ (wo p H) (.int (wd : Int))) (hc : Ev tc σ (wo p H) (.int (dp : Int))) (h0 : 0 < wd) (h1 : wd ≤ 1000) (h2 : dp ≤ n) :
    EvX K (tCall (spR__law_condition (n + 1) K) [] E (tCons ta (tCons tb (tCons tc tNil)))) σ p H (XD (dp + 2)) := fun H1 e d Q q =>
  ha H1 e _ fun H2 e2 => hb H2 (e.trans e2) _ fun H3 e3 => hc H3 ((e.trans e2).trans e3) _ fun H4 e4 => ⟨p, wd, dp, rfl, d.ex ((e2.trans e3).trans e4), h0, h1, h2, fun v H5 dd hd n hv e5 d5 => q v H5 dd hd n hv (wx_trans (wx_of ((e2.trans e3).trans e4)) e5) d5⟩
section
variable {P : Program} {w : World} {K : PySem.W.Frag} {mg : Str → Option Value} {base : Heap}
theorem ok__law_condition {rn : Nat} (D : Dn K mg "_law_condition" s__law_condition ["state", "width", "depth"]) (c__law_digit : C8.Cal P w K mg base 1 "_law_digit" (sp__law_digit K) []) (c__law_value : C8.Cal P w K mg base 3 "_law_value" (sp__law_value K) []) (c__law_condition : C8.Cal P w K mg base (4 + rn) "_law_condition" (spR__law_condition rn K) []) :
    C8.Cal P w K mg base (4 + rn + 1) "_law_condition" (spR__law_condition (rn + 1) K) [] := by
  refine cal_of D sc__law_condition (fun vs H Q E h => ?_) (fun f cdv A outer s H vs Q E hr h => ?_)
  · obtain ⟨_, _, _, rfl, _⟩ := h
    rfl
  refine ⟨_, (pss_cons (ps_set (i := 3) sc__law_condition.nd rfl (.inl rfl) (C8.pe_c c__law_digit hr (by omega) (by rfl) (pa_cons (pv 0) (pa_cons pe_int pa_nil))))
    (pss_cons (ps_if (PW.pt (pw_and (pt_cmpR op_gt (pv 2) pe_int (nomark _)) (pw_and1 (pt_cmpR op_lt (pv 3) pe_int (nomark _)))))
      (pss_cons (ps_set (i := 4) sc__law_condition.nd rfl (.inl rfl) (pe_ix ix_tup (pe_tup (pa_cons pe_str (pa_cons pe_str (pa_cons pe_str pa_nil)))) (pv 3) (fun _ _ => rfl)))
    (pss_one (ps_ret (pe_tup (pa_cons pe_str (pa_cons (pv 4) (pa_cons (C8.pe_c c__law_condition hr (Nat.le_refl _) (by rfl) (pa_cons (pv 0) (pa_cons (pv 1) (pa_cons (pe_op op_sub (pv 2) pe_int) pa_nil)))) (pa_cons (C8.pe_c c__law_condition hr (Nat.le_refl _) (by rfl) (pa_cons (pv 0) (pa_cons (pv 1) (pa_cons (pe_op op_sub (pv 2) pe_int) pa_nil)))) pa_nil))))))))
      pss_nil)
    (pss_cons (ps_if (PW.pt (pw_and (pt_cmpR op_gt (pv 2) pe_int (nomark _)) (pw_and1 (pt_cmpR op_eq (pv 3) pe_int (nomark _)))))
      (pss_one (ps_ret (pe_tup (pa_cons pe_str (pa_cons pe_str (pa_cons (C8.pe_c c__law_condition hr (Nat.le_refl _) (by rfl) (pa_cons (pv 0) (pa_cons (pv 1) (pa_cons (pe_op op_sub (pv 2) pe_int) pa_nil)))) pa_nil))))))
      pss_nil)
    (pss_cons (ps_set (i := 5) sc__law_condition.nd rfl (.inl rfl) (pe_tup (pa_cons pe_str (pa_cons (C8.pe_c c__law_digit hr (by omega) (by rfl) (pa_cons (pv 0) (pa_cons (pv 1) pa_nil))) pa_nil))))
    (pss_cons (ps_if (pt_cmpR op_eq (pv 3) pe_int (nomark _))
      (pss_one (ps_ret (pe_tup (pa_cons pe_str (pa_cons pe_str (pa_cons (pv 5) pa_nil))))))
      pss_nil)
    (pss_cons (ps_if (pt_cmpR op_eq (pv 3) pe_int (nomark _))
      (pss_one (ps_ret (pe_tup (pa_cons pe_str (pa_cons pe_str (pa_cons (pv 5) (pa_cons (pe_tup (pa_cons pe_str (pa_cons (C8.pe_c c__law_digit hr (by omega) (by rfl) (pa_cons (pv 0) (pa_cons (pv 1) pa_nil))) pa_nil))) pa_nil)))))))
      pss_nil)
    (pss_cons (ps_set (i := 4) sc__law_condition.nd rfl (.inl rfl) (pe_ifExp (pt_cmpR op_gt (pv 3) pe_int (nomark _)) (pe_ix ix_tup (pe_tup (pa_cons pe_str (pa_cons pe_str (pa_cons pe_str (pa_cons pe_str pa_nil))))) (pe_op op_sub (pv 3) pe_int) (fun _ _ => rfl)) pe_str))
    (pss_cons (ps_set (i := 6) sc__law_condition.nd rfl (.inl rfl) (pe_tup (pa_cons pe_str (pa_cons (C8.pe_c c__law_value hr (by omega) (by rfl) (pa_cons (pv 0) pa_nil)) pa_nil))))
    (pss_cons (ps_if (pt_cmpR op_eq (C8.pe_c c__law_digit hr (by omega) (by rfl) (pa_cons (pv 0) (pa_cons pe_int pa_nil))) pe_int (nomark _))
      (pss_one (ps_ret (pe_tup (pa_cons pe_str (pa_cons (pv 4) (pa_cons (pv 6) (pa_cons (pv 5) pa_nil)))))))
      pss_nil)
    (pss_one (ps_ret (pe_tup (pa_cons pe_str (pa_cons (pv 4) (pa_cons (pv 5) (pa_cons (pv 6) pa_nil)))))))))))))))), ?_⟩
  obtain ⟨p, wd, dp, rfl, dr, w0, w1, hdp, q⟩ := h
  have two : ∀ {a b : PyData → Prop} (ds : List PyData), (∃ d r, ds = d :: r ∧ a d ∧ ∃ d' r', r = d' :: r' ∧ b d' ∧ r' = []) → ds.length ≤ 100000 := fun ds h => by
    obtain ⟨d1, r1, rfl, _, d2, r2, rfl, _, rfl⟩ := h
    show 2 ≤ 100000
    decide
  have three : ∀ {a b c : PyData → Prop} (ds : List PyData), (∃ d r, ds = d :: r ∧ a d ∧ ∃ d' r', r = d' :: r' ∧ b d' ∧ ∃ d2 r2, r' = d2 :: r2 ∧ c d2 ∧ r2 = []) → ds.length ≤ 100000 := fun ds h => by
    obtain ⟨d1, r1, rfl, _, d2, r2, rfl, _, d3, r3, rfl, _, rfl⟩ := h
    show 3 ≤ 100000
    decide
  have four : ∀ {a b c e : PyData → Prop} (ds : List PyData), (∃ d r, ds = d :: r ∧ a d ∧ ∃ d' r', r = d' :: r' ∧ b d' ∧ ∃ d2 r2, r' = d2 :: r2 ∧ c d2 ∧ ∃ d3 r3, r2 = d3 :: r3 ∧ e d3 ∧ r3 = []) → ds.length ≤ 100000 := fun ds h => by
    obtain ⟨d1, r1, rfl, _, d2, r2, rfl, _, d3, r3, rfl, _, d4, r4, rfl, _, rfl⟩ := h
    show 4 ≤ 100000
    decide
  refine qz_asg (ez_digit (ev_var rfl) ev_c (by decide) (by decide)) dr fun kd H1 hk e1 d1 => ?_
  have hdv : ∀ {H0 : Hp} {σ : L2.St}, 0 < dp → σ[2]? = some (some (V.int (dp : Int))) → Ev (tOp (rI0 fun i j => .int (i - j)) (tVar 2) (tC (.int 1))) σ H0 (.int ((dp - 1 : Nat) : Int)) := fun h0 h => ev_is (ev_op (ev_var h) ev_c rv_I0) (by rw [show (dp : Int) - 1 = ((dp - 1 : Nat) : Int) by omega])
  have colX : ∀ {σ : L2.St} {H0 : Hp}, σ[0]? = some (some (.ref p)) → σ[1]? = some (some (.int (wd : Int))) → EvX K (tTup (tCons (tC (.str "column")) (tCons (tCall (sp__law_digit K) [] C8.E0 (tCons (tVar 0) (tCons (tVar 1) tNil))) tNil))) σ p H0 (fun d => ∃ n : Nat, d = (Xp.col n).d) := fun h0 h1 => x_mono (x_tup (xa_cons (x_pure ev_c (fun _ => .str _) rfl) (xa_cons (x_int (ez_digit (ev_var h0) (ev_var h1) (by omega) (by omega))) xa_nil)) two) fun d hd => by
    obtain ⟨ds, rfl, _, _, rfl, rfl, _, _, rfl, ⟨j, hj, rfl⟩, rfl⟩ := hd
    obtain ⟨jn, rfl⟩ := Int.eq_ofNat_of_zero_le hj.1
    exact ⟨jn, rfl⟩
  refine q_when (b := decide ((0 : Int) < (dp : Int)) && decide (kd < 3)) (et_and (et_test (ev_op (ev_var rfl) ev_c rv_I0)) fun _ => et_test (ev_op (ev_var rfl) ev_c rv_I0)) (fun hb H2 e2 => ?_) fun hb H2 e2 => ?_
  · rw [Bool.and_eq_true, decide_eq_true_eq, decide_eq_true_eq] at hb
    have hdp0 : 0 < dp := by omega
    cases rn with
    | zero => omega
    | succ m =>
    obtain ⟨kn, rfl⟩ := Int.eq_ofNat_of_zero_le hk.1
    have hkn : kn < 3 := by omega
    obtain ⟨nm, hnm, hml⟩ : ∃ nm : Str, ([.str "and", .str "or", .str "and"] : List V)[kn]? = some (.str nm) ∧ nm ∈ binL := by
      rcases (show kn = 0 ∨ kn = 1 ∨ kn = 2 by omega) with rfl | rfl | rfl
      · exact ⟨_, rfl, by decide +kernel⟩
      · exact ⟨_, rfl, by decide +kernel⟩
      · exact ⟨_, rfl, by decide +kernel⟩
    refine q_asg (v := .str nm) (ev_ixD (i := kn) (eu_tup (ea_cons ev_c (ea_cons ev_c (ea_cons ev_c ea_nil))) (by show 3 ≤ 100000; decide)) (ev_var rfl) hnm) fun H3 e3 => ?_
    have d3 := d1.ex (e2.trans e3)
    refine sx_ret (K := K) (x_tup (xa_cons (x_pure ev_c (fun _ => .str _) rfl) (xa_cons (x_pure (ev_var rfl) (fun _ => .str nm) rfl) (xa_cons (x_cond (n := m) (ev_var rfl) (ev_var rfl) (hdv hdp0 rfl) w0 w1 (by omega)) (xa_cons (x_cond (n := m) (ev_var rfl) (ev_var rfl) (hdv hdp0 rfl) w0 w1 (by omega)) xa_nil)))) four) d3 fun v H4 d' hd n hv e4 d4 => q v H4 d' ?_ n hv (wx_trans e1 (wx_trans (wx_of (e2.trans e3)) e4)) d4
    obtain ⟨ds, rfl, _, _, rfl, rfl, _, _, rfl, rfl, _, _, rfl, ⟨ea, rfl, oa, xna, la⟩, _, _, rfl, ⟨eb, rfl, ob, xnb, lb⟩, rfl⟩ := hd
    exact ⟨.bin nm ea eb, rfl, .bin nm ea eb oa ob, ⟨hml, xna, xnb⟩, by show max ea.dep eb.dep + 1 ≤ _; omega⟩
  refine q_when (b := decide ((0 : Int) < (dp : Int)) && decide (V.int kd = V.int 3)) (et_and (et_test (ev_op (ev_var rfl) ev_c rv_I0)) fun _ => et_test (ev_op (ev_var rfl) ev_c (rv_eq rfl))) (fun hb3 H3 e3 => ?_) fun hb3 H3 e3 => ?_
  · rw [Bool.and_eq_true, decide_eq_true_eq] at hb3
    have hdp0 : 0 < dp := by omega
    cases rn with
    | zero => omega
    | succ m =>
    have d3 := d1.ex (e2.trans e3)
    refine sx_ret (K := K) (x_tup (xa_cons (x_pure ev_c (fun _ => .str _) rfl) (xa_cons (x_pure ev_c (fun _ => .str _) rfl) (xa_cons (x_cond (n := m) (ev_var rfl) (ev_var rfl) (hdv hdp0 rfl) w0 w1 (by omega)) xa_nil))) three) d3 fun v H4 d' hd n hv e4 d4 => q v H4 d' ?_ n hv (wx_trans e1 (wx_trans (wx_of (e2.trans e3)) e4)) d4
    obtain ⟨ds, rfl, _, _, rfl, rfl, _, _, rfl, rfl, _, _, rfl, ⟨ea, rfl, oa, xna, la⟩, rfl⟩ := hd
    exact ⟨.un "not" ea, rfl, .un _ ea oa, ⟨by decide +kernel, xna⟩, by show ea.dep + 1 ≤ _; omega⟩
  have d3 := d1.ex (e2.trans e3)
  refine qx_asg (K := K) (colX rfl rfl) d3 fun vc H4 dc hdc nc hvc e4 d4 => ?_
  obtain ⟨cn, rfl⟩ := hdc
  have w4 : ∀ {H' : Hp}, Ex (wo p H4) H' → Ex (wo p H) H' := fun e => wx_trans e1 (wx_trans (wx_of (e2.trans e3)) (wx_trans e4 e))
  refine q_when (b := decide (V.int kd = V.int 4)) (et_test (ev_op (ev_var rfl) ev_c (rv_eq rfl))) (fun _ H5 e5 => ?_) fun _ H5 e5 => ?_
  · have d5 := d4.ex e5
    refine sx_ret (K := K) (x_tup (xa_cons (x_pure ev_c (fun _ => .str _) rfl) (xa_cons (x_pure ev_c (fun _ => .str _) rfl) (xa_cons (x_var rfl (ex_dp e5 hvc) nc d5) xa_nil))) three) d5 fun v H6 d' hd n hv e6 d6 => q v H6 d' ?_ n hv (w4 (wx_trans (wx_of e5) e6)) d6
    obtain ⟨ds, rfl, _, _, rfl, rfl, _, _, rfl, rfl, _, _, rfl, rfl, rfl⟩ := hd
    exact ⟨.un "is null" (.col cn), rfl, .un _ _ (.col cn), ⟨by decide +kernel, trivial⟩, by show 1 + 1 ≤ _; omega⟩
  refine q_when (b := decide (V.int kd = V.int 5)) (et_test (ev_op (ev_var rfl) ev_c (rv_eq rfl))) (fun _ H6 e6 => ?_) fun hb5 H6 e6 => ?_
  · have d6 := d4.ex (e5.trans e6)
    refine sx_ret (K := K) (x_tup (xa_cons (x_pure ev_c (fun _ => .str _) rfl) (xa_cons (x_pure ev_c (fun _ => .str _) rfl) (xa_cons (x_var rfl (ex_dp (e5.trans e6) hvc) nc d6) (xa_cons (colX rfl rfl) xa_nil)))) four) d6 fun v H7 d' hd n hv e7 d7 => q v H7 d' ?_ n hv (w4 (wx_trans (wx_of (e5.trans e6)) e7)) d7
    obtain ⟨ds, rfl, _, _, rfl, rfl, _, _, rfl, rfl, _, _, rfl, rfl, _, _, rfl, ⟨c2, rfl⟩, rfl⟩ := hd
    exact ⟨.bin "equal" (.col cn) (.col c2), rfl, .bin _ _ _ (.col cn) (.col c2), ⟨by decide +kernel, trivial, trivial⟩, by show max 1 1 + 1 ≤ _; omega⟩
  obtain ⟨kn, rfl⟩ := Int.eq_ofNat_of_zero_le hk.1
  obtain ⟨nm, hml, hnm⟩ : ∃ nm : Str, nm ∈ binL ∧ (if (kn : Int) > 5 then ([.str "equal", .str "less", .str "at most", .str "less"] : List V)[kn - 6]? else some (.str "equal")) = some (.str nm) := by
    by_cases z : (kn : Int) > 5
    · rw [if_pos z]
      rcases (show kn = 6 ∨ kn = 7 ∨ kn = 8 ∨ kn = 9 by omega) with rfl | rfl | rfl | rfl
      · exact ⟨_, by decide +kernel, rfl⟩
      · exact ⟨_, by decide +kernel, rfl⟩
      · exact ⟨_, by decide +kernel, rfl⟩
      · exact ⟨_, by decide +kernel, rfl⟩
    · rw [if_neg z]
      exact ⟨_, by decide +kernel, rfl⟩
  refine q_asg (v := .str nm) (ev_if (b := decide ((kn : Int) > 5)) (et_test (ev_op (ev_var rfl) ev_c rv_I0)) (fun hz => ?_) fun hz => ?_) fun H7 e7 => ?_
  · have z := of_decide_eq_true hz
    rw [if_pos z] at hnm
    exact ev_ixD (i := kn - 6) (eu_tup (ea_cons ev_c (ea_cons ev_c (ea_cons ev_c (ea_cons ev_c ea_nil)))) (by show 4 ≤ 100000; decide)) (ev_is (ev_op (ev_var rfl) ev_c rv_I0) (by congr 1; omega)) hnm
  · have z := of_decide_eq_false hz
    rw [if_neg z] at hnm
    exact ev_is ev_c (Option.some.inj hnm)
  have d7 := d4.ex ((e5.trans e6).trans e7)
  refine qx_asg (K := K) (P := fun d => ∃ x, DV x ∧ d = (Xp.cst x).d) (x_mono (x_tup (xa_cons (x_pure ev_c (fun _ => .str _) rfl) (xa_cons (x_dv2 (e1_value (ev_var rfl))) xa_nil)) two) fun d hd => ?_) d7 fun vv H8 dd hdd nd hvv e8 d8 => ?_
  · obtain ⟨ds, rfl, _, _, rfl, rfl, _, _, rfl, ⟨x, hx, rfl⟩, rfl⟩ := hd
    exact ⟨x, hx, rfl⟩
  obtain ⟨x, hx, rfl⟩ := hdd
  have hvc8 := dp_wx (ex_dp ((e5.trans e6).trans e7) hvc) nc d7 e8
  have w8 : ∀ {H' : Hp}, Ex (wo p H8) H' → Ex (wo p H) H' := fun e => w4 (wx_trans (wx_of ((e5.trans e6).trans e7)) (wx_trans e8 e))
  refine q1_when (edt_test (ez_eq (ez_digit (m := 4) (ev_var rfl) ev_c (by decide) (by decide)) (e1_int (PI := fun j => j = 0) ev_c rfl))) d8 (fun H9 e9 d9 => ?_) fun H9 e9 d9 => ?_
  · refine sx_ret (K := K) (x_tup (xa_cons (x_pure ev_c (fun _ => .str _) rfl) (xa_cons (x_pure (ev_var rfl) (fun _ => .str nm) rfl) (xa_cons (x_var rfl (dp_wx hvv nd d8 e9) nd d9) (xa_cons (x_var rfl (dp_wx hvc8 nc d8 e9) nc d9) xa_nil)))) four) d9 fun v H10 d' hd n hv e10 d10 => q v H10 d' ?_ n hv (w8 (wx_trans e9 e10)) d10
    obtain ⟨ds, rfl, _, _, rfl, rfl, _, _, rfl, rfl, _, _, rfl, rfl, _, _, rfl, rfl, rfl⟩ := hd
    exact ⟨.bin nm (.cst x) (.col cn), rfl, .bin _ _ _ (.cst x hx) (.col cn), ⟨hml, trivial, trivial⟩, by show max 1 1 + 1 ≤ _; omega⟩
  · refine sx_ret (K := K) (x_tup (xa_cons (x_pure ev_c (fun _ => .str _) rfl) (xa_cons (x_pure (ev_var rfl) (fun _ => .str nm) rfl) (xa_cons (x_var rfl (dp_wx hvc8 nc d8 e9) nc d9) (xa_cons (x_var rfl (dp_wx hvv nd d8 e9) nd d9) xa_nil)))) four) d9 fun v H10 d' hd n hv e10 d10 => q v H10 d' ?_ n hv (w8 (wx_trans e9 e10)) d10
    obtain ⟨ds, rfl, _, _, rfl, rfl, _, _, rfl, rfl, _, _, rfl, rfl, _, _, rfl, rfl, rfl⟩ := hd
    exact ⟨.bin nm (.col cn) (.cst x), rfl, .bin _ _ _ (.col cn) (.cst x hx), ⟨hml, trivial, trivial⟩, by show max 1 1 + 1 ≤ _; omega⟩
end
def sp__law_inside (K : PySem.W.Frag) : Sp := fun vs H Q _ => ∃ (v sv : V) (s : Spn), vs = [v, sv] ∧ Ok v ∧ SpA K H sv s ∧ ∀ H', Ex H H' → Q (.bl (inB s v)) H'
section
variable {K : PySem.W.Frag} {σ : L2.St} {H : Hp} {ta tb tc te tl tn : TE} {D : Ends} {tz tu : TS} {E : XK} {t : TT} {p : Addr}
theorem ev_chainU {r r' : R2} {xs ys zs : List V} {b c : Bool} (ha : EvU ta σ H xs) (hb : EvU tb σ H ys) (hc : EvU tc σ H zs) (hr : ∀ p q H1, H1 p = some (.tup xs) → H1 q = some (.tup ys) → RV r (.ref p) (.ref q) H1 (.bl b)) (hr' : ∀ p q H1, H1 p = some (.tup ys) → H1 q = some (.tup zs) → RV r' (.ref p) (.ref q) H1 (.bl c)) : Ev (tChain r r' ta tb tc) σ H (.bl (b && c)) := fun H1 e Q q =>
  ha H1 e _ fun p1 H2 hp2 e2 h2 => hb H2 (e.trans e2) _ fun p2 H3 hp3 e3 h3 => hr p1 p2 H3 (e3 _ _ h2) h3 H3 (Ex.refl H3) _ fun H4 e4 => ⟨b, rfl, by
    have x4 := (e2.trans e3).trans e4
    cases b with
    | true =>
      show tc σ H4 fun w' H5 => r' (.ref p2) w' H5 Q
      exact hc H4 (e.trans x4) _ fun p3 H5 hp5 e5 h5 => hr' p2 p3 H5 ((e4.trans e5) _ _ h3) h5 H5 (Ex.refl H5) Q fun H6 e6 => q H6 ((x4.trans e5).trans e6)
    | false =>
      show Q (.bl false) H4
      exact q H4 x4⟩
theorem el_lcA {a : Addr} {xs : List V} {j : Nat} {vs : List Nat} (v : Nat → V) (h : Ev tl σ H (.ref a)) (hx : SqL K H a xs) (hz : xs.length ≤ 40000) (hw : ∀ x, wipe ((wipe σ vs).set j (some x)) vs = wipe σ vs)
    (he : ∀ (i : Nat) (x : V) H1, Ex H H1 → xs[i]? = some x → Ev te ((wipe σ vs).set j (some x)) H1 (v i)) : EvL (tLc (iList K tl) (gName j) tYes te vs) σ H ((List.range xs.length).map v) := by
  have q := el_lcL (K := K) (t := tYes) (te := te) (fun _ => true) v h hx hz hw (fun i x H1 _ _ => fun H2 e Q q => q H2 (Ex.refl H2)) fun i x H1 e hi _ => he i x H1 e hi
  rw [given_all] at q
  exact q
/-- [a new object for k in range(n)] -/
theorem er_lcRg {α : Type} {R : Hp → Addr → α → Prop} (hm : Mn R) {j : Nat} {vs : List Nat} {n : Nat} (f : Nat → α) (hn : Ev tn σ H (.int (n : Int))) (hz : n ≤ 10000) (hw : ∀ x, wipe ((wipe σ vs).set j (some x)) vs = wipe σ vs)
    (he : ∀ (i : Nat) (H1 : Hp), i < n → Ex H H1 → EvRn (fun H q => R H q (f i)) te ((wipe σ vs).set j (some (.int (i : Int)))) H1) : EvRn (fun H p => Lst2 R H p ((List.range n).map f)) (tLc (iRng1 (tCons tn tNil)) (gName j) tYes te vs) σ H := fun H0 e0 Q q =>
  hn H0 e0 _ fun H1 e1 => ⟨(n : Int), rfl, by omega, by omega, fun D hD => by
    refine lc_range (lo := 0) (n := ((n : Int)).toNat) (fun i H' => H1 D = none ∧ Ex H1 H' ∧ ∃ qs, H' D = some (.lst (qs.map V.ref)) ∧ Al2 R (wo D (nu H0 H')) qs ((List.range i).map f)) ⟨hD, Ex.new hD, [], upd_same, Al2.nil⟩ (fun i H' hi p => ?_) (fun H' p => ?_)
    · obtain ⟨p1, p2, qs, p3, p4⟩ := p
      have e9 : (0 : Int) + (i : Int) = (i : Int) := Int.zero_add _
      show wipe ((wipe σ vs).set j (some (.int ((0 : Int) + (i : Int))))) vs = wipe σ vs ∧ te ((wipe σ vs).set j (some (.int ((0 : Int) + (i : Int))))) H' fun y H4 => ∃ acc, H4 D = some (.lst acc) ∧ acc.length < sizeLine ∧ _
      rw [e9]
      refine ⟨hw _, he i H' (by omega) ((e0.trans e1).trans p2) H' (Ex.refl H') _ fun r H4 hr e4 hR => ⟨_, e4 _ _ p3, sz_lt ?_, p1, Ex.mut (p2.trans e4) p1, qs ++ [r], by rw [upd_same, List.map_append]; rfl, ?_⟩⟩
      · have := p4.1
        rw [List.length_map, List.length_range] at this
        rw [List.length_map]
        omega
      · rw [wo_nu_upd, List.range_succ, List.map_append]
        exact (p4.mono fun q l _ => hm _ _ _ _ (wo_mono (nu_mono e4))).snoc (hm _ _ _ _ (nu_wo2 p3 (e1.trans p2)) hR)
    · obtain ⟨p1, p2, qs, p3, p4⟩ := p
      rw [Int.toNat_natCast] at p4
      have hD0 := fresh_back e1 p1
      exact q D H' hD0 (e1.trans p2) ⟨qs, nu_at hD0 p3, p4.mono fun q l _ => hm _ _ _ _ (wo_le _ _)⟩⟩
theorem s_asgLz {i : Nat} {xs : List V} (h : EvL te σ H xs) (k : ∀ l H1, H l = none → Ex H H1 → H1 l = some (.lst xs) → D.nx (σ.set i (some (.ref l))) H1) : tAsg te (gName i) D σ H := h H (Ex.refl H) _ k
theorem eb_may {v : V} {e : Xp} {r : Addr} {zs : List Zn} (ha : Ev ta σ H v) (hb : Ev tb σ H (.ref r)) (hx : Xa K H v e) (hd : e.dep ≤ 6) (h : ZsAt K H r zs) : Ev (tCall (sp_may_hold K) [] E (tCons ta (tCons tb tNil))) σ H (.bl (canS (spI zs e) (.bl true))) :=
  ev_call (ea_cons ha (ea_cons hb ea_nil)) fun H1 e1 Q q E => ⟨v, e, r, zs, rfl, hx.ex e1, hd, h.ex e1, q⟩
theorem ec_inside {v sv : V} {s : Spn} (ha : Ev ta σ H v) (hb : Ev tb σ H sv) (hv : Ok v) (hs : SpA K H sv s) : Ev (tCall (sp__law_inside K) [] E (tCons ta (tCons tb tNil))) σ H (.bl (inB s v)) :=
  ev_call (ea_cons ha (ea_cons hb ea_nil)) fun H1 e1 Q q E => ⟨v, sv, s, rfl, hv, hs.ex e1, q⟩
theorem x_expD {n wd : Nat} (ha : Ev ta σ (wo p H) (.ref p)) (hb : Ev tb σ (wo p H) (.int (wd : Int))) (hc : EvD1 tc σ p H (ZP fun j => 0 ≤ j ∧ j ≤ (n : Int))) (h0 : 0 < wd) (h1 : wd ≤ 1000) :
    EvX K (tCall (spR__law_expression (n + 1) K) [] E (tCons ta (tCons tb (tCons tc tNil)))) σ p H (XD (n + 1)) := fun H1 e d Q q =>
  ha H1 e _ fun H2 e2 => hb H2 (e.trans e2) _ fun H3 e3 => hc H3 ((e.trans e2).trans e3) (d.ex (e2.trans e3)) _ fun y H4 ⟨j, ey, hj⟩ e4 d4 => by
    subst ey
    obtain ⟨dp, rfl⟩ := Int.eq_ofNat_of_zero_le hj.1
    refine ⟨p, wd, dp, rfl, d4, h0, h1, by omega, fun v H5 dd hd n hv e5 d5 => q v H5 dd ?_ n hv (wx_trans (wx_of (e2.trans e3)) (wx_trans e4 e5)) d5⟩
    obtain ⟨e, h2, h3, h4, h5⟩ := hd
    exact ⟨e, h2, h3, h4, by omega⟩
theorem qx_condAsg {i : Nat} {b : Bool} {u : V} {d0 : PyData} {P : PyData → Prop} (hσ : σ[i]? = some (some u)) (h0 : P d0) (n0 : noL d0 = true) (hu : Dp K H u d0) (d : Dr p H) (h : EvT t σ H b) (h1 : ∀ H1, Ex H H1 → EvX K te σ p H1 P) (k : ∀ v H1 d', P d' → noL d' = true → Dp K H1 v d' → Ex (wo p H) H1 → Dr p H1 → tz D (σ.set i (some v)) H1) : tSeq (tIfS t (tAsg te (gName i)) tNext) tz D σ H := by
  refine q_when h (fun hb H1 e1 => ?_) fun hb H1 e1 => ?_
  · exact h1 H1 e1 H1 (wo_le p H1) (d.ex e1) _ fun v H2 d' hd n hv e2 d2 => k v H2 d' hd n hv (wx_trans (wx_of e1) e2) d2
  · have := k u H1 d0 h0 n0 (ex_dp e1 hu) (wx_of e1) (d.ex e1)
    have hs : σ.set i (some u) = σ := by
      refine List.ext_getElem? fun j => ?_
      rw [List.getElem?_set]
      by_cases e : i = j
      · subst e
        have := (List.getElem?_eq_some_iff.mp hσ).1
        rw [if_pos rfl, if_pos this, hσ]
      · rw [if_neg e]
    rw [hs] at this
    exact this
theorem rn_zone {xs : List V} (h : EvL te σ H xs) (ho : ∀ x ∈ xs, Ok x) (hl : xs.length ≤ 1000) : EvRn (fun H p => ZnAt K H p (znOf xs)) (tCall (sp_zone_of K) [] E (tCons te tNil)) σ H := fun H1 e Q q =>
  h H1 e _ fun l H2 hl2 e2 h2 => ⟨l, xs, rfl, sq_of h2, ho, hl, fun p H3 hp e3 hZ => by
    have hp1 : H1 p = none := fresh_back e2 hp
    refine q p H3 hp1 (e2.trans e3) ?_
    obtain ⟨dx, hd⟩ := hZ
    exact ⟨dx, nu_at hp1 hd⟩⟩
end
/-- the columns of the rows -/
def colL (L : List (List V)) (k : Nat) : List V := L.map fun r => r.getD k .non
theorem presB {xs : List V} (h : ∀ x ∈ xs, Ok x) : (∀ x ∈ pres xs, Ok x) ∧ ∀ x ∈ pres xs, x ≠ .non := ⟨fun x hx => h x (List.mem_filter.mp hx).1, fun x hx => by have := (List.mem_filter.mp hx).2; simpa using this⟩
theorem zn_in {xs : List V} (h : ∀ x ∈ xs, Ok x) {v : V} (hv : v ∈ xs) : inB (znS (znOf xs)) v = true := by
  obtain ⟨p1, p2⟩ := presB h
  refine sp_in (fun z => ?_) fun z => ?_
  · have hlt : (pres xs).length < xs.length := List.length_filter_lt_length_iff_exists.mpr ⟨v, hv, by rw [z]; decide⟩
    refine decide_eq_true ?_
    show ((xs.length - (pres xs).length : Nat) : Int) > 0
    omega
  · have hm : v ∈ pres xs := List.mem_filter.mpr ⟨hv, by rw [decide_eq_false z]; rfl⟩
    have hne : pres xs ≠ [] := fun e => by rw [e] at hm; cases hm
    obtain ⟨a1, a2⟩ := best_end false p1 hne
    obtain ⟨b1, b2⟩ := best_end true p1 hne
    have he : (pres xs).isEmpty = false := by cases e : pres xs with | nil => exact (hne e).elim | cons _ _ => rfl
    have e1 : (znOf xs).lo = bestV false (pres xs) := by show endV false (pres xs) = _; unfold endV; rw [if_neg (by rw [he]; decide)]
    have e2 : (znOf xs).hi = bestV true (pres xs) := by show endV true (pres xs) = _; unfold endV; rw [if_neg (by rw [he]; decide)]
    rw [e1, e2]
    exact ⟨p2 _ a1, a2 _ hm, b2 _ hm⟩
def znsOf (L : List (List V)) (w : Nat) : List Zn := (List.range w).map fun k => znOf (colL L k)
theorem zns_ok {L : List (List V)} {w : Nat} (hL : ∀ r ∈ L, ∀ x ∈ r, Ok x) : ∀ z ∈ znsOf L w, SOk (znS z) := fun z hz => by
  obtain ⟨k, _, rfl⟩ := List.mem_map.mp hz
  have hc : ∀ x ∈ colL L k, Ok x := fun x hx => by
    obtain ⟨r, hr, rfl⟩ := List.mem_map.mp hx
    rw [List.getD_eq_getElem?_getD]
    cases e : r[k]? with
    | none => exact .non
    | some y => exact hL r hr y (List.mem_of_getElem? e)
  exact ends_ok (presB hc).1 (presB hc).2 _
theorem cols_in {L : List (List V)} {w : Nat} (hL : ∀ r ∈ L, r.length = w ∧ ∀ x ∈ r, Ok x) {r : List V} (hr : r ∈ L) (n : Nat) : inB (colS (znsOf L w) n) (r.getD n .non) = true := by
  unfold colS
  by_cases hn : n < w
  · have e : (znsOf L w)[n]? = some (znOf (colL L n)) := by
      unfold znsOf
      rw [List.getElem?_map, List.getElem?_range hn]
      rfl
    rw [e]
    refine zn_in (fun x hx => ?_) (List.mem_map.mpr ⟨r, hr, rfl⟩)
    obtain ⟨r2, hr2, rfl⟩ := List.mem_map.mp hx
    rw [List.getD_eq_getElem?_getD]
    cases e : r2[n]? with
    | none => exact .non
    | some y => exact (hL r2 hr2).2 y (List.mem_of_getElem? e)
  · have e : (znsOf L w)[n]? = none := List.getElem?_eq_none (by unfold znsOf; rw [List.length_map, List.length_range]; omega)
    rw [e]
    have e2 : r.getD n .non = .non := by rw [List.getD_eq_getElem?_getD, List.getElem?_eq_none (by rw [(hL r hr).1]; omega)]; rfl
    rw [e2]
    exact in_non
section
variable {P : Program} {w : World} {K : PySem.W.Frag} {mg : Str → Option Value} {base : Heap}
theorem ok__law_inside (D : Dn K mg "_law_inside" s__law_inside ["value", "span"]) (c__law_rank : C8.Cal P w K mg base 1 "_law_rank" (sp__law_rank K) []) :
    C8.Cal P w K mg base 2 "_law_inside" (sp__law_inside K) [] := by
  refine cal_of D sc__law_inside (fun vs H Q E h => ?_) (fun f cdv A outer s H vs Q E hr h => ?_)
  · obtain ⟨_, _, _, rfl, _⟩ := h
    rfl
  refine ⟨_, (pss_cons (ps_if (pt_cmpR (op_eqD (hu64 hr)) (pv 1) pe_str (nomark _))
      (pss_one (ps_ret pe_bl))
      pss_nil)
    (pss_cons (ps_if (pt_cmpR op_isN (pv 0) pe_non (nomark _))
      (pss_one (ps_ret (pe_cmpR op_isTF (pe_ix ix_tup (pv 1) pe_int (fun _ _ => rfl)) pe_bl (nomark _))))
      pss_nil)
    (pss_cons (ps_if (pt_cmpR op_isN (pe_ix ix_tup (pv 1) pe_int (fun _ _ => rfl)) pe_non (nomark _))
      (pss_one (ps_ret pe_bl))
      pss_nil)
    (pss_one (ps_ret (pe_chain (op_le2 (hu64 hr)) (op_le2 (hu64 hr)) (C8.pe_c c__law_rank hr (by decide) (by rfl) (pa_cons (pe_ix ix_tup (pv 1) pe_int (fun _ _ => rfl)) pa_nil)) (C8.pe_c c__law_rank hr (by decide) (by rfl) (pa_cons (pv 0) pa_nil)) (C8.pe_c c__law_rank hr (by decide) (by rfl) (pa_cons (pe_ix ix_tup (pv 1) pe_int (fun _ _ => rfl)) pa_nil)))))))), ?_⟩
  obtain ⟨v, sv, s, rfl, hv, hs, q⟩ := h
  refine q_when (b := s.isAny) (et_test (ev_isAny (es_var rfl hs) ev_c hs.2)) (fun hb H1 e1 => ?_) fun hb H1 e1 => ?_
  · cases s with
    | any => exact s_ret ev_c fun H2 e2 => q H2 (e1.trans e2)
    | sp n lo hi => cases hb
  cases s with
  | any => cases hb
  | sp n lo hi =>
    obtain ⟨hS, o1, o2, o3, o4⟩ := hs
    cases hS with | sp hS =>
    refine q_when (b := decide (v = .non)) (et_test (ev_op (ev_var rfl) ev_c rv_isN)) (fun hb2 H2 e2 => ?_) fun hb2 H2 e2 => ?_
    · have hvn : v = .non := of_decide_eq_true hb2
      subst hvn
      refine s_ret (v := .bl n) (ev_is (ev_op (ev_ix (i := 0) (ev_var rfl) (ex_t (e1.trans e2) hS) ev_c rfl) ev_c rv_isT) ?_) fun H3 e3 => q H3 (e1.trans (e2.trans e3))
      cases n <;> rfl
    have hvn : v ≠ .non := of_decide_eq_false hb2
    have hin : inB (.sp n lo hi) v = canS (.sp n lo hi) v := by
      unfold inB
      simp only
      rw [if_neg hvn]
    rw [hin] at q
    refine q_when (b := decide (lo = .non)) (et_test (ev_op (ev_ix (i := 1) (ev_var rfl) (ex_t (e1.trans e2) hS) ev_c rfl) ev_c rv_isN)) (fun hb3 H3 e3 => ?_) fun hb3 H3 e3 => ?_
    · refine s_ret (v := .bl (canS (.sp n lo hi) v)) (ev_is ev_c ?_) fun H4 e4 => q H4 (e1.trans (e2.trans (e3.trans e4)))
      unfold canS
      simp only
      rw [hb3]
      rfl
    · have x3 := e1.trans (e2.trans e3)
      refine s_ret (v := .bl (canS (.sp n lo hi) v)) (ev_is (ev_chainU (ec_lrank (ev_ix (i := 1) (ev_var rfl) (ex_t x3 hS) ev_c rfl) o1) (ec_lrank (ev_var rfl) hv) (ec_lrank (ev_ix (i := 2) (ev_var rfl) (ex_t x3 hS) ev_c rfl) o2) (fun p q H4 h1 h2 => rv_leR h1 h2 o1 hv) (fun p q H4 h1 h2 => rv_leR h1 h2 hv o2)) ?_) fun H4 e4 => q H4 (x3.trans e4)
      unfold canS
      simp only
      rw [hb3]
      rfl
theorem ok_law {fa : Addr} {s : Shared} {H : Hp} {a : Addr} {ns : List Int} {cdv : Value} (c__law_cell : C8.Cal P w K mg base 1 "_law_cell" (sp__law_cell K) []) (c__law_condition : C8.Cal P w K mg base 8 "_law_condition" (sp__law_condition K) []) (c__law_digit : C8.Cal P w K mg base 1 "_law_digit" (sp__law_digit K) []) (c__law_expression : C8.Cal P w K mg base 10 "_law_expression" (sp__law_expression K) []) (c__law_inside : C8.Cal P w K mg base 2 "_law_inside" (sp__law_inside K) []) (c__law_is_integer : C8.Cal P w K mg base 1 "_law_is_integer" (sp__law_is_integer K) []) (c__law_state : C8.Cal P w K mg base 1 "_law_state" (sp__law_state K) []) (c__law_value : C8.Cal P w K mg base 3 "_law_value" (sp__law_value K) []) (c_evaluate : C8.Cal P w K mg base 13 "evaluate" (sp_evaluate K) []) (c_holds : C8.Cal P w K mg base 14 "holds" (sp_holds K) []) (c_may_hold : C8.Cal P w K mg base 14 "may_hold" (sp_may_hold K) []) (c_span_of : C8.Cal P w K mg base 13 "span_of" (sp_span_of K) []) (c_zone_of : C8.Cal P w K mg base 12 "zone_of" (sp_zone_of K) []) (z_len : mg "len" = none) (z_max : mg "max" = none) (z_min : mg "min" = none) (z_range : mg "range" = none) (nd : base.NoDigits) (h63 : ns.length ≤ 63) (hS : SqL K H a (ns.map V.int))
    (hr : Room 14 (callerA.deeper (envOfC "law" (C8.fnScope s_law) s.heap.objs.size fa cdv))) :
    ∃ t, PSs (cxOf C8.CX0 P w K mg base n_law "law" (C8.fnScope s_law) fa cdv callerA [] s H C8.E0).nox (C8.fnBody s_law) t ∧ t { nx := fun _ _ => V.non = .bl true, rt := fun v _ => v = .bl true } (start n_law [.ref a]) H := by
  refine ⟨_, (pss_cons (ps_set (i := 1) sc_law.nd rfl (.inr rfl) (C8.pe_c c__law_state hr (by decide) (by rfl) (pa_cons (C8.pe_c c__law_cell hr (by decide) (by rfl) (pa_cons (pv 0) (pa_cons pe_int pa_nil))) (pa_cons pe_int pa_nil))))
    (pss_cons (ps_set (i := 2) sc_law.nd rfl (.inl rfl) (pe_op op_add pe_int (C8.pe_c c__law_digit hr (by decide) (by rfl) (pa_cons (pv 1) (pa_cons pe_int pa_nil)))))
    (pss_cons (ps_set (i := 3) sc_law.nd rfl (.inl rfl) (pe_cmpR op_gt (C8.pe_c c__law_digit hr (by decide) (by rfl) (pa_cons (pv 1) (pa_cons pe_int pa_nil))) pe_int (nomark _)))
    (pss_cons (ps_set (i := 4) sc_law.nd rfl (.inr rfl) (pe_lst pa_nil))
    (pss_cons (ps_for PassesOwn.never rfl (pi_range1 rfl z_range (pa_cons (pe_callB (call_min2 rfl) (by rfl) z_min (by decide +kernel) (pa_cons pe_int (pa_cons (pe_callB (call_max2 rfl) (by rfl) z_max (by decide +kernel) (pa_cons pe_int (pa_cons (pe_op op_fdiv (pe_callB call_len_seq (by rfl) z_len PySem.boot_len (pa_cons (pv 0) pa_nil)) pe_int) pa_nil))) pa_nil))) pa_nil)) (pg_name (i := 5) sc_law.nd rfl (.inl rfl))
      (pss_cons (ps_set (i := 1) sc_law.nd rfl (.inr rfl) (C8.pe_c c__law_state hr (by decide) (by rfl) (pa_cons (C8.pe_c c__law_cell hr (by decide) (by rfl) (pa_cons (pv 0) (pa_cons (pe_op op_add pe_int (pv 5)) pa_nil))) (pa_cons (pv 5) pa_nil))))
    (pss_cons (ps_setLc (i := 6) (own := [("j", 11)]) (g := gName 11) (tt := tYes) rfl sc_law.nd rfl rfl (sw_true rfl rfl rfl (by decide +kernel)) (pi_range1 rfl z_range (pa_cons (pv 2) pa_nil)) (blkOk_by (N := n_law) (sc := C8.fnScope s_law) (by decide +kernel)) (fun _ _ _ _ _ => pg_name (i := 11) sc_law.nd rfl (Or.inl rfl)) (fun _ _ _ _ _ => pts_nil) (fun _ _ _ _ _ => (C8.pe_c c__law_value hr (by decide) (by rfl) (pa_cons (pv 1) pa_nil))))
    (Evl.pss_cut (ps_if (pt_val (pv 3))
      (pss_one (ps_setLc (i := 6) (own := [("value", 12)]) (g := gName 12) (tt := tYes) rfl sc_law.nd rfl rfl (sw_true rfl rfl rfl (by decide +kernel)) (pi_list (pv 6)) (blkOk_by (N := n_law) (sc := C8.fnScope s_law) (by decide +kernel)) (fun _ _ _ _ _ => pg_name (i := 12) sc_law.nd rfl (Or.inl rfl)) (fun _ _ _ _ _ => pts_nil) (fun _ _ _ _ _ => (pe_ifExp (PW.pt (pw_or (pt_cmpR op_isN (pv 12) pe_non (nomark _)) (pw_or1 (pt_val (C8.pe_c c__law_is_integer hr (by decide) (by rfl) (pa_cons (pv 12) pa_nil)))))) (pv 12) pe_int))))
      pss_nil)
    (pss_one (ps_expr (pe_bm PySem.F.plainAttrs_list PySem.F.slot_list_append PySem.F.type_list_append mt_append (pv 4) (pa_cons (pv 6) pa_nil))))))))
    (pss_cons (ps_setLc (i := 7) (own := [("k", 5)]) (g := gName 5) (tt := tYes) rfl sc_law.nd rfl rfl (sw_true rfl rfl rfl (by decide +kernel)) (pi_range1 rfl z_range (pa_cons (pv 2) pa_nil)) (blkOk_by (N := n_law) (sc := C8.fnScope s_law) (by decide +kernel)) (fun _ _ _ _ _ => pg_name (i := 5) sc_law.nd rfl (Or.inr rfl)) (fun _ _ _ _ _ => pts_nil) (fun _ _ _ _ _ => (C8.pe_c c_zone_of hr (by decide) (by rfl) (pa_cons (pe_lc (own := [("row", 6)]) (g := gName 6) (tt := tYes) rfl sc_law.nd (pi_listK (K := K) rfl (pv 4)) (blkOk_by (N := n_law) (sc := _) (by kernel_rfl)) (fun _ _ _ _ _ => pg_name (i := 6) sc_law.nd rfl (Or.inl rfl)) (fun _ _ _ _ _ => pts_nil) (fun _ _ _ _ _ => (pe_ix (ix_listK (K := K) rfl) (pv 6) (pv 5) (fun _ _ => rfl)))) pa_nil))))
    (pss_cons (ps_for PassesOwn.never rfl (pi_range1 rfl z_range (pa_cons (pe_callB (call_min2 rfl) (by rfl) z_min (by decide +kernel) (pa_cons pe_int (pa_cons (pe_callB (call_max2 rfl) (by rfl) z_max (by decide +kernel) (pa_cons pe_int (pa_cons (pe_op op_sub (pe_callB call_len_seq (by rfl) z_len PySem.boot_len (pa_cons (pv 0) pa_nil)) pe_int) pa_nil))) pa_nil))) pa_nil)) (pg_name (i := 5) sc_law.nd rfl (.inl rfl))
      (pss_cons (ps_set (i := 1) sc_law.nd rfl (.inr rfl) (C8.pe_c c__law_state hr (by decide) (by rfl) (pa_cons (C8.pe_c c__law_cell hr (by decide) (by rfl) (pa_cons (pv 0) (pa_cons (pe_op op_add pe_int (pv 5)) pa_nil))) (pa_cons (pe_op op_add pe_int (pv 5)) pa_nil))))
    (pss_cons (ps_set (i := 8) sc_law.nd rfl (.inl rfl) (C8.pe_c c__law_expression hr (by decide) (by rfl) (pa_cons (pv 1) (pa_cons (pv 2) (pa_cons (pe_op op_add pe_int (C8.pe_c c__law_digit hr (by decide) (by rfl) (pa_cons (pv 1) (pa_cons pe_int pa_nil)))) pa_nil)))))
    (pss_cons (ps_if (pt_cmpR op_eq (pe_op op_mul (pe_op op_fdiv (pv 5) pe_int) pe_int) (pv 5) (nomark _))
      (pss_one (ps_set (i := 8) sc_law.nd rfl (.inl rfl) (C8.pe_c c__law_condition hr (by decide) (by rfl) (pa_cons (pv 1) (pa_cons (pv 2) (pa_cons pe_int pa_nil))))))
      pss_nil)
    (pss_cons (ps_set (i := 9) sc_law.nd rfl (.inl rfl) (C8.pe_c c_span_of hr (by decide) (by rfl) (pa_cons (pv 8) (pa_cons (pv 7) pa_nil))))
    (pss_cons (ps_set (i := 10) sc_law.nd rfl (.inl rfl) (C8.pe_c c_may_hold hr (by decide) (by rfl) (pa_cons (pv 8) (pa_cons (pv 7) pa_nil))))
    (pss_cons (ps_if (PW.pt (pw_and (pt_cmpR op_notTF (pv 10) pe_bl (nomark _)) (pw_and1 (pt_cmpR op_notTF (pv 10) pe_bl (nomark _)))))
      (pss_one (ps_ret pe_bl))
      pss_nil)
    (pss_one (ps_for PassesOwn.never rfl (pi_list (pv 4)) (pg_name (i := 6) sc_law.nd rfl (.inl rfl))
      (pss_one (ps_if (PW.pt (pw_or (pt_not (pt_val (C8.pe_c c__law_inside hr (by decide) (by rfl) (pa_cons (C8.pe_c c_evaluate hr (by decide) (by rfl) (pa_cons (pv 8) (pa_cons (pv 6) pa_nil))) (pa_cons (pv 9) pa_nil))))) (pw_or1 (PW.pt (pw_and (pt_val (C8.pe_c c_holds hr (by decide) (by rfl) (pa_cons (pv 8) (pa_cons (pv 6) pa_nil)))) (pw_and1 (pt_not (pt_val (pv 10)))))))))
      (pss_one (ps_ret pe_bl))
      pss_nil)))))))))))
    (pss_one (ps_ret pe_bl))))))))), ?_⟩
  have lenS : (ns.map V.int).length = ns.length := List.length_map ..
  refine q_asgC (ec_state (ec_cell (k := 0) (ev_var rfl) ev_c hS (by decide)) ev_c) fun p0 H1 hp0 e1 d1 => ?_
  refine qz_asg (ez_op0 (SI := fun j => 1 ≤ j ∧ j ≤ 3) (e1_int (PI := fun j => j = 1) ev_c rfl) (ez_digit (m := 3) (ev_var rfl) ev_c (by decide) (by decide)) fun i j hi hj => ⟨by omega, by omega⟩) d1 fun wz H2 hw e2 d2 => ?_
  obtain ⟨wd, rfl⟩ := Int.eq_ofNat_of_zero_le (show 0 ≤ wz by omega)
  have hw1 : 1 ≤ wd ∧ wd ≤ 3 := by omega
  refine q1_asg (ez_cmp (g := fun i j => decide (i > j)) (ez_digit (m := 3) (ev_var rfl) ev_c (by decide) (by decide)) (e1_int (PI := fun j => j = 0) ev_c rfl)) d2 fun vn H3 ⟨nb, hvn⟩ e3 d3 => ?_
  subst hvn
  refine q_asgL (el_lst ea_nil (by show 0 ≤ 100000; decide)) fun pc H4 hpc e4 h4 => ?_
  have x3 : Ex H H3 := wx_back hp0 e1 (wx_trans e2 e3)
  have hpcH : H pc = none := fresh_back x3 hpc
  have x4 : Ex H H4 := x3.trans e4
  refine q_forR1 (n := if (if ((ns.length : Nat) : Int) / 2 > 2 then ((ns.length : Nat) : Int) / 2 else 2) < 14 then (if ((ns.length : Nat) : Int) / 2 > 2 then ((ns.length : Nat) : Int) / 2 else 2) else 14) (ea_cons (ev_min2 ev_c (Evl.ev_max2 ev_c (ev_op (ev_is (ev_len (ev_var rfl) (ex_l x4 hS)) (by rw [lenS])) ev_c (rv_I ⟨by decide, by decide⟩)))) ea_nil) ⟨by split <;> split <;> omega, by split <;> split <;> omega⟩
    (fun i σ' H' => ∃ (sv kv rv : Option V) (L : List (List V)), σ' = [some (.ref a), sv, some (.int (wd : Int)), some (.bl nb), some (.ref pc), kv, rv, none, none, none, none, none, none] ∧ Ex H H' ∧ Lst3 RowAt H' pc L ∧ L.length = i ∧ ∀ r ∈ L, r.length = wd ∧ ∀ x ∈ r, DV x)
    (fun H5 e5 => ⟨_, _, _, [], rfl, x4.trans e5, ⟨[], e5 _ _ h4, Al2.nil⟩, rfl, fun r h => nomatch h⟩) (fun i σ' Ho hi pv => ?_) fun σ' H' pv => ?_
  · obtain ⟨sv, kv, cv, L, rfl, xo, ⟨qs, hqs, hA⟩, hl, hL⟩ := pv
    have hi14 : i < 14 := by split at hi <;> omega
    refine q_asgC (ec_state (ec_cell (k := 1 + (i : Int)) (ev_var rfl) (ev_op ev_c (ev_var rfl) rv_I0) (ex_l xo hS) (by omega)) (ev_var rfl)) fun ps Ha hps ea da => ?_
    refine q1_asgL (e1_lcE (n := wd) (R := DV) (ev_var rfl) (by omega) (fun _ => rfl) fun k => e1_value (ev_var rfl)) da fun pr Hb xs hP hpr eb db hb => ?_
    obtain ⟨hxl, hxd⟩ := hP
    have xb : Ex Ho Hb := wx_back hps ea eb
    have hpro : Ho pr = none := fresh_back ea hpr
    refine q_cut (M := fun σ' H' => ∃ (p2 : Addr) (ys : List V), σ' = [some (.ref a), some (.ref ps), some (.int (wd : Int)), some (.bl nb), some (.ref pc), some (.int (i : Int)), some (.ref p2), none, none, none, none, none, none] ∧ Ex Ho H' ∧ Ho p2 = none ∧ H' p2 = some (.lst ys) ∧ ys.length = wd ∧ ∀ x ∈ ys, DV x) ?_ fun σ' Hc pw => ?_
    · refine s_when (b := nb) (et_B (ev_var rfl)) (fun _ Hc ec => ?_) fun _ Hc ec => ⟨pr, xs, rfl, xb.trans ec, hpro, ec _ _ hb, by omega, hxd⟩
      refine s_asgLz (xs := (List.range xs.length).map fun i => if (decide (xs.getD i .non = .non) || isInt (xs.getD i .non)) = true then xs.getD i .non else .int 4) ?_ fun p2 Hd hp2 ed hd => ⟨p2, _, rfl, xb.trans (ec.trans ed), fresh_back (xb.trans ec) hp2, hd, by rw [List.length_map, List.length_range]; omega, fun x hx => ?_⟩
      · refine el_lcA (K := K) _ (ev_var rfl) (sq_of (ec _ _ hb)) (by omega) (fun _ => rfl) fun i x H1 e1 hi => ?_
        have hdx := hxd x (List.mem_of_getElem? hi)
        rw [getD_is hi]
        refine ev_if (b := decide (x = .non) || isInt x) (et_or (et_test (ev_op (ev_var rfl) ev_c rv_isN)) fun _ => et_B (ec_isint (ev_var rfl) hdx.pl)) (fun hz => ev_is (ev_var rfl) (by rw [if_pos hz])) fun hz => ev_is ev_c (by rw [if_neg (by rw [hz]; decide)])
      · obtain ⟨i, hi, rfl⟩ := List.mem_map.mp hx
        have hi2 := List.mem_range.mp hi
        split
        · rw [List.getD_eq_getElem?_getD, List.getElem?_eq_getElem hi2]
          exact hxd _ (List.getElem_mem hi2)
        · exact .int 4 ⟨by decide, by decide⟩
    · obtain ⟨p2, ys, rfl, xc, hp2, hc, hyl, hyd⟩ := pw
      have hp2c : p2 ≠ pc := fun z => by rw [← z, hp2] at hqs; cases hqs
      refine s_app (v := .ref p2) (xc _ _ hqs) (ev_var rfl) (ev_var rfl) (by rw [List.length_map, hA.1]; omega) fun Hd ed => ⟨_, _, _, L ++ [ys], rfl, Ex.mut ((xo.trans xc).trans ed) hpcH, ⟨qs ++ [p2], by rw [upd_same, List.map_append]; rfl, ?_⟩, by rw [List.length_append, hl]; rfl, fun r hr => ?_⟩
      · rw [wo_upd]
        refine (hA.mono fun q l _ => RowAt.mn _ _ _ _ (wo_mono (xc.trans ed))).snoc ?_
        show wo pc Hd p2 = _
        rw [wo_ne hp2c]
        exact ed _ _ hc
      · rcases List.mem_append.mp hr with h | h
        · exact hL r h
        · rw [List.mem_singleton.mp h]; exact ⟨hyl, hyd⟩
  obtain ⟨sv, kv, cv, L, rfl, xo, hA3, hl, hL⟩ := pv
  have hl14 : L.length ≤ 14 := by rw [hl]; split <;> split <;> omega
  have hL2 := hA3.two RowAt.mn
  obtain ⟨qs, hqs, hA⟩ := hL2
  have hqlen : (qs.map V.ref).length = L.length := by rw [List.length_map, hA.1]
  have okL : ∀ r ∈ L, ∀ x ∈ r, Ok x := fun r hr x hx => dv_ok ((hL r hr).2 x hx)
  have rwL : ∀ r ∈ L, RwOk r := fun r hr x hx => dv_vok ((hL r hr).2 x hx)
  have hzs := zns_ok (L := L) (w := wd) okL
  refine q_asgR (R := fun H p => Lst2 (ZnAt K) H p (znsOf L wd)) (er_lcRg (ZnAt.mn K) (n := wd) (fun k => znOf (colL L k)) (ev_var rfl) (by omega) (fun _ => rfl) fun k H5 hk e5 => rn_zone ?_ ?_ ?_) fun pz H5 hpz e5 hZ => ?_
  · have hcol : (List.range (qs.map V.ref).length).map (fun i => (L.getD i []).getD k .non) = colL L k := by
      rw [hqlen]
      show _ = L.map fun r => r.getD k .non
      refine List.ext_getElem (by simp) fun i h1 h2 => ?_
      have h3 : i < L.length := by simpa using h1
      rw [List.getElem_map, List.getElem_map, List.getElem_range, show L.getD i [] = L[i] by rw [List.getD_eq_getElem?_getD, List.getElem?_eq_getElem h3]; rfl]
    rw [← hcol]
    refine el_lcA (K := K) _ (ev_var rfl) (sq_of (e5 _ _ hqs)) (by omega) (fun _ => rfl) fun i x H6 e6 hi => ?_
    rw [List.getElem?_map] at hi
    cases hqi : qs[i]? with
    | none => rw [hqi] at hi; cases hi
    | some r =>
      rw [hqi] at hi
      cases hi
      have hlt : i < L.length := by rw [← hA.1]; exact (List.getElem?_eq_some_iff.mp hqi).1
      have hLi : L[i]? = some L[i] := List.getElem?_eq_getElem hlt
      have hrow : H6 r = some (.lst L[i]) := (e5.trans e6) _ _ (hA.2 i r _ hqi hLi)
      have hg : L.getD i [] = L[i] := by rw [List.getD_eq_getElem?_getD, hLi]; rfl
      have hrl := (hL _ (List.getElem_mem hlt)).1
      rw [hg]
      have hk2 : k < L[i].length := by omega
      refine ev_op (ev_var rfl) (ev_var rfl) (rv_ixL (sq_of hrow) (atI_nat ?_))
      rw [List.getD_eq_getElem?_getD, List.getElem?_eq_getElem hk2]
      rfl
  · intro x hx
    obtain ⟨r, hr, rfl⟩ := List.mem_map.mp hx
    rw [List.getD_eq_getElem?_getD]
    cases e : r[k]? with
    | none => exact .non
    | some y => exact okL r hr y (List.mem_of_getElem? e)
  · show (L.map _).length ≤ 1000
    rw [List.length_map]
    omega
  have hZs : ZsAt K H5 pz (znsOf L wd) := ⟨Lst2.mn (ZnAt.mn K) _ _ _ _ nu_le hZ, hzs, by unfold znsOf; rw [List.length_map, List.length_range]; omega⟩
  have x5 := xo.trans e5
  refine q_forR1 (n := if (if ((ns.length : Nat) : Int) - 1 > 4 then ((ns.length : Nat) : Int) - 1 else 4) < 24 then (if ((ns.length : Nat) : Int) - 1 > 4 then ((ns.length : Nat) : Int) - 1 else 4) else 24) (ea_cons (ev_min2 ev_c (Evl.ev_max2 ev_c (ev_op (ev_is (ev_len (ev_var rfl) (ex_l x5 hS)) (by rw [lenS])) ev_c rv_I0))) ea_nil) ⟨by split <;> split <;> omega, by split <;> split <;> omega⟩
    (fun i σ' H'' => ∃ (sv kv rv v8 v9 va : Option V), σ' = [some (.ref a), sv, some (.int (wd : Int)), some (.bl nb), some (.ref pc), kv, rv, some (.ref pz), v8, v9, va, none, none] ∧ Ex H5 H'') (fun H6 e6 => ⟨_, _, _, _, _, _, rfl, e6⟩) (fun i σ' Ho hi pv => ?_) fun σ' H'' pv => ?_
  · obtain ⟨sv, kv, rv, v8, v9, va, rfl, xo2⟩ := pv
    have hi24 : i < 24 := by split at hi <;> omega
    refine q_asgC (ec_state (ec_cell (k := 1 + (i : Int)) (ev_var rfl) (ev_op ev_c (ev_var rfl) rv_I0) (ex_l (x5.trans xo2) hS) (by omega)) (ev_op ev_c (ev_var rfl) rv_I0)) fun ps Ha hps ea da => ?_
    refine qx_asg (K := K) (P := XD 5) (x_expD (n := 4) (wd := wd) (ev_var rfl) (ev_var rfl) (ez_op0 (SI := fun j => 0 ≤ j ∧ j ≤ 4) (e1_int (PI := fun j => j = 1) ev_c rfl) (ez_digit (m := 4) (ev_var rfl) ev_c (by decide) (by decide)) fun i j hi hj => ⟨by omega, by omega⟩) (by omega) (by omega)) da fun v0 Hb d0 hd0 n0 hv0 eb db => ?_
    refine qx_condAsg (K := K) (P := XD 5) (i := 8) (b := decide (V.int (((i : Int) / 2) * 2) = V.int (i : Int))) rfl hd0 n0 hv0 db (et_test (ev_op (ev_op (ev_op (ev_var rfl) ev_c (rv_I ⟨by decide, by decide⟩)) ev_c (rv_I (.inr ⟨by decide, by decide⟩))) (ev_var rfl) (rv_eq rfl))) (fun H1 e1 => x_cond (n := 3) (dp := 3) (ev_var rfl) (ev_var rfl) ev_c (by omega) (by omega) (by decide)) fun v Hc d hd nd2 hv ec dc => ?_
    obtain ⟨e, rfl, hxo, hxn, hdep⟩ := hd
    have xc : Ex Ho Hc := wx_back hps ea (wx_trans eb ec)
    have hx : Xa K Hc v e := ⟨hv, hxo⟩
    have hz : ZsAt K Hc pz (znsOf L wd) := hZs.ex (xo2.trans xc)
    refine q_asgS (es_span (n := 6) (ev_var rfl) (ev_var rfl) hx (by omega) hz) fun vt Hd ed ht => ?_
    refine q_asg (v := .bl (canS (spI (znsOf L wd) e) (.bl true))) (eb_may (ev_var rfl) (ev_var rfl) (hx.ex ed) (by omega) (hz.ex ed)) fun He ee => ?_
    refine q_when (b := (!decide (V.bl (canS (spI (znsOf L wd) e) (.bl true)) = .bl true)) && !decide (V.bl (canS (spI (znsOf L wd) e) (.bl true)) = .bl false)) (et_and (et_test (ev_op (ev_var rfl) ev_c rv_notT)) fun _ => et_test (ev_op (ev_var rfl) ev_c rv_notT)) (fun hb => ?_) fun _ Hf ef => ?_
    · exfalso
      cases hc : canS (spI (znsOf L wd) e) (.bl true) <;> rw [hc] at hb <;> simp at hb
    have xf := (xc.trans ed).trans (ee.trans ef)
    have hqs2 : Hf pc = some (.lst (qs.map V.ref)) := (e5.trans (xo2.trans xf)) _ _ hqs
    refine s_forLn (xs := qs.map V.ref) (ev_var rfl) (sq_of hqs2) (fun j σ' H'' => ∃ rv, σ' = [some (.ref a), some (.ref ps), some (.int (wd : Int)), some (.bl nb), some (.ref pc), some (.int (i : Int)), rv, some (.ref pz), some v, some vt, some (.bl (canS (spI (znsOf L wd) e) (.bl true))), none, none] ∧ Ex Hf H'') (fun Hg eg => ⟨_, rfl, eg⟩) (fun j σ' H'' _ pw => ?_) (fun j x σ' Hg hj pw => ?_) fun σ' Hg pw => ?_
    · obtain ⟨rv, rfl, eg⟩ := pw
      exact sq_of (eg _ _ hqs2)
    · obtain ⟨rv, rfl, eg⟩ := pw
      rw [List.getElem?_map] at hj
      cases hqj : qs[j]? with
      | none => rw [hqj] at hj; cases hj
      | some r =>
        rw [hqj] at hj
        cases hj
        have hlt : j < L.length := by rw [← hA.1]; exact (List.getElem?_eq_some_iff.mp hqj).1
        have hLj : L[j]? = some L[j] := List.getElem?_eq_getElem hlt
        have hmem := List.getElem_mem hlt
        have xg := xf.trans eg
        have hrow : Hg r = some (.lst L[j]) := (e5.trans (xo2.trans xg)) _ _ (hA.2 j r _ hqj hLj)
        have hrl : L[j].length ≤ 1000 := by rw [(hL _ hmem).1]; omega
        have hin := sound hzs (rwL _ hmem) (cols_in (fun r hr => ⟨(hL r hr).1, okL r hr⟩) hmem) hxo hxn
        have hvok := ev_vok (rwL _ hmem) hxo
        have hx2 : Xa K Hg v e := hx.ex ((ed.trans ee).trans (ef.trans eg))
        refine s_when (b := !inB (spI (znsOf L wd) e) (evX L[j] e) || (decide (evX L[j] e = .bl true) && !canS (spI (znsOf L wd) e) (.bl true))) (et_or (et_not (et_B (ec_inside (ec_eval (ev_var rfl) (ev_var rfl) hx2 hxn (by omega) (sq_of hrow) (rwL _ hmem) hrl) (ev_var rfl) hvok.1 (ht.ex (ee.trans (ef.trans eg)))))) fun _ => et_and (et_B (ec_holds (ev_var rfl) (ev_var rfl) hx2 hxn (by omega) (sq_of hrow) (rwL _ hmem) hrl)) fun _ => et_not (et_B (ev_var rfl))) (fun hb => ?_) fun _ Hh eh => ⟨_, rfl, eg.trans eh⟩
        exfalso
        rw [hin, Bool.not_true, Bool.false_or, Bool.and_eq_true, decide_eq_true_eq] at hb
        rw [hb.1] at hin
        rw [in_can hin (bl_non _)] at hb
        exact absurd hb.2 (by decide)
    · obtain ⟨rv, rfl, eg⟩ := pw
      exact ⟨_, _, _, _, _, _, rfl, xo2.trans (xf.trans eg)⟩
  · obtain ⟨sv, kv, rv, v8, v9, va, rfl, _⟩ := pv
    exact s_ret (v := .bl true) ev_c fun H6 e6 => rfl
end
theorem all_mk {P : Program} {w : World} {K : PySem.W.Frag} {h : Heap} {mg : Str → Option Value} {fa : Addr} (X : K.In h) (G : h.Ns mainGlobals mg) (hfa : mg "law" = some (.ref fa))
    {C_Zone : Addr} (qC_Zone : PySem.W.nsIn K mainGlobals "Zone" = some (some (.ref C_Zone))) (pgC_Zone : PySem.W.plainGet K C_Zone Str.empty = true) (hdC_Zone : PySem.W.hasDictIn K C_Zone = true) (poC_Zone : PySem.W.plainOver K C_Zone = true) (saC_Zone : PySem.W.findIn K (.ref C_Zone) "__setattr__" = some (some (.builtin "object.__setattr__"))) (mkC_Zone : PySem.W.makesIn K C_Zone = true) (kcC_Zone : PySem.W.keepIn K (.ref C_Zone) = true)
    (haC_Zone : PySem.W.findIn K (.ref C_Zone) "__class__" = some (some (.builtin "object.__class__"))) (hnC_Zone : PySem.W.specialIn K (.builtin "object.__class__") "__get__" = some (some (.builtin "getset_descriptor.__get__"))) (htC_Zone : PySem.W.takesIn K (.builtin "object.__class__") = some true) (hmC_Zone : PySem.W.mroIn K C_Zone (.type "object") = some true) (meC_Zone : PySem.W.kitOne K (.ref C_Zone) (.ref C_Zone) = some true) (kiC_Zone : PySem.W.kitOne K (.type "int") (.ref C_Zone) = some false) (niC_Zone : PySem.W.notFirst K C_Zone (.type "int") = true)
    (hqC_Zone : PySem.W.findIn K (.ref C_Zone) "__eq__" = some (some (.builtin "object.__eq__")))
    (naC_Zone_0 : PySem.W.findIn K (.ref C_Zone) "many" = some none)
    (naC_Zone_1 : PySem.W.findIn K (.ref C_Zone) "nulls" = some none)
    (naC_Zone_2 : PySem.W.findIn K (.ref C_Zone) "least" = some none)
    (naC_Zone_3 : PySem.W.findIn K (.ref C_Zone) "greatest" = some none)
    {f0 : Addr} {od0 an0 : Option Addr} {sl0 : Array (Option Value)} {oc0 kV0 dc0 pm0 cd0 ct0 : Value} (a0 : PySem.W.nsIn K mainGlobals "kind_rank" = some (some (.ref f0))) (l0 : K.lookup f0 = some ⟨oc0, od0, .func (PySem.W.fnOf "kind_rank" "kind_rank" (C8.fnArgs s_kind_rank) (C8.fnBody s_kind_rank) (C8.fnScope s_kind_rank) .none kV0 dc0 pm0 an0 cd0 ct0), sl0⟩) (b0 : PySem.W.codeIn K cd0 "kind_rank" = true) (k0 : PySem.W.keepIn K (.ref f0) = true)
    {f1 : Addr} {od1 an1 : Option Addr} {sl1 : Array (Option Value)} {oc1 kV1 dc1 pm1 cd1 ct1 : Value} (a1 : PySem.W.nsIn K mainGlobals "is_integer" = some (some (.ref f1))) (l1 : K.lookup f1 = some ⟨oc1, od1, .func (PySem.W.fnOf "is_integer" "is_integer" (C8.fnArgs s_is_integer) (C8.fnBody s_is_integer) (C8.fnScope s_is_integer) .none kV1 dc1 pm1 an1 cd1 ct1), sl1⟩) (b1 : PySem.W.codeIn K cd1 "is_integer" = true) (k1 : PySem.W.keepIn K (.ref f1) = true)
    {f2 : Addr} {od2 an2 : Option Addr} {sl2 : Array (Option Value)} {oc2 kV2 dc2 pm2 cd2 ct2 : Value} (a2 : PySem.W.nsIn K mainGlobals "rank" = some (some (.ref f2))) (l2 : K.lookup f2 = some ⟨oc2, od2, .func (PySem.W.fnOf "rank" "rank" (C8.fnArgs s_rank) (C8.fnBody s_rank) (C8.fnScope s_rank) .none kV2 dc2 pm2 an2 cd2 ct2), sl2⟩) (b2 : PySem.W.codeIn K cd2 "rank" = true) (k2 : PySem.W.keepIn K (.ref f2) = true)
    {f3 : Addr} {od3 an3 : Option Addr} {sl3 : Array (Option Value)} {oc3 kV3 dc3 pm3 cd3 ct3 : Value} (a3 : PySem.W.nsIn K mainGlobals "same" = some (some (.ref f3))) (l3 : K.lookup f3 = some ⟨oc3, od3, .func (PySem.W.fnOf "same" "same" (C8.fnArgs s_same) (C8.fnBody s_same) (C8.fnScope s_same) .none kV3 dc3 pm3 an3 cd3 ct3), sl3⟩) (b3 : PySem.W.codeIn K cd3 "same" = true) (k3 : PySem.W.keepIn K (.ref f3) = true)
    {f4 : Addr} {od4 an4 : Option Addr} {sl4 : Array (Option Value)} {oc4 kV4 dc4 pm4 cd4 ct4 : Value} (a4 : PySem.W.nsIn K mainGlobals "before" = some (some (.ref f4))) (l4 : K.lookup f4 = some ⟨oc4, od4, .func (PySem.W.fnOf "before" "before" (C8.fnArgs s_before) (C8.fnBody s_before) (C8.fnScope s_before) .none kV4 dc4 pm4 an4 cd4 ct4), sl4⟩) (b4 : PySem.W.codeIn K cd4 "before" = true) (k4 : PySem.W.keepIn K (.ref f4) = true)
    {f5 : Addr} {od5 an5 : Option Addr} {sl5 : Array (Option Value)} {oc5 kV5 dc5 pm5 cd5 ct5 : Value}
    (a5 : PySem.W.findIn K (.ref C_Zone) "__init__" = some (some (.ref f5))) (iF5 : PySem.W.isFn K (.ref f5) = true)
    (l5 : K.lookup f5 = some ⟨oc5, od5, .func (PySem.W.fnOf "__init__" "Zone.__init__" (C8.fnArgs s_Zone____init__) (C8.fnBody s_Zone____init__) (C8.fnScope s_Zone____init__) .none kV5 dc5 pm5 an5 cd5 ct5), sl5⟩) (b5 : PySem.W.codeIn K cd5 "Zone.__init__" = true) (k5 : PySem.W.keepIn K (.ref f5) = true)
    {f6 : Addr} {od6 an6 : Option Addr} {sl6 : Array (Option Value)} {oc6 kV6 dc6 pm6 cd6 ct6 : Value} (a6 : PySem.W.nsIn K mainGlobals "zone_of" = some (some (.ref f6))) (l6 : K.lookup f6 = some ⟨oc6, od6, .func (PySem.W.fnOf "zone_of" "zone_of" (C8.fnArgs s_zone_of) (C8.fnBody s_zone_of) (C8.fnScope s_zone_of) .none kV6 dc6 pm6 an6 cd6 ct6), sl6⟩) (b6 : PySem.W.codeIn K cd6 "zone_of" = true) (k6 : PySem.W.keepIn K (.ref f6) = true)
    {f7 : Addr} {od7 an7 : Option Addr} {sl7 : Array (Option Value)} {oc7 kV7 dc7 pm7 cd7 ct7 : Value} (a7 : PySem.W.nsIn K mainGlobals "_has_values" = some (some (.ref f7))) (l7 : K.lookup f7 = some ⟨oc7, od7, .func (PySem.W.fnOf "_has_values" "_has_values" (C8.fnArgs s__has_values) (C8.fnBody s__has_values) (C8.fnScope s__has_values) .none kV7 dc7 pm7 an7 cd7 ct7), sl7⟩) (b7 : PySem.W.codeIn K cd7 "_has_values" = true) (k7 : PySem.W.keepIn K (.ref f7) = true)
    {f8 : Addr} {od8 an8 : Option Addr} {sl8 : Array (Option Value)} {oc8 kV8 dc8 pm8 cd8 ct8 : Value} (a8 : PySem.W.nsIn K mainGlobals "_may_be_none" = some (some (.ref f8))) (l8 : K.lookup f8 = some ⟨oc8, od8, .func (PySem.W.fnOf "_may_be_none" "_may_be_none" (C8.fnArgs s__may_be_none) (C8.fnBody s__may_be_none) (C8.fnScope s__may_be_none) .none kV8 dc8 pm8 an8 cd8 ct8), sl8⟩) (b8 : PySem.W.codeIn K cd8 "_may_be_none" = true) (k8 : PySem.W.keepIn K (.ref f8) = true)
    {f9 : Addr} {od9 an9 : Option Addr} {sl9 : Array (Option Value)} {oc9 kV9 dc9 pm9 cd9 ct9 : Value} (a9 : PySem.W.nsIn K mainGlobals "can_be" = some (some (.ref f9))) (l9 : K.lookup f9 = some ⟨oc9, od9, .func (PySem.W.fnOf "can_be" "can_be" (C8.fnArgs s_can_be) (C8.fnBody s_can_be) (C8.fnScope s_can_be) .none kV9 dc9 pm9 an9 cd9 ct9), sl9⟩) (b9 : PySem.W.codeIn K cd9 "can_be" = true) (k9 : PySem.W.keepIn K (.ref f9) = true)
    {f10 : Addr} {od10 an10 : Option Addr} {sl10 : Array (Option Value)} {oc10 kV10 dc10 pm10 cd10 ct10 : Value} (a10 : PySem.W.nsIn K mainGlobals "_truth_span" = some (some (.ref f10))) (l10 : K.lookup f10 = some ⟨oc10, od10, .func (PySem.W.fnOf "_truth_span" "_truth_span" (C8.fnArgs s__truth_span) (C8.fnBody s__truth_span) (C8.fnScope s__truth_span) .none kV10 dc10 pm10 an10 cd10 ct10), sl10⟩) (b10 : PySem.W.codeIn K cd10 "_truth_span" = true) (k10 : PySem.W.keepIn K (.ref f10) = true)
    {f11 : Addr} {od11 an11 : Option Addr} {sl11 : Array (Option Value)} {oc11 kV11 dc11 pm11 cd11 ct11 : Value} (a11 : PySem.W.nsIn K mainGlobals "_not_span" = some (some (.ref f11))) (l11 : K.lookup f11 = some ⟨oc11, od11, .func (PySem.W.fnOf "_not_span" "_not_span" (C8.fnArgs s__not_span) (C8.fnBody s__not_span) (C8.fnScope s__not_span) .none kV11 dc11 pm11 an11 cd11 ct11), sl11⟩) (b11 : PySem.W.codeIn K cd11 "_not_span" = true) (k11 : PySem.W.keepIn K (.ref f11) = true)
    {f12 : Addr} {od12 an12 : Option Addr} {sl12 : Array (Option Value)} {oc12 kV12 dc12 pm12 cd12 ct12 : Value} (a12 : PySem.W.nsIn K mainGlobals "_is_null_span" = some (some (.ref f12))) (l12 : K.lookup f12 = some ⟨oc12, od12, .func (PySem.W.fnOf "_is_null_span" "_is_null_span" (C8.fnArgs s__is_null_span) (C8.fnBody s__is_null_span) (C8.fnScope s__is_null_span) .none kV12 dc12 pm12 an12 cd12 ct12), sl12⟩) (b12 : PySem.W.codeIn K cd12 "_is_null_span" = true) (k12 : PySem.W.keepIn K (.ref f12) = true)
    {f13 : Addr} {od13 an13 : Option Addr} {sl13 : Array (Option Value)} {oc13 kV13 dc13 pm13 cd13 ct13 : Value} (a13 : PySem.W.nsIn K mainGlobals "_has_integers" = some (some (.ref f13))) (l13 : K.lookup f13 = some ⟨oc13, od13, .func (PySem.W.fnOf "_has_integers" "_has_integers" (C8.fnArgs s__has_integers) (C8.fnBody s__has_integers) (C8.fnScope s__has_integers) .none kV13 dc13 pm13 an13 cd13 ct13), sl13⟩) (b13 : PySem.W.codeIn K cd13 "_has_integers" = true) (k13 : PySem.W.keepIn K (.ref f13) = true)
    {f14 : Addr} {od14 an14 : Option Addr} {sl14 : Array (Option Value)} {oc14 kV14 dc14 pm14 cd14 ct14 : Value} (a14 : PySem.W.nsIn K mainGlobals "_unary_span" = some (some (.ref f14))) (l14 : K.lookup f14 = some ⟨oc14, od14, .func (PySem.W.fnOf "_unary_span" "_unary_span" (C8.fnArgs s__unary_span) (C8.fnBody s__unary_span) (C8.fnScope s__unary_span) .none kV14 dc14 pm14 an14 cd14 ct14), sl14⟩) (b14 : PySem.W.codeIn K cd14 "_unary_span" = true) (k14 : PySem.W.keepIn K (.ref f14) = true)
    {f15 : Addr} {od15 an15 : Option Addr} {sl15 : Array (Option Value)} {oc15 kV15 dc15 pm15 cd15 ct15 : Value} (a15 : PySem.W.nsIn K mainGlobals "_and_span" = some (some (.ref f15))) (l15 : K.lookup f15 = some ⟨oc15, od15, .func (PySem.W.fnOf "_and_span" "_and_span" (C8.fnArgs s__and_span) (C8.fnBody s__and_span) (C8.fnScope s__and_span) .none kV15 dc15 pm15 an15 cd15 ct15), sl15⟩) (b15 : PySem.W.codeIn K cd15 "_and_span" = true) (k15 : PySem.W.keepIn K (.ref f15) = true)
    {f16 : Addr} {od16 an16 : Option Addr} {sl16 : Array (Option Value)} {oc16 kV16 dc16 pm16 cd16 ct16 : Value} (a16 : PySem.W.nsIn K mainGlobals "_or_span" = some (some (.ref f16))) (l16 : K.lookup f16 = some ⟨oc16, od16, .func (PySem.W.fnOf "_or_span" "_or_span" (C8.fnArgs s__or_span) (C8.fnBody s__or_span) (C8.fnScope s__or_span) .none kV16 dc16 pm16 an16 cd16 ct16), sl16⟩) (b16 : PySem.W.codeIn K cd16 "_or_span" = true) (k16 : PySem.W.keepIn K (.ref f16) = true)
    {f17 : Addr} {od17 an17 : Option Addr} {sl17 : Array (Option Value)} {oc17 kV17 dc17 pm17 cd17 ct17 : Value} (a17 : PySem.W.nsIn K mainGlobals "_comparison_span" = some (some (.ref f17))) (l17 : K.lookup f17 = some ⟨oc17, od17, .func (PySem.W.fnOf "_comparison_span" "_comparison_span" (C8.fnArgs s__comparison_span) (C8.fnBody s__comparison_span) (C8.fnScope s__comparison_span) .none kV17 dc17 pm17 an17 cd17 ct17), sl17⟩) (b17 : PySem.W.codeIn K cd17 "_comparison_span" = true) (k17 : PySem.W.keepIn K (.ref f17) = true)
    {f18 : Addr} {od18 an18 : Option Addr} {sl18 : Array (Option Value)} {oc18 kV18 dc18 pm18 cd18 ct18 : Value} (a18 : PySem.W.nsIn K mainGlobals "_sum_span" = some (some (.ref f18))) (l18 : K.lookup f18 = some ⟨oc18, od18, .func (PySem.W.fnOf "_sum_span" "_sum_span" (C8.fnArgs s__sum_span) (C8.fnBody s__sum_span) (C8.fnScope s__sum_span) .none kV18 dc18 pm18 an18 cd18 ct18), sl18⟩) (b18 : PySem.W.codeIn K cd18 "_sum_span" = true) (k18 : PySem.W.keepIn K (.ref f18) = true)
    {f19 : Addr} {od19 an19 : Option Addr} {sl19 : Array (Option Value)} {oc19 kV19 dc19 pm19 cd19 ct19 : Value} (a19 : PySem.W.nsIn K mainGlobals "_either_span" = some (some (.ref f19))) (l19 : K.lookup f19 = some ⟨oc19, od19, .func (PySem.W.fnOf "_either_span" "_either_span" (C8.fnArgs s__either_span) (C8.fnBody s__either_span) (C8.fnScope s__either_span) .none kV19 dc19 pm19 an19 cd19 ct19), sl19⟩) (b19 : PySem.W.codeIn K cd19 "_either_span" = true) (k19 : PySem.W.keepIn K (.ref f19) = true)
    {f20 : Addr} {od20 an20 : Option Addr} {sl20 : Array (Option Value)} {oc20 kV20 dc20 pm20 cd20 ct20 : Value} (a20 : PySem.W.nsIn K mainGlobals "_binary_span" = some (some (.ref f20))) (l20 : K.lookup f20 = some ⟨oc20, od20, .func (PySem.W.fnOf "_binary_span" "_binary_span" (C8.fnArgs s__binary_span) (C8.fnBody s__binary_span) (C8.fnScope s__binary_span) .none kV20 dc20 pm20 an20 cd20 ct20), sl20⟩) (b20 : PySem.W.codeIn K cd20 "_binary_span" = true) (k20 : PySem.W.keepIn K (.ref f20) = true)
    {f21 : Addr} {od21 an21 : Option Addr} {sl21 : Array (Option Value)} {oc21 kV21 dc21 pm21 cd21 ct21 : Value} (a21 : PySem.W.nsIn K mainGlobals "_column_span" = some (some (.ref f21))) (l21 : K.lookup f21 = some ⟨oc21, od21, .func (PySem.W.fnOf "_column_span" "_column_span" (C8.fnArgs s__column_span) (C8.fnBody s__column_span) (C8.fnScope s__column_span) .none kV21 dc21 pm21 an21 cd21 ct21), sl21⟩) (b21 : PySem.W.codeIn K cd21 "_column_span" = true) (k21 : PySem.W.keepIn K (.ref f21) = true)
    {f22 : Addr} {od22 an22 : Option Addr} {sl22 : Array (Option Value)} {oc22 kV22 dc22 pm22 cd22 ct22 : Value} (a22 : PySem.W.nsIn K mainGlobals "span_of" = some (some (.ref f22))) (l22 : K.lookup f22 = some ⟨oc22, od22, .func (PySem.W.fnOf "span_of" "span_of" (C8.fnArgs s_span_of) (C8.fnBody s_span_of) (C8.fnScope s_span_of) .none kV22 dc22 pm22 an22 cd22 ct22), sl22⟩) (b22 : PySem.W.codeIn K cd22 "span_of" = true) (k22 : PySem.W.keepIn K (.ref f22) = true)
    {f23 : Addr} {od23 an23 : Option Addr} {sl23 : Array (Option Value)} {oc23 kV23 dc23 pm23 cd23 ct23 : Value} (a23 : PySem.W.nsIn K mainGlobals "may_hold" = some (some (.ref f23))) (l23 : K.lookup f23 = some ⟨oc23, od23, .func (PySem.W.fnOf "may_hold" "may_hold" (C8.fnArgs s_may_hold) (C8.fnBody s_may_hold) (C8.fnScope s_may_hold) .none kV23 dc23 pm23 an23 cd23 ct23), sl23⟩) (b23 : PySem.W.codeIn K cd23 "may_hold" = true) (k23 : PySem.W.keepIn K (.ref f23) = true)
    {f24 : Addr} {od24 an24 : Option Addr} {sl24 : Array (Option Value)} {oc24 kV24 dc24 pm24 cd24 ct24 : Value} (a24 : PySem.W.nsIn K mainGlobals "is_day" = some (some (.ref f24))) (l24 : K.lookup f24 = some ⟨oc24, od24, .func (PySem.W.fnOf "is_day" "is_day" (C8.fnArgs s_is_day) (C8.fnBody s_is_day) (C8.fnScope s_is_day) .none kV24 dc24 pm24 an24 cd24 ct24), sl24⟩) (b24 : PySem.W.codeIn K cd24 "is_day" = true) (k24 : PySem.W.keepIn K (.ref f24) = true)
    {f25 : Addr} {od25 an25 : Option Addr} {sl25 : Array (Option Value)} {oc25 kV25 dc25 pm25 cd25 ct25 : Value} (a25 : PySem.W.nsIn K mainGlobals "limited" = some (some (.ref f25))) (l25 : K.lookup f25 = some ⟨oc25, od25, .func (PySem.W.fnOf "limited" "limited" (C8.fnArgs s_limited) (C8.fnBody s_limited) (C8.fnScope s_limited) .none kV25 dc25 pm25 an25 cd25 ct25), sl25⟩) (b25 : PySem.W.codeIn K cd25 "limited" = true) (k25 : PySem.W.keepIn K (.ref f25) = true)
    {f26 : Addr} {od26 an26 : Option Addr} {sl26 : Array (Option Value)} {oc26 kV26 dc26 pm26 cd26 ct26 : Value} (a26 : PySem.W.nsIn K mainGlobals "negated" = some (some (.ref f26))) (l26 : K.lookup f26 = some ⟨oc26, od26, .func (PySem.W.fnOf "negated" "negated" (C8.fnArgs s_negated) (C8.fnBody s_negated) (C8.fnScope s_negated) .none kV26 dc26 pm26 an26 cd26 ct26), sl26⟩) (b26 : PySem.W.codeIn K cd26 "negated" = true) (k26 : PySem.W.keepIn K (.ref f26) = true)
    {f27 : Addr} {od27 an27 : Option Addr} {sl27 : Array (Option Value)} {oc27 kV27 dc27 pm27 cd27 ct27 : Value} (a27 : PySem.W.nsIn K mainGlobals "both" = some (some (.ref f27))) (l27 : K.lookup f27 = some ⟨oc27, od27, .func (PySem.W.fnOf "both" "both" (C8.fnArgs s_both) (C8.fnBody s_both) (C8.fnScope s_both) .none kV27 dc27 pm27 an27 cd27 ct27), sl27⟩) (b27 : PySem.W.codeIn K cd27 "both" = true) (k27 : PySem.W.keepIn K (.ref f27) = true)
    {f28 : Addr} {od28 an28 : Option Addr} {sl28 : Array (Option Value)} {oc28 kV28 dc28 pm28 cd28 ct28 : Value} (a28 : PySem.W.nsIn K mainGlobals "either" = some (some (.ref f28))) (l28 : K.lookup f28 = some ⟨oc28, od28, .func (PySem.W.fnOf "either" "either" (C8.fnArgs s_either) (C8.fnBody s_either) (C8.fnScope s_either) .none kV28 dc28 pm28 an28 cd28 ct28), sl28⟩) (b28 : PySem.W.codeIn K cd28 "either" = true) (k28 : PySem.W.keepIn K (.ref f28) = true)
    {f29 : Addr} {od29 an29 : Option Addr} {sl29 : Array (Option Value)} {oc29 kV29 dc29 pm29 cd29 ct29 : Value} (a29 : PySem.W.nsIn K mainGlobals "_negate" = some (some (.ref f29))) (l29 : K.lookup f29 = some ⟨oc29, od29, .func (PySem.W.fnOf "_negate" "_negate" (C8.fnArgs s__negate) (C8.fnBody s__negate) (C8.fnScope s__negate) .none kV29 dc29 pm29 an29 cd29 ct29), sl29⟩) (b29 : PySem.W.codeIn K cd29 "_negate" = true) (k29 : PySem.W.keepIn K (.ref f29) = true)
    {f30 : Addr} {od30 an30 : Option Addr} {sl30 : Array (Option Value)} {oc30 kV30 dc30 pm30 cd30 ct30 : Value} (a30 : PySem.W.nsIn K mainGlobals "_size" = some (some (.ref f30))) (l30 : K.lookup f30 = some ⟨oc30, od30, .func (PySem.W.fnOf "_size" "_size" (C8.fnArgs s__size) (C8.fnBody s__size) (C8.fnScope s__size) .none kV30 dc30 pm30 an30 cd30 ct30), sl30⟩) (b30 : PySem.W.codeIn K cd30 "_size" = true) (k30 : PySem.W.keepIn K (.ref f30) = true)
    {f31 : Addr} {od31 an31 : Option Addr} {sl31 : Array (Option Value)} {oc31 kV31 dc31 pm31 cd31 ct31 : Value} (a31 : PySem.W.nsIn K mainGlobals "_value" = some (some (.ref f31))) (l31 : K.lookup f31 = some ⟨oc31, od31, .func (PySem.W.fnOf "_value" "_value" (C8.fnArgs s__value) (C8.fnBody s__value) (C8.fnScope s__value) .none kV31 dc31 pm31 an31 cd31 ct31), sl31⟩) (b31 : PySem.W.codeIn K cd31 "_value" = true) (k31 : PySem.W.keepIn K (.ref f31) = true)
    {f32 : Addr} {od32 an32 : Option Addr} {sl32 : Array (Option Value)} {oc32 kV32 dc32 pm32 cd32 ct32 : Value} (a32 : PySem.W.nsIn K mainGlobals "_to_decimal" = some (some (.ref f32))) (l32 : K.lookup f32 = some ⟨oc32, od32, .func (PySem.W.fnOf "_to_decimal" "_to_decimal" (C8.fnArgs s__to_decimal) (C8.fnBody s__to_decimal) (C8.fnScope s__to_decimal) .none kV32 dc32 pm32 an32 cd32 ct32), sl32⟩) (b32 : PySem.W.codeIn K cd32 "_to_decimal" = true) (k32 : PySem.W.keepIn K (.ref f32) = true)
    {f33 : Addr} {od33 an33 : Option Addr} {sl33 : Array (Option Value)} {oc33 kV33 dc33 pm33 cd33 ct33 : Value} (a33 : PySem.W.nsIn K mainGlobals "_length" = some (some (.ref f33))) (l33 : K.lookup f33 = some ⟨oc33, od33, .func (PySem.W.fnOf "_length" "_length" (C8.fnArgs s__length) (C8.fnBody s__length) (C8.fnScope s__length) .none kV33 dc33 pm33 an33 cd33 ct33), sl33⟩) (b33 : PySem.W.codeIn K cd33 "_length" = true) (k33 : PySem.W.keepIn K (.ref f33) = true)
    {f34 : Addr} {od34 an34 : Option Addr} {sl34 : Array (Option Value)} {oc34 kV34 dc34 pm34 cd34 ct34 : Value} (a34 : PySem.W.nsIn K mainGlobals "value_of_one" = some (some (.ref f34))) (l34 : K.lookup f34 = some ⟨oc34, od34, .func (PySem.W.fnOf "value_of_one" "value_of_one" (C8.fnArgs s_value_of_one) (C8.fnBody s_value_of_one) (C8.fnScope s_value_of_one) .none kV34 dc34 pm34 an34 cd34 ct34), sl34⟩) (b34 : PySem.W.codeIn K cd34 "value_of_one" = true) (k34 : PySem.W.keepIn K (.ref f34) = true)
    {f35 : Addr} {od35 an35 : Option Addr} {sl35 : Array (Option Value)} {oc35 kV35 dc35 pm35 cd35 ct35 : Value} (a35 : PySem.W.nsIn K mainGlobals "_both" = some (some (.ref f35))) (l35 : K.lookup f35 = some ⟨oc35, od35, .func (PySem.W.fnOf "_both" "_both" (C8.fnArgs s__both) (C8.fnBody s__both) (C8.fnScope s__both) .none kV35 dc35 pm35 an35 cd35 ct35), sl35⟩) (b35 : PySem.W.codeIn K cd35 "_both" = true) (k35 : PySem.W.keepIn K (.ref f35) = true)
    {f36 : Addr} {od36 an36 : Option Addr} {sl36 : Array (Option Value)} {oc36 kV36 dc36 pm36 cd36 ct36 : Value} (a36 : PySem.W.nsIn K mainGlobals "_either" = some (some (.ref f36))) (l36 : K.lookup f36 = some ⟨oc36, od36, .func (PySem.W.fnOf "_either" "_either" (C8.fnArgs s__either) (C8.fnBody s__either) (C8.fnScope s__either) .none kV36 dc36 pm36 an36 cd36 ct36), sl36⟩) (b36 : PySem.W.codeIn K cd36 "_either" = true) (k36 : PySem.W.keepIn K (.ref f36) = true)
    {f37 : Addr} {od37 an37 : Option Addr} {sl37 : Array (Option Value)} {oc37 kV37 dc37 pm37 cd37 ct37 : Value} (a37 : PySem.W.nsIn K mainGlobals "_same" = some (some (.ref f37))) (l37 : K.lookup f37 = some ⟨oc37, od37, .func (PySem.W.fnOf "_same" "_same" (C8.fnArgs s__same) (C8.fnBody s__same) (C8.fnScope s__same) .none kV37 dc37 pm37 an37 cd37 ct37), sl37⟩) (b37 : PySem.W.codeIn K cd37 "_same" = true) (k37 : PySem.W.keepIn K (.ref f37) = true)
    {f38 : Addr} {od38 an38 : Option Addr} {sl38 : Array (Option Value)} {oc38 kV38 dc38 pm38 cd38 ct38 : Value} (a38 : PySem.W.nsIn K mainGlobals "_first_known" = some (some (.ref f38))) (l38 : K.lookup f38 = some ⟨oc38, od38, .func (PySem.W.fnOf "_first_known" "_first_known" (C8.fnArgs s__first_known) (C8.fnBody s__first_known) (C8.fnScope s__first_known) .none kV38 dc38 pm38 an38 cd38 ct38), sl38⟩) (b38 : PySem.W.codeIn K cd38 "_first_known" = true) (k38 : PySem.W.keepIn K (.ref f38) = true)
    {f39 : Addr} {od39 an39 : Option Addr} {sl39 : Array (Option Value)} {oc39 kV39 dc39 pm39 cd39 ct39 : Value} (a39 : PySem.W.nsIn K mainGlobals "_equal" = some (some (.ref f39))) (l39 : K.lookup f39 = some ⟨oc39, od39, .func (PySem.W.fnOf "_equal" "_equal" (C8.fnArgs s__equal) (C8.fnBody s__equal) (C8.fnScope s__equal) .none kV39 dc39 pm39 an39 cd39 ct39), sl39⟩) (b39 : PySem.W.codeIn K cd39 "_equal" = true) (k39 : PySem.W.keepIn K (.ref f39) = true)
    {f40 : Addr} {od40 an40 : Option Addr} {sl40 : Array (Option Value)} {oc40 kV40 dc40 pm40 cd40 ct40 : Value} (a40 : PySem.W.nsIn K mainGlobals "_less" = some (some (.ref f40))) (l40 : K.lookup f40 = some ⟨oc40, od40, .func (PySem.W.fnOf "_less" "_less" (C8.fnArgs s__less) (C8.fnBody s__less) (C8.fnScope s__less) .none kV40 dc40 pm40 an40 cd40 ct40), sl40⟩) (b40 : PySem.W.codeIn K cd40 "_less" = true) (k40 : PySem.W.keepIn K (.ref f40) = true)
    {f41 : Addr} {od41 an41 : Option Addr} {sl41 : Array (Option Value)} {oc41 kV41 dc41 pm41 cd41 ct41 : Value} (a41 : PySem.W.nsIn K mainGlobals "_at_most" = some (some (.ref f41))) (l41 : K.lookup f41 = some ⟨oc41, od41, .func (PySem.W.fnOf "_at_most" "_at_most" (C8.fnArgs s__at_most) (C8.fnBody s__at_most) (C8.fnScope s__at_most) .none kV41 dc41 pm41 an41 cd41 ct41), sl41⟩) (b41 : PySem.W.codeIn K cd41 "_at_most" = true) (k41 : PySem.W.keepIn K (.ref f41) = true)
    {f42 : Addr} {od42 an42 : Option Addr} {sl42 : Array (Option Value)} {oc42 kV42 dc42 pm42 cd42 ct42 : Value} (a42 : PySem.W.nsIn K mainGlobals "_add" = some (some (.ref f42))) (l42 : K.lookup f42 = some ⟨oc42, od42, .func (PySem.W.fnOf "_add" "_add" (C8.fnArgs s__add) (C8.fnBody s__add) (C8.fnScope s__add) .none kV42 dc42 pm42 an42 cd42 ct42), sl42⟩) (b42 : PySem.W.codeIn K cd42 "_add" = true) (k42 : PySem.W.keepIn K (.ref f42) = true)
    {f43 : Addr} {od43 an43 : Option Addr} {sl43 : Array (Option Value)} {oc43 kV43 dc43 pm43 cd43 ct43 : Value} (a43 : PySem.W.nsIn K mainGlobals "_subtract" = some (some (.ref f43))) (l43 : K.lookup f43 = some ⟨oc43, od43, .func (PySem.W.fnOf "_subtract" "_subtract" (C8.fnArgs s__subtract) (C8.fnBody s__subtract) (C8.fnScope s__subtract) .none kV43 dc43 pm43 an43 cd43 ct43), sl43⟩) (b43 : PySem.W.codeIn K cd43 "_subtract" = true) (k43 : PySem.W.keepIn K (.ref f43) = true)
    {f44 : Addr} {od44 an44 : Option Addr} {sl44 : Array (Option Value)} {oc44 kV44 dc44 pm44 cd44 ct44 : Value} (a44 : PySem.W.nsIn K mainGlobals "_multiply" = some (some (.ref f44))) (l44 : K.lookup f44 = some ⟨oc44, od44, .func (PySem.W.fnOf "_multiply" "_multiply" (C8.fnArgs s__multiply) (C8.fnBody s__multiply) (C8.fnScope s__multiply) .none kV44 dc44 pm44 an44 cd44 ct44), sl44⟩) (b44 : PySem.W.codeIn K cd44 "_multiply" = true) (k44 : PySem.W.keepIn K (.ref f44) = true)
    {f45 : Addr} {od45 an45 : Option Addr} {sl45 : Array (Option Value)} {oc45 kV45 dc45 pm45 cd45 ct45 : Value} (a45 : PySem.W.nsIn K mainGlobals "_add_days" = some (some (.ref f45))) (l45 : K.lookup f45 = some ⟨oc45, od45, .func (PySem.W.fnOf "_add_days" "_add_days" (C8.fnArgs s__add_days) (C8.fnBody s__add_days) (C8.fnScope s__add_days) .none kV45 dc45 pm45 an45 cd45 ct45), sl45⟩) (b45 : PySem.W.codeIn K cd45 "_add_days" = true) (k45 : PySem.W.keepIn K (.ref f45) = true)
    {f46 : Addr} {od46 an46 : Option Addr} {sl46 : Array (Option Value)} {oc46 kV46 dc46 pm46 cd46 ct46 : Value} (a46 : PySem.W.nsIn K mainGlobals "_are_alike" = some (some (.ref f46))) (l46 : K.lookup f46 = some ⟨oc46, od46, .func (PySem.W.fnOf "_are_alike" "_are_alike" (C8.fnArgs s__are_alike) (C8.fnBody s__are_alike) (C8.fnScope s__are_alike) .none kV46 dc46 pm46 an46 cd46 ct46), sl46⟩) (b46 : PySem.W.codeIn K cd46 "_are_alike" = true) (k46 : PySem.W.keepIn K (.ref f46) = true)
    {f47 : Addr} {od47 an47 : Option Addr} {sl47 : Array (Option Value)} {oc47 kV47 dc47 pm47 cd47 ct47 : Value} (a47 : PySem.W.nsIn K mainGlobals "value_of_two" = some (some (.ref f47))) (l47 : K.lookup f47 = some ⟨oc47, od47, .func (PySem.W.fnOf "value_of_two" "value_of_two" (C8.fnArgs s_value_of_two) (C8.fnBody s_value_of_two) (C8.fnScope s_value_of_two) .none kV47 dc47 pm47 an47 cd47 ct47), sl47⟩) (b47 : PySem.W.codeIn K cd47 "value_of_two" = true) (k47 : PySem.W.keepIn K (.ref f47) = true)
    {f48 : Addr} {od48 an48 : Option Addr} {sl48 : Array (Option Value)} {oc48 kV48 dc48 pm48 cd48 ct48 : Value} (a48 : PySem.W.nsIn K mainGlobals "unary" = some (some (.ref f48))) (l48 : K.lookup f48 = some ⟨oc48, od48, .func (PySem.W.fnOf "unary" "unary" (C8.fnArgs s_unary) (C8.fnBody s_unary) (C8.fnScope s_unary) .none kV48 dc48 pm48 an48 cd48 ct48), sl48⟩) (b48 : PySem.W.codeIn K cd48 "unary" = true) (k48 : PySem.W.keepIn K (.ref f48) = true)
    {f49 : Addr} {od49 an49 : Option Addr} {sl49 : Array (Option Value)} {oc49 kV49 dc49 pm49 cd49 ct49 : Value} (a49 : PySem.W.nsIn K mainGlobals "binary" = some (some (.ref f49))) (l49 : K.lookup f49 = some ⟨oc49, od49, .func (PySem.W.fnOf "binary" "binary" (C8.fnArgs s_binary) (C8.fnBody s_binary) (C8.fnScope s_binary) .none kV49 dc49 pm49 an49 cd49 ct49), sl49⟩) (b49 : PySem.W.codeIn K cd49 "binary" = true) (k49 : PySem.W.keepIn K (.ref f49) = true)
    {f50 : Addr} {od50 an50 : Option Addr} {sl50 : Array (Option Value)} {oc50 kV50 dc50 pm50 cd50 ct50 : Value} (a50 : PySem.W.nsIn K mainGlobals "evaluate" = some (some (.ref f50))) (l50 : K.lookup f50 = some ⟨oc50, od50, .func (PySem.W.fnOf "evaluate" "evaluate" (C8.fnArgs s_evaluate) (C8.fnBody s_evaluate) (C8.fnScope s_evaluate) .none kV50 dc50 pm50 an50 cd50 ct50), sl50⟩) (b50 : PySem.W.codeIn K cd50 "evaluate" = true) (k50 : PySem.W.keepIn K (.ref f50) = true)
    {f51 : Addr} {od51 an51 : Option Addr} {sl51 : Array (Option Value)} {oc51 kV51 dc51 pm51 cd51 ct51 : Value} (a51 : PySem.W.nsIn K mainGlobals "holds" = some (some (.ref f51))) (l51 : K.lookup f51 = some ⟨oc51, od51, .func (PySem.W.fnOf "holds" "holds" (C8.fnArgs s_holds) (C8.fnBody s_holds) (C8.fnScope s_holds) .none kV51 dc51 pm51 an51 cd51 ct51), sl51⟩) (b51 : PySem.W.codeIn K cd51 "holds" = true) (k51 : PySem.W.keepIn K (.ref f51) = true)
    {f52 : Addr} {od52 an52 : Option Addr} {sl52 : Array (Option Value)} {oc52 kV52 dc52 pm52 cd52 ct52 : Value} (a52 : PySem.W.nsIn K mainGlobals "_law_cell" = some (some (.ref f52))) (l52 : K.lookup f52 = some ⟨oc52, od52, .func (PySem.W.fnOf "_law_cell" "_law_cell" (C8.fnArgs s__law_cell) (C8.fnBody s__law_cell) (C8.fnScope s__law_cell) .none kV52 dc52 pm52 an52 cd52 ct52), sl52⟩) (b52 : PySem.W.codeIn K cd52 "_law_cell" = true) (k52 : PySem.W.keepIn K (.ref f52) = true)
    {f53 : Addr} {od53 an53 : Option Addr} {sl53 : Array (Option Value)} {oc53 kV53 dc53 pm53 cd53 ct53 : Value} (a53 : PySem.W.nsIn K mainGlobals "_law_state" = some (some (.ref f53))) (l53 : K.lookup f53 = some ⟨oc53, od53, .func (PySem.W.fnOf "_law_state" "_law_state" (C8.fnArgs s__law_state) (C8.fnBody s__law_state) (C8.fnScope s__law_state) .none kV53 dc53 pm53 an53 cd53 ct53), sl53⟩) (b53 : PySem.W.codeIn K cd53 "_law_state" = true) (k53 : PySem.W.keepIn K (.ref f53) = true)
    {f54 : Addr} {od54 an54 : Option Addr} {sl54 : Array (Option Value)} {oc54 kV54 dc54 pm54 cd54 ct54 : Value} (a54 : PySem.W.nsIn K mainGlobals "_law_digit" = some (some (.ref f54))) (l54 : K.lookup f54 = some ⟨oc54, od54, .func (PySem.W.fnOf "_law_digit" "_law_digit" (C8.fnArgs s__law_digit) (C8.fnBody s__law_digit) (C8.fnScope s__law_digit) .none kV54 dc54 pm54 an54 cd54 ct54), sl54⟩) (b54 : PySem.W.codeIn K cd54 "_law_digit" = true) (k54 : PySem.W.keepIn K (.ref f54) = true)
    {f55 : Addr} {od55 an55 : Option Addr} {sl55 : Array (Option Value)} {oc55 kV55 dc55 pm55 cd55 ct55 : Value} (a55 : PySem.W.nsIn K mainGlobals "_law_is_integer" = some (some (.ref f55))) (l55 : K.lookup f55 = some ⟨oc55, od55, .func (PySem.W.fnOf "_law_is_integer" "_law_is_integer" (C8.fnArgs s__law_is_integer) (C8.fnBody s__law_is_integer) (C8.fnScope s__law_is_integer) .none kV55 dc55 pm55 an55 cd55 ct55), sl55⟩) (b55 : PySem.W.codeIn K cd55 "_law_is_integer" = true) (k55 : PySem.W.keepIn K (.ref f55) = true)
    {f56 : Addr} {od56 an56 : Option Addr} {sl56 : Array (Option Value)} {oc56 kV56 dc56 pm56 cd56 ct56 : Value} (a56 : PySem.W.nsIn K mainGlobals "_law_rank" = some (some (.ref f56))) (l56 : K.lookup f56 = some ⟨oc56, od56, .func (PySem.W.fnOf "_law_rank" "_law_rank" (C8.fnArgs s__law_rank) (C8.fnBody s__law_rank) (C8.fnScope s__law_rank) .none kV56 dc56 pm56 an56 cd56 ct56), sl56⟩) (b56 : PySem.W.codeIn K cd56 "_law_rank" = true) (k56 : PySem.W.keepIn K (.ref f56) = true)
    {f57 : Addr} {od57 an57 : Option Addr} {sl57 : Array (Option Value)} {oc57 kV57 dc57 pm57 cd57 ct57 : Value} (a57 : PySem.W.nsIn K mainGlobals "_law_text" = some (some (.ref f57))) (l57 : K.lookup f57 = some ⟨oc57, od57, .func (PySem.W.fnOf "_law_text" "_law_text" (C8.fnArgs s__law_text) (C8.fnBody s__law_text) (C8.fnScope s__law_text) .none kV57 dc57 pm57 an57 cd57 ct57), sl57⟩) (b57 : PySem.W.codeIn K cd57 "_law_text" = true) (k57 : PySem.W.keepIn K (.ref f57) = true)
    {f58 : Addr} {od58 an58 : Option Addr} {sl58 : Array (Option Value)} {oc58 kV58 dc58 pm58 cd58 ct58 : Value} (a58 : PySem.W.nsIn K mainGlobals "_law_value" = some (some (.ref f58))) (l58 : K.lookup f58 = some ⟨oc58, od58, .func (PySem.W.fnOf "_law_value" "_law_value" (C8.fnArgs s__law_value) (C8.fnBody s__law_value) (C8.fnScope s__law_value) .none kV58 dc58 pm58 an58 cd58 ct58), sl58⟩) (b58 : PySem.W.codeIn K cd58 "_law_value" = true) (k58 : PySem.W.keepIn K (.ref f58) = true)
    {f59 : Addr} {od59 an59 : Option Addr} {sl59 : Array (Option Value)} {oc59 kV59 dc59 pm59 cd59 ct59 : Value} (a59 : PySem.W.nsIn K mainGlobals "_law_leaf" = some (some (.ref f59))) (l59 : K.lookup f59 = some ⟨oc59, od59, .func (PySem.W.fnOf "_law_leaf" "_law_leaf" (C8.fnArgs s__law_leaf) (C8.fnBody s__law_leaf) (C8.fnScope s__law_leaf) .none kV59 dc59 pm59 an59 cd59 ct59), sl59⟩) (b59 : PySem.W.codeIn K cd59 "_law_leaf" = true) (k59 : PySem.W.keepIn K (.ref f59) = true)
    {f60 : Addr} {od60 an60 : Option Addr} {sl60 : Array (Option Value)} {oc60 kV60 dc60 pm60 cd60 ct60 : Value} (a60 : PySem.W.nsIn K mainGlobals "_law_expression" = some (some (.ref f60))) (l60 : K.lookup f60 = some ⟨oc60, od60, .func (PySem.W.fnOf "_law_expression" "_law_expression" (C8.fnArgs s__law_expression) (C8.fnBody s__law_expression) (C8.fnScope s__law_expression) .none kV60 dc60 pm60 an60 cd60 ct60), sl60⟩) (b60 : PySem.W.codeIn K cd60 "_law_expression" = true) (k60 : PySem.W.keepIn K (.ref f60) = true)
    {f61 : Addr} {od61 an61 : Option Addr} {sl61 : Array (Option Value)} {oc61 kV61 dc61 pm61 cd61 ct61 : Value} (a61 : PySem.W.nsIn K mainGlobals "_law_condition" = some (some (.ref f61))) (l61 : K.lookup f61 = some ⟨oc61, od61, .func (PySem.W.fnOf "_law_condition" "_law_condition" (C8.fnArgs s__law_condition) (C8.fnBody s__law_condition) (C8.fnScope s__law_condition) .none kV61 dc61 pm61 an61 cd61 ct61), sl61⟩) (b61 : PySem.W.codeIn K cd61 "_law_condition" = true) (k61 : PySem.W.keepIn K (.ref f61) = true)
    {f62 : Addr} {od62 an62 : Option Addr} {sl62 : Array (Option Value)} {oc62 kV62 dc62 pm62 cd62 ct62 : Value} (a62 : PySem.W.nsIn K mainGlobals "_law_inside" = some (some (.ref f62))) (l62 : K.lookup f62 = some ⟨oc62, od62, .func (PySem.W.fnOf "_law_inside" "_law_inside" (C8.fnArgs s__law_inside) (C8.fnBody s__law_inside) (C8.fnScope s__law_inside) .none kV62 dc62 pm62 an62 cd62 ct62), sl62⟩) (b62 : PySem.W.codeIn K cd62 "_law_inside" = true) (k62 : PySem.W.keepIn K (.ref f62) = true)
    {f63 : Addr} {od63 an63 : Option Addr} {sl63 : Array (Option Value)} {oc63 kV63 dc63 pm63 cd63 ct63 : Value} (a63 : PySem.W.nsIn K mainGlobals "law" = some (some (.ref f63))) (l63 : K.lookup f63 = some ⟨oc63, od63, .func (PySem.W.fnOf "law" "law" (C8.fnArgs s_law) (C8.fnBody s_law) (C8.fnScope s_law) .none kV63 dc63 pm63 an63 cd63 ct63), sl63⟩) (b63 : PySem.W.codeIn K cd63 "law" = true) (k63 : PySem.W.keepIn K (.ref f63) = true)
    (z_abs : PySem.W.nsIn K mainGlobals "abs" = some none)
    (z_bool : PySem.W.nsIn K mainGlobals "bool" = some none)
    (z_int : PySem.W.nsIn K mainGlobals "int" = some none)
    (z_isinstance : PySem.W.nsIn K mainGlobals "isinstance" = some none)
    (z_len : PySem.W.nsIn K mainGlobals "len" = some none)
    (z_max : PySem.W.nsIn K mainGlobals "max" = some none)
    (z_min : PySem.W.nsIn K mainGlobals "min" = some none)
    (z_range : PySem.W.nsIn K mainGlobals "range" = some none)
    (z_str : PySem.W.nsIn K mainGlobals "str" = some none)
    {t_ANY : Tok} {x_ANY : Str} (q_ANY : PySem.W.nsIn K mainGlobals "ANY" = some (some (.str x_ANY t_ANY))) (e_ANY : x_ANY = "any")
    {t_FIRST_DAY : Tok} (q_FIRST_DAY : PySem.W.nsIn K mainGlobals "FIRST_DAY" = some (some (.int (-719162) t_FIRST_DAY)))
    {t_GREATEST : Tok} (q_GREATEST : PySem.W.nsIn K mainGlobals "GREATEST" = some (some (.int (1000000000000000) t_GREATEST)))
    {t_LAST_DAY : Tok} (q_LAST_DAY : PySem.W.nsIn K mainGlobals "LAST_DAY" = some (some (.int (2932896) t_LAST_DAY)))
    {p_OF_DATES_of_one : Addr} {es_OF_DATES_of_one : Array DictEntry} {n_OF_DATES_of_one : Nat} (q_OF_DATES_of_one : PySem.W.nsIn K mainGlobals "OF_DATES_of_one" = some (some (.ref p_OF_DATES_of_one))) (ka_OF_DATES_of_one : K.lookup p_OF_DATES_of_one = some ⟨.type "dict", none, .dict es_OF_DATES_of_one n_OF_DATES_of_one, #[]⟩) (kl_OF_DATES_of_one : PySem.W.KeysLit w.params es_OF_DATES_of_one.toList) (ko_OF_DATES_of_one : (p_OF_DATES_of_one == sysModules) = false)
    (e_OF_DATES_of_one_0 : PySem.W.nsIn K p_OF_DATES_of_one "as date" = some (some (.ref f31)))
    {p_OF_DATES_of_two : Addr} {es_OF_DATES_of_two : Array DictEntry} {n_OF_DATES_of_two : Nat} (q_OF_DATES_of_two : PySem.W.nsIn K mainGlobals "OF_DATES_of_two" = some (some (.ref p_OF_DATES_of_two))) (ka_OF_DATES_of_two : K.lookup p_OF_DATES_of_two = some ⟨.type "dict", none, .dict es_OF_DATES_of_two n_OF_DATES_of_two, #[]⟩) (kl_OF_DATES_of_two : PySem.W.KeysLit w.params es_OF_DATES_of_two.toList) (ko_OF_DATES_of_two : (p_OF_DATES_of_two == sysModules) = false)
    (e_OF_DATES_of_two_0 : PySem.W.nsIn K p_OF_DATES_of_two "add days" = some (some (.ref f45)))
    {p_OF_INTEGERS_of_one : Addr} {es_OF_INTEGERS_of_one : Array DictEntry} {n_OF_INTEGERS_of_one : Nat} (q_OF_INTEGERS_of_one : PySem.W.nsIn K mainGlobals "OF_INTEGERS_of_one" = some (some (.ref p_OF_INTEGERS_of_one))) (ka_OF_INTEGERS_of_one : K.lookup p_OF_INTEGERS_of_one = some ⟨.type "dict", none, .dict es_OF_INTEGERS_of_one n_OF_INTEGERS_of_one, #[]⟩) (kl_OF_INTEGERS_of_one : PySem.W.KeysLit w.params es_OF_INTEGERS_of_one.toList) (ko_OF_INTEGERS_of_one : (p_OF_INTEGERS_of_one == sysModules) = false)
    (e_OF_INTEGERS_of_one_0 : PySem.W.nsIn K p_OF_INTEGERS_of_one "negate" = some (some (.ref f29)))
    (e_OF_INTEGERS_of_one_1 : PySem.W.nsIn K p_OF_INTEGERS_of_one "abs" = some (some (.ref f30)))
    (e_OF_INTEGERS_of_one_2 : PySem.W.nsIn K p_OF_INTEGERS_of_one "as decimal" = some (some (.ref f31)))
    (e_OF_INTEGERS_of_one_3 : PySem.W.nsIn K p_OF_INTEGERS_of_one "to decimal" = some (some (.ref f32)))
    (e_OF_INTEGERS_of_one_4 : PySem.W.nsIn K p_OF_INTEGERS_of_one "length" = some none)
    (e_OF_INTEGERS_of_one_5 : PySem.W.nsIn K p_OF_INTEGERS_of_one "as date" = some none)
    {p_OF_INTEGERS_of_two : Addr} {es_OF_INTEGERS_of_two : Array DictEntry} {n_OF_INTEGERS_of_two : Nat} (q_OF_INTEGERS_of_two : PySem.W.nsIn K mainGlobals "OF_INTEGERS_of_two" = some (some (.ref p_OF_INTEGERS_of_two))) (ka_OF_INTEGERS_of_two : K.lookup p_OF_INTEGERS_of_two = some ⟨.type "dict", none, .dict es_OF_INTEGERS_of_two n_OF_INTEGERS_of_two, #[]⟩) (kl_OF_INTEGERS_of_two : PySem.W.KeysLit w.params es_OF_INTEGERS_of_two.toList) (ko_OF_INTEGERS_of_two : (p_OF_INTEGERS_of_two == sysModules) = false)
    (e_OF_INTEGERS_of_two_0 : PySem.W.nsIn K p_OF_INTEGERS_of_two "add" = some (some (.ref f42)))
    (e_OF_INTEGERS_of_two_1 : PySem.W.nsIn K p_OF_INTEGERS_of_two "subtract" = some (some (.ref f43)))
    (e_OF_INTEGERS_of_two_2 : PySem.W.nsIn K p_OF_INTEGERS_of_two "multiply" = some (some (.ref f44)))
    (e_OF_INTEGERS_of_two_3 : PySem.W.nsIn K p_OF_INTEGERS_of_two "add days" = some none)
    {p_OF_TEXTS_of_one : Addr} {es_OF_TEXTS_of_one : Array DictEntry} {n_OF_TEXTS_of_one : Nat} (q_OF_TEXTS_of_one : PySem.W.nsIn K mainGlobals "OF_TEXTS_of_one" = some (some (.ref p_OF_TEXTS_of_one))) (ka_OF_TEXTS_of_one : K.lookup p_OF_TEXTS_of_one = some ⟨.type "dict", none, .dict es_OF_TEXTS_of_one n_OF_TEXTS_of_one, #[]⟩) (kl_OF_TEXTS_of_one : PySem.W.KeysLit w.params es_OF_TEXTS_of_one.toList) (ko_OF_TEXTS_of_one : (p_OF_TEXTS_of_one == sysModules) = false)
    (e_OF_TEXTS_of_one_0 : PySem.W.nsIn K p_OF_TEXTS_of_one "length" = some (some (.ref f33)))
    (e_OF_TEXTS_of_one_1 : PySem.W.nsIn K p_OF_TEXTS_of_one "as date" = some none)
    {p_OF_TEXTS_of_two : Addr} {es_OF_TEXTS_of_two : Array DictEntry} {n_OF_TEXTS_of_two : Nat} (q_OF_TEXTS_of_two : PySem.W.nsIn K mainGlobals "OF_TEXTS_of_two" = some (some (.ref p_OF_TEXTS_of_two))) (ka_OF_TEXTS_of_two : K.lookup p_OF_TEXTS_of_two = some ⟨.type "dict", none, .dict es_OF_TEXTS_of_two n_OF_TEXTS_of_two, #[]⟩) (kl_OF_TEXTS_of_two : PySem.W.KeysLit w.params es_OF_TEXTS_of_two.toList) (ko_OF_TEXTS_of_two : (p_OF_TEXTS_of_two == sysModules) = false)
    (e_OF_TEXTS_of_two_0 : PySem.W.nsIn K p_OF_TEXTS_of_two "add days" = some none)
    {p__NOTHING : Addr} (q__NOTHING : PySem.W.nsIn K mainGlobals "_NOTHING" = some (some (.ref p__NOTHING))) (r__NOTHING : ∀ H : Hp, SqT K H p__NOTHING ([.bl true, .non, .non]))
    {p__OF_ALIKE : Addr} {es__OF_ALIKE : Array DictEntry} {n__OF_ALIKE : Nat} (q__OF_ALIKE : PySem.W.nsIn K mainGlobals "_OF_ALIKE" = some (some (.ref p__OF_ALIKE))) (ka__OF_ALIKE : K.lookup p__OF_ALIKE = some ⟨.type "dict", none, .dict es__OF_ALIKE n__OF_ALIKE, #[]⟩) (kl__OF_ALIKE : PySem.W.KeysLit w.params es__OF_ALIKE.toList) (ko__OF_ALIKE : (p__OF_ALIKE == sysModules) = false)
    (e__OF_ALIKE_0 : PySem.W.nsIn K p__OF_ALIKE "equal" = some (some (.ref f39)))
    (e__OF_ALIKE_1 : PySem.W.nsIn K p__OF_ALIKE "less" = some (some (.ref f40)))
    (e__OF_ALIKE_2 : PySem.W.nsIn K p__OF_ALIKE "at most" = some (some (.ref f41)))
    (e__OF_ALIKE_3 : PySem.W.nsIn K p__OF_ALIKE "add" = some none)
    (e__OF_ALIKE_4 : PySem.W.nsIn K p__OF_ALIKE "subtract" = some none)
    (e__OF_ALIKE_5 : PySem.W.nsIn K p__OF_ALIKE "multiply" = some none)
    (e__OF_ALIKE_6 : PySem.W.nsIn K p__OF_ALIKE "add days" = some none)
    {p__OF_ANY : Addr} {es__OF_ANY : Array DictEntry} {n__OF_ANY : Nat} (q__OF_ANY : PySem.W.nsIn K mainGlobals "_OF_ANY" = some (some (.ref p__OF_ANY))) (ka__OF_ANY : K.lookup p__OF_ANY = some ⟨.type "dict", none, .dict es__OF_ANY n__OF_ANY, #[]⟩) (kl__OF_ANY : PySem.W.KeysLit w.params es__OF_ANY.toList) (ko__OF_ANY : (p__OF_ANY == sysModules) = false)
    (e__OF_ANY_0 : PySem.W.nsIn K p__OF_ANY "and" = some (some (.ref f35)))
    (e__OF_ANY_1 : PySem.W.nsIn K p__OF_ANY "or" = some (some (.ref f36)))
    (e__OF_ANY_2 : PySem.W.nsIn K p__OF_ANY "same" = some (some (.ref f37)))
    (e__OF_ANY_3 : PySem.W.nsIn K p__OF_ANY "coalesce" = some (some (.ref f38)))
    (e__OF_ANY_4 : PySem.W.nsIn K p__OF_ANY "equal" = some none)
    (e__OF_ANY_5 : PySem.W.nsIn K p__OF_ANY "less" = some none)
    (e__OF_ANY_6 : PySem.W.nsIn K p__OF_ANY "at most" = some none)
    (e__OF_ANY_7 : PySem.W.nsIn K p__OF_ANY "add" = some none)
    (e__OF_ANY_8 : PySem.W.nsIn K p__OF_ANY "subtract" = some none)
    (e__OF_ANY_9 : PySem.W.nsIn K p__OF_ANY "multiply" = some none)
    (e__OF_ANY_10 : PySem.W.nsIn K p__OF_ANY "add days" = some none)
    : ∃ fd : FuncData, C8.Def K mg "law" s_law fa fd ∧ (∀ (s : Shared) (u : Value), BindsTo s fd ⟨[u], []⟩ [("script", u)]) ∧ ∀ (base : Heap) (s : Shared) (H : Hp) (a : Addr) (ns : List Int) (cdv : Value), K.In base → base.Ns mainGlobals mg → base.NoDigits → ns.length ≤ 63 → SqL K H a (ns.map V.int) → Room 14 (callerA.deeper (envOfC "law" (C8.fnScope s_law) s.heap.objs.size fa cdv)) → ∃ t, PSs (cxOf C8.CX0 P w K mg base n_law "law" (C8.fnScope s_law) fa cdv callerA [] s H C8.E0).nox (C8.fnBody s_law) t ∧ t { nx := fun _ _ => V.non = .bl true, rt := fun v _ => v = .bl true } (start n_law [.ref a]) H := by
  have D_kind_rank : Dn K mg "kind_rank" s_kind_rank ["value"] := dn_mk l0 b0 k0 (PySem.W.mg_of X G a0) (fun _ _ _ _ _ _ us hl => match us, hl with | [_], _ => rfl)
  have D_is_integer : Dn K mg "is_integer" s_is_integer ["value"] := dn_mk l1 b1 k1 (PySem.W.mg_of X G a1) (fun _ _ _ _ _ _ us hl => match us, hl with | [_], _ => rfl)
  have D_rank : Dn K mg "rank" s_rank ["value"] := dn_mk l2 b2 k2 (PySem.W.mg_of X G a2) (fun _ _ _ _ _ _ us hl => match us, hl with | [_], _ => rfl)
  have D_same : Dn K mg "same" s_same ["first", "second"] := dn_mk l3 b3 k3 (PySem.W.mg_of X G a3) (fun _ _ _ _ _ _ us hl => match us, hl with | [_, _], _ => rfl)
  have D_before : Dn K mg "before" s_before ["first", "second"] := dn_mk l4 b4 k4 (PySem.W.mg_of X G a4) (fun _ _ _ _ _ _ us hl => match us, hl with | [_, _], _ => rfl)
  have F_Zone____init__ : C8.Fun K "__init__" "Zone.__init__" s_Zone____init__ f5 _ := ⟨_, _, _, _, _, _, _, _, _, _, rfl, l5, b5⟩
  have B_Zone____init__ : Binds K _ ["self", "many", "nulls", "least", "greatest"] [] := C8.Fun.binds F_Zone____init__ rfl (fun _ _ _ _ _ _ us hl => match us, hl with | [_, _, _, _, _], _ => rfl)
  have D_Zone____init__ : MetD K "Zone" "__init__" "Zone.__init__" s_Zone____init__ ["self", "many", "nulls", "least", "greatest"] := metD_mk qC_Zone a5 iF5 k5 F_Zone____init__ B_Zone____init__
  have D_zone_of : Dn K mg "zone_of" s_zone_of ["values"] := dn_mk l6 b6 k6 (PySem.W.mg_of X G a6) (fun _ _ _ _ _ _ us hl => match us, hl with | [_], _ => rfl)
  have D__has_values : Dn K mg "_has_values" s__has_values ["span"] := dn_mk l7 b7 k7 (PySem.W.mg_of X G a7) (fun _ _ _ _ _ _ us hl => match us, hl with | [_], _ => rfl)
  have D__may_be_none : Dn K mg "_may_be_none" s__may_be_none ["span"] := dn_mk l8 b8 k8 (PySem.W.mg_of X G a8) (fun _ _ _ _ _ _ us hl => match us, hl with | [_], _ => rfl)
  have D_can_be : Dn K mg "can_be" s_can_be ["span", "value"] := dn_mk l9 b9 k9 (PySem.W.mg_of X G a9) (fun _ _ _ _ _ _ us hl => match us, hl with | [_, _], _ => rfl)
  have D__truth_span : Dn K mg "_truth_span" s__truth_span ["null", "can_hold", "can_fail"] := dn_mk l10 b10 k10 (PySem.W.mg_of X G a10) (fun _ _ _ _ _ _ us hl => match us, hl with | [_, _, _], _ => rfl)
  have D__not_span : Dn K mg "_not_span" s__not_span ["span"] := dn_mk l11 b11 k11 (PySem.W.mg_of X G a11) (fun _ _ _ _ _ _ us hl => match us, hl with | [_], _ => rfl)
  have D__is_null_span : Dn K mg "_is_null_span" s__is_null_span ["span"] := dn_mk l12 b12 k12 (PySem.W.mg_of X G a12) (fun _ _ _ _ _ _ us hl => match us, hl with | [_], _ => rfl)
  have D__has_integers : Dn K mg "_has_integers" s__has_integers ["span"] := dn_mk l13 b13 k13 (PySem.W.mg_of X G a13) (fun _ _ _ _ _ _ us hl => match us, hl with | [_], _ => rfl)
  have D__unary_span : Dn K mg "_unary_span" s__unary_span ["name", "span"] := dn_mk l14 b14 k14 (PySem.W.mg_of X G a14) (fun _ _ _ _ _ _ us hl => match us, hl with | [_, _], _ => rfl)
  have D__and_span : Dn K mg "_and_span" s__and_span ["first", "second"] := dn_mk l15 b15 k15 (PySem.W.mg_of X G a15) (fun _ _ _ _ _ _ us hl => match us, hl with | [_, _], _ => rfl)
  have D__or_span : Dn K mg "_or_span" s__or_span ["first", "second"] := dn_mk l16 b16 k16 (PySem.W.mg_of X G a16) (fun _ _ _ _ _ _ us hl => match us, hl with | [_, _], _ => rfl)
  have D__comparison_span : Dn K mg "_comparison_span" s__comparison_span ["name", "first", "second"] := dn_mk l17 b17 k17 (PySem.W.mg_of X G a17) (fun _ _ _ _ _ _ us hl => match us, hl with | [_, _, _], _ => rfl)
  have D__sum_span : Dn K mg "_sum_span" s__sum_span ["name", "first", "second"] := dn_mk l18 b18 k18 (PySem.W.mg_of X G a18) (fun _ _ _ _ _ _ us hl => match us, hl with | [_, _, _], _ => rfl)
  have D__either_span : Dn K mg "_either_span" s__either_span ["first", "second"] := dn_mk l19 b19 k19 (PySem.W.mg_of X G a19) (fun _ _ _ _ _ _ us hl => match us, hl with | [_, _], _ => rfl)
  have D__binary_span : Dn K mg "_binary_span" s__binary_span ["name", "first", "second"] := dn_mk l20 b20 k20 (PySem.W.mg_of X G a20) (fun _ _ _ _ _ _ us hl => match us, hl with | [_, _, _], _ => rfl)
  have D__column_span : Dn K mg "_column_span" s__column_span ["number", "zones"] := dn_mk l21 b21 k21 (PySem.W.mg_of X G a21) (fun _ _ _ _ _ _ us hl => match us, hl with | [_, _], _ => rfl)
  have D_span_of : Dn K mg "span_of" s_span_of ["expression", "zones"] := dn_mk l22 b22 k22 (PySem.W.mg_of X G a22) (fun _ _ _ _ _ _ us hl => match us, hl with | [_, _], _ => rfl)
  have D_may_hold : Dn K mg "may_hold" s_may_hold ["condition", "zones"] := dn_mk l23 b23 k23 (PySem.W.mg_of X G a23) (fun _ _ _ _ _ _ us hl => match us, hl with | [_, _], _ => rfl)
  have D_is_day : Dn K mg "is_day" s_is_day ["value"] := dn_mk l24 b24 k24 (PySem.W.mg_of X G a24) (fun _ _ _ _ _ _ us hl => match us, hl with | [_], _ => rfl)
  have D_limited : Dn K mg "limited" s_limited ["number"] := dn_mk l25 b25 k25 (PySem.W.mg_of X G a25) (fun _ _ _ _ _ _ us hl => match us, hl with | [_], _ => rfl)
  have D_negated : Dn K mg "negated" s_negated ["value"] := dn_mk l26 b26 k26 (PySem.W.mg_of X G a26) (fun _ _ _ _ _ _ us hl => match us, hl with | [_], _ => rfl)
  have D_both : Dn K mg "both" s_both ["first", "second"] := dn_mk l27 b27 k27 (PySem.W.mg_of X G a27) (fun _ _ _ _ _ _ us hl => match us, hl with | [_, _], _ => rfl)
  have D_either : Dn K mg "either" s_either ["first", "second"] := dn_mk l28 b28 k28 (PySem.W.mg_of X G a28) (fun _ _ _ _ _ _ us hl => match us, hl with | [_, _], _ => rfl)
  have D__negate : Dn K mg "_negate" s__negate ["number"] := dn_mk l29 b29 k29 (PySem.W.mg_of X G a29) (fun _ _ _ _ _ _ us hl => match us, hl with | [_], _ => rfl)
  have D__size : Dn K mg "_size" s__size ["number"] := dn_mk l30 b30 k30 (PySem.W.mg_of X G a30) (fun _ _ _ _ _ _ us hl => match us, hl with | [_], _ => rfl)
  have D__value : Dn K mg "_value" s__value ["value"] := dn_mk l31 b31 k31 (PySem.W.mg_of X G a31) (fun _ _ _ _ _ _ us hl => match us, hl with | [_], _ => rfl)
  have D__to_decimal : Dn K mg "_to_decimal" s__to_decimal ["number"] := dn_mk l32 b32 k32 (PySem.W.mg_of X G a32) (fun _ _ _ _ _ _ us hl => match us, hl with | [_], _ => rfl)
  have D__length : Dn K mg "_length" s__length ["text"] := dn_mk l33 b33 k33 (PySem.W.mg_of X G a33) (fun _ _ _ _ _ _ us hl => match us, hl with | [_], _ => rfl)
  have D_value_of_one : Dn K mg "value_of_one" s_value_of_one ["name", "value"] := dn_mk l34 b34 k34 (PySem.W.mg_of X G a34) (fun _ _ _ _ _ _ us hl => match us, hl with | [_, _], _ => rfl)
  have D__both : Dn K mg "_both" s__both ["first", "second"] := dn_mk l35 b35 k35 (PySem.W.mg_of X G a35) (fun _ _ _ _ _ _ us hl => match us, hl with | [_, _], _ => rfl)
  have D__either : Dn K mg "_either" s__either ["first", "second"] := dn_mk l36 b36 k36 (PySem.W.mg_of X G a36) (fun _ _ _ _ _ _ us hl => match us, hl with | [_, _], _ => rfl)
  have D__same : Dn K mg "_same" s__same ["first", "second"] := dn_mk l37 b37 k37 (PySem.W.mg_of X G a37) (fun _ _ _ _ _ _ us hl => match us, hl with | [_, _], _ => rfl)
  have D__first_known : Dn K mg "_first_known" s__first_known ["first", "second"] := dn_mk l38 b38 k38 (PySem.W.mg_of X G a38) (fun _ _ _ _ _ _ us hl => match us, hl with | [_, _], _ => rfl)
  have D__equal : Dn K mg "_equal" s__equal ["first", "second"] := dn_mk l39 b39 k39 (PySem.W.mg_of X G a39) (fun _ _ _ _ _ _ us hl => match us, hl with | [_, _], _ => rfl)
  have D__less : Dn K mg "_less" s__less ["first", "second"] := dn_mk l40 b40 k40 (PySem.W.mg_of X G a40) (fun _ _ _ _ _ _ us hl => match us, hl with | [_, _], _ => rfl)
  have D__at_most : Dn K mg "_at_most" s__at_most ["first", "second"] := dn_mk l41 b41 k41 (PySem.W.mg_of X G a41) (fun _ _ _ _ _ _ us hl => match us, hl with | [_, _], _ => rfl)
  have D__add : Dn K mg "_add" s__add ["first", "second"] := dn_mk l42 b42 k42 (PySem.W.mg_of X G a42) (fun _ _ _ _ _ _ us hl => match us, hl with | [_, _], _ => rfl)
  have D__subtract : Dn K mg "_subtract" s__subtract ["first", "second"] := dn_mk l43 b43 k43 (PySem.W.mg_of X G a43) (fun _ _ _ _ _ _ us hl => match us, hl with | [_, _], _ => rfl)
  have D__multiply : Dn K mg "_multiply" s__multiply ["first", "second"] := dn_mk l44 b44 k44 (PySem.W.mg_of X G a44) (fun _ _ _ _ _ _ us hl => match us, hl with | [_, _], _ => rfl)
  have D__add_days : Dn K mg "_add_days" s__add_days ["day", "many"] := dn_mk l45 b45 k45 (PySem.W.mg_of X G a45) (fun _ _ _ _ _ _ us hl => match us, hl with | [_, _], _ => rfl)
  have D__are_alike : Dn K mg "_are_alike" s__are_alike ["first", "second"] := dn_mk l46 b46 k46 (PySem.W.mg_of X G a46) (fun _ _ _ _ _ _ us hl => match us, hl with | [_, _], _ => rfl)
  have D_value_of_two : Dn K mg "value_of_two" s_value_of_two ["name", "first", "second"] := dn_mk l47 b47 k47 (PySem.W.mg_of X G a47) (fun _ _ _ _ _ _ us hl => match us, hl with | [_, _, _], _ => rfl)
  have D_unary : Dn K mg "unary" s_unary ["name", "value"] := dn_mk l48 b48 k48 (PySem.W.mg_of X G a48) (fun _ _ _ _ _ _ us hl => match us, hl with | [_, _], _ => rfl)
  have D_binary : Dn K mg "binary" s_binary ["name", "first", "second"] := dn_mk l49 b49 k49 (PySem.W.mg_of X G a49) (fun _ _ _ _ _ _ us hl => match us, hl with | [_, _, _], _ => rfl)
  have D_evaluate : Dn K mg "evaluate" s_evaluate ["expression", "row"] := dn_mk l50 b50 k50 (PySem.W.mg_of X G a50) (fun _ _ _ _ _ _ us hl => match us, hl with | [_, _], _ => rfl)
  have D_holds : Dn K mg "holds" s_holds ["expression", "row"] := dn_mk l51 b51 k51 (PySem.W.mg_of X G a51) (fun _ _ _ _ _ _ us hl => match us, hl with | [_, _], _ => rfl)
  have D__law_cell : Dn K mg "_law_cell" s__law_cell ["script", "k"] := dn_mk l52 b52 k52 (PySem.W.mg_of X G a52) (fun _ _ _ _ _ _ us hl => match us, hl with | [_, _], _ => rfl)
  have D__law_state : Dn K mg "_law_state" s__law_state ["cell", "k"] := dn_mk l53 b53 k53 (PySem.W.mg_of X G a53) (fun _ _ _ _ _ _ us hl => match us, hl with | [_, _], _ => rfl)
  have D__law_digit : Dn K mg "_law_digit" s__law_digit ["state", "many"] := dn_mk l54 b54 k54 (PySem.W.mg_of X G a54) (fun _ _ _ _ _ _ us hl => match us, hl with | [_, _], _ => rfl)
  have D__law_is_integer : Dn K mg "_law_is_integer" s__law_is_integer ["told"] := dn_mk l55 b55 k55 (PySem.W.mg_of X G a55) (fun _ _ _ _ _ _ us hl => match us, hl with | [_], _ => rfl)
  have D__law_rank : Dn K mg "_law_rank" s__law_rank ["value"] := dn_mk l56 b56 k56 (PySem.W.mg_of X G a56) (fun _ _ _ _ _ _ us hl => match us, hl with | [_], _ => rfl)
  have D__law_text : Dn K mg "_law_text" s__law_text ["state"] := dn_mk l57 b57 k57 (PySem.W.mg_of X G a57) (fun _ _ _ _ _ _ us hl => match us, hl with | [_], _ => rfl)
  have D__law_value : Dn K mg "_law_value" s__law_value ["state"] := dn_mk l58 b58 k58 (PySem.W.mg_of X G a58) (fun _ _ _ _ _ _ us hl => match us, hl with | [_], _ => rfl)
  have D__law_leaf : Dn K mg "_law_leaf" s__law_leaf ["state", "width"] := dn_mk l59 b59 k59 (PySem.W.mg_of X G a59) (fun _ _ _ _ _ _ us hl => match us, hl with | [_, _], _ => rfl)
  have D__law_expression : Dn K mg "_law_expression" s__law_expression ["state", "width", "depth"] := dn_mk l60 b60 k60 (PySem.W.mg_of X G a60) (fun _ _ _ _ _ _ us hl => match us, hl with | [_, _, _], _ => rfl)
  have D__law_condition : Dn K mg "_law_condition" s__law_condition ["state", "width", "depth"] := dn_mk l61 b61 k61 (PySem.W.mg_of X G a61) (fun _ _ _ _ _ _ us hl => match us, hl with | [_, _, _], _ => rfl)
  have D__law_inside : Dn K mg "_law_inside" s__law_inside ["value", "span"] := dn_mk l62 b62 k62 (PySem.W.mg_of X G a62) (fun _ _ _ _ _ _ us hl => match us, hl with | [_, _], _ => rfl)
  have N_Zone : PySem.W.findIn K (.ref (clsAt K "Zone")) "__eq__" = some (some (.builtin "object.__eq__")) := by rw [show clsAt K "Zone" = C_Zone by unfold clsAt; rw [qC_Zone]]; exact hqC_Zone
  have C_Zone : ClsD K mg "Zone" ["many", "nulls", "least", "greatest"] := clsD_mk qC_Zone (PySem.W.mg_of X G qC_Zone) pgC_Zone hdC_Zone poC_Zone saC_Zone mkC_Zone kcC_Zone ⟨naC_Zone_0, ⟨naC_Zone_1, ⟨naC_Zone_2, ⟨naC_Zone_3, trivial⟩⟩⟩⟩
  have I_Zone : OwnI K "Zone" := ownI_mk qC_Zone C_Zone.cl haC_Zone hnC_Zone htC_Zone hmC_Zone meC_Zone kiC_Zone niC_Zone
  have y_abs : mg "abs" = none := PySem.W.mg_none_of X G z_abs
  have y_bool : mg "bool" = none := PySem.W.mg_none_of X G z_bool
  have y_int : mg "int" = none := PySem.W.mg_none_of X G z_int
  have y_isinstance : mg "isinstance" = none := PySem.W.mg_none_of X G z_isinstance
  have y_len : mg "len" = none := PySem.W.mg_none_of X G z_len
  have y_max : mg "max" = none := PySem.W.mg_none_of X G z_max
  have y_min : mg "min" = none := PySem.W.mg_none_of X G z_min
  have y_range : mg "range" = none := PySem.W.mg_none_of X G z_range
  have y_str : mg "str" = none := PySem.W.mg_none_of X G z_str
  have v_ANY : ∃ u, mg "ANY" = some u ∧ RelV (.str ("any")) u := ⟨_, PySem.W.mg_of X G q_ANY, ⟨_, by rw [e_ANY]⟩⟩
  have v_FIRST_DAY : ∃ u, mg "FIRST_DAY" = some u ∧ RelV (.int (-719162)) u := ⟨_, PySem.W.mg_of X G q_FIRST_DAY, ⟨_, rfl⟩⟩
  have v_GREATEST : ∃ u, mg "GREATEST" = some u ∧ RelV (.int (1000000000000000)) u := ⟨_, PySem.W.mg_of X G q_GREATEST, ⟨_, rfl⟩⟩
  have v_LAST_DAY : ∃ u, mg "LAST_DAY" = some u ∧ RelV (.int (2932896)) u := ⟨_, PySem.W.mg_of X G q_LAST_DAY, ⟨_, rfl⟩⟩
  have v_OF_DATES_of_one : ∃ u, mg "OF_DATES_of_one" = some u ∧ RelV (.ref p_OF_DATES_of_one) u := ⟨_, PySem.W.mg_of X G q_OF_DATES_of_one, rfl⟩
  have w_OF_DATES_of_one : KDict K w p_OF_DATES_of_one es_OF_DATES_of_one n_OF_DATES_of_one := ⟨ka_OF_DATES_of_one, kl_OF_DATES_of_one, ko_OF_DATES_of_one⟩
  have v_OF_DATES_of_two : ∃ u, mg "OF_DATES_of_two" = some u ∧ RelV (.ref p_OF_DATES_of_two) u := ⟨_, PySem.W.mg_of X G q_OF_DATES_of_two, rfl⟩
  have w_OF_DATES_of_two : KDict K w p_OF_DATES_of_two es_OF_DATES_of_two n_OF_DATES_of_two := ⟨ka_OF_DATES_of_two, kl_OF_DATES_of_two, ko_OF_DATES_of_two⟩
  have v_OF_INTEGERS_of_one : ∃ u, mg "OF_INTEGERS_of_one" = some u ∧ RelV (.ref p_OF_INTEGERS_of_one) u := ⟨_, PySem.W.mg_of X G q_OF_INTEGERS_of_one, rfl⟩
  have w_OF_INTEGERS_of_one : KDict K w p_OF_INTEGERS_of_one es_OF_INTEGERS_of_one n_OF_INTEGERS_of_one := ⟨ka_OF_INTEGERS_of_one, kl_OF_INTEGERS_of_one, ko_OF_INTEGERS_of_one⟩
  have v_OF_INTEGERS_of_two : ∃ u, mg "OF_INTEGERS_of_two" = some u ∧ RelV (.ref p_OF_INTEGERS_of_two) u := ⟨_, PySem.W.mg_of X G q_OF_INTEGERS_of_two, rfl⟩
  have w_OF_INTEGERS_of_two : KDict K w p_OF_INTEGERS_of_two es_OF_INTEGERS_of_two n_OF_INTEGERS_of_two := ⟨ka_OF_INTEGERS_of_two, kl_OF_INTEGERS_of_two, ko_OF_INTEGERS_of_two⟩
  have v_OF_TEXTS_of_one : ∃ u, mg "OF_TEXTS_of_one" = some u ∧ RelV (.ref p_OF_TEXTS_of_one) u := ⟨_, PySem.W.mg_of X G q_OF_TEXTS_of_one, rfl⟩
  have w_OF_TEXTS_of_one : KDict K w p_OF_TEXTS_of_one es_OF_TEXTS_of_one n_OF_TEXTS_of_one := ⟨ka_OF_TEXTS_of_one, kl_OF_TEXTS_of_one, ko_OF_TEXTS_of_one⟩
  have v_OF_TEXTS_of_two : ∃ u, mg "OF_TEXTS_of_two" = some u ∧ RelV (.ref p_OF_TEXTS_of_two) u := ⟨_, PySem.W.mg_of X G q_OF_TEXTS_of_two, rfl⟩
  have w_OF_TEXTS_of_two : KDict K w p_OF_TEXTS_of_two es_OF_TEXTS_of_two n_OF_TEXTS_of_two := ⟨ka_OF_TEXTS_of_two, kl_OF_TEXTS_of_two, ko_OF_TEXTS_of_two⟩
  have v__NOTHING : ∃ u, mg "_NOTHING" = some u ∧ RelV (.ref p__NOTHING) u := ⟨_, PySem.W.mg_of X G q__NOTHING, rfl⟩
  have w__NOTHING := r__NOTHING
  have v__OF_ALIKE : ∃ u, mg "_OF_ALIKE" = some u ∧ RelV (.ref p__OF_ALIKE) u := ⟨_, PySem.W.mg_of X G q__OF_ALIKE, rfl⟩
  have w__OF_ALIKE : KDict K w p__OF_ALIKE es__OF_ALIKE n__OF_ALIKE := ⟨ka__OF_ALIKE, kl__OF_ALIKE, ko__OF_ALIKE⟩
  have v__OF_ANY : ∃ u, mg "_OF_ANY" = some u ∧ RelV (.ref p__OF_ANY) u := ⟨_, PySem.W.mg_of X G q__OF_ANY, rfl⟩
  have w__OF_ANY : KDict K w p__OF_ANY es__OF_ANY n__OF_ANY := ⟨ka__OF_ANY, kl__OF_ANY, ko__OF_ANY⟩
  have e := hfa.symm.trans (PySem.W.mg_of X G a63)
  cases e
  have D_law := def_mk (x := "law") (st := s_law) l63 b63 k63 hfa
  refine ⟨_, D_law, fun s v => .of_eq rfl, fun base s H a ns cdv _ _ nd h63 hS hr => ?_⟩
  have c_kind_rank := ok_kind_rank (P := P) (w := w) (base := base) D_kind_rank y_bool y_int y_isinstance 
  have c_is_integer := ok_is_integer (P := P) (w := w) (base := base) D_is_integer y_bool y_int y_isinstance 
  have c_rank := ok_rank (P := P) (w := w) (base := base) D_rank c_kind_rank y_int 
  have c_same := ok_same (P := P) (w := w) (base := base) D_same c_rank 
  have c_before := ok_before (P := P) (w := w) (base := base) D_before c_rank 
  have c_Zone____init__ := ok_Zone____init__ (P := P) (w := w) (base := base) D_Zone____init__ C_Zone I_Zone N_Zone 
  have c_zone_of := ok_zone_of (P := P) (w := w) (base := base) D_zone_of c_Zone____init__ c_rank y_len y_max y_min 
  have c__has_values := ok__has_values (P := P) (w := w) (base := base) D__has_values v_ANY 
  have c__may_be_none := ok__may_be_none (P := P) (w := w) (base := base) D__may_be_none v_ANY 
  have c_can_be := ok_can_be (P := P) (w := w) (base := base) D_can_be c_before v_ANY 
  have c__truth_span := ok__truth_span (P := P) (w := w) (base := base) D__truth_span 
  have c__not_span := ok__not_span (P := P) (w := w) (base := base) D__not_span c__truth_span c_can_be 
  have c__is_null_span := ok__is_null_span (P := P) (w := w) (base := base) D__is_null_span c__has_values c__may_be_none c__truth_span 
  have c__has_integers := ok__has_integers (P := P) (w := w) (base := base) D__has_integers c_is_integer v_ANY 
  have c__unary_span := ok__unary_span (P := P) (w := w) (base := base) D__unary_span c__has_integers c__is_null_span c__not_span y_max v_ANY 
  have c__and_span := ok__and_span (P := P) (w := w) (base := base) D__and_span c__truth_span c_can_be 
  have c__or_span := ok__or_span (P := P) (w := w) (base := base) D__or_span c__truth_span c_can_be 
  have c__comparison_span := ok__comparison_span (P := P) (w := w) (base := base) D__comparison_span c__has_values c__truth_span c_before v_ANY v__NOTHING w__NOTHING 
  have c__sum_span := ok__sum_span (P := P) (w := w) (base := base) D__sum_span c__has_integers v_ANY 
  have c__either_span := ok__either_span (P := P) (w := w) (base := base) D__either_span c_before v_ANY 
  have c__binary_span := ok__binary_span (P := P) (w := w) (base := base) D__binary_span c__and_span c__comparison_span c__either_span c__or_span c__sum_span v_ANY 
  have c__column_span := ok__column_span (P := P) (w := w) (base := base) D__column_span C_Zone I_Zone N_Zone y_len v__NOTHING w__NOTHING 
  have c_span_of_0 : C8.Cal P w K mg base 7 "span_of" (spR_span_of 0 K) [] := cal_no D_span_of sc_span_of (fun _ _ _ _ h => h.elim)
  have c_span_of_1 := ok_span_of (P := P) (w := w) (base := base) (rn := 0) D_span_of c__binary_span c__column_span c__either_span c__unary_span v_ANY  c_span_of_0
  have c_span_of_2 := ok_span_of (P := P) (w := w) (base := base) (rn := 1) D_span_of c__binary_span c__column_span c__either_span c__unary_span v_ANY  c_span_of_1
  have c_span_of_3 := ok_span_of (P := P) (w := w) (base := base) (rn := 2) D_span_of c__binary_span c__column_span c__either_span c__unary_span v_ANY  c_span_of_2
  have c_span_of_4 := ok_span_of (P := P) (w := w) (base := base) (rn := 3) D_span_of c__binary_span c__column_span c__either_span c__unary_span v_ANY  c_span_of_3
  have c_span_of_5 := ok_span_of (P := P) (w := w) (base := base) (rn := 4) D_span_of c__binary_span c__column_span c__either_span c__unary_span v_ANY  c_span_of_4
  have c_span_of_6 := ok_span_of (P := P) (w := w) (base := base) (rn := 5) D_span_of c__binary_span c__column_span c__either_span c__unary_span v_ANY  c_span_of_5
  have c_span_of : C8.Cal P w K mg base 13 "span_of" (sp_span_of K) [] := c_span_of_6
  have c_may_hold := ok_may_hold (P := P) (w := w) (base := base) D_may_hold c_can_be c_span_of 
  have c_is_day := ok_is_day (P := P) (w := w) (base := base) D_is_day c_is_integer v_FIRST_DAY v_LAST_DAY 
  have c_limited := ok_limited (P := P) (w := w) (base := base) D_limited v_GREATEST 
  have c_negated := ok_negated (P := P) (w := w) (base := base) D_negated 
  have c_both := ok_both (P := P) (w := w) (base := base) D_both 
  have c_either := ok_either (P := P) (w := w) (base := base) D_either 
  have c__negate := ok__negate (P := P) (w := w) (base := base) D__negate 
  have c__size := ok__size (P := P) (w := w) (base := base) D__size y_abs 
  have c__value := ok__value (P := P) (w := w) (base := base) D__value 
  have c__to_decimal := ok__to_decimal (P := P) (w := w) (base := base) D__to_decimal c_limited 
  have c__length := ok__length (P := P) (w := w) (base := base) D__length y_len 
  have tab1 : ∀ nm x, nm ∈ unL → nm ≠ "not" → nm ≠ "is null" → Opr1 P w K mg base p_OF_INTEGERS_of_one p_OF_TEXTS_of_one p_OF_DATES_of_one nm x (unV nm x) := by
    intro nm x h n1 n2
    simp only [unL, List.mem_cons, List.not_mem_nil, or_false] at h
    rcases h with rfl | rfl | rfl | rfl | rfl | rfl | rfl | rfl | rfl
    · exact (n1 rfl).elim
    · exact (n2 rfl).elim
    · exact .inty e_OF_INTEGERS_of_one_0 (held_of c__negate (PySem.W.mg_of X G a29) (by decide))
    · exact .inty e_OF_INTEGERS_of_one_1 (held_of c__size (PySem.W.mg_of X G a30) (by decide))
    · exact .days e_OF_INTEGERS_of_one_5 e_OF_TEXTS_of_one_1 e_OF_DATES_of_one_0 (held_of c__value (PySem.W.mg_of X G a31) (by decide))
    · exact .inty e_OF_INTEGERS_of_one_2 (heldI (held_of c__value (PySem.W.mg_of X G a31) (by decide)) fun vs H Q E ⟨x, h1, _, h3⟩ => ⟨x, h1, trivial, h3⟩)
    · exact .inty e_OF_INTEGERS_of_one_3 (held_of c__to_decimal (PySem.W.mg_of X G a32) (by decide))
    · exact (n2 rfl).elim
    · exact .wrds e_OF_INTEGERS_of_one_4 e_OF_TEXTS_of_one_0 (held_of c__length (PySem.W.mg_of X G a33) (by decide))
  have c_value_of_one := ok_value_of_one (P := P) (w := w) (base := base) D_value_of_one c_is_day c_is_integer c_negated y_isinstance y_str v_OF_DATES_of_one w_OF_DATES_of_one v_OF_INTEGERS_of_one w_OF_INTEGERS_of_one v_OF_TEXTS_of_one w_OF_TEXTS_of_one tab1
  have c__both := ok__both (P := P) (w := w) (base := base) D__both c_both 
  have c__either := ok__either (P := P) (w := w) (base := base) D__either c_either 
  have c__same := ok__same (P := P) (w := w) (base := base) D__same c_same 
  have c__first_known := ok__first_known (P := P) (w := w) (base := base) D__first_known 
  have c__equal := ok__equal (P := P) (w := w) (base := base) D__equal c_same 
  have c__less := ok__less (P := P) (w := w) (base := base) D__less c_before 
  have c__at_most := ok__at_most (P := P) (w := w) (base := base) D__at_most c_before 
  have c__add := ok__add (P := P) (w := w) (base := base) D__add c_limited 
  have c__subtract := ok__subtract (P := P) (w := w) (base := base) D__subtract c_limited 
  have c__multiply := ok__multiply (P := P) (w := w) (base := base) D__multiply c_limited 
  have c__add_days := ok__add_days (P := P) (w := w) (base := base) D__add_days c_is_day 
  have c__are_alike := ok__are_alike (P := P) (w := w) (base := base) D__are_alike c_kind_rank 
  have tab : ∀ nm x y, nm ∈ binL → Ok x → Ok y → Opr2 P w K mg base p__OF_ANY p__OF_ALIKE p_OF_INTEGERS_of_two p_OF_TEXTS_of_two p_OF_DATES_of_two nm x y (binV nm x y) := by
    intro nm x y h hx hy
    have hAdd := held_of (k := 4) c__add (PySem.W.mg_of X G a42) (by decide)
    have hLess := held_of (k := 4) c__less (PySem.W.mg_of X G a40) (by decide)
    simp only [binL, List.mem_cons, List.not_mem_nil, or_false] at h
    rcases h with rfl | rfl | rfl | rfl | rfl | rfl | rfl | rfl | rfl | rfl | rfl | rfl
    · exact .any e__OF_ANY_0 (held_of c__both (PySem.W.mg_of X G a35) (by decide)) trivial
    · exact .any e__OF_ANY_1 (held_of c__either (PySem.W.mg_of X G a36) (by decide)) trivial
    · exact .alike e__OF_ANY_4 e__OF_ALIKE_0 (held_of c__equal (PySem.W.mg_of X G a39) (by decide))
    · exact .alike e__OF_ANY_5 e__OF_ALIKE_1 hLess
    · exact .alike e__OF_ANY_6 e__OF_ALIKE_2 (held_of c__at_most (PySem.W.mg_of X G a41) (by decide))
    · exact .nums e__OF_ANY_7 e__OF_ALIKE_3 e_OF_INTEGERS_of_two_0 hAdd
    · exact .nums e__OF_ANY_8 e__OF_ALIKE_4 e_OF_INTEGERS_of_two_1 (held_of c__subtract (PySem.W.mg_of X G a43) (by decide))
    · exact .any e__OF_ANY_3 (held_of c__first_known (PySem.W.mg_of X G a38) (by decide)) trivial
    · exact .days e__OF_ANY_10 e__OF_ALIKE_6 e_OF_INTEGERS_of_two_3 e_OF_TEXTS_of_two_0 e_OF_DATES_of_two_0 (held_of c__add_days (PySem.W.mg_of X G a45) (by decide))
    · exact .any e__OF_ANY_2 (held_of c__same (PySem.W.mg_of X G a37) (by decide)) ⟨hx, hy⟩
    · exact .nums e__OF_ANY_9 e__OF_ALIKE_5 e_OF_INTEGERS_of_two_2 (held_of c__multiply (PySem.W.mg_of X G a44) (by decide))
    · exact .alike e__OF_ANY_5 e__OF_ALIKE_1 hLess
  have c_value_of_two := ok_value_of_two (P := P) (w := w) (base := base) D_value_of_two c__are_alike c_is_day c_is_integer v_OF_DATES_of_two w_OF_DATES_of_two v_OF_INTEGERS_of_two w_OF_INTEGERS_of_two v_OF_TEXTS_of_two w_OF_TEXTS_of_two v__OF_ALIKE w__OF_ALIKE v__OF_ANY w__OF_ANY tab
  have c_unary := ok_unary (P := P) (w := w) (base := base) D_unary c_value_of_one 
  have c_binary := ok_binary (P := P) (w := w) (base := base) D_binary c_value_of_two 
  have c_evaluate_0 : C8.Cal P w K mg base 7 "evaluate" (spR_evaluate 0 K) [] := cal_no D_evaluate sc_evaluate (fun _ _ _ _ h => h.elim)
  have c_evaluate_1 := ok_evaluate (P := P) (w := w) (base := base) (rn := 0) D_evaluate c_binary c_unary y_len  c_evaluate_0
  have c_evaluate_2 := ok_evaluate (P := P) (w := w) (base := base) (rn := 1) D_evaluate c_binary c_unary y_len  c_evaluate_1
  have c_evaluate_3 := ok_evaluate (P := P) (w := w) (base := base) (rn := 2) D_evaluate c_binary c_unary y_len  c_evaluate_2
  have c_evaluate_4 := ok_evaluate (P := P) (w := w) (base := base) (rn := 3) D_evaluate c_binary c_unary y_len  c_evaluate_3
  have c_evaluate_5 := ok_evaluate (P := P) (w := w) (base := base) (rn := 4) D_evaluate c_binary c_unary y_len  c_evaluate_4
  have c_evaluate_6 := ok_evaluate (P := P) (w := w) (base := base) (rn := 5) D_evaluate c_binary c_unary y_len  c_evaluate_5
  have c_evaluate : C8.Cal P w K mg base 13 "evaluate" (sp_evaluate K) [] := c_evaluate_6
  have c_holds := ok_holds (P := P) (w := w) (base := base) D_holds c_evaluate 
  have c__law_cell := ok__law_cell (P := P) (w := w) (base := base) D__law_cell y_len 
  have c__law_state := ok__law_state (P := P) (w := w) (base := base) D__law_state y_int 
  have c__law_digit := ok__law_digit (P := P) (w := w) (base := base) D__law_digit y_int 
  have c__law_is_integer := ok__law_is_integer (P := P) (w := w) (base := base) D__law_is_integer y_bool y_int y_isinstance 
  have c__law_rank := ok__law_rank (P := P) (w := w) (base := base) D__law_rank y_bool y_int y_isinstance 
  have c__law_text := ok__law_text (P := P) (w := w) (base := base) D__law_text c__law_digit y_range 
  have c__law_value := ok__law_value (P := P) (w := w) (base := base) D__law_value c__law_digit c__law_text 
  have c__law_leaf := ok__law_leaf (P := P) (w := w) (base := base) D__law_leaf c__law_digit c__law_value 
  have c__law_expression_0 : C8.Cal P w K mg base 5 "_law_expression" (spR__law_expression 0 K) [] := cal_no D__law_expression sc__law_expression (fun _ _ _ _ h => h.elim)
  have c__law_expression_1 := ok__law_expression (P := P) (w := w) (base := base) (rn := 0) D__law_expression c__law_digit c__law_leaf  c__law_expression_0
  have c__law_expression_2 := ok__law_expression (P := P) (w := w) (base := base) (rn := 1) D__law_expression c__law_digit c__law_leaf  c__law_expression_1
  have c__law_expression_3 := ok__law_expression (P := P) (w := w) (base := base) (rn := 2) D__law_expression c__law_digit c__law_leaf  c__law_expression_2
  have c__law_expression_4 := ok__law_expression (P := P) (w := w) (base := base) (rn := 3) D__law_expression c__law_digit c__law_leaf  c__law_expression_3
  have c__law_expression_5 := ok__law_expression (P := P) (w := w) (base := base) (rn := 4) D__law_expression c__law_digit c__law_leaf  c__law_expression_4
  have c__law_expression : C8.Cal P w K mg base 10 "_law_expression" (sp__law_expression K) [] := c__law_expression_5
  have c__law_condition_0 : C8.Cal P w K mg base 4 "_law_condition" (spR__law_condition 0 K) [] := cal_no D__law_condition sc__law_condition (fun _ _ _ _ h => h.elim)
  have c__law_condition_1 := ok__law_condition (P := P) (w := w) (base := base) (rn := 0) D__law_condition c__law_digit c__law_value  c__law_condition_0
  have c__law_condition_2 := ok__law_condition (P := P) (w := w) (base := base) (rn := 1) D__law_condition c__law_digit c__law_value  c__law_condition_1
  have c__law_condition_3 := ok__law_condition (P := P) (w := w) (base := base) (rn := 2) D__law_condition c__law_digit c__law_value  c__law_condition_2
  have c__law_condition_4 := ok__law_condition (P := P) (w := w) (base := base) (rn := 3) D__law_condition c__law_digit c__law_value  c__law_condition_3
  have c__law_condition : C8.Cal P w K mg base 8 "_law_condition" (sp__law_condition K) [] := c__law_condition_4
  have c__law_inside := ok__law_inside (P := P) (w := w) (base := base) D__law_inside c__law_rank 
  exact ok_law (P := P) (w := w) (base := base)  c__law_cell c__law_condition c__law_digit c__law_expression c__law_inside c__law_is_integer c__law_state c__law_value c_evaluate c_holds c_may_hold c_span_of c_zone_of y_len y_max y_min y_range nd h63 hS hr
end My
def PySem.W.Fast.tw4969699997071617348 : Unit := ()
open PySem PySem.W PyProof.Rows
set_option maxHeartbeats 0 in
theorem PySem.Challenge.cw_stylobate_k50_whole_skipped_groups_hold_holds : PySem.Challenge.rw_stylobate_k50_whole_skipped_groups_hold.Holds := by
  w_on; o_law; k_head; (case hw => w_witness2)
  k_fill
  refine My.walk_here (l := PySem.Challenge.rw_stylobate_k50_whole_skipped_groups_hold) (n := 63) (k := 14) rfl (by decide) rfl ⟨rfl, by decide, by decide⟩ (fun w h Y => PySem.W.kIn_of Y) My.sc_law ?F
  case F =>
    intro w mg fa h KX G hmg
    refine' My.all_mk KX G hmg ?qC_Zone ?pgC_Zone ?hdC_Zone ?poC_Zone ?saC_Zone ?mkC_Zone ?kcC_Zone ?haC_Zone ?hnC_Zone ?htC_Zone ?hmC_Zone ?meC_Zone ?kiC_Zone ?niC_Zone ?hqC_Zone ?naC_Zone_0 ?naC_Zone_1 ?naC_Zone_2 ?naC_Zone_3 ?a0 ?l0 ?b0 ?k0 ?a1 ?l1 ?b1 ?k1 ?a2 ?l2 ?b2 ?k2 ?a3 ?l3 ?b3 ?k3 ?a4 ?l4 ?b4 ?k4 ?a5 ?iF5 ?l5 ?b5 ?k5 ?a6 ?l6 ?b6 ?k6 ?a7 ?l7 ?b7 ?k7 ?a8 ?l8 ?b8 ?k8 ?a9 ?l9 ?b9 ?k9 ?a10 ?l10 ?b10 ?k10 ?a11 ?l11 ?b11 ?k11 ?a12 ?l12 ?b12 ?k12 ?a13 ?l13 ?b13 ?k13 ?a14 ?l14 ?b14 ?k14 ?a15 ?l15 ?b15 ?k15 ?a16 ?l16 ?b16 ?k16 ?a17 ?l17 ?b17 ?k17 ?a18 ?l18 ?b18 ?k18 ?a19 ?l19 ?b19 ?k19 ?a20 ?l20 ?b20 ?k20 ?a21 ?l21 ?b21 ?k21 ?a22 ?l22 ?b22 ?k22 ?a23 ?l23 ?b23 ?k23 ?a24 ?l24 ?b24 ?k24 ?a25 ?l25 ?b25 ?k25 ?a26 ?l26 ?b26 ?k26 ?a27 ?l27 ?b27 ?k27 ?a28 ?l28 ?b28 ?k28 ?a29 ?l29 ?b29 ?k29 ?a30 ?l30 ?b30 ?k30 ?a31 ?l31 ?b31 ?k31 ?a32 ?l32 ?b32 ?k32 ?a33 ?l33 ?b33 ?k33 ?a34 ?l34 ?b34 ?k34 ?a35 ?l35 ?b35 ?k35 ?a36 ?l36 ?b36 ?k36 ?a37 ?l37 ?b37 ?k37 ?a38 ?l38 ?b38 ?k38 ?a39 ?l39 ?b39 ?k39 ?a40 ?l40 ?b40 ?k40 ?a41 ?l41 ?b41 ?k41 ?a42 ?l42 ?b42 ?k42 ?a43 ?l43 ?b43 ?k43 ?a44 ?l44 ?b44 ?k44 ?a45 ?l45 ?b45 ?k45 ?a46 ?l46 ?b46 ?k46 ?a47 ?l47 ?b47 ?k47 ?a48 ?l48 ?b48 ?k48 ?a49 ?l49 ?b49 ?k49 ?a50 ?l50 ?b50 ?k50 ?a51 ?l51 ?b51 ?k51 ?a52 ?l52 ?b52 ?k52 ?a53 ?l53 ?b53 ?k53 ?a54 ?l54 ?b54 ?k54 ?a55 ?l55 ?b55 ?k55 ?a56 ?l56 ?b56 ?k56 ?a57 ?l57 ?b57 ?k57 ?a58 ?l58 ?b58 ?k58 ?a59 ?l59 ?b59 ?k59 ?a60 ?l60 ?b60 ?k60 ?a61 ?l61 ?b61 ?k61 ?a62 ?l62 ?b62 ?k62 ?a63 ?l63 ?b63 ?k63 ?z_abs ?z_bool ?z_int ?z_isinstance ?z_len ?z_max ?z_min ?z_range ?z_str ?q_ANY ?e_ANY ?q_FIRST_DAY ?q_GREATEST ?q_LAST_DAY ?q_OF_DATES_of_one ?ka_OF_DATES_of_one ?kl_OF_DATES_of_one ?ko_OF_DATES_of_one ?e_OF_DATES_of_one_0 ?q_OF_DATES_of_two ?ka_OF_DATES_of_two ?kl_OF_DATES_of_two ?ko_OF_DATES_of_two ?e_OF_DATES_of_two_0 ?q_OF_INTEGERS_of_one ?ka_OF_INTEGERS_of_one ?kl_OF_INTEGERS_of_one ?ko_OF_INTEGERS_of_one ?e_OF_INTEGERS_of_one_0 ?e_OF_INTEGERS_of_one_1 ?e_OF_INTEGERS_of_one_2 ?e_OF_INTEGERS_of_one_3 ?e_OF_INTEGERS_of_one_4 ?e_OF_INTEGERS_of_one_5 ?q_OF_INTEGERS_of_two ?ka_OF_INTEGERS_of_two ?kl_OF_INTEGERS_of_two ?ko_OF_INTEGERS_of_two ?e_OF_INTEGERS_of_two_0 ?e_OF_INTEGERS_of_two_1 ?e_OF_INTEGERS_of_two_2 ?e_OF_INTEGERS_of_two_3 ?q_OF_TEXTS_of_one ?ka_OF_TEXTS_of_one ?kl_OF_TEXTS_of_one ?ko_OF_TEXTS_of_one ?e_OF_TEXTS_of_one_0 ?e_OF_TEXTS_of_one_1 ?q_OF_TEXTS_of_two ?ka_OF_TEXTS_of_two ?kl_OF_TEXTS_of_two ?ko_OF_TEXTS_of_two ?e_OF_TEXTS_of_two_0 ?q__NOTHING ?r__NOTHING ?q__OF_ALIKE ?ka__OF_ALIKE ?kl__OF_ALIKE ?ko__OF_ALIKE ?e__OF_ALIKE_0 ?e__OF_ALIKE_1 ?e__OF_ALIKE_2 ?e__OF_ALIKE_3 ?e__OF_ALIKE_4 ?e__OF_ALIKE_5 ?e__OF_ALIKE_6 ?q__OF_ANY ?ka__OF_ANY ?kl__OF_ANY ?ko__OF_ANY ?e__OF_ANY_0 ?e__OF_ANY_1 ?e__OF_ANY_2 ?e__OF_ANY_3 ?e__OF_ANY_4 ?e__OF_ANY_5 ?e__OF_ANY_6 ?e__OF_ANY_7 ?e__OF_ANY_8 ?e__OF_ANY_9 ?e__OF_ANY_10
    (case qC_Zone => k_is); (case pgC_Zone => k_is); (case hdC_Zone => k_is); (case poC_Zone => k_is); (case saC_Zone => k_is); (case mkC_Zone => k_is); (case kcC_Zone => k_is); (case haC_Zone => k_is); (case hnC_Zone => k_is); (case htC_Zone => k_is); (case hmC_Zone => k_is); (case meC_Zone => kit_is); (case kiC_Zone => kit_is); (case niC_Zone => k_is); (case hqC_Zone => k_is); (case naC_Zone_0 => k_is); (case naC_Zone_1 => k_is); (case naC_Zone_2 => k_is); (case naC_Zone_3 => k_is); (case a0 => k_is); (case l0 => k_is); (case b0 => k_is); (case k0 => k_is); (case a1 => k_is); (case l1 => k_is); (case b1 => k_is); (case k1 => k_is); (case a2 => k_is); (case l2 => k_is); (case b2 => k_is); (case k2 => k_is); (case a3 => k_is); (case l3 => k_is); (case b3 => k_is); (case k3 => k_is); (case a4 => k_is); (case l4 => k_is); (case b4 => k_is); (case k4 => k_is); (case a5 => k_is); (case iF5 => k_is); (case l5 => k_is); (case b5 => k_is); (case k5 => k_is); (case a6 => k_is); (case l6 => k_is); (case b6 => k_is); (case k6 => k_is); (case a7 => k_is); (case l7 => k_is); (case b7 => k_is); (case k7 => k_is); (case a8 => k_is); (case l8 => k_is); (case b8 => k_is); (case k8 => k_is); (case a9 => k_is); (case l9 => k_is); (case b9 => k_is); (case k9 => k_is); (case a10 => k_is); (case l10 => k_is); (case b10 => k_is); (case k10 => k_is); (case a11 => k_is); (case l11 => k_is); (case b11 => k_is); (case k11 => k_is); (case a12 => k_is); (case l12 => k_is); (case b12 => k_is); (case k12 => k_is); (case a13 => k_is); (case l13 => k_is); (case b13 => k_is); (case k13 => k_is); (case a14 => k_is); (case l14 => k_is); (case b14 => k_is); (case k14 => k_is); (case a15 => k_is); (case l15 => k_is); (case b15 => k_is); (case k15 => k_is); (case a16 => k_is); (case l16 => k_is); (case b16 => k_is); (case k16 => k_is); (case a17 => k_is); (case l17 => k_is); (case b17 => k_is); (case k17 => k_is); (case a18 => k_is); (case l18 => k_is); (case b18 => k_is); (case k18 => k_is); (case a19 => k_is); (case l19 => k_is); (case b19 => k_is); (case k19 => k_is); (case a20 => k_is); (case l20 => k_is); (case b20 => k_is); (case k20 => k_is); (case a21 => k_is); (case l21 => k_is); (case b21 => k_is); (case k21 => k_is); (case a22 => k_is); (case l22 => k_is); (case b22 => k_is); (case k22 => k_is); (case a23 => k_is); (case l23 => k_is); (case b23 => k_is); (case k23 => k_is); (case a24 => k_is); (case l24 => k_is); (case b24 => k_is); (case k24 => k_is); (case a25 => k_is); (case l25 => k_is); (case b25 => k_is); (case k25 => k_is); (case a26 => k_is); (case l26 => k_is); (case b26 => k_is); (case k26 => k_is); (case a27 => k_is); (case l27 => k_is); (case b27 => k_is); (case k27 => k_is); (case a28 => k_is); (case l28 => k_is); (case b28 => k_is); (case k28 => k_is); (case a29 => k_is); (case l29 => k_is); (case b29 => k_is); (case k29 => k_is); (case a30 => k_is); (case l30 => k_is); (case b30 => k_is); (case k30 => k_is); (case a31 => k_is); (case l31 => k_is); (case b31 => k_is); (case k31 => k_is); (case a32 => k_is); (case l32 => k_is); (case b32 => k_is); (case k32 => k_is); (case a33 => k_is); (case l33 => k_is); (case b33 => k_is); (case k33 => k_is); (case a34 => k_is); (case l34 => k_is); (case b34 => k_is); (case k34 => k_is); (case a35 => k_is); (case l35 => k_is); (case b35 => k_is); (case k35 => k_is); (case a36 => k_is); (case l36 => k_is); (case b36 => k_is); (case k36 => k_is); (case a37 => k_is); (case l37 => k_is); (case b37 => k_is); (case k37 => k_is); (case a38 => k_is); (case l38 => k_is); (case b38 => k_is); (case k38 => k_is); (case a39 => k_is); (case l39 => k_is); (case b39 => k_is); (case k39 => k_is); (case a40 => k_is); (case l40 => k_is); (case b40 => k_is); (case k40 => k_is); (case a41 => k_is); (case l41 => k_is); (case b41 => k_is); (case k41 => k_is); (case a42 => k_is); (case l42 => k_is); (case b42 => k_is); (case k42 => k_is); (case a43 => k_is); (case l43 => k_is); (case b43 => k_is); (case k43 => k_is); (case a44 => k_is); (case l44 => k_is); (case b44 => k_is); (case k44 => k_is); (case a45 => k_is); (case l45 => k_is); (case b45 => k_is); (case k45 => k_is); (case a46 => k_is); (case l46 => k_is); (case b46 => k_is); (case k46 => k_is); (case a47 => k_is); (case l47 => k_is); (case b47 => k_is); (case k47 => k_is); (case a48 => k_is); (case l48 => k_is); (case b48 => k_is); (case k48 => k_is); (case a49 => k_is); (case l49 => k_is); (case b49 => k_is); (case k49 => k_is); (case a50 => k_is); (case l50 => k_is); (case b50 => k_is); (case k50 => k_is); (case a51 => k_is); (case l51 => k_is); (case b51 => k_is); (case k51 => k_is); (case a52 => k_is); (case l52 => k_is); (case b52 => k_is); (case k52 => k_is); (case a53 => k_is); (case l53 => k_is); (case b53 => k_is); (case k53 => k_is); (case a54 => k_is); (case l54 => k_is); (case b54 => k_is); (case k54 => k_is); (case a55 => k_is); (case l55 => k_is); (case b55 => k_is); (case k55 => k_is); (case a56 => k_is); (case l56 => k_is); (case b56 => k_is); (case k56 => k_is); (case a57 => k_is); (case l57 => k_is); (case b57 => k_is); (case k57 => k_is); (case a58 => k_is); (case l58 => k_is); (case b58 => k_is); (case k58 => k_is); (case a59 => k_is); (case l59 => k_is); (case b59 => k_is); (case k59 => k_is); (case a60 => k_is); (case l60 => k_is); (case b60 => k_is); (case k60 => k_is); (case a61 => k_is); (case l61 => k_is); (case b61 => k_is); (case k61 => k_is); (case a62 => k_is); (case l62 => k_is); (case b62 => k_is); (case k62 => k_is); (case a63 => k_is); (case l63 => k_is); (case b63 => k_is); (case k63 => k_is); (case z_abs => k_is); (case z_bool => k_is); (case z_int => k_is); (case z_isinstance => k_is); (case z_len => k_is); (case z_max => k_is); (case z_min => k_is); (case z_range => k_is); (case z_str => k_is); (case q_ANY => k_is); (case q_FIRST_DAY => k_is); (case q_GREATEST => k_is); (case q_LAST_DAY => k_is); (case q_OF_DATES_of_one => k_is); (case ka_OF_DATES_of_one => k_is); (case e_OF_DATES_of_one_0 => k_is); (case q_OF_DATES_of_two => k_is); (case ka_OF_DATES_of_two => k_is); (case e_OF_DATES_of_two_0 => k_is); (case q_OF_INTEGERS_of_one => k_is); (case ka_OF_INTEGERS_of_one => k_is); (case e_OF_INTEGERS_of_one_0 => k_is); (case e_OF_INTEGERS_of_one_1 => k_is); (case e_OF_INTEGERS_of_one_2 => k_is); (case e_OF_INTEGERS_of_one_3 => k_is); (case e_OF_INTEGERS_of_one_4 => k_is); (case e_OF_INTEGERS_of_one_5 => k_is); (case q_OF_INTEGERS_of_two => k_is); (case ka_OF_INTEGERS_of_two => k_is); (case e_OF_INTEGERS_of_two_0 => k_is); (case e_OF_INTEGERS_of_two_1 => k_is); (case e_OF_INTEGERS_of_two_2 => k_is); (case e_OF_INTEGERS_of_two_3 => k_is); (case q_OF_TEXTS_of_one => k_is); (case ka_OF_TEXTS_of_one => k_is); (case e_OF_TEXTS_of_one_0 => k_is); (case e_OF_TEXTS_of_one_1 => k_is); (case q_OF_TEXTS_of_two => k_is); (case ka_OF_TEXTS_of_two => k_is); (case e_OF_TEXTS_of_two_0 => k_is); (case q__NOTHING => k_is); (case q__OF_ALIKE => k_is); (case ka__OF_ALIKE => k_is); (case e__OF_ALIKE_0 => k_is); (case e__OF_ALIKE_1 => k_is); (case e__OF_ALIKE_2 => k_is); (case e__OF_ALIKE_3 => k_is); (case e__OF_ALIKE_4 => k_is); (case e__OF_ALIKE_5 => k_is); (case e__OF_ALIKE_6 => k_is); (case q__OF_ANY => k_is); (case ka__OF_ANY => k_is); (case e__OF_ANY_0 => k_is); (case e__OF_ANY_1 => k_is); (case e__OF_ANY_2 => k_is); (case e__OF_ANY_3 => k_is); (case e__OF_ANY_4 => k_is); (case e__OF_ANY_5 => k_is); (case e__OF_ANY_6 => k_is); (case e__OF_ANY_7 => k_is); (case e__OF_ANY_8 => k_is); (case e__OF_ANY_9 => k_is); (case e__OF_ANY_10 => k_is)
    (case e_ANY => decide +kernel)
    (case kl_OF_DATES_of_one => k_keys)
    (case ko_OF_DATES_of_one => decide)
    (case kl_OF_DATES_of_two => k_keys)
    (case ko_OF_DATES_of_two => decide)
    (case kl_OF_INTEGERS_of_one => k_keys)
    (case ko_OF_INTEGERS_of_one => decide)
    (case kl_OF_INTEGERS_of_two => k_keys)
    (case ko_OF_INTEGERS_of_two => decide)
    (case kl_OF_TEXTS_of_one => k_keys)
    (case ko_OF_TEXTS_of_one => decide)
    (case kl_OF_TEXTS_of_two => k_keys)
    (case ko_OF_TEXTS_of_two => decide)
    (case r__NOTHING => exact fun _ => .inr ⟨_, _, _, (by k_is), rfl, rfl, by decide, by repeat (first | exact .nil | refine .cons ⟨_, rfl⟩ ?_ | refine .cons rfl ?_)⟩)
    (case kl__OF_ALIKE => k_keys)
    (case ko__OF_ALIKE => decide)
    (case kl__OF_ANY => k_keys)
    (case ko__OF_ANY => decide)
