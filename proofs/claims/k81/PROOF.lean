import PyProof.Rows.All
import Wide.All
import OpenK.AllK
import Wide.FinOn
import HandS.ForMost
import HandS.Codes
import HandS.Evl
import HandS.IsInst
import HandS.Wide
import HandS.Defaults
import HandS.Walk
import HandS.Flow
import HandS.TupAny
import HandS.Zip
import HandS.Property
import HandS.OwnEq
import HandS.Deep
import HandS.WideBits
import HandS.Iter
import HandS.Rev
import HandS.SortKw
import HandS.Keys
import HandS.TupLe
import HandS.Dict
import HandS.DictComp
import HandS.Text
import HandS.StrMore
import HandS.FStr
import HandS.Style
import HandS.More
import HandS.CallLocal
import HandS.Conv
import HandS.Flt
import HandS.RaiseMore
import HandS.ReplaceLit
import HandS.Nested
import HandS.ExcInit
import HandS.ExcField
import HandS.WordsExc
import HandS.ClsMeth
import HandS.MakeKwOnly
import KE.KExcSuper
import KE.KExcIs
import KE.KEqSeq
import KE.DataEq
import PyProof.StrOps2
import PyProof.StrLawsFrom
import KE.RegKIsAll
import KE.KDictZip
import PyProof.FString
import PyProof.FString4
import PyProof.StrLawsReplace
import PySem.Challenge.RW_stylobate_k81_faults_of_texts
set_option Elab.async false
set_option linter.all false
set_option maxRecDepth 100000
set_option maxHeartbeats 4000000
namespace My
open PySem PySem.Spec PyProof.Rows L2 Evl
def Dn (K : PySem.W.Frag) (mg : Str → Option Value) (x : Str) (st : Stmt) (ps : List Str) : Prop := ∃ f fd, C8.Def K mg x st f fd ∧ Binds K fd ps []
section
variable {P : Program} {w : World} {K : PySem.W.Frag} {mg : Str → Option Value} {base : Heap}
theorem cal_of {x : Str} {st : Stmt} {N ps : List Str} {k : Nat} {sp : Sp} (D : Dn K mg x st ps) (S : FnScope N ps (C8.fnScope st)) (len : ∀ vs H Q E, sp vs H Q E → vs.length = ps.length)
    (hbody : ∀ (f : Addr) (cdv : Value) (A : Around) (outer : List Env) (s : Shared) (H : Hp) (vs : List V) (Q : VK) (E : XK), Room k (A.deeper (envOfC x (C8.fnScope st) s.heap.objs.size f cdv)) → sp vs H Q E →
      ∃ t, PSs (cxOf C8.CX0 P w K mg base N x (C8.fnScope st) f cdv A outer s H E).nox (C8.fnBody st) t ∧ t { nx := fun _ H' => Q .non H', rt := Q } (start N vs) H) : C8.Cal P w K mg base (k + 1) x sp [] := by
  obtain ⟨f, fd, F, b⟩ := D
  exact C8.cal0 F b .nil S len (hbody f)
theorem def_mk {x : Str} {st : Stmt} {f : Addr} {oc : Value} {od an : Option Addr} {osl : Array (Option Value)} {kV doc pm cdv ct : Value}
    (l : K.lookup f = some ⟨oc, od, .func (PySem.W.fnOf x x (C8.fnArgs st) (C8.fnBody st) (C8.fnScope st) .none kV doc pm an cdv ct), osl⟩)
    (c : PySem.W.codeIn K cdv x = true) (k : PySem.W.keepIn K (.ref f) = true) (m : mg x = some (.ref f)) : C8.Def K mg x st f (PySem.W.fnOf x x (C8.fnArgs st) (C8.fnBody st) (C8.fnScope st) .none kV doc pm an cdv ct) :=
  ⟨⟨oc, od, .none, kV, doc, pm, an, cdv, ct, osl, rfl, l, c⟩, m, k⟩
theorem dn_mk {x : Str} {st : Stmt} {f : Addr} {oc : Value} {od an : Option Addr} {osl : Array (Option Value)} {kV doc pm cdv ct : Value} {ps : List Str}
    (l : K.lookup f = some ⟨oc, od, .func (PySem.W.fnOf x x (C8.fnArgs st) (C8.fnBody st) (C8.fnScope st) .none kV doc pm an cdv ct), osl⟩)
    (c : PySem.W.codeIn K cdv x = true) (k : PySem.W.keepIn K (.ref f) = true) (m : mg x = some (.ref f))
    (h : ∀ (kV doc pm : Value) (an : Option Addr) (cdv ct : Value) (us : List Value), us.length = ps.length → bindArgs (PySem.W.fnOf x x (C8.fnArgs st) (C8.fnBody st) (C8.fnScope st) .none kV doc pm an cdv ct) ⟨us, []⟩ = pure (ps.zip us)) : Dn K mg x st ps :=
  ⟨f, _, def_mk l c k m, C8.Fun.binds (def_mk l c k m).fn rfl h⟩
end
def rIsT : R2 := fun x y H Q => ∃ b : Bool, y = .bl b ∧ Q (.bl (decide (x = .bl b))) H
def rNotT : R2 := fun x y H Q => ∃ b : Bool, y = .bl b ∧ Q (.bl (!decide (x = .bl b))) H
section
variable {K : PySem.W.Frag} {σ : L2.St} {H H' : Hp} {ta tb te tx : TE} {t u : TT} {x y z v : V} {r : R2}
theorem rv_isT {b : Bool} : RV rIsT x (.bl b) H (.bl (decide (x = .bl b))) := fun H1 _ _ q => ⟨b, rfl, q H1 (Ex.refl H1)⟩
theorem rv_notT {b : Bool} : RV rNotT x (.bl b) H (.bl (!decide (x = .bl b))) := fun H1 _ _ q => ⟨b, rfl, q H1 (Ex.refl H1)⟩
theorem rv_isN : RV (fun x y H Q => y = .non ∧ Q (.bl (decide (x = .non))) H) x .non H (.bl (decide (x = .non))) := fun H1 _ _ q => ⟨rfl, q H1 (Ex.refl H1)⟩
theorem rv_notN : RV (fun x y H Q => y = .non ∧ Q (.bl (!decide (x = .non))) H) x .non H (.bl (!decide (x = .non))) := fun H1 _ _ q => ⟨rfl, q H1 (Ex.refl H1)⟩
theorem ev_int {i : Int} (h : Ev ta σ H (.int i)) : Ev (tCB (fun xs H Q => (∃ i, xs = [.int i] ∧ Q (.int i) H) ∨ ∃ k, xs = [.bl k] ∧ Q (.int (if k then 1 else 0)) H) (tCons ta tNil)) σ H (.int i) :=
  fun H1 e Q q => h H1 e _ fun H2 e2 => .inl ⟨i, rfl, q H2 e2⟩
theorem ev_abs {i : Int} (h : Ev ta σ H (.int i)) : Ev (tCB (fun xs H Q => ∃ i, xs = [.int i] ∧ Q (.int (if i < 0 then -i else i)) H) (tCons ta tNil)) σ H (.int (if i < 0 then -i else i)) :=
  fun H1 e Q q => h H1 e _ fun H2 e2 => ⟨i, rfl, q H2 e2⟩
theorem ev_min2 {i j : Int} (ha : Ev ta σ H (.int i)) (hb : Ev tb σ H (.int j)) : Ev (tCB (fun xs H Q => ∃ i j, xs = [.int i, .int j] ∧ Q (.int (if j < i then j else i)) H) (tCons ta (tCons tb tNil))) σ H (.int (if j < i then j else i)) := fun H1 e Q q =>
  ha H1 e _ fun H2 e2 => hb H2 (e.trans e2) _ fun H3 e3 => ⟨i, j, rfl, q H3 (e2.trans e3)⟩
theorem ev_lenS {s : Str} (h : Ev ta σ H (.str s)) (hz : s.length ≤ 100000) : Ev (tCB (fun xs H Q => ∃ z, xs = [.str z] ∧ z.length ≤ sizeLine ∧ Q (.int z.length) H) (tCons ta tNil)) σ H (.int s.length) :=
  fun H1 e Q q => h H1 e _ fun H2 e2 => ⟨s, rfl, sz_of hz, q H2 e2⟩
end
local macro_rules | `(tactic| walk_at "side") => `(tactic| first
  | exact .inr ⟨by decide, by decide⟩
  | exact .inl ⟨by decide, by decide⟩
  | exact .inl ⟨by omega, by omega⟩
  | exact .inr ⟨by omega, by omega⟩
  | exact ⟨by decide, by decide⟩
  | exact ⟨by omega, by omega⟩
  | decide
  | (show (_ : Int) < _; omega)
  | omega)
local macro_rules | `(tactic| walk_at "rv") => `(tactic| first
  | exact rv_I0
  | ((refine' rv_I ?k1); (case k1 => walk_at "side"))
  | exact rv_isT
  | exact rv_notT
  | exact rv_isN
  | exact rv_notN
  | exact rv_eq rfl
  | exact rv_ne rfl)
local macro_rules | `(tactic| walk_at "sq") => `(tactic| first | assumption | exact ex_l (by assumption) (by assumption) | exact sq_of (by assumption))
/-- what a part gives, read off its form -/
local macro_rules | `(tactic| walk_at "ev") => `(tactic| first
  | exact ev_var rfl
  | exact ev_c
  | ((with_reducible refine' ev_op ?k1 ?k2 ?k3); (case k1 => walk_at "ev"); (case k2 => walk_at "ev"); (case k3 => walk_at "rv"))
  | ((with_reducible refine' ev_un ?k1 ?k2); (case k1 => walk_at "ev"); (case k2 => exact ru_neg))
  | ((with_reducible refine' ev_int ?k1); (case k1 => walk_at "ev"))
  | ((with_reducible refine' ev_abs ?k1); (case k1 => walk_at "ev"))
  | ((with_reducible refine' ev_andV ?k1 ?k2); (case k1 => walk_at "ev"); (case k2 => intro _; walk_at "ev"))
  | ((with_reducible refine' ev_orV ?k1 ?k2); (case k1 => walk_at "ev"); (case k2 => intro _; walk_at "ev"))
  | ((with_reducible refine' ev_notV ?k1); (case k1 => walk_at "ev"))
  | ((refine' ev_len ?k1 ?k2); (case k1 => walk_at "ev"); (case k2 => walk_at "sq")))
local macro_rules | `(tactic| walk_at "et") => `(tactic| first
  | ((with_reducible refine' et_or ?k1 ?k2); (case k1 => walk_at "et"); (case k2 => intro _; walk_at "et"))
  | ((with_reducible refine' et_and ?k1 ?k2); (case k1 => walk_at "et"); (case k2 => intro _; walk_at "et"))
  | ((with_reducible refine' et_not ?k1); (case k1 => walk_at "et"))
  | (refine' et_test ?k1; (case k1 => walk_at "ev"))
  | (refine' et_B ?k1; (case k1 => walk_at "ev")))
section
variable {K : PySem.W.Frag} {σ : L2.St} {H H' : Hp} {ta tb te : TE} {x y z v : V}
/-- a, b = (..): a new tuple unpacked into names -/
theorem gt2 {p : Addr} {i j : Nat} (h : SqT K H p [x, y]) {Q : L2.St → Hp → Prop} (k : Q ((σ.set i (some x)).set j (some y)) H) : gTup K 2 (gCons (gName i) (gCons (gName j) gNil)) (.ref p) σ H Q :=
  ⟨p, [x, y], rfl, h, rfl, x, [y], rfl, y, [], rfl, rfl, k⟩
theorem gt3 {p : Addr} {i j l : Nat} (h : SqT K H p [x, y, z]) {Q : L2.St → Hp → Prop} (k : Q (((σ.set i (some x)).set j (some y)).set l (some z)) H) : gTup K 3 (gCons (gName i) (gCons (gName j) (gCons (gName l) gNil))) (.ref p) σ H Q :=
  ⟨p, [x, y, z], rfl, h, rfl, x, [y, z], rfl, y, [z], rfl, z, [], rfl, rfl, k⟩
end
theorem hu64 {A : Around} {k : Nat} (hr : Room k A) : A.units + 64 < cLine := by
  have := hr.un
  omega
section
variable {K : PySem.W.Frag}
mutual
theorem ex_dp {H H' : Hp} (e : Ex H H') : ∀ {v : V} {d : PyData}, Dp K H v d → Dp K H' v d
  | _, _, .non => .non
  | _, _, .bl b => .bl b
  | _, _, .int i => .int i
  | _, _, .str x => .str x
  | _, _, .lst h a => .lst (ex_l e h) (ex_dps e a)
  | _, _, .tup h a => .tup (ex_t e h) (ex_dps e a)
theorem ex_dps {H H' : Hp} (e : Ex H H') : ∀ {vs : List V} {ds : List PyData}, DpAll K H vs ds → DpAll K H' vs ds
  | _, _, .nil => .nil
  | _, _, .cons h t => .cons (ex_dp e h) (ex_dps e t)
end
def EvD (K : PySem.W.Frag) (te : TE) (σ : L2.St) (H : Hp) (d : PyData) : Prop := ∀ H1, Ex H H1 → ∀ Q : VK, (∀ v H2, Ex H1 H2 → Dp K H2 v d → Q v H2) → te σ H1 Q
variable {σ : L2.St} {H H' : Hp} {ta tb te : TE} {tr : TA} {x y z v : V} {d e : PyData} {ds es : List PyData}
theorem ed_val (h : Ev te σ H v) (hd : Dp K H v d) : EvD K te σ H d := fun H1 e Q q => h H1 e _ fun H2 e2 => q v H2 e2 (ex_dp (e.trans e2) hd)
theorem ev_neD (ha : EvD K ta σ H d) (hb : EvD K tb σ H e) (s1 : SeqAt.shaped d = true) (s2 : SeqAt.shaped e = true) : Ev (tOp (rNeD K) ta tb) σ H (.bl (!PyData.eqv d e)) := fun H1 ex Q q =>
  ha H1 ex _ fun x H2 e2 h2 => hb H2 (ex.trans e2) _ fun y H3 e3 h3 => ⟨d, e, ex_dp e3 h2, h3, s1, s2, q H3 (e2.trans e3)⟩
end
def clsAt (K : PySem.W.Frag) (x : Str) : Addr := match PySem.W.nsIn K mainGlobals x with
  | some (some (.ref a)) => a
  | _ => 0
def NoAts (K : PySem.W.Frag) (C : Addr) : List Str → Prop
  | [] => True
  | f :: r => NoAttr K C f ∧ NoAts K C r
/-- a class by its name: plain, and none of these names stands in it -/
structure ClsD (K : PySem.W.Frag) (mg : Str → Option Value) (x : Str) (fs : List Str) : Prop where
  cl : Cls K (clsAt K x)
  at_ : mg x = some (.ref (clsAt K x))
  mks : PySem.W.makesIn K (clsAt K x) = true
  kc : PySem.W.keepIn K (.ref (clsAt K x)) = true
  na : NoAts K (clsAt K x) fs
/-- a method's def -/
def MetD (K : PySem.W.Frag) (x m qual : Str) (st : Stmt) (ps : List Str) : Prop := ∃ f fd, Meth K (clsAt K x) m f ∧ C8.Fun K m qual st f fd ∧ Binds K fd ps []
section
variable {P : Program} {w : World} {K : PySem.W.Frag} {mg : Str → Option Value} {base : Heap} {x m qual : Str} {st : Stmt} {ps N fs : List Str} {k : Nat} {sp : Sp}
theorem clsD_mk {C : Addr} (h : PySem.W.nsIn K mainGlobals x = some (some (.ref C))) (hm : mg x = some (.ref C)) (pg : PySem.W.plainGet K C Str.empty = true) (hd : PySem.W.hasDictIn K C = true) (po : PySem.W.plainOver K C = true) (sa : PySem.W.findIn K (.ref C) "__setattr__" = some (some (.builtin "object.__setattr__"))) (mk : PySem.W.makesIn K C = true) (kc : PySem.W.keepIn K (.ref C) = true) (na : NoAts K C fs) : ClsD K mg x fs := by
  have e : clsAt K x = C := by unfold clsAt; rw [h]
  exact ⟨by rw [e]; exact ⟨pg, hd, po, sa⟩, by rw [e]; exact hm, by rw [e]; exact mk, by rw [e]; exact kc, by rw [e]; exact na⟩
theorem metD_mk {C f : Addr} {fd : FuncData} (h : PySem.W.nsIn K mainGlobals x = some (some (.ref C))) (a : PySem.W.findIn K (.ref C) m = some (some (.ref f))) (i : PySem.W.isFn K (.ref f) = true) (kp : PySem.W.keepIn K (.ref f) = true) (F : C8.Fun K m qual st f fd) (b : Binds K fd ps []) : MetD K x m qual st ps := by
  have e : clsAt K x = C := by unfold clsAt; rw [h]
  exact ⟨f, fd, by rw [e]; exact ⟨a, i, kp⟩, F, b⟩
theorem mak_of (C : ClsD K mg x fs) (D : MetD K x "__init__" qual st ps) (S : FnScope N ps (C8.fnScope st)) (len : ∀ vs H Q E, sp vs H Q E → vs.length = ps.length)
    (hbody : ∀ (f : Addr) (cdv : Value) (A : Around) (outer : List Env) (s : Shared) (H : Hp) (vs : List V) (Q : VK) (E : XK), Room k (A.deeper (envOfC qual (C8.fnScope st) s.heap.objs.size f cdv)) → sp vs H Q E →
      ∃ t, PSs (cxOf C8.CX0 P w K mg base N qual (C8.fnScope st) f cdv A outer s H E).nox (C8.fnBody st) t ∧ t { nx := fun _ H' => Q .non H', rt := Q } (start N vs) H) : C8.Mak P w K mg base (k + 1) x (clsAt K x) sp [] := by
  obtain ⟨f, fd, M, F, b⟩ := D
  exact C8.mak0 ⟨C.mks, M.at_, M.fn, C.kc⟩ C.at_ F b .nil S len (hbody f)
end
def ab (i : Int) : Int := if i < 0 then -i else i
def topS (i : Nat) : Stmt := PySem.Challenge.pw_stylobate_k81_faults_of_texts.main.body.getD i (.Pass ⟨0, 0, 0, 0⟩)
abbrev s_InvalidText____init__ : Stmt := (C8.clsBody (topS 4)).getD 0 (.Pass ⟨0, 0, 0, 0⟩)
abbrev s_Field____init__ : Stmt := (C8.clsBody (topS 8)).getD 0 (.Pass ⟨0, 0, 0, 0⟩)
abbrev n_Field____init__ : List Str := ["self", "text", "offset", "marked"]
theorem sc_Field____init__ : FnScope n_Field____init__ ["self", "text", "offset", "marked"] (C8.fnScope s_Field____init__) := C8.fnScope_by (by decide +kernel)
abbrev s__marked_field : Stmt := topS 9
abbrev n__marked_field : List Str := ["text", "start", "separator", "pieces", "at", "closed", "end"]
theorem sc__marked_field : FnScope n__marked_field ["text", "start", "separator"] (C8.fnScope s__marked_field) := C8.fnScope_by (by decide +kernel)
abbrev s__plain_field : Stmt := topS 10
abbrev n__plain_field : List Str := ["text", "start", "separator", "at"]
theorem sc__plain_field : FnScope n__plain_field ["text", "start", "separator"] (C8.fnScope s__plain_field) := C8.fnScope_by (by decide +kernel)
abbrev s__next_record : Stmt := topS 11
abbrev n__next_record : List Str := ["text", "start", "separator", "fields", "at", "ended", "field"]
theorem sc__next_record : FnScope n__next_record ["text", "start", "separator"] (C8.fnScope s__next_record) := C8.fnScope_by (by decide +kernel)
abbrev s_split_records : Stmt := topS 12
abbrev n_split_records : List Str := ["text", "separator", "records", "at", "fields"]
theorem sc_split_records : FnScope n_split_records ["text", "separator"] (C8.fnScope s_split_records) := C8.fnScope_by (by decide +kernel)
abbrev s_read_separated : Stmt := topS 41
abbrev n_read_separated : List Str := ["text", "columns", "separator", "head", "records", "numbers", "fields"]
theorem sc_read_separated : FnScope n_read_separated ["text", "columns", "separator", "head"] (C8.fnScope s_read_separated) := C8.fnScope_by (by decide +kernel)
abbrev s_Column____init__ : Stmt := (C8.clsBody (topS 43)).getD 0 (.Pass ⟨0, 0, 0, 0⟩)
abbrev n_Column____init__ : List Str := ["self", "name", "kind", "nullable"]
theorem sc_Column____init__ : FnScope n_Column____init__ ["self", "name", "kind", "nullable"] (C8.fnScope s_Column____init__) := C8.fnScope_by (by decide +kernel)
abbrev s__law_cell : Stmt := topS 45
abbrev n__law_cell : List Str := ["script", "k"]
theorem sc__law_cell : FnScope n__law_cell ["script", "k"] (C8.fnScope s__law_cell) := C8.fnScope_by (by decide +kernel)
abbrev s__law_state : Stmt := topS 46
abbrev n__law_state : List Str := ["cell", "k", "prime", "first", "second", "third", "fourth"]
theorem sc__law_state : FnScope n__law_state ["cell", "k"] (C8.fnScope s__law_state) := C8.fnScope_by (by decide +kernel)
abbrev s__law_digit : Stmt := topS 47
abbrev n__law_digit : List Str := ["state", "many", "digit"]
theorem sc__law_digit : FnScope n__law_digit ["state", "many"] (C8.fnScope s__law_digit) := C8.fnScope_by (by decide +kernel)
abbrev s__law_field_text : Stmt := topS 49
abbrev n__law_field_text : List Str := ["state", "signs", "k"]
theorem sc__law_field_text : FnScope n__law_field_text ["state"] (C8.fnScope s__law_field_text) := C8.fnScope_by (by decide +kernel)
abbrev s__law_written : Stmt := topS 50
abbrev n__law_written : List Str := ["text", "separator", "marked", "sign"]
theorem sc__law_written : FnScope n__law_written ["text", "separator", "marked"] (C8.fnScope s__law_written) := C8.fnScope_by (by decide +kernel)
abbrev s__law_must_mark : Stmt := topS 51
abbrev n__law_must_mark : List Str := ["text", "separator"]
theorem sc__law_must_mark : FnScope n__law_must_mark ["text", "separator"] (C8.fnScope s__law_must_mark) := C8.fnScope_by (by decide +kernel)
abbrev s__law_good : Stmt := topS 52
abbrev n__law_good : List Str := ["state", "separator", "text", "k", "j", "field"]
theorem sc__law_good : FnScope n__law_good ["state", "separator"] (C8.fnScope s__law_good) := C8.fnScope_by (by decide +kernel)
abbrev s__law_wrong : Stmt := topS 53
abbrev n__law_wrong : List Str := ["state", "at", "separator", "kind", "plain", "marked", "k"]
theorem sc__law_wrong : FnScope n__law_wrong ["state", "at", "separator"] (C8.fnScope s__law_wrong) := C8.fnScope_by (by decide +kernel)
abbrev s__law_told : Stmt := topS 54
abbrev n__law_told : List Str := ["text", "separator", "columns", "e", "plain"]
theorem sc__law_told : FnScope n__law_told ["text", "separator", "columns"] (C8.fnScope s__law_told) := C8.fnScope_by (by decide +kernel)
abbrev s_law : Stmt := topS 55
abbrev n_law : List Str := ["script", "k", "state", "separator", "good", "wrong", "offset", "reason", "text", "due"]
theorem sc_law : FnScope n_law ["script"] (C8.fnScope s_law) := C8.fnScope_by (by decide +kernel)
def wo (p : Addr) (H : Hp) : Hp := fun a => if a = p then none else H a
theorem wo_self (p : Addr) (H : Hp) : wo p H p = none := if_pos rfl
theorem wo_ne {p a : Addr} {H : Hp} (h : a ≠ p) : wo p H a = H a := if_neg h
theorem wo_le (p : Addr) (H : Hp) : Ex (wo p H) H := fun a o h => by
  unfold wo at h
  split at h
  · cases h
  · exact h
theorem wx_of {p : Addr} {H H' : Hp} (e : Ex H H') : Ex (wo p H) H' := (wo_le p H).trans e
theorem wx_trans {p : Addr} {H1 H2 H3 : Hp} (a : Ex (wo p H1) H2) (b : Ex (wo p H2) H3) : Ex (wo p H1) H3 := fun x o h => b x o (by
  have hx : x ≠ p := fun z => by
    rw [z, wo_self] at h
    cases h
  rw [wo_ne hx]
  exact a x o h)
theorem wx_back {p : Addr} {H0 H1 H2 : Hp} (h : H0 p = none) (e : Ex H0 H1) (x : Ex (wo p H1) H2) : Ex H0 H2 := fun a o ha => x a o (by
  have hx : a ≠ p := fun z => by
    rw [z, h] at ha
    cases ha
  rw [wo_ne hx]
  exact e a o ha)
theorem wx_mut {p : Addr} {H1 H2 : Hp} {o : HO} (e : Ex (wo p H1) H2) : Ex (wo p H1) (upd H2 p o) := Ex.mut e (wo_self p H1)
def Dr (p : Addr) (H : Hp) : Prop := ∃ s : Int, 0 ≤ s ∧ H p = some (.lst [.int s])
theorem Dr.ex {p : Addr} {H H' : Hp} (d : Dr p H) (e : Ex H H') : Dr p H' := by
  obtain ⟨s, h0, h⟩ := d
  exact ⟨s, h0, e _ _ h⟩
/-- a value that is drawn: one of those with the word P -/
def EvD1 (te : TE) (σ : L2.St) (p : Addr) (H : Hp) (P : V → Prop) : Prop := ∀ H1, Ex (wo p H) H1 → Dr p H1 → ∀ Q : VK, (∀ v H2, P v → Ex (wo p H1) H2 → Dr p H2 → Q v H2) → te σ H1 Q
def EvDT (tt : TT) (σ : L2.St) (p : Addr) (H : Hp) (P : Bool → Prop) : Prop := ∀ H1, Ex (wo p H) H1 → Dr p H1 → ∀ Q : Bool → Hp → Prop, (∀ b H2, P b → Ex (wo p H1) H2 → Dr p H2 → Q b H2) → tt σ H1 Q
def ZP (P : Int → Prop) : V → Prop := fun v => ∃ i, v = .int i ∧ P i
/-- a value of which a word alone is known, all else as it was -/
def EvN (te : TE) (σ : L2.St) (H : Hp) (P : V → Prop) : Prop := ∀ H1, Ex H H1 → ∀ Q : VK, (∀ v H2, P v → Ex H1 H2 → Q v H2) → te σ H1 Q
/-- a new list to draw from -/
def EvC (te : TE) (σ : L2.St) (H : Hp) : Prop := ∀ H1, Ex H H1 → ∀ Q : VK, (∀ p H2, H1 p = none → Ex H1 H2 → Dr p H2 → Q (.ref p) H2) → te σ H1 Q
def sp__law_cell (K : PySem.W.Frag) : Sp := fun vs H Q _ => ∃ (a : Addr) (ns : List Int) (k : Int), vs = [.ref a, .int k] ∧ SqL K H a (ns.map V.int) ∧ 0 ≤ k ∧ ∀ H', Ex H H' → Q (.int (ns.getD k.toNat 0)) H'
def sp__law_state (K : PySem.W.Frag) : Sp := fun vs H Q _ => ∃ c k : Int, vs = [.int c, .int k] ∧ ∀ p H', H p = none → Ex H H' → Dr p H' → Q (.ref p) H'
def sp__law_digit (K : PySem.W.Frag) : Sp := fun vs H Q _ => ∃ (p : Addr) (m : Int), vs = [.ref p, .int m] ∧ Dr p H ∧ 0 < m ∧ m < 2 ^ 400 ∧ ∀ d H', 0 ≤ d → d < m → Ex (wo p H) H' → Dr p H' → Q (.int d) H'
section
variable {K : PySem.W.Frag} {σ : L2.St} {H H' : Hp} {p : Addr} {ta tb te tx : TE} {t u : TT} {x y z v : V} {r : R2} {P R S : V → Prop} {PI RI SI : Int → Prop} {D : Ends} {tz tu tw : TS} {E : XK}
theorem e1_pure (h : Ev te σ (wo p H) v) (hv : P v) : EvD1 te σ p H P := fun H1 e d Q q => h H1 e Q fun H2 e2 => q v H2 hv (wx_of e2) (d.ex e2)
theorem e1_int {i : Int} (h : Ev te σ (wo p H) (.int i)) (hv : PI i) : EvD1 te σ p H (ZP PI) := e1_pure h ⟨i, rfl, hv⟩
theorem e1_mono (h : EvD1 te σ p H P) (k : ∀ v, P v → R v) : EvD1 te σ p H R := fun H1 e d Q q => h H1 e d Q fun v H2 hv e2 d2 => q v H2 (k v hv) e2 d2
theorem ez_mono (h : EvD1 te σ p H (ZP PI)) (k : ∀ i, PI i → RI i) : EvD1 te σ p H (ZP RI) := e1_mono h fun v ⟨i, e, hi⟩ => ⟨i, e, k i hi⟩
theorem ez_op0 {g : Int → Int → Int} (ha : EvD1 ta σ p H (ZP PI)) (hb : EvD1 tb σ p H (ZP RI)) (hc : ∀ i j, PI i → RI j → SI (g i j)) : EvD1 (tOp (rI0 fun i j => .int (g i j)) ta tb) σ p H (ZP SI) := fun H1 e d Q q =>
  ha H1 e d _ fun v H2 ⟨i, ev, hi⟩ e2 d2 => hb H2 (wx_trans e e2) d2 _ fun w H3 ⟨j, ew, hj⟩ e3 d3 => ⟨i, j, ev, ew, q _ H3 ⟨_, rfl, hc i j hi hj⟩ (wx_trans e2 e3) d3⟩
theorem ez_eq (ha : EvD1 ta σ p H (ZP PI)) (hb : EvD1 tb σ p H (ZP RI)) : EvD1 (tOp rEq ta tb) σ p H (fun v => ∃ b, v = .bl b) := fun H1 e d Q q =>
  ha H1 e d _ fun v H2 ⟨i, ev, hi⟩ e2 d2 => hb H2 (wx_trans e e2) d2 _ fun w H3 ⟨j, ew, hj⟩ e3 d3 => by
    subst ev ew
    exact ⟨rfl, q _ H3 ⟨_, rfl⟩ (wx_trans e2 e3) d3⟩
/-- _law_digit(state, m) -/
theorem ez_digit {m : Int} (ha : Ev ta σ (wo p H) (.ref p)) (hb : Ev tb σ (wo p H) (.int m)) (h0 : 0 < m) (h1 : m < 2 ^ 400) : EvD1 (tCall (sp__law_digit K) [] E (tCons ta (tCons tb tNil))) σ p H (ZP fun d => 0 ≤ d ∧ d < m) := fun H1 e d Q q =>
  ha H1 e _ fun H2 e2 => hb H2 (e.trans e2) _ fun H3 e3 => ⟨p, m, rfl, d.ex (e2.trans e3), h0, h1, fun d H4 a b e4 d4 => q _ H4 ⟨d, rfl, a, b⟩ (wx_trans (wx_of (e2.trans e3)) e4) d4⟩
theorem edt_test (h : EvD1 te σ p H (fun v => ∃ b, v = .bl b)) : EvDT (tTest te) σ p H (fun _ => True) := fun H1 e d Q q => h H1 e d _ fun v H2 ⟨b, ev⟩ e2 d2 => ⟨b, ev, q b H2 trivial e2 d2⟩
theorem q1_asg {i : Nat} (h : EvD1 te σ p H P) (d : Dr p H) (k : ∀ v H1, P v → Ex (wo p H) H1 → Dr p H1 → tz D (σ.set i (some v)) H1) : tSeq (tAsg te (gName i)) tz D σ H := h H (wo_le p H) d _ fun v H1 hv e1 d1 => k v H1 hv e1 d1
theorem qz_asg {i : Nat} (h : EvD1 te σ p H (ZP PI)) (d : Dr p H) (k : ∀ (n : Int) H1, PI n → Ex (wo p H) H1 → Dr p H1 → tz D (σ.set i (some (.int n))) H1) : tSeq (tAsg te (gName i)) tz D σ H := q1_asg h d fun v H1 ⟨n, ev, hn⟩ e1 d1 => by
  subst ev
  exact k n H1 hn e1 d1
theorem s1_ret (h : EvD1 te σ p H P) (d : Dr p H) (k : ∀ v H1, P v → Ex (wo p H) H1 → Dr p H1 → D.rt v H1) : tRet te D σ H := h H (wo_le p H) d _ fun v H1 hv e1 d1 => k v H1 hv e1 d1
/-- _law_cell(script, i), _law_state(cell, k) -/
theorem ec_cell {a : Addr} {ns : List Int} {k : Int} (ha : Ev ta σ H (.ref a)) (hb : Ev tb σ H (.int k)) (hS : SqL K H a (ns.map V.int)) (h0 : 0 ≤ k) : Ev (tCall (sp__law_cell K) [] E (tCons ta (tCons tb tNil))) σ H (.int (ns.getD k.toNat 0)) :=
  ev_call (ea_cons ha (ea_cons hb ea_nil)) fun H1 e Q q E => ⟨a, ns, k, rfl, ex_l e hS, h0, q⟩
theorem ec_state {c k : Int} (ha : Ev ta σ H (.int c)) (hb : Ev tb σ H (.int k)) : EvC (tCall (sp__law_state K) [] E (tCons ta (tCons tb tNil))) σ H := fun H1 e Q q =>
  ha H1 e _ fun H2 e2 => hb H2 (e.trans e2) _ fun H3 e3 => ⟨c, k, rfl, fun p H4 hp e4 d => q p H4 (fresh_back (e2.trans e3) hp) ((e2.trans e3).trans e4) d⟩
theorem q_asgC {i : Nat} (h : EvC te σ H) (k : ∀ p H1, H p = none → Ex H H1 → Dr p H1 → tz D (σ.set i (some (.ref p))) H1) : tSeq (tAsg te (gName i)) tz D σ H := h H (Ex.refl H) _ fun p H1 hp e d => k p H1 hp e d
theorem EvN.mono (e : Ex H H') (h : EvN te σ H P) : EvN te σ H' P := fun H1 a Q q => h H1 (e.trans a) Q q
end
section
variable {P : Program} {w : World} {K : PySem.W.Frag} {mg : Str → Option Value} {base : Heap}
theorem ok__law_cell (D : Dn K mg "_law_cell" s__law_cell ["script", "k"]) (z_len : mg "len" = none) :
    C8.Cal P w K mg base 1 "_law_cell" (sp__law_cell K) [] := by
  refine cal_of D sc__law_cell (fun vs H Q E h => ?_) (fun f cdv A outer s H vs Q E hr h => ?_)
  · obtain ⟨_, _, _, rfl, _⟩ := h
    rfl
  refine ⟨_, (pss_cons (ps_if (pt_cmpR op_lt (pv 1) (pe_callB call_len_seq (by rfl) z_len PySem.boot_len (pa_cons (pv 0) pa_nil)) (nomark _))
      (pss_one (ps_ret (pe_ix ix_list (pv 0) (pv 1) (fun _ _ => rfl))))
      pss_nil)
    (pss_one (ps_ret pe_int))), ?_⟩
  obtain ⟨a, ns, k, rfl, hS, h0, q⟩ := h
  refine q_when (b := decide (k < (((ns.map V.int).length : Nat) : Int))) (et_test (ev_op (ev_var rfl) (ev_len (ev_var rfl) hS) rv_I0)) (fun hb H1 e1 => ?_) fun hb H1 e1 => ?_
  · have hk : k.toNat < ns.length := by
      have := of_decide_eq_true hb
      rw [List.length_map] at this
      omega
    refine s_ret (v := .int (ns.getD k.toNat 0)) (ev_op (ev_var rfl) (ev_var rfl) (rv_ixL (ex_l e1 hS) ?_)) fun H2 e2 => q _ (e1.trans e2)
    obtain ⟨j, rfl⟩ := Int.eq_ofNat_of_zero_le h0
    rw [Int.toNat_natCast] at hk ⊢
    exact atI_nat (by rw [List.getElem?_map, List.getElem?_eq_getElem hk, List.getD_eq_getElem?_getD, List.getElem?_eq_getElem hk]; rfl)
  · have hk : ns.length ≤ k.toNat := by
      have := of_decide_eq_false hb
      rw [List.length_map] at this
      omega
    refine s_ret (v := .int (ns.getD k.toNat 0)) (ev_is ev_c ?_) fun H2 e2 => q _ (e1.trans e2)
    rw [List.getD_eq_getElem?_getD, List.getElem?_eq_none hk]
    rfl
theorem ok__law_state (D : Dn K mg "_law_state" s__law_state ["cell", "k"]) (z_int : mg "int" = none) :
    C8.Cal P w K mg base 1 "_law_state" (sp__law_state K) [] := by
  refine cal_of D sc__law_state (fun vs H Q E h => ?_) (fun f cdv A outer s H vs Q E hr h => ?_)
  · obtain ⟨_, _, rfl, _⟩ := h
    rfl
  refine ⟨_, (pss_cons (ps_if (pt_cmpR op_ge (pv 0) pe_int (nomark _))
      (pss_one (ps_ret (pe_lst (pa_cons (pv 0) pa_nil))))
      pss_nil)
    (pss_cons (ps_set (i := 2) sc__law_state.nd rfl (.inl rfl) pe_int)
    (pss_cons (ps_set (i := 3) sc__law_state.nd rfl (.inl rfl) (pe_op op_mod (pe_callTy call_int1 (by rfl) z_int (by decide +kernel) (pa_cons (pe_op op_add (pe_op op_add (pe_op op_mul (pv 0) pe_int) (pe_op op_mul (pe_op op_add (pv 1) pe_int) pe_int)) pe_int) pa_nil)) (pv 2)))
    (pss_cons (ps_set (i := 4) sc__law_state.nd rfl (.inl rfl) (pe_op op_mod (pe_callTy call_int1 (by rfl) z_int (by decide +kernel) (pa_cons (pe_op op_add (pe_op op_add (pe_op op_mulX (pv 3) (pv 3)) (pe_op op_mul pe_int (pv 3))) (pv 1)) pa_nil)) (pv 2)))
    (pss_cons (ps_set (i := 5) sc__law_state.nd rfl (.inl rfl) (pe_op op_mod (pe_callTy call_int1 (by rfl) z_int (by decide +kernel) (pa_cons (pe_op op_add (pe_op op_add (pe_op op_mul (pv 4) pe_int) (pe_op op_mul (pv 3) pe_int)) pe_int) pa_nil)) (pv 2)))
    (pss_cons (ps_set (i := 6) sc__law_state.nd rfl (.inl rfl) (pe_op op_mod (pe_callTy call_int1 (by rfl) z_int (by decide +kernel) (pa_cons (pe_op op_add (pe_op op_mulX (pv 5) (pv 5)) (pv 4)) pa_nil)) (pv 2)))
    (pss_one (ps_ret (pe_lst (pa_cons (pe_op op_add (pe_op op_mul (pe_op op_add (pe_op op_mul (pe_op op_add (pe_op op_mul (pv 6) (pv 2)) (pv 5)) (pv 2)) (pv 4)) (pv 2)) (pv 3)) pa_nil)))))))))), ?_⟩
  obtain ⟨c, k, rfl, q⟩ := h
  refine q_when (b := decide (c ≥ 1000000000000000000)) (et_test (ev_op (ev_var rfl) ev_c rv_I0)) (fun hb H1 e1 => ?_) fun hb H1 e1 => ?_
  · exact s_retL (el_lst (ea_cons (ev_var rfl) ea_nil) (by show 1 ≤ 100000; decide)) fun p H2 hp e2 h2 => q p H2 (fresh_back e1 hp) (e1.trans e2) ⟨c, by have := of_decide_eq_true hb; omega, h2⟩
  refine q_asg (v := .int 2305843009213693951) ev_c fun H2 e2 => ?_
  have mp : ∀ n : Int, 0 ≤ n % 2305843009213693951 ∧ n % 2305843009213693951 < 2305843009213693951 := fun n => by omega
  have mb : ∀ i j : Int, 0 ≤ i ∧ i < 2305843009213693951 → 0 ≤ j ∧ j < 2305843009213693951 → CMulX i j := fun i j hi hj => mulx_ok (a := 61) (b := 61) (by omega) (by omega) (by decide)
  refine q_asg (v := .int ((c * 6364136223 + (k + 1) * 104729 + 77) % 2305843009213693951)) ?_ fun H3 e3 => ?_
  · exact ev_op (ev_int (ev_op (ev_op (ev_op (ev_var rfl) ev_c (rv_I (.inr ⟨by decide, by decide⟩))) (ev_op (ev_op (ev_var rfl) ev_c rv_I0) ev_c (rv_I (.inr ⟨by decide, by decide⟩))) rv_I0) ev_c rv_I0)) (ev_var rfl) (rv_I (by decide))
  have h1 := mp (c * 6364136223 + (k + 1) * 104729 + 77)
  generalize (c * 6364136223 + (k + 1) * 104729 + 77) % 2305843009213693951 = f1 at *
  refine q_asg (v := .int ((f1 * f1 + 1013 * f1 + k) % 2305843009213693951)) ?_ fun H4 e4 => ?_
  · exact ev_op (ev_int (ev_op (ev_op (ev_op (ev_var rfl) (ev_var rfl) (rv_I (mb _ _ h1 h1))) (ev_op ev_c (ev_var rfl) (rv_I (.inl ⟨by decide, by decide⟩))) rv_I0) (ev_var rfl) rv_I0)) (ev_var rfl) (rv_I (by decide))
  have h2 := mp (f1 * f1 + 1013 * f1 + k)
  generalize (f1 * f1 + 1013 * f1 + k) % 2305843009213693951 = f2 at *
  refine q_asg (v := .int ((f2 * 48271 + f1 * 31 + 9) % 2305843009213693951)) ?_ fun H5 e5 => ?_
  · exact ev_op (ev_int (ev_op (ev_op (ev_op (ev_var rfl) ev_c (rv_I (.inr ⟨by decide, by decide⟩))) (ev_op (ev_var rfl) ev_c (rv_I (.inr ⟨by decide, by decide⟩))) rv_I0) ev_c rv_I0)) (ev_var rfl) (rv_I (by decide))
  have h3 := mp (f2 * 48271 + f1 * 31 + 9)
  generalize (f2 * 48271 + f1 * 31 + 9) % 2305843009213693951 = f3 at *
  refine q_asg (v := .int ((f3 * f3 + f2) % 2305843009213693951)) ?_ fun H6 e6 => ?_
  · exact ev_op (ev_int (ev_op (ev_op (ev_var rfl) (ev_var rfl) (rv_I (mb _ _ h3 h3))) (ev_var rfl) rv_I0)) (ev_var rfl) (rv_I (by decide))
  have h4 := mp (f3 * f3 + f2)
  generalize (f3 * f3 + f2) % 2305843009213693951 = f4 at *
  refine s_retL (xs := [.int (((f4 * 2305843009213693951 + f3) * 2305843009213693951 + f2) * 2305843009213693951 + f1)]) (el_lst (ea_cons ?_ ea_nil) (by show 1 ≤ 100000; decide)) fun p H7 hp e7 h7 => ?_
  · exact ev_op (ev_op (ev_op (ev_op (ev_op (ev_op (ev_var rfl) (ev_var rfl) (rv_I (.inr ⟨by decide, by decide⟩))) (ev_var rfl) rv_I0) (ev_var rfl) (rv_I (.inr ⟨by decide, by decide⟩))) (ev_var rfl) rv_I0) (ev_var rfl) (rv_I (.inr ⟨by decide, by decide⟩))) (ev_var rfl) rv_I0
  have x6 := ((((e1.trans e2).trans e3).trans e4).trans e5).trans e6
  exact q p H7 (fresh_back x6 hp) (x6.trans e7) ⟨_, by omega, h7⟩
theorem ok__law_digit (D : Dn K mg "_law_digit" s__law_digit ["state", "many"]) (z_int : mg "int" = none) :
    C8.Cal P w K mg base 1 "_law_digit" (sp__law_digit K) [] := by
  refine cal_of D sc__law_digit (fun vs H Q E h => ?_) (fun f cdv A outer s H vs Q E hr h => ?_)
  · obtain ⟨_, _, rfl, _⟩ := h
    rfl
  refine ⟨_, (pss_cons (ps_set (i := 2) sc__law_digit.nd rfl (.inl rfl) (pe_op op_mod (pe_callTy call_int1 (by rfl) z_int (by decide +kernel) (pa_cons (pe_ix ix_list (pv 0) pe_int (fun _ _ => rfl)) pa_nil)) (pv 1)))
    (pss_cons (ps_asg (pe_op op_fdivW (pe_ix ix_list (pv 0) pe_int (fun _ _ => rfl)) (pv 1)) (pg_sub (pv 0) pe_int set_list))
    (pss_one (ps_ret (pv 2))))), ?_⟩
  obtain ⟨p, m, rfl, ⟨s, s0, hp⟩, m0, m1, q⟩ := h
  refine q_asg (v := .int (s % m)) (ev_op (ev_int (ev_op (ev_var rfl) ev_c (rv_ixL (sq_of hp) rfl))) (ev_var rfl) (rv_I m0)) fun H1 e1 => ?_
  refine q_setL (v := .int (s / m)) (j := 0) (e1 _ _ hp) (ev_op (ev_op (ev_var rfl) ev_c (rv_ixL (sq_of (e1 _ _ hp)) rfl)) (ev_var rfl) (rv_I (wide_div (b := 400) m0 (by omega) (by decide) (by decide)))) (ev_var rfl) ev_c (by show 0 < 1; decide) fun H2 e2 => ?_
  exact s_ret (ev_var rfl) fun H3 e3 => q (s % m) H3 (Int.emod_nonneg _ (by omega)) (Int.emod_lt_of_pos _ m0) ((Ex.mut ((wo_le p H).trans (e1.trans e2)) (wo_self p H)).trans e3) ⟨s / m, Int.ediv_nonneg s0 (by omega), e3 _ _ upd_same⟩
end
section
variable {K : PySem.W.Frag} {σ : L2.St} {H : Hp} {p : Addr} {te : TE} {t : TT} {P : V → Prop} {D : Ends} {tu : TS}
theorem s1_asg {i : Nat} (h : EvD1 te σ p H P) (d : Dr p H) (k : ∀ v H1, P v → Ex (wo p H) H1 → Dr p H1 → D.nx (σ.set i (some v)) H1) : tAsg te (gName i) D σ H := h H (wo_le p H) d _ fun v H1 hv e1 d1 => k v H1 hv e1 d1
end
theorem ix_tupK {X : Cx} {K : PySem.W.Frag} (h : X.K = K) : IxR X (rIxT K) := h ▸ ix_tup
def Al2 {α : Type} (R : Hp → Addr → α → Prop) (H : Hp) (qs : List Addr) (L : List α) : Prop := qs.length = L.length ∧ ∀ (i : Nat) q l, qs[i]? = some q → L[i]? = some l → R H q l
def Lst2 {α : Type} (R : Hp → Addr → α → Prop) (H : Hp) (p : Addr) (L : List α) : Prop := ∃ qs, H p = some (.lst (qs.map V.ref)) ∧ Al2 R H qs L
section
variable {α : Type} {R S : Hp → Addr → α → Prop} {H H' : Hp} {qs : List Addr} {L : List α}
theorem Al2.nil : Al2 R H [] [] := ⟨rfl, fun i q l h => by simp at h⟩
theorem Al2.mono (h : Al2 R H qs L) (k : ∀ q l, l ∈ L → R H q l → S H' q l) : Al2 S H' qs L := ⟨h.1, fun i q l a b => k q l (List.mem_of_getElem? b) (h.2 i q l a b)⟩
theorem Al2.snoc {q : Addr} {l : α} (h : Al2 R H qs L) (hr : R H q l) : Al2 R H (qs ++ [q]) (L ++ [l]) := by
  refine ⟨by rw [List.length_append, List.length_append, h.1, List.length_cons, List.length_cons]; rfl, fun i q' l' a b => ?_⟩
  by_cases hi : i < qs.length
  · rw [List.getElem?_append_left hi] at a
    rw [List.getElem?_append_left (by rw [← h.1]; exact hi)] at b
    exact h.2 i q' l' a b
  · rw [List.getElem?_append_right (by omega)] at a
    rw [List.getElem?_append_right (by rw [← h.1]; omega)] at b
    have e : i - qs.length = 0 := by
      by_cases z : i - qs.length = 0
      · exact z
      · rw [List.getElem?_eq_none (by show 1 ≤ _; omega)] at a; cases a
    rw [e] at a
    rw [← h.1, e] at b
    cases a
    cases b
    exact hr
end
/-- an object that is new -/
def EvR (R : Hp → Addr → Prop) (te : TE) (σ : L2.St) (H : Hp) : Prop := ∀ H1, Ex H H1 → ∀ Q : VK, (∀ p H2, H1 p = none → Ex H1 H2 → R H2 p → Q (.ref p) H2) → te σ H1 Q
theorem slice_any {a : List Nat} {i j : Nat} : Txt.slice (SX.S a) (some (i : Int)) (some (j : Int)) = SX.S ((a.take j).drop i) := by
  rw [← C8.cutS_slice]
  unfold cutS
  rw [SX.S_len, HT.sIx_nat, HT.sIx_nat]
  refine congrArg SX.S ?_
  show (a.drop (min i a.length)).take (min j a.length - min i a.length) = (a.take j).drop i
  rw [List.drop_take]
  by_cases hi : i ≤ a.length
  · rw [Nat.min_eq_left hi]
    by_cases hj : j ≤ a.length
    · rw [Nat.min_eq_left hj]
    · rw [Nat.min_eq_right (show a.length ≤ j by omega), List.take_of_length_le (by rw [List.length_drop]; omega), List.take_of_length_le (by rw [List.length_drop]; omega)]
  · rw [Nat.min_eq_right (show a.length ≤ i by omega), List.drop_eq_nil_of_le (Nat.le_refl _), List.drop_eq_nil_of_le (by omega)]
    simp
theorem ev_slA {σ : L2.St} {H : Hp} {ta tl th : TE} {l : List Nat} {i j : Nat} (ha : Ev ta σ H (.str (SX.S l))) (hl : Ev tl σ H (.int (i : Int))) (hh : Ev th σ H (.int (j : Int))) (hz : l.length ≤ 100000) : Ev (tSl C8.rSlX ta (tPart tl) (tPart th)) σ H (.str (SX.S ((l.take j).drop i))) := fun H1 e Q q =>
  ha H1 e _ fun H2 e2 => hl H2 (e.trans e2) _ fun H3 e3 => ⟨_, rfl, hh H3 ((e.trans e2).trans e3) _ fun H4 e4 => ⟨_, rfl, SX.S l, rfl, by rw [SX.S_len]; exact sz_of hz, by rw [slice_any]; exact q H4 ((e2.trans e3).trans e4)⟩⟩
theorem getD_S (t : List Nat) (v : Nat) : (SX.S t).cps.getD v 0 = t.getD v 0 := by
  show t.toArray.getD v 0 = t.getD v 0
  rw [Array.getD_eq_getD_getElem?, List.getD_eq_getElem?_getD, List.getElem?_toArray]
/-- the first c at or behind i -/
theorem find3_at {t a m : List Nat} {c i : Nat} (h : t.drop i = a ++ c :: m) (ha : c ∉ a) : Txt.find3 (SX.S t) (SX.S [c]) (i : Int) = ((i + a.length : Nat) : Int) := by
  have hlen : i + (a.length + (m.length + 1)) = t.length := by
    have := congrArg List.length h
    rw [List.length_drop, List.length_append, List.length_cons] at this
    omega
  have hf : fromIndex (SX.S t).length (i : Int) = i := by
    unfold fromIndex
    rw [if_neg (by omega)]
    omega
  have at_ : ∀ v, i ≤ v → t.getD v 0 = (a ++ c :: m).getD (v - i) 0 := fun v hv => by
    rw [← h, List.getD_eq_getElem?_getD, List.getD_eq_getElem?_getD, List.getElem?_drop, show i + (v - i) = v by omega]
  have hc : t.getD (i + a.length) 0 = c := by
    rw [at_ _ (by omega), show i + a.length - i = a.length by omega, List.getD_eq_getElem?_getD, List.getElem?_append_right (Nat.le_refl _), Nat.sub_self]
    rfl
  rcases StrLaws.find3_spec (SX.S t) c (i : Int) with ⟨_, h2⟩ | ⟨k, h1, h2, h3, h4, h5⟩
  · have := h2 (i + a.length) (by rw [hf]; omega) (by rw [SX.S_len]; omega)
    rw [getD_S, hc] at this
    exact absurd rfl this
  · rw [hf] at h2 h5
    rw [getD_S] at h4
    have e1 : ¬ i + a.length < k := fun z => by
      have := h5 (i + a.length) (by omega) z
      rw [getD_S, hc] at this
      exact this rfl
    have e2 : ¬ k < i + a.length := fun z => by
      rw [at_ k h2, List.getD_eq_getElem?_getD, List.getElem?_append_left (by omega), List.getElem?_eq_getElem (by omega)] at h4
      exact ha (by rw [← h4]; exact List.getElem_mem _)
    rw [show k = i + a.length by omega] at h1
    exact h1
theorem at_drop {t r : List Nat} {i : Nat} {c : Nat} (h : t.drop i = c :: r) : t[i]? = some c ∧ i < t.length ∧ t.drop (i + 1) = r := by
  have hi : i < t.length := by
    have := congrArg List.length h
    rw [List.length_drop, List.length_cons] at this
    omega
  rw [List.drop_eq_getElem_cons hi] at h
  have h2 := List.cons.inj h
  exact ⟨by rw [List.getElem?_eq_getElem hi, h2.1], hi, h2.2⟩
theorem drop_nil {t : List Nat} {i : Nat} (h : t.drop i = []) : t.length ≤ i := by
  have := congrArg List.length h
  rw [List.length_drop] at this
  simp at this
  omega
theorem drop_app {t a b : List Nat} {i : Nat} (h : t.drop i = a ++ b) : t.drop (i + a.length) = b := by
  rw [← List.drop_drop, h, List.drop_left]
theorem take1 {t : List Nat} {i : Nat} : (t.take (i + 1)).drop i = (t.drop i).take 1 := by rw [List.drop_take, show i + 1 - i = 1 by omega]
theorem joinL_len (w : List Nat) : ∀ ps : List (List Nat), (ps.map (·.length)).sum ≤ (TL.joinL w ps).length
  | [] => Nat.le_refl _
  | [p] => by
    show p.length + 0 ≤ p.length
    omega
  | p :: q :: r => by
    have := joinL_len w (q :: r)
    show p.length + ((q :: r).map (·.length)).sum ≤ (p ++ (w ++ TL.joinL w (q :: r))).length
    rw [List.length_append, List.length_append]
    omega
theorem ev_joinL {K : PySem.W.Frag} {σ : L2.St} {H : Hp} {ta tb : TE} {w : List Nat} {pcs : List (List Nat)} {p : Addr} (ha : Ev ta σ H (.str (SX.S w))) (hb : Ev tb σ H (.ref p)) (hp : SqL K H p ((pcs.map SX.S).map V.str)) (h1 : (TL.joinL w pcs).length ≤ 100000) (h2 : pcs.length ≤ 100000) (h3 : w.length ≤ 10) :
    Ev (tM1 (fun x xs H Q => ∃ a p, ∃ ys : List Str, x = .str a ∧ xs = [.ref p] ∧ (SqL K H p (ys.map V.str) ∨ SqT K H p (ys.map V.str)) ∧
      (ys.map (·.length)).sum + ys.length * a.length ≤ 16777216 ∧ Q (.str (Txt.join a ys)) H) ta tb) σ H (.str (SX.S (TL.joinL w pcs))) := fun H1 e Q q =>
  ha H1 e _ fun H2 e2 => ⟨⟨_, rfl⟩, hb H2 (e.trans e2) _ fun H3 e3 => ⟨SX.S w, p, pcs.map SX.S, rfl, rfl, .inl (ex_l ((e.trans e2).trans e3) hp), by
    rw [SX.lens, SX.S_len, List.length_map]
    have := joinL_len w pcs
    have : pcs.length * w.length ≤ 100000 * 10 := Nat.mul_le_mul h2 h3
    omega, by rw [SX.join_S]; exact q H3 (e2.trans e3)⟩⟩
/-- return (a new object, ..) -/
theorem s_retUR {R : Hp → Addr → Prop} {te : TE} {tr : TA} {σ : L2.St} {H : Hp} {D : Ends} {vs : List V} (hm : ∀ H H' p, Ex H H' → R H p → R H' p) (h : EvR R te σ H) (hr : ∀ H1, Ex H H1 → EvA tr σ H1 vs) (hl : vs.length ≤ 1000)
    (k : ∀ q p H1, H q = none → Ex H H1 → R H1 p → H1 q = some (.tup (.ref p :: vs)) → D.rt (.ref q) H1) : tRet (tTup (tCons te tr)) D σ H :=
  h H (Ex.refl H) _ fun p H1 hp e1 hR => hr H1 e1 H1 (Ex.refl H1) _ fun H2 e2 => ⟨by rw [List.length_cons]; exact sz_of (by omega), fun q hq => k q p _ (fresh_back (e1.trans e2) hq) ((e1.trans e2).trans (Ex.new hq)) (hm _ _ _ (e2.trans (Ex.new hq)) hR) upd_same⟩
theorem wo_upd (p : Addr) (H : Hp) (o : HO) : wo p (upd H p o) = wo p H := by
  funext a
  unfold wo
  split
  · rfl
  · rename_i h
    exact upd_ne h
theorem wo_mono {p : Addr} {H H' : Hp} (e : Ex H H') : Ex (wo p H) (wo p H') := fun a o h => by
  have hx : a ≠ p := fun z => by rw [z, wo_self] at h; cases h
  rw [wo_ne hx] at h ⊢
  exact e a o h
theorem Lst2.mono {α : Type} {R : Hp → Addr → α → Prop} {H H' : Hp} {p : Addr} {L : List α} (h : Lst2 R H p L) (e : Ex H H') (k : ∀ q l, R H q l → R H' q l) : Lst2 R H' p L := by
  obtain ⟨qs, h1, h2⟩ := h
  exact ⟨qs, e _ _ h1, h2.mono fun q l _ => k q l⟩
namespace Dg
theorem ev_lenX {σ : L2.St} {H : Hp} {ta : TE} {w : List Nat} (ha : Ev ta σ H (.str (SX.S w))) (hz : w.length ≤ 100000) : Ev (tCB (fun xs H Q => ∃ z, xs = [.str z] ∧ z.length ≤ sizeLine ∧ Q (.int z.length) H) (tCons ta tNil)) σ H (.int (w.length : Int)) :=
  ev_is (ev_lenS ha (by rw [SX.S_len]; exact hz)) (by rw [SX.S_len])
section
variable {K : PySem.W.Frag} {σ : L2.St} {H : Hp} {ta tb : TE}
theorem ev_cat {a b : Str} (ha : Ev ta σ H (.str a)) (hb : Ev tb σ H (.str b)) (h : a.length + b.length ≤ 100000) : Ev (tOp (fun x y H Q => ∃ i j, x = .str i ∧ y = .str j ∧ i.length + j.length ≤ sizeLine ∧ Q (.str (i ++ j)) H) ta tb) σ H (.str (a ++ b)) := fun H1 e Q q =>
  ha H1 e _ fun H2 e2 => hb H2 (e.trans e2) _ fun H3 e3 => ⟨a, b, rfl, rfl, sz_of h, q H3 (e2.trans e3)⟩
end
theorem c00 : PySem.Str.ofString "" = SX.S [] := by decide +kernel
section
variable {K : PySem.W.Frag} {σ : L2.St} {H : Hp} {D : Ends} {te ta tl th tb : TE}
theorem ev_bmS {r : V → List V → Hp → VK → Prop} {a : Str} {z : V} {tr : TA} {ys : List V} (h : Ev ta σ H (.str a)) (hb : EvA tr σ H ys) (hr : ∀ H1 Q, (∀ H2, Ex H1 H2 → Q z H2) → r (.str a) ys H1 Q) : Ev (tBM K "str" r ta tr) σ H z := fun H1 e Q q =>
  h H1 e _ fun H2 e2 => ⟨rfl, hb H2 (e.trans e2) _ fun H3 e3 => hr H3 Q fun H4 e4 => q H4 ((e2.trans e3).trans e4)⟩
end
section
variable {P : Program} {w : World} {K : PySem.W.Frag} {mg : Str → Option Value} {base : Heap}
theorem js_str {t : TE} {ts : List TE} {acc y : Str} {σ : L2.St} {H : Hp} {Q : Str → Hp → Prop} (h : Ev t σ H (.str y)) (hz : (acc ++ y).length ≤ 100000) (k : ∀ H1, Ex H H1 → tJs ts (acc ++ y) σ H1 Q) : tJs (t :: ts) acc σ H Q := h H (Ex.refl H) _ fun H1 e1 => ⟨y, rfl, sz_of hz, k H1 e1⟩
theorem fm_str {te : TE} {y : Str} {σ : L2.St} {H : Hp} (h : Ev te σ H (.str y)) (hz : y.length ≤ 100000) : Ev (tFmt te) σ H (.str y) := fun H1 e Q q => h H1 e _ fun H2 e2 => .inl ⟨y, rfl, sz_of hz, q H2 e2⟩
theorem fm_int {te : TE} {n : Nat} {σ : L2.St} {H : Hp} (h : Ev te σ H (.int (n : Int))) (hn : n < 10 ^ 30) : Ev (tFmt te) σ H (.str (SX.S (TL.numL n))) := fun H1 e Q q => h H1 e _ fun H2 e2 => .inr ⟨_, rfl, by
    have h1 : Nat.log2 n < 1920 := by
      by_cases h0 : n = 0
      · rw [h0]; decide
      · exact Nat.lt_trans ((Nat.log2_lt h0).mpr (Nat.lt_of_lt_of_le hn (by decide : 10 ^ 30 ≤ 2 ^ 100))) (by decide)
    exact h1, by rw [SX.num_S]; exact q H2 e2⟩
end
section
variable {σ : L2.St} {H : Hp} {ta tb tl : TE} {K : PySem.W.Frag}
theorem ev_slT {to : TO} {l : List Nat} {i : Nat} (ha : Ev ta σ H (.str (SX.S l))) (hn : ∀ σ H Q, Q none H → to σ H Q) (hl : Ev tl σ H (.int (i : Int))) (hz : l.length ≤ 100000) : Ev (tSl C8.rSlX ta to (tPart tl)) σ H (.str (SX.S (l.take i))) := fun H1 e Q q =>
  ha H1 e _ fun H2 e2 => hn _ _ _ (hl H2 (e.trans e2) _ fun H3 e3 => ⟨_, rfl, SX.S l, rfl, by rw [SX.S_len]; exact sz_of hz, by rw [SX.slice_to (by omega), Int.toNat_natCast]; exact q H3 (e2.trans e3)⟩)
end
section
variable {σ : L2.St} {H : Hp} {D : Ends} {tz : TS} {te : TE}
theorem q_callG {sp : Sp} {dvs vs : List V} {E : XK} {tr : TA} {g : TG} (h : EvA tr σ H vs) (k : ∀ H1, Ex H H1 → sp (vs ++ dvs) H1 (fun x H2 => g x σ H2 (tz D)) E) : tSeq (tAsg (tCall sp dvs E tr) g) tz D σ H := h H (Ex.refl H) _ fun H1 e1 => k H1 e1
end
theorem slice_mid {a : List Nat} {i j : Nat} (h : i ≤ j) (hj : j ≤ a.length) : Txt.slice (SX.S a) (some (i : Int)) (some (j : Int)) = SX.S ((a.drop i).take (j - i)) := by
  rw [← C8.cutS_slice]
  unfold cutS
  rw [SX.S_len, HT.sIx_nat, HT.sIx_nat, Nat.min_eq_left hj, Nat.min_eq_left (show i ≤ a.length by omega)]
theorem ev_slM {σ : L2.St} {H : Hp} {ta tl th : TE} {l : List Nat} {i j : Nat} (ha : Ev ta σ H (.str (SX.S l))) (hl : Ev tl σ H (.int (i : Int))) (hh : Ev th σ H (.int (j : Int))) (h : i ≤ j) (hj : j ≤ l.length) (hz : l.length ≤ 100000) : Ev (tSl C8.rSlX ta (tPart tl) (tPart th)) σ H (.str (SX.S ((l.drop i).take (j - i)))) := fun H1 e Q q =>
  ha H1 e _ fun H2 e2 => hl H2 (e.trans e2) _ fun H3 e3 => ⟨_, rfl, hh H3 ((e.trans e2).trans e3) _ fun H4 e4 => ⟨_, rfl, SX.S l, rfl, by rw [SX.S_len]; exact sz_of hz, by rw [slice_mid h hj]; exact q H4 ((e2.trans e3).trans e4)⟩⟩
end Dg
open Dg
open Dg
theorem join_ones : ∀ l : List Nat, Txt.join (SX.S []) (l.map fun c => (⟨#[c]⟩ : Str)) = SX.S l := by
  intro l
  have e : (l.map fun c => (⟨#[c]⟩ : Str)) = (l.map fun c => [c]).map SX.S := by
    rw [List.map_map]
    rfl
  rw [e, SX.join_S]
  congr 1
  induction l with
  | nil => rfl
  | cons c r ih =>
    cases r with
    | nil => rfl
    | cons d r => 
      have e2 : TL.joinL [] (List.map (fun c => [c]) (c :: d :: r)) = c :: TL.joinL [] (List.map (fun c => [c]) (d :: r)) := rfl
      rw [e2, ih (by rw [List.map_map]; rfl)]
def EvLD1 (te : TE) (σ : L2.St) (p : Addr) (H : Hp) (P : List V → Prop) : Prop := ∀ H1, Ex (wo p H) H1 → Dr p H1 → ∀ Q : VK, (∀ l H2 xs, P xs → H1 l = none → Ex (wo p H1) H2 → Dr p H2 → H2 l = some (.lst xs) → Q (.ref l) H2) → te σ H1 Q
theorem dr_ne {p l : Addr} {H : Hp} (d : Dr p H) (h : H l = none) : p ≠ l := fun z => by
  obtain ⟨s, _, e⟩ := d
  rw [z, h] at e
  cases e
theorem Dr.upd {p l : Addr} {H : Hp} {o : HO} (d : Dr p H) (h : p ≠ l) : Dr p (upd H l o) := by
  obtain ⟨s, s0, e⟩ := d
  exact ⟨s, s0, by rw [upd_ne h]; exact e⟩
section
variable {K : PySem.W.Frag} {σ : L2.St} {H : Hp} {p : Addr} {ta tb te tn : TE} {R : V → Prop} {PI : Int → Prop} {D : Ends} {tz : TS}
/-- [what is drawn for k in range(a number that is drawn)] -/
theorem e1_lc {j : Nat} {vs : List Nat} {m : Int} (hn : EvD1 tn σ p H (ZP fun n => 0 ≤ n ∧ n ≤ m)) (hm : m ≤ 10000) (hw : ∀ x, wipe ((wipe σ vs).set j (some x)) vs = wipe σ vs)
    (he : ∀ i : Nat, EvD1 te ((wipe σ vs).set j (some (.int (i : Int)))) p H R) : EvLD1 (tLc (iRng1 (tCons tn tNil)) (gName j) tYes te vs) σ p H (fun xs => (xs.length : Int) ≤ m ∧ ∀ x ∈ xs, R x) := fun H0 e d Q q =>
  hn H0 e d _ fun v H1 ⟨n, ev, hn0, hn1⟩ e1 d1 => by
    subst ev
    refine ⟨n, rfl, by omega, by omega, fun Dl hD => ?_⟩
    have hpd : p ≠ Dl := dr_ne d1 hD
    refine lc_range (lo := 0) (n := n.toNat) (fun i H' => Ex (wo p H1) H' ∧ Dr p H' ∧ ∃ acc, H' Dl = some (.lst acc) ∧ acc.length = i ∧ ∀ x ∈ acc, R x) ⟨Ex.mut (wo_le p H1) (by rw [wo_ne (Ne.symm hpd)]; exact hD), d1.upd hpd, [], upd_same, rfl, fun x hx => by cases hx⟩ (fun i H' hi pv => ?_) (fun H' pv => ?_)
    · obtain ⟨p1, p2, acc, p3, p4, p5⟩ := pv
      have e0 : (0 : Int) + (i : Int) = (i : Int) := Int.zero_add _
      show wipe ((wipe σ vs).set j (some (.int ((0 : Int) + (i : Int))))) vs = wipe σ vs ∧ te ((wipe σ vs).set j (some (.int ((0 : Int) + (i : Int))))) H' fun y H4 => ∃ acc, H4 Dl = some (.lst acc) ∧ acc.length < sizeLine ∧ _
      rw [e0]
      refine ⟨hw _, he i H' (wx_trans e (wx_trans e1 p1)) p2 _ fun y H4 hy e4 d4 => ?_⟩
      refine ⟨acc, e4 Dl _ (by rw [wo_ne (Ne.symm hpd)]; exact p3), sz_lt (by omega), Ex.mut (wx_trans p1 e4) (by rw [wo_ne (Ne.symm hpd)]; exact hD), d4.upd hpd, acc ++ [y], upd_same, by rw [List.length_append, p4]; rfl, fun x hx => ?_⟩
      rcases List.mem_append.mp hx with h | h
      · exact p5 x h
      · rw [List.mem_singleton.mp h]
        exact hy
    · obtain ⟨p1, p2, acc, p3, p4, p5⟩ := pv
      have hD0 : H0 Dl = none := by
        cases z : H0 Dl with
        | none => rfl
        | some o =>
          have := e1 Dl o (by rw [wo_ne (Ne.symm hpd)]; exact z)
          rw [hD] at this
          cases this
      exact q Dl H' acc ⟨by omega, p5⟩ hD0 (wx_trans e1 p1) p2 p3
def oneS (L : List Nat) (v : V) : Prop := ∃ c, v = .str ⟨#[c]⟩ ∧ c ∈ L
theorem ones_of {L : List Nat} : ∀ {xs : List V}, (∀ x ∈ xs, oneS L x) → ∃ l : List Nat, xs = l.map (fun c => V.str ⟨#[c]⟩) ∧ ∀ c ∈ l, c ∈ L
  | [], _ => ⟨[], rfl, fun c hc => by cases hc⟩
  | x :: r, h => by
    obtain ⟨l, e, hl⟩ := ones_of (xs := r) fun y hy => h y (List.mem_cons_of_mem _ hy)
    obtain ⟨c, ec, hc⟩ := h x List.mem_cons_self
    refine ⟨c :: l, by rw [ec, e]; rfl, fun y hy => ?_⟩
    rcases List.mem_cons.mp hy with z | z
    · rw [z]; exact hc
    · exact hl y z
def txtP (L : List Nat) (m : Nat) (v : V) : Prop := ∃ l : List Nat, v = .str (SX.S l) ∧ l.length ≤ m ∧ ∀ c ∈ l, c ∈ L
/-- ''.join(a list of single signs) -/
theorem e1_join {L : List Nat} {m : Nat} (hm : m ≤ 10000) (h : EvLD1 te σ p H (fun xs => (xs.length : Int) ≤ (m : Int) ∧ ∀ x ∈ xs, oneS L x)) : EvD1 (tM1 (fun x xs H Q => ∃ a p, ∃ ys : List Str, x = .str a ∧ xs = [.ref p] ∧ (SqL K H p (ys.map V.str) ∨ SqT K H p (ys.map V.str)) ∧
      (ys.map (·.length)).sum + ys.length * a.length ≤ 16777216 ∧ Q (.str (Txt.join a ys)) H) (tC (.str (PySem.Str.ofString ""))) te) σ p H (txtP L m) := fun H1 e d Q q => by
  refine ⟨⟨_, rfl⟩, h H1 e d _ fun l H2 xs hP hl e2 d2 h2 => ?_⟩
  obtain ⟨hlen, hxs⟩ := hP
  obtain ⟨w, rfl, hw⟩ := ones_of hxs
  rw [List.length_map] at hlen
  have hw2 : w.length ≤ m := by omega
  refine ⟨SX.S [], l, w.map fun c => (⟨#[c]⟩ : Str), by rw [c00], rfl, .inl (sq_of ?_), ?_, ?_⟩
  · rw [h2, List.map_map]
    rfl
  · have e9 : (w.map fun c => (⟨#[c]⟩ : Str)).map (·.length) = List.replicate w.length 1 := by
      rw [List.map_map, List.eq_replicate_iff]
      refine ⟨by rw [List.length_map], fun b hb => ?_⟩
      obtain ⟨c, _, rfl⟩ := List.mem_map.mp hb
      rfl
    rw [e9, List.sum_replicate_nat, List.length_map]
    show w.length * 1 + w.length * 0 ≤ _
    omega
  · rw [join_ones]
    exact q _ H2 ⟨w, rfl, hw2, hw⟩ e2 d2
/-- signs[_law_digit(state, m)] -/
theorem e1_sign {L : List Nat} {m : Int} {E : XK} {i : Nat} (hs : σ[i]? = some (some (.str (SX.S L)))) (hL : (L.length : Int) = m) (h0 : 0 < m) (hm : m ≤ 1000) (ha : Ev ta σ (wo p H) (.ref p)) (hb : Ev tb σ (wo p H) (.int m)) : EvD1 (tOp rIxS (tVar i) (tCall (sp__law_digit K) [] E (tCons ta (tCons tb tNil)))) σ p H (oneS L) := fun H1 e d Q q =>
  ⟨.str (SX.S L), hs, ez_digit ha hb h0 (by omega) H1 e d _ fun v H2 ⟨n, ev, n0, n1⟩ e2 d2 => by
    subst ev
    obtain ⟨k, rfl⟩ := Int.eq_ofNat_of_zero_le n0
    have hk : k < L.length := by omega
    exact ⟨SX.S L, (k : Int), L[k], rfl, rfl, by rw [SX.S_len]; exact sz_of (by omega), atI_nat (List.getElem?_eq_getElem hk), q _ H2 ⟨L[k], rfl, List.getElem_mem hk⟩ e2 d2⟩⟩
end
section
variable {K : PySem.W.Frag} {σ : L2.St} {H : Hp} {tl te ta tb : TE}
/-- [e for c in a text] -/
theorem el_lcX {w : List Nat} {j : Nat} {vs : List Nat} (f : Nat → V) (h : Ev tl σ H (.str (SX.S w))) (hz : w.length ≤ 40000) (hw : ∀ x, wipe ((wipe σ vs).set j (some x)) vs = wipe σ vs)
    (he : ∀ (i c : Nat) H1, Ex H H1 → w[i]? = some c → Ev te ((wipe σ vs).set j (some (.str ⟨#[c]⟩))) H1 (f c)) : EvL (tLc (iStr tl) (gName j) tYes te vs) σ H (w.map f) := fun H0 e Q q => h H0 e _ fun H1 e1 => ⟨SX.S w, rfl, fun Dl hD => by
  have ec : ∀ i, (SX.S w).cps[i]? = w[i]? := fun i => List.getElem?_toArray
  have es : (SX.S w).cps.size = w.length := List.size_toArray
  refine ⟨fun i m H' => (Ex H1 H' ∧ H' Dl = some (.lst ((w.take i).map f))) ∧ i ≤ w.length ∧ w.length - i ≤ m, ⟨_, ⟨Ex.new hD, upd_same⟩, Nat.zero_le _, Nat.le_refl _⟩, fun i m H' pv => ?_⟩
  obtain ⟨⟨p2, p3⟩, hi, hm⟩ := pv
  by_cases hlt : i < w.length
  · refine .inr ⟨by show i < (SX.S w).cps.size; omega, fun H2 => Ex H1 H2 ∧ H2 Dl = some (.lst ((w.take (i + 1)).map f)), fun H2 q2 => ⟨m - 1, by omega, q2, hlt, by omega⟩, ?_⟩
    rintro x H2 ⟨rfl, c, hc, rfl⟩
    rw [ec] at hc
    show wipe ((wipe σ vs).set j (some (.str ⟨#[c]⟩))) vs = wipe σ vs ∧ te ((wipe σ vs).set j (some (.str ⟨#[c]⟩))) _ fun y H4 => ∃ acc, H4 Dl = some (.lst acc) ∧ acc.length < sizeLine ∧ _
    refine ⟨hw _, he i c H1 (e.trans e1) hc _ p2 _ fun H4 e4 => ⟨_, e4 _ _ p3, sz_lt (by rw [List.length_map, List.length_take]; omega), Ex.mut (p2.trans e4) hD, ?_⟩⟩
    rw [upd_same, List.take_add_one, hc, List.map_append]
    rfl
  · refine .inl ⟨by show (SX.S w).cps.size ≤ i; omega, ?_⟩
    rw [show i = w.length by omega, List.take_length] at p3
    exact q Dl H' (fresh_back e1 hD) (e1.trans p2) p3⟩
end
open Dg
open Dg
abbrev Fl := List Nat × Bool
abbrev Fo := List Nat × Nat × Bool
def dblL : List Nat → List Nat
  | [] => []
  | c :: r => if c = 34 then 34 :: 34 :: dblL r else c :: dblL r
def wrL (s : List Nat) (m : Bool) : List Nat := if m = true then 34 :: (dblL s ++ [34]) else s
def recT (sp : Nat) : List Fl → List Nat
  | [] => []
  | [f] => wrL f.1 f.2
  | f :: g :: r => wrL f.1 f.2 ++ sp :: recT sp (g :: r)
def okF (sp : Nat) (f : Fl) : Prop := f.2 = false → ∀ c ∈ f.1, c ≠ sp ∧ c ≠ 34 ∧ c ≠ 10
def okSep (sp : Nat) : Prop := sp = 44 ∨ sp = 59 ∨ sp = 32 ∨ sp = 49
def okR (sp : Nat) (r : List Nat) : Prop := ∀ c, r.head? = some c → c = sp ∨ c = 10
def okE (r : List Nat) : Prop := r = [] ∨ r.head? = some 10
def offsF (sp : Nat) : Nat → List Fl → List Fo
  | _, [] => []
  | o, f :: r => (f.1, o, f.2) :: offsF sp (o + (wrL f.1 f.2).length + 1) r
def offsR (sp : Nat) : Nat → List (List Fl) → List (List Fo)
  | _, [] => []
  | o, r :: rs => offsF sp o r :: offsR sp (o + (recT sp r).length + 1) rs
def bodyT (sp : Nat) : List (List Fl) → Option (List Fl) → List Nat
  | [], none => []
  | [], some r => recT sp r
  | r :: rs, tl => recT sp r ++ 10 :: bodyT sp rs tl
theorem dbl_app : ∀ a b : List Nat, dblL (a ++ b) = dblL a ++ dblL b
  | [], _ => rfl
  | c :: r, b => by
    show (if c = 34 then 34 :: 34 :: dblL (r ++ b) else c :: dblL (r ++ b)) = (if c = 34 then 34 :: 34 :: dblL r else c :: dblL r) ++ dblL b
    rw [dbl_app r b]
    split <;> rfl
theorem dbl_plain : ∀ {a : List Nat}, 34 ∉ a → dblL a = a
  | [], _ => rfl
  | c :: r, h => by
    unfold dblL
    rw [if_neg (fun z => h (by rw [z]; exact List.mem_cons_self)), dbl_plain fun z => h (List.mem_cons_of_mem _ z)]
theorem cut34 : ∀ s : List Nat, ∃ a tl, s = a ++ tl ∧ 34 ∉ a ∧ (tl = [] ∨ ∃ t, tl = 34 :: t)
  | [] => ⟨[], [], rfl, List.not_mem_nil, .inl rfl⟩
  | c :: r => by
    by_cases h : c = 34
    · exact ⟨[], c :: r, rfl, List.not_mem_nil, .inr ⟨r, by rw [h]⟩⟩
    · obtain ⟨a, tl, e, ha, ht⟩ := cut34 r
      refine ⟨c :: a, tl, by rw [e]; rfl, fun z => ?_, ht⟩
      rcases List.mem_cons.mp z with z | z
      · exact h z.symm
      · exact ha z
theorem join_snoc2 (b : List Nat) : ∀ (ps : List (List Nat)) (a : List Nat), TL.joinL [34] (ps ++ [a ++ 34 :: b]) = TL.joinL [34] (ps ++ [a, b])
  | [], a => by
    show a ++ 34 :: b = a ++ ([34] ++ b)
    rfl
  | [p], a => by
    show p ++ ([34] ++ (a ++ 34 :: b)) = p ++ ([34] ++ (a ++ ([34] ++ b)))
    rfl
  | p :: q :: r, a => by
    show p ++ ([34] ++ TL.joinL [34] (q :: r ++ [a ++ 34 :: b])) = p ++ ([34] ++ TL.joinL [34] (q :: r ++ [a, b]))
    rw [join_snoc2 b (q :: r) a]
theorem dbl_len : ∀ s : List Nat, s.length ≤ (dblL s).length
  | [] => Nat.le_refl _
  | c :: r => by
    have := dbl_len r
    unfold dblL
    split
    · show r.length + 1 ≤ (dblL r).length + 1 + 1
      omega
    · show r.length + 1 ≤ (dblL r).length + 1
      omega
def fldF (x : Str) (o : Nat) (m : Bool) : List (Str × V) := putF "marked" (.bl m) (putF "offset" (.int (o : Int)) (putF "text" (.str x) []))
def FieldAt (K : PySem.W.Frag) (H : Hp) (p : Addr) (l : Fo) : Prop := ∃ dx, H p = some (.ins (clsAt K "Field") dx (fldF (SX.S l.1) l.2.1 l.2.2))
theorem FieldAt.ex {K : PySem.W.Frag} {H H' : Hp} {p : Addr} {l : Fo} (h : FieldAt K H p l) (e : Ex H H') : FieldAt K H' p l := by
  obtain ⟨dx, h⟩ := h
  exact ⟨dx, e _ _ h⟩
theorem FieldAt.upd {K : PySem.W.Frag} {H : Hp} {p q : Addr} {l : Fo} {ys zs : List V} (h : FieldAt K H p l) (hq : H q = some (.lst ys)) : FieldAt K (upd H q (.lst zs)) p l := by
  obtain ⟨dx, h⟩ := h
  exact ⟨dx, by rw [upd_ne (fun z => by rw [z, hq] at h; cases h)]; exact h⟩
theorem FieldAt.wo {K : PySem.W.Frag} {H : Hp} {p q : Addr} {l : Fo} {ys : List V} (h : FieldAt K H p l) (hq : H q = some (.lst ys)) : FieldAt K (wo q H) p l := by
  obtain ⟨dx, h⟩ := h
  exact ⟨dx, by rw [wo_ne (fun z => by rw [z, hq] at h; cases h)]; exact h⟩
section
variable {K : PySem.W.Frag} {σ : L2.St} {H : Hp} {ta tb tc te tv : TE} {tr : TA} {D : Ends} {tz : TS} {p C dx : Addr} {fs : List (Str × V)} {f : Str} {v : V}
theorem putF_le (f : Str) (v : V) : ∀ fs : List (Str × V), (putF f v fs).length ≤ fs.length + 1
  | [] => Nat.le_refl _
  | (g, x) :: r => by
    unfold putF
    split
    · show r.length + 1 ≤ r.length + 1 + 1
      omega
    · have := putF_le f v r
      show (putF f v r).length + 1 ≤ r.length + 1 + 1
      omega
theorem s_fld (hv : Ev tv σ H v) (ha : ∀ H1, Ex H H1 → Ev ta σ H1 (.ref p)) (hp : H p = some (.ins C dx fs)) (c : Cls K C) (n : NoAttr K C f) (hl : fs.length < 1000) (k : ∀ H1, Ex H H1 → D.nx σ (upd H1 p (.ins C dx (putF f v fs)))) : sFld K ta tv f D σ H :=
  hv H (Ex.refl H) _ fun H1 e1 => ha H1 e1 H1 (Ex.refl H1) _ fun H2 e2 => ⟨p, C, dx, fs, rfl, (e1.trans e2) _ _ hp, c, n, hl, k H2 (e1.trans e2)⟩
theorem q_fld (hv : Ev tv σ H v) (ha : ∀ H1, Ex H H1 → Ev ta σ H1 (.ref p)) (hp : H p = some (.ins C dx fs)) (c : Cls K C) (n : NoAttr K C f) (hl : fs.length < 1000) (k : ∀ H1, Ex H H1 → tz D σ (upd H1 p (.ins C dx (putF f v fs)))) : tSeq (sFld K ta tv f) tz D σ H := s_fld (D := { D with nx := tz D }) hv ha hp c n hl k
end
def sp_Field____init__ (K : PySem.W.Frag) : Sp := fun vs H Q _ => ∃ (p dx : Addr) (x : Str) (o : Nat) (m : Bool), vs = [.ref p, .str x, .int (o : Int), .bl m] ∧ H p = some (.ins (clsAt K "Field") dx []) ∧ ∀ H', Ex (wo p H) H' → H' p = some (.ins (clsAt K "Field") dx (fldF x o m)) → Q .non H'
def spFld (m : Bool) (K : PySem.W.Frag) : Sp := fun vs H Q _ => ∃ (sp : Nat) (t pre s rest : List Nat), vs = [.str (SX.S t), .int (pre.length : Nat), .str (SX.S [sp])] ∧ t = pre ++ (wrL s m ++ rest) ∧ okF sp (s, m) ∧ okR sp rest ∧ okSep sp ∧ t.length ≤ 50000 ∧
  ∀ q p H', H q = none → Ex H H' → H' q = some (.tup [.ref p, .int ((pre.length + (wrL s m).length : Nat) : Int)]) → FieldAt K H' p (s, pre.length, m) → Q (.ref q) H'
abbrev sp__marked_field (K : PySem.W.Frag) : Sp := spFld true K
abbrev sp__plain_field (K : PySem.W.Frag) : Sp := spFld false K
def sp__next_record (K : PySem.W.Frag) : Sp := fun vs H Q _ => ∃ (sp : Nat) (t pre rest : List Nat) (fs : List Fl), vs = [.str (SX.S t), .int (pre.length : Nat), .str (SX.S [sp])] ∧ t = pre ++ (recT sp fs ++ rest) ∧ fs ≠ [] ∧ (∀ f ∈ fs, okF sp f) ∧ okE rest ∧ okSep sp ∧ t.length ≤ 50000 ∧
  ∀ q p H', H q = none → H p = none → Ex H H' → H' q = some (.tup [.ref p, .int ((pre.length + (recT sp fs).length + 1 : Nat) : Int)]) → Lst2 (FieldAt K) H' p (offsF sp pre.length fs) → Q (.ref q) H'
def okRec (sp : Nat) (r : List Fl) : Prop := r ≠ [] ∧ ∀ f ∈ r, okF sp f
def sp_split_records (K : PySem.W.Frag) : Sp := fun vs H Q _ => ∃ (sp : Nat) (rs : List (List Fl)) (tl : Option (List Fl)), vs = [.str (SX.S (bodyT sp rs tl)), .str (SX.S [sp])] ∧ (∀ r ∈ rs, okRec sp r) ∧ (∀ r, tl = some r → okRec sp r ∧ recT sp r ≠ []) ∧ okSep sp ∧ (bodyT sp rs tl).length ≤ 50000 ∧
  ∀ p H', H p = none → Ex H H' → Lst2 (Lst2 (FieldAt K)) H' p (offsR sp 0 (rs ++ tl.toList)) → Q (.ref p) H'
section
variable {K : PySem.W.Frag} {σ : L2.St} {H : Hp} {tr : TA} {E : XK}
theorem er_field {x : List Nat} {o : Nat} {m : Bool} (ha : EvA tr σ H [.str (SX.S x), .int (o : Int), .bl m]) : EvR (fun H p => FieldAt K H p (x, o, m)) (tMake (clsAt K "Field") (sp_Field____init__ K) [] C8.E0 tr) σ H := fun H0 e0 Q q =>
  ha H0 e0 _ fun H1 e1 => fun x' dx hx hdx ne => by
    have up : Ex H1 (wo x' (upd (upd H1 dx (.own x')) x' (.ins (clsAt K "Field") dx []))) := fun b o hb => by
      have nb : b ≠ x' := fun z => by rw [z, hx] at hb; cases hb
      have nd : b ≠ dx := fun z => by rw [z, hdx] at hb; cases hb
      rw [wo_ne nb, upd_ne nb, upd_ne nd]
      exact hb
    refine ⟨x', dx, SX.S x, o, m, rfl, upd_same, fun H' e' h' => ⟨rfl, ?_⟩⟩
    exact q x' H' (fresh_back e1 hx) (e1.trans (up.trans e')) ⟨dx, h'⟩
end
section
variable {P : Program} {w : World} {K : PySem.W.Frag} {mg : Str → Option Value} {base : Heap}
theorem ok_Field____init__ (D : MetD K "Field" "__init__" "Field.__init__" s_Field____init__ ["self", "text", "offset", "marked"]) (C_Field : ClsD K mg "Field" ["text", "offset", "marked"]) :
    C8.Mak P w K mg base 1 "Field" (clsAt K "Field") (sp_Field____init__ K) [] := by
  refine mak_of C_Field D sc_Field____init__ (fun vs H Q E h => ?_) (fun f cdv A outer s H vs Q E hr h => ?_)
  · obtain ⟨_, _, _, _, _, rfl, _⟩ := h
    rfl
  refine ⟨_, (pss_cons (ps_fld (pv 0) (pv 1) rfl)
    (pss_cons (ps_fld (pv 0) (pv 2) rfl)
    (pss_one (ps_fld (pv 0) (pv 3) rfl)))), ?_⟩
  obtain ⟨p, dx, x, o, m, rfl, hp, q⟩ := h
  have cl := C_Field.cl
  refine q_fld (ev_var rfl) (fun _ _ => ev_var rfl) hp cl C_Field.na.1 (by decide) fun H1 e1 => ?_
  have l1 : (putF "text" (V.str x) []).length < 1000 := Nat.lt_of_le_of_lt (putF_le _ _ _) (by decide)
  have l2 : ∀ m, (putF "offset" m (putF "text" (V.str x) [])).length < 1000 := fun m => Nat.lt_of_le_of_lt (putF_le _ _ _) (Nat.lt_of_le_of_lt (Nat.succ_le_succ (putF_le _ _ _)) (by decide))
  refine q_fld (ev_var rfl) (fun _ _ => ev_var rfl) upd_same cl C_Field.na.2.1 l1 fun H2 e2 => ?_
  refine s_fld (ev_var rfl) (fun _ _ => ev_var rfl) upd_same cl C_Field.na.2.2.1 (l2 _) fun H3 e3 => q _ ?_ upd_same
  have xa : Ex (wo p H) (upd H1 p (.ins (clsAt K "Field") dx (putF "text" (.str x) []))) := wx_mut (wx_of e1)
  have xb : Ex (wo p H) (upd H2 p (.ins (clsAt K "Field") dx (putF "offset" (.int (o : Int)) (putF "text" (.str x) [])))) := wx_mut (xa.trans e2)
  exact wx_mut (xb.trans e3)
theorem mk34 : PySem.Str.ofString "\"" = SX.S [34] := by decide +kernel
theorem mk10 : PySem.Str.ofString "\n" = SX.S [10] := by decide +kernel
theorem dec_S {a b : List Nat} : decide (V.str (SX.S a) = V.str (SX.S b)) = decide (a = b) := by
  by_cases h : a = b
  · rw [h, decide_eq_true rfl, decide_eq_true rfl]
  · rw [decide_eq_false h, decide_eq_false fun z => h (SX.S_inj (V.str.inj z))]
def stopB (sp : Nat) : List Nat → Bool
  | [] => false
  | c :: _ => !decide (c = sp) && !decide (c = 10)
/-- a condition over the sign at a place, or the end -/
theorem et_stop {t : List Nat} {at_ sp i j : Nat} {σ : L2.St} {H : Hp} {b : Bool} (h0 : σ[0]? = some (some (.str (SX.S t)))) (h1 : σ[i]? = some (some (.int (at_ : Int)))) (h2 : σ[j]? = some (some (.str (SX.S [sp])))) (hz : t.length ≤ 50000)
    (hb : b = stopB sp (t.drop at_)) :
    EvT (tAnd (tTest (tOp (rI0 fun i j => .bl (decide (i < j))) (tVar i) (tCB (fun xs H Q => ∃ z, xs = [.str z] ∧ z.length ≤ sizeLine ∧ Q (.int z.length) H) (tCons (tVar 0) tNil)))) (tAnd (tTest (tOp rNe (tOp rIxS (tVar 0) (tVar i)) (tVar j))) (tTest (tOp rNe (tOp rIxS (tVar 0) (tVar i)) (tC (.str (SX.S [10]))))))) σ H b := by
  have hz2 : t.length ≤ 100000 := by omega
  have hl : (SX.S t).length ≤ 100000 := by rw [SX.S_len]; exact hz2
  refine et_is (a := decide ((at_ : Int) < (t.length : Int)) && (!decide ((t.getD at_ 0) = sp) && !decide ((t.getD at_ 0) = 10))) (et_and (et_test (ev_op (ev_var h1) (ev_lenX (ev_var h0) hz2) rv_I0)) fun hlt => ?_) ?_
  · have hi : at_ < t.length := by have := of_decide_eq_true hlt; omega
    have hx : atI (SX.S t).cps.toList (at_ : Int) = some (t.getD at_ 0) := atI_nat (by
      show t[at_]? = _
      rw [List.getD_eq_getElem?_getD, List.getElem?_eq_getElem hi]
      rfl)
    have ix : Ev (tOp rIxS (tVar 0) (tVar i)) σ H (.str (SX.S [t.getD at_ 0])) := ev_op (ev_var h0) (ev_var h1) (rv_ixS hl hx)
    have e1 : ∀ c d : Nat, (!decide (V.str (SX.S [c]) = V.str (SX.S [d]))) = !decide (c = d) := fun c d => by
      rw [dec_S]
      by_cases h : c = d
      · rw [h]; simp
      · rw [decide_eq_false h, decide_eq_false fun z => h (List.cons.inj z).1]
    exact et_and (et_test (ev_is (ev_op ix (ev_var h2) (rv_ne rfl)) (by rw [e1]))) fun _ => et_test (ev_is (ev_op ix ev_c (rv_ne rfl)) (by rw [e1]))
  · rw [hb]
    cases h : t.drop at_ with
    | nil =>
      have := drop_nil h
      rw [decide_eq_false (by omega), Bool.false_and]
      rfl
    | cons c r =>
      obtain ⟨h3, h4, _⟩ := at_drop h
      rw [decide_eq_true (by omega), Bool.true_and, List.getD_eq_getElem?_getD, h3]
      rfl
theorem okR_stop {sp : Nat} {rest : List Nat} (h : okR sp rest) : stopB sp rest = false := by
  cases rest with
  | nil => rfl
  | cons c r =>
    rcases h c rfl with z | z
    · show (!decide (c = sp) && !decide (c = 10)) = false
      rw [decide_eq_true z]
      rfl
    · show (!decide (c = sp) && !decide (c = 10)) = false
      rw [decide_eq_true z, Bool.not_true, Bool.and_false]
theorem okR_one {sp : Nat} {rest : List Nat} (h : okR sp rest) (hs : okSep sp) : rest.take 1 ≠ [34] := fun z => by
  cases rest with
  | nil => cases z
  | cons c r =>
    have hc : c = 34 := (List.cons.inj z).1
    rcases h c rfl with z | z
    · rcases hs with h | h | h <;> omega
    · omega
end
open Dg
section
variable {P : Program} {w : World} {K : PySem.W.Frag} {mg : Str → Option Value} {base : Heap}
theorem ok__marked_field (D : Dn K mg "_marked_field" s__marked_field ["text", "start", "separator"]) (C_Field : ClsD K mg "Field" ["text", "offset", "marked"]) (c_Field____init__ : C8.Mak P w K mg base 1 "Field" (clsAt K "Field") (sp_Field____init__ K) []) (z_len : mg "len" = none) (g__LINE_END : ∃ u, mg "_LINE_END" = some u ∧ RelV (.str (SX.S [10])) u) (g__MARK : ∃ u, mg "_MARK" = some u ∧ RelV (.str (SX.S [34])) u) :
    C8.Cal P w K mg base 3 "_marked_field" (sp__marked_field K) [] := by
  refine cal_of D sc__marked_field (fun vs H Q E h => ?_) (fun f cdv A outer s H vs Q E hr h => ?_)
  · obtain ⟨_, _, _, _, _, rfl, _⟩ := h
    rfl
  refine ⟨_, (pss_cons (ps_set (i := 3) sc__marked_field.nd rfl (.inl rfl) (pe_lst pa_nil))
    (pss_cons (ps_set (i := 4) sc__marked_field.nd rfl (.inl rfl) (pe_op op_add (pv 1) pe_int))
    (pss_cons (ps_set (i := 5) sc__marked_field.nd rfl (.inl rfl) pe_bl)
    (pss_cons (ps_while PassesOwn.never (pt_not (pt_val (pv 5)))
      (pss_cons (ps_set (i := 6) sc__marked_field.nd rfl (.inl rfl) (pe_bm PySem.F.plainAttrs_str PySem.F.slot_str_find PySem.F.type_str_find mt_find3 (pv 0) (pa_cons (C8.pe_gc rfl g__MARK) (pa_cons (pv 4) pa_nil))))
    (pss_cons (ps_if (pt_cmpR op_lt (pv 6) pe_int (nomark _))
      (pss_one ps_never)
      pss_nil)
    (pss_cons (ps_expr (pe_bm PySem.F.plainAttrs_list PySem.F.slot_list_append PySem.F.type_list_append mt_append (pv 3) (pa_cons (pe_slice C8.sl_txt (pv 0) (po_some (pv 4)) (po_some (pv 6))) pa_nil)))
    (pss_cons (ps_set (i := 5) sc__marked_field.nd rfl (.inl rfl) (pe_cmpR op_ne (pe_slice C8.sl_txt (pv 0) (po_some (pe_op op_add (pv 6) pe_int)) (po_some (pe_op op_add (pv 6) pe_int))) (C8.pe_gc rfl g__MARK) (nomark _)))
    (pss_one (ps_set (i := 4) sc__marked_field.nd rfl (.inl rfl) (pe_ifExp (pt_val (pv 5)) (pe_op op_add (pv 6) pe_int) (pe_op op_add (pv 6) pe_int)))))))))
    (pss_cons (ps_if (PW.pt (pw_and (pt_cmpR op_lt (pv 4) (pe_callB call_len_str (by rfl) z_len PySem.boot_len (pa_cons (pv 0) pa_nil)) (nomark _)) (pw_and (pt_cmpR op_ne (pe_ix ix_str (pv 0) (pv 4) (fun _ _ => rfl)) (pv 2) (nomark _)) (pw_and1 (pt_cmpR op_ne (pe_ix ix_str (pv 0) (pv 4) (fun _ _ => rfl)) (C8.pe_gc rfl g__LINE_END) (nomark _))))))
      (pss_one ps_never)
      pss_nil)
    (pss_one (ps_ret (pe_tup (pa_cons (C8.pe_mk c_Field____init__ hr (by decide) (by rfl) (pa_cons (pe_join (C8.pe_gc rfl g__MARK) (pv 3)) (pa_cons (pv 1) (pa_cons pe_bl pa_nil)))) (pa_cons (pv 4) pa_nil)))))))))), ?_⟩
  obtain ⟨sp, t, pre, s, rest, rfl, ht, hF, hR, hs, hz, q⟩ := h
  have hw : wrL s true = 34 :: (dblL s ++ [34]) := rfl
  rw [hw] at ht q
  have hz2 : t.length ≤ 100000 := by omega
  have hd0 : t.drop pre.length = 34 :: (dblL s ++ 34 :: rest) := by rw [ht, List.drop_left]; simp
  obtain ⟨_, hlt, hd1⟩ := at_drop hd0
  refine q_asgL (el_lst ea_nil (by decide)) fun pp H1 hpp e1 h1 => ?_
  refine q_asg (v := .int ((pre.length + 1 : Nat) : Int)) (ev_op (ev_var rfl) ev_c rv_I0) fun H2 e2 => ?_
  refine q_asg (v := .bl false) ev_c fun H3 e3 => ?_
  refine q_while (fun m σ' H' => ∃ (at' : Nat) (cl : Bool) (pcs : List (List Nat)) (ev : Option V), σ' = [some (.str (SX.S t)), some (.int (pre.length : Nat)), some (.str (SX.S [sp])), some (.ref pp), some (.int (at' : Int)), some (.bl cl), ev] ∧ Ex H H' ∧ H' pp = some (.lst ((pcs.map SX.S).map V.str)) ∧ pcs.length ≤ at' ∧ at' ≤ t.length ∧
      ((cl = false ∧ ∃ s', t.drop at' = dblL s' ++ 34 :: rest ∧ TL.joinL [34] (pcs ++ [s']) = s ∧ m = s'.length + 1) ∨ (cl = true ∧ t.drop at' = rest ∧ TL.joinL [34] pcs = s ∧ m = 0))) (s.length + 1) ⟨pre.length + 1, false, [], none, rfl, (e1.trans e2).trans e3, e3 _ _ (e2 _ _ h1), Nat.zero_le _, hlt, .inl ⟨rfl, s, hd1, rfl, rfl⟩⟩ fun m σ' H' pv => ?_
  obtain ⟨at', cl, pcs, ev, rfl, e, hl, hpl, hat, hc⟩ := pv
  refine ⟨!cl, et_not (et_B (ev_var rfl)), fun hb H4 e4 => ?_, fun hb H4 e4 => ?_⟩
  · rcases hc with ⟨rfl, s', hd, hj, rfl⟩ | ⟨rfl, _⟩
    rotate_left
    · exact nomatch hb
    obtain ⟨a, tl, rfl, ha, htl⟩ := cut34 s'
    have hmore : ∃ more, t.drop at' = a ++ 34 :: more ∧ ((tl = [] ∧ more = rest) ∨ ∃ t', tl = 34 :: t' ∧ more = 34 :: (dblL t' ++ 34 :: rest)) := by
      rw [dbl_app, dbl_plain ha] at hd
      rcases htl with rfl | ⟨t', rfl⟩
      · exact ⟨rest, by rw [hd]; simp [dblL], .inl ⟨rfl, rfl⟩⟩
      · refine ⟨_, ?_, .inr ⟨t', rfl, rfl⟩⟩
        rw [hd]
        show a ++ (if (34 : Nat) = 34 then 34 :: 34 :: dblL t' else 34 :: dblL t') ++ 34 :: rest = _
        rw [if_pos rfl]
        simp
    obtain ⟨more, hdm, hcase⟩ := hmore
    have hf := find3_at hdm ha
    have hdr := drop_app hdm
    obtain ⟨_, hlt2, hdr2⟩ := at_drop hdr
    refine ⟨fun σ2 H2 => ∃ m', m' < (a ++ tl).length + 1 ∧ ∃ (at' : Nat) (cl : Bool) (pcs : List (List Nat)) (ev : Option V), σ2 = [some (.str (SX.S t)), some (.int (pre.length : Nat)), some (.str (SX.S [sp])), some (.ref pp), some (.int (at' : Int)), some (.bl cl), ev] ∧ Ex H H2 ∧ H2 pp = some (.lst ((pcs.map SX.S).map V.str)) ∧ pcs.length ≤ at' ∧ at' ≤ t.length ∧
      ((cl = false ∧ ∃ s', t.drop at' = dblL s' ++ 34 :: rest ∧ TL.joinL [34] (pcs ++ [s']) = s ∧ m' = s'.length + 1) ∨ (cl = true ∧ t.drop at' = rest ∧ TL.joinL [34] pcs = s ∧ m' = 0)), fun σ2 H2 h => h, ?_⟩
    refine q_asg (v := .int ((at' + a.length : Nat) : Int)) (ev_bmS (a := SX.S t) (ys := [.str (SX.S [34]), .int (at' : Int)]) (ev_var rfl) (ea_cons ev_c (ea_cons (ev_var rfl) ea_nil)) fun H1 Q k => ⟨SX.S t, SX.S [34], (at' : Int), rfl, rfl, by rw [hf]; exact k H1 (Ex.refl H1)⟩) fun H5 e5 => ?_
    refine q_when (b := decide (((at' + a.length : Nat) : Int) < 0)) (et_test (ev_op (ev_var rfl) ev_c rv_I0)) (fun hb => absurd (of_decide_eq_true hb) (by omega)) fun _ H6 e6 => ?_
    have x6 := (e4.trans e5).trans e6
    refine q_app (v := .str (SX.S a)) (x6 _ _ hl) (ev_var rfl) (ev_is (ev_slM (i := at') (j := at' + a.length) (ev_var rfl) (ev_var rfl) (ev_var rfl) (by omega) (by omega) hz2) ?_) (by rw [List.length_map, List.length_map]; omega) fun H7 e7 => ?_
    · rw [hdm, show at' + a.length - at' = a.length by omega, List.take_left]
    refine q_asg (v := .bl (!decide (V.str (SX.S (more.take 1)) = V.str (SX.S [34])))) (ev_op (ev_is (ev_slA (i := at' + a.length + 1) (j := at' + a.length + 2) (ev_var rfl) (ev_op (ev_var rfl) ev_c rv_I0) (ev_op (ev_var rfl) ev_c rv_I0) hz2) ?_) ev_c (rv_ne rfl)) fun H8 e8 => ?_
    · rw [take1, hdr2]
    have hpp7 : (upd H7 pp (.lst ((pcs.map SX.S).map V.str ++ [.str (SX.S a)]))) pp = some (.lst (((pcs ++ [a]).map SX.S).map V.str)) := by
      rw [upd_same, List.map_append, List.map_append]
      rfl
    have x8 : Ex H H8 := (Ex.mut ((e.trans x6).trans e7) hpp).trans e8
    rw [dec_S]
    rcases hcase with ⟨rfl, rfl⟩ | ⟨t', rfl, rfl⟩
    · rw [decide_eq_false (okR_one hR hs)]
      refine s_asg (v := .int ((at' + a.length + 1 : Nat) : Int)) (ev_if (b := true) (et_B (ev_var rfl)) (fun _ => ev_op (ev_var rfl) ev_c rv_I0) fun h => nomatch h) fun H9 e9 => ⟨0, by omega, at' + a.length + 1, true, pcs ++ [a], _, rfl, x8.trans e9, e9 _ _ (e8 _ _ hpp7), ?_, hlt2, .inr ⟨rfl, hdr2, ?_, rfl⟩⟩
      · rw [List.length_append]
        show pcs.length + 1 ≤ _
        omega
      · rw [← hj, List.append_nil]
    · have e2' : (34 :: (dblL t' ++ 34 :: rest)).take 1 = [34] := rfl
      rw [decide_eq_true e2']
      have hdr3 := at_drop hdr2
      refine s_asg (v := .int ((at' + a.length + 2 : Nat) : Int)) (ev_if (b := false) (et_B (ev_var rfl)) (fun h => nomatch h) fun _ => ev_op (ev_var rfl) ev_c rv_I0) fun H9 e9 => ⟨t'.length + 1, ?_, at' + a.length + 2, false, pcs ++ [a], _, rfl, x8.trans e9, e9 _ _ (e8 _ _ hpp7), ?_, hdr3.2.1, .inl ⟨rfl, t', hdr3.2.2, ?_, rfl⟩⟩
      · rw [List.length_append, List.length_cons]
        omega
      · rw [List.length_append]
        show pcs.length + 1 ≤ _
        omega
      · rw [← hj, join_snoc2, List.append_assoc]
        rfl
  · rcases hc with ⟨rfl, _⟩ | ⟨rfl, hd, hj, rfl⟩
    · exact nomatch hb
    have hal : at' = pre.length + (34 :: (dblL s ++ [34])).length := by
      have h1 := congrArg List.length hd
      have h2 := congrArg List.length hd0
      rw [List.length_drop] at h1 h2
      rw [List.length_cons, List.length_append] at h2 ⊢
      rw [List.length_cons] at h2
      simp only [List.length_cons, List.length_nil] at h2 ⊢
      omega
    refine q_when (et_stop (b := false) (i := 4) (j := 2) (sp := sp) rfl rfl rfl hz (by rw [hd, okR_stop hR])) (fun h => nomatch h) fun _ H5 e5 => ?_
    have x5 := e.trans (e4.trans e5)
    refine (show tRet _ _ _ _ from ?_)
    have hsl : s.length ≤ t.length := by
      have h1 := dbl_len s
      have h2 := congrArg List.length hd0
      rw [List.length_drop, List.length_cons, List.length_append] at h2
      omega
    exact s_retUR (R := fun H p => FieldAt K H p (s, pre.length, true)) (fun H H' p e h => FieldAt.ex h e) (er_field (x := s) (o := pre.length) (m := true) (ea_cons (ev_is (ev_joinL (w := [34]) ev_c (ev_var rfl) (sq_of ((e4.trans e5) _ _ hl)) (by rw [hj]; omega) (by omega) (by decide)) (by rw [hj])) (ea_cons (ev_var rfl) (ea_cons ev_c ea_nil)))) (fun H1 e1 => ea_cons (ev_var rfl) ea_nil) (by show 1 ≤ 1000; decide) fun qa p H6 hqa e6 hf h6 => q qa p H6 (fresh_back x5 hqa) (x5.trans e6) (by rw [h6, hal]) hf
end
open Dg
theorem ix_at {t : List Nat} {i c : Nat} {σ : L2.St} {H : Hp} {j : Nat} (h0 : σ[0]? = some (some (.str (SX.S t)))) (h1 : σ[j]? = some (some (.int (i : Int)))) (h : t[i]? = some c) (hz : t.length ≤ 50000) : Ev (tOp rIxS (tVar 0) (tVar j)) σ H (.str (SX.S [c])) :=
  ev_op (ev_var h0) (ev_var h1) (rv_ixS (by rw [SX.S_len]; omega) (atI_nat h))
theorem rec_cons (sp : Nat) (f : Fl) (r : List Fl) : recT sp (f :: r) = wrL f.1 f.2 ++ (if r = [] then [] else sp :: recT sp r) := by
  cases r with
  | nil => rw [if_pos rfl, List.append_nil]; rfl
  | cons g r => rw [if_neg (fun h => nomatch h)]; rfl
theorem okE_R {sp : Nat} {r : List Nat} (h : okE r) : okR sp r := fun c hc => by
  rcases h with h | h
  · rw [h] at hc; cases hc
  · rw [h] at hc; cases hc; exact .inr rfl
section
variable {P : Program} {w : World} {K : PySem.W.Frag} {mg : Str → Option Value} {base : Heap}
theorem ok__plain_field (D : Dn K mg "_plain_field" s__plain_field ["text", "start", "separator"]) (C_Field : ClsD K mg "Field" ["text", "offset", "marked"]) (c_Field____init__ : C8.Mak P w K mg base 1 "Field" (clsAt K "Field") (sp_Field____init__ K) []) (z_len : mg "len" = none) (g__LINE_END : ∃ u, mg "_LINE_END" = some u ∧ RelV (.str (SX.S [10])) u) (g__MARK : ∃ u, mg "_MARK" = some u ∧ RelV (.str (SX.S [34])) u) :
    C8.Cal P w K mg base 3 "_plain_field" (sp__plain_field K) [] := by
  refine cal_of D sc__plain_field (fun vs H Q E h => ?_) (fun f cdv A outer s H vs Q E hr h => ?_)
  · obtain ⟨_, _, _, _, _, rfl, _⟩ := h
    rfl
  refine ⟨_, (pss_cons (ps_set (i := 3) sc__plain_field.nd rfl (.inl rfl) (pv 1))
    (pss_cons (ps_while PassesOwn.never (PW.pt (pw_and (pt_cmpR op_lt (pv 3) (pe_callB call_len_str (by rfl) z_len PySem.boot_len (pa_cons (pv 0) pa_nil)) (nomark _)) (pw_and (pt_cmpR op_ne (pe_ix ix_str (pv 0) (pv 3) (fun _ _ => rfl)) (pv 2) (nomark _)) (pw_and1 (pt_cmpR op_ne (pe_ix ix_str (pv 0) (pv 3) (fun _ _ => rfl)) (C8.pe_gc rfl g__LINE_END) (nomark _))))))
      (pss_cons (ps_if (pt_cmpR op_eq (pe_ix ix_str (pv 0) (pv 3) (fun _ _ => rfl)) (C8.pe_gc rfl g__MARK) (nomark _))
      (pss_one ps_never)
      pss_nil)
    (pss_one (ps_aug (i := 3) sc__plain_field.nd rfl (.inl rfl) pe_int ip_add))))
    (pss_one (ps_ret (pe_tup (pa_cons (C8.pe_mk c_Field____init__ hr (by decide) (by rfl) (pa_cons (pe_slice C8.sl_txt (pv 0) (po_some (pv 1)) (po_some (pv 3))) (pa_cons (pv 1) (pa_cons pe_bl pa_nil)))) (pa_cons (pv 3) pa_nil))))))), ?_⟩
  obtain ⟨sp, t, pre, s, rest, rfl, ht, hF, hR, hs, hz, q⟩ := h
  have hw : wrL s false = s := rfl
  rw [hw] at ht q
  have hz2 : t.length ≤ 100000 := by omega
  have hd0 : t.drop pre.length = s ++ rest := by rw [ht, List.drop_left]
  have hdi : ∀ i, i ≤ s.length → t.drop (pre.length + i) = s.drop i ++ rest := fun i hi => by
    rw [← List.drop_drop, hd0, List.drop_append_of_le_length hi]
  have hlt : pre.length + s.length ≤ t.length := by rw [ht, List.length_append, List.length_append]; omega
  refine q_asg (v := .int ((pre.length + 0 : Nat) : Int)) (ev_var rfl) fun H1 e1 => ?_
  refine q_while (fun m σ' H' => ∃ i, i ≤ s.length ∧ σ' = [some (.str (SX.S t)), some (.int (pre.length : Nat)), some (.str (SX.S [sp])), some (.int ((pre.length + i : Nat) : Int))] ∧ Ex H H' ∧ m = s.length - i) s.length ⟨0, Nat.zero_le _, rfl, e1, rfl⟩ fun m σ' H' pv => ?_
  obtain ⟨i, hi, rfl, e, rfl⟩ := pv
  have hst : decide (i < s.length) = stopB sp (t.drop (pre.length + i)) := by
    rw [hdi i hi]
    by_cases h : i < s.length
    · rw [decide_eq_true h, List.drop_eq_getElem_cons h, List.cons_append]
      have hc := hF rfl s[i] (List.getElem_mem h)
      show true = (!decide (s[i] = sp) && !decide (s[i] = 10))
      rw [decide_eq_false hc.1, decide_eq_false hc.2.2]
      rfl
    · rw [decide_eq_false h, List.drop_eq_nil_of_le (by omega), List.nil_append, okR_stop hR]
  refine ⟨decide (i < s.length), et_stop (i := 3) (j := 2) (sp := sp) rfl rfl rfl hz hst, fun hb H2 e2 => ?_, fun hb H2 e2 => ?_⟩
  · have hi2 := of_decide_eq_true hb
    refine ⟨fun σ2 H3 => ∃ i', i' ≤ s.length ∧ i < i' ∧ σ2 = [some (.str (SX.S t)), some (.int (pre.length : Nat)), some (.str (SX.S [sp])), some (.int ((pre.length + i' : Nat) : Int))] ∧ Ex H H3, fun σ2 H3 h => ?_, ?_⟩
    · obtain ⟨i', h1, h2, h3, h4⟩ := h
      exact ⟨s.length - i', by omega, i', h1, h3, h4, rfl⟩
    have hd := hdi i hi
    rw [List.drop_eq_getElem_cons hi2, List.cons_append] at hd
    obtain ⟨hc, _, _⟩ := at_drop hd
    have h34 := (hF rfl s[i] (List.getElem_mem hi2)).2.1
    refine q_when (b := false) (et_test (ev_is (ev_op (ix_at rfl rfl hc hz) ev_c (rv_eq rfl)) ?_)) (fun h => nomatch h) fun _ H3 e3 => ?_
    · rw [dec_S, decide_eq_false fun z => h34 (List.cons.inj z).1]
    exact Evl.s_aug rfl ev_c fun H4 e4 => ⟨i + 1, hi2, Nat.lt_succ_self i, by
      have : ((pre.length + i : Nat) : Int) + 1 = ((pre.length + (i + 1) : Nat) : Int) := by omega
      rw [← this]
      rfl, ((e.trans e2).trans e3).trans e4⟩
  · have hi2 : i = s.length := by have := of_decide_eq_false hb; omega
    subst hi2
    have x2 := e.trans e2
    refine s_retUR (R := fun H p => FieldAt K H p (s, pre.length, false)) (fun H H' p e h => FieldAt.ex h e) (er_field (x := s) (o := pre.length) (m := false) (ea_cons (ev_is (ev_slM (i := pre.length) (j := pre.length + s.length) (ev_var rfl) (ev_var rfl) (ev_var rfl) (by omega) hlt hz2) ?_) (ea_cons (ev_var rfl) (ea_cons ev_c ea_nil)))) (fun H1 e1 => ea_cons (ev_var rfl) ea_nil) (by show 1 ≤ 1000; decide) fun qa p H6 hqa e6 hf h6 => q qa p H6 (fresh_back x2 hqa) (x2.trans e6) h6 hf
    rw [hd0, show pre.length + s.length - pre.length = s.length by omega, List.take_left]
theorem q_callG' {σ : L2.St} {H : Hp} {D : Ends} {sp : Sp} {vs : List V} {E : XK} {tr : TA} {g : TG} (h : EvA tr σ H vs) (k : ∀ H1, Ex H H1 → sp (vs ++ []) H1 (fun x H2 => g x σ H2 D.nx) E) : tAsg (tCall sp [] E tr) g D σ H := h H (Ex.refl H) _ fun H1 e1 => k H1 e1
theorem ok__next_record (D : Dn K mg "_next_record" s__next_record ["text", "start", "separator"]) (c__marked_field : C8.Cal P w K mg base 3 "_marked_field" (sp__marked_field K) []) (c__plain_field : C8.Cal P w K mg base 3 "_plain_field" (sp__plain_field K) []) (z_len : mg "len" = none) (g__LINE_END : ∃ u, mg "_LINE_END" = some u ∧ RelV (.str (SX.S [10])) u) (g__MARK : ∃ u, mg "_MARK" = some u ∧ RelV (.str (SX.S [34])) u) :
    C8.Cal P w K mg base 4 "_next_record" (sp__next_record K) [] := by
  refine cal_of D sc__next_record (fun vs H Q E h => ?_) (fun f cdv A outer s H vs Q E hr h => ?_)
  · obtain ⟨_, _, _, _, _, rfl, _⟩ := h
    rfl
  refine ⟨_, (pss_cons (ps_set (i := 3) sc__next_record.nd rfl (.inl rfl) (pe_lst pa_nil))
    (pss_cons (ps_set (i := 4) sc__next_record.nd rfl (.inl rfl) (pv 1))
    (pss_cons (ps_set (i := 5) sc__next_record.nd rfl (.inl rfl) pe_bl)
    (pss_cons (ps_while PassesOwn.never (pt_not (pt_val (pv 5)))
      (Evl.pss_cut (ps_if (pt_cmpR op_eq (pe_slice C8.sl_txt (pv 0) (po_some (pv 4)) (po_some (pe_op op_add (pv 4) pe_int))) (C8.pe_gc rfl g__MARK) (nomark _))
      (pss_one (ps_asg (C8.pe_c c__marked_field hr (by decide) (by rfl) (pa_cons (pv 0) (pa_cons (pv 4) (pa_cons (pv 2) pa_nil)))) (pg_tup rfl (pgs_cons (pg_name (i := 6) sc__next_record.nd rfl (.inl rfl)) (pgs_cons (pg_name (i := 4) sc__next_record.nd rfl (.inl rfl)) pgs_nil)))))
      (pss_one (ps_asg (C8.pe_c c__plain_field hr (by decide) (by rfl) (pa_cons (pv 0) (pa_cons (pv 4) (pa_cons (pv 2) pa_nil)))) (pg_tup rfl (pgs_cons (pg_name (i := 6) sc__next_record.nd rfl (.inl rfl)) (pgs_cons (pg_name (i := 4) sc__next_record.nd rfl (.inl rfl)) pgs_nil))))))
    (pss_cons (ps_expr (pe_bm PySem.F.plainAttrs_list PySem.F.slot_list_append PySem.F.type_list_append mt_append (pv 3) (pa_cons (pv 6) pa_nil)))
    (pss_cons (ps_set (i := 5) sc__next_record.nd rfl (.inl rfl) (pe_or (pe_cmpR op_eq (pv 4) (pe_callB call_len_str (by rfl) z_len PySem.boot_len (pa_cons (pv 0) pa_nil)) (nomark _)) (pe_one (pe_cmpR op_eq (pe_ix ix_str (pv 0) (pv 4) (fun _ _ => rfl)) (C8.pe_gc rfl g__LINE_END) (nomark _)))))
    (pss_one (ps_aug (i := 4) sc__next_record.nd rfl (.inl rfl) pe_int ip_add))))))
    (pss_one (ps_ret (pe_tup (pa_cons (pv 3) (pa_cons (pv 4) pa_nil))))))))), ?_⟩
  obtain ⟨sp, t, pre, rest, fs, rfl, ht, hne, hF, hE, hs, hz, q⟩ := h
  have hz2 : t.length ≤ 100000 := by omega
  have hd0 : t.drop pre.length = recT sp fs ++ rest := by rw [ht, List.drop_left]
  have hfull : pre.length + (recT sp fs).length + 1 = pre.length + (recT sp fs).length + 1 := rfl
  have hlt : pre.length + (recT sp fs).length ≤ t.length := by rw [ht, List.length_append, List.length_append]; omega
  refine q_asgL (el_lst ea_nil (by decide)) fun pf H1 hpf e1 h1 => ?_
  refine q_asg (v := .int (pre.length : Nat)) (ev_var rfl) fun H2 e2 => ?_
  refine q_asg (v := .bl false) ev_c fun H3 e3 => ?_
  refine q_while (fun m σ' H' => ∃ (at' : Nat) (en : Bool) (qs : List Addr) (L' : List Fo) (fs' : List Fl) (fv : Option V), σ' = [some (.str (SX.S t)), some (.int (pre.length : Nat)), some (.str (SX.S [sp])), some (.ref pf), some (.int (at' : Int)), some (.bl en), fv] ∧ Ex H H' ∧ H' pf = some (.lst (qs.map V.ref)) ∧ Al2 (FieldAt K) H' qs L' ∧ qs.length ≤ at' ∧ (∀ f ∈ fs', okF sp f) ∧ L' ++ offsF sp at' fs' = offsF sp pre.length fs ∧
      ((en = false ∧ fs' ≠ [] ∧ t.drop at' = recT sp fs' ++ rest ∧ at' ≤ t.length ∧ at' + (recT sp fs').length = pre.length + (recT sp fs).length ∧ m = fs'.length + 1) ∨ (en = true ∧ fs' = [] ∧ at' = pre.length + (recT sp fs).length + 1 ∧ m = 0))) (fs.length + 1) ⟨pre.length, false, [], [], fs, none, rfl, (e1.trans e2).trans e3, e3 _ _ (e2 _ _ h1), Al2.nil, Nat.zero_le _, hF, rfl, .inl ⟨rfl, hne, hd0, by omega, rfl, rfl⟩⟩ fun m σ' H' pv => ?_
  obtain ⟨at', en, qs, L', fs', fv, rfl, e, hl, hA, hql, hF', hL, hc⟩ := pv
  refine ⟨!en, et_not (et_B (ev_var rfl)), fun hb H4 e4 => ?_, fun hb H4 e4 => ?_⟩
  · rcases hc with ⟨rfl, hne', hd, hat, htot, rfl⟩ | ⟨rfl, _⟩
    rotate_left
    · exact nomatch hb
    obtain ⟨f, r, rfl⟩ := List.exists_cons_of_ne_nil hne'
    have hf := hF' f List.mem_cons_self
    rw [rec_cons, List.append_assoc] at hd
    rw [rec_cons, List.length_append] at htot
    generalize hre : (if r = [] then [] else sp :: recT sp r) ++ rest = rest' at hd
    have hR' : okR sp rest' := by
      rw [← hre]
      by_cases hr : r = []
      · rw [if_pos hr]; exact okE_R hE
      · rw [if_neg hr]; intro c hc; cases hc; exact .inl rfl
    refine ⟨fun σ2 H2 => ∃ m', m' < (f :: r).length + 1 ∧ ∃ (at' : Nat) (en : Bool) (qs : List Addr) (L' : List Fo) (fs' : List Fl) (fv : Option V), σ2 = [some (.str (SX.S t)), some (.int (pre.length : Nat)), some (.str (SX.S [sp])), some (.ref pf), some (.int (at' : Int)), some (.bl en), fv] ∧ Ex H H2 ∧ H2 pf = some (.lst (qs.map V.ref)) ∧ Al2 (FieldAt K) H2 qs L' ∧ qs.length ≤ at' ∧ (∀ f ∈ fs', okF sp f) ∧ L' ++ offsF sp at' fs' = offsF sp pre.length fs ∧
      ((en = false ∧ fs' ≠ [] ∧ t.drop at' = recT sp fs' ++ rest ∧ at' ≤ t.length ∧ at' + (recT sp fs').length = pre.length + (recT sp fs).length ∧ m' = fs'.length + 1) ∨ (en = true ∧ fs' = [] ∧ at' = pre.length + (recT sp fs).length + 1 ∧ m' = 0)), fun σ2 H2 h => h, ?_⟩
    have htk : (t.take at').length = at' := by rw [List.length_take]; omega
    have htt : t = t.take at' ++ (wrL f.1 f.2 ++ rest') := by rw [← hd, List.take_append_drop]
    have hlen : at' + (wrL f.1 f.2).length + rest'.length = t.length := by
      have := congrArg List.length hd
      rw [List.length_drop, List.length_append] at this
      omega
    -- one field, then the rest of the turn
    refine q_cut (M := fun σ2 H2 => ∃ p, σ2 = [some (.str (SX.S t)), some (.int (pre.length : Nat)), some (.str (SX.S [sp])), some (.ref pf), some (.int ((at' + (wrL f.1 f.2).length : Nat) : Int)), some (.bl false), some (.ref p)] ∧ Ex H' H2 ∧ FieldAt K H2 p (f.1, at', f.2)) ?_ fun σ2 H5 pw => ?_
    · refine s_if (b := f.2) (et_test (ev_is (ev_op (ev_slA (i := at') (j := at' + 1) (ev_var rfl) (ev_var rfl) (ev_op (ev_var rfl) ev_c rv_I0) hz2) ev_c (rv_eq rfl)) ?_)) (fun hb H5 e5 => ?_) fun hb H5 e5 => ?_
      · rw [take1, hd, dec_S]
        cases h : f.2 with
        | true => rfl
        | false =>
          have hp := hf h
          refine congrArg V.bl (decide_eq_false fun z => ?_)
          rw [show wrL f.1 false = f.1 from rfl] at z
          cases h1 : f.1 with
          | nil => rw [h1, List.nil_append] at z; exact okR_one hR' hs z
          | cons c r2 =>
            rw [h1] at z
            have hc : c = 34 := (List.cons.inj z).1
            exact (hp c (by rw [h1]; exact List.mem_cons_self)).2.1 hc
      all_goals
        have hf2 : okF sp (f.1, f.2) := hf
        rw [hb] at htt hf2 hlen ⊢
        refine (show tAsg _ _ _ _ _ from ?_)
        refine q_callG' (ea_cons (ev_var rfl) (ea_cons (ev_var rfl) (ea_cons (ev_var rfl) ea_nil))) fun H6 e6 => ⟨sp, t, t.take at', f.1, rest', by rw [htk]; rfl, htt, hf2, hR', hs, hz, fun qa p H7 hqa e7 h7 hfa => ?_⟩
        rw [htk] at h7 hfa
        exact gt2 (st_of h7) ⟨p, rfl, ((e4.trans e5).trans e6).trans e7, hfa⟩
    · obtain ⟨p, rfl, e5, hfa⟩ := pw
      have hd2 : t.drop (at' + (wrL f.1 f.2).length) = rest' := drop_app hd
      refine q_app (v := .ref p) (e5 _ _ hl) (ev_var rfl) (ev_var rfl) (by rw [List.length_map]; omega) fun H6 e6 => ?_
      have hpf6 := e6 _ _ (e5 _ _ hl)
      have x6 : Ex H (upd H6 pf (.lst (qs.map V.ref ++ [.ref p]))) := Ex.mut ((e.trans e5).trans e6) hpf
      have hA6 : Al2 (FieldAt K) (upd H6 pf (.lst (qs.map V.ref ++ [.ref p]))) (qs ++ [p]) (L' ++ [(f.1, at', f.2)]) := (hA.mono fun q l _ h => (h.ex (e5.trans e6)).upd hpf6).snoc ((hfa.ex e6).upd hpf6)
      generalize hG : upd H6 pf (.lst (qs.map V.ref ++ [.ref p])) = G at x6 hA6
      have hpfG : G pf = some (.lst ((qs ++ [p]).map V.ref)) := by rw [← hG, upd_same, List.map_append]; rfl
      generalize hat2 : at' + (wrL f.1 f.2).length = at2 at *
      refine q_asg (v := .bl (decide (r = []))) (ev_is (v := .bl (decide (V.int (at2 : Int) = V.int (t.length : Nat)) || decide (t.getD at2 0 = 10))) (ev_orV (ev_op (ev_var rfl) (ev_lenX (ev_var rfl) hz2) (rv_eq rfl)) fun hne => ?_) ?_) fun H7 e7 => ?_
      · have hlt3 : at2 < t.length := by
          have h1 := of_decide_eq_false hne
          have : ¬ at2 = t.length := fun z => h1 (by rw [z])
          omega
        have hx : t[at2]? = some (t.getD at2 0) := by rw [List.getD_eq_getElem?_getD, List.getElem?_eq_getElem hlt3]; rfl
        refine ev_is (ev_op (ix_at rfl rfl hx hz) ev_c (rv_eq rfl)) ?_
        rw [dec_S]
        by_cases h : t.getD at2 0 = 10
        · rw [h]; simp
        · rw [decide_eq_false h, decide_eq_false fun z => h (List.cons.inj z).1]
      · refine congrArg V.bl ?_
        by_cases hr : r = []
        · rw [if_pos hr, List.nil_append] at hre
          rw [decide_eq_true hr]
          rcases hE with hE | hE
          · have : t.length ≤ at2 := drop_nil (by rw [hd2, ← hre, hE])
            rw [show at2 = t.length by omega, decide_eq_true rfl, Bool.true_or]
          · cases hrest : rest with
            | nil => rw [hrest] at hE; cases hE
            | cons c r2 =>
              rw [hrest] at hE
              cases hE
              rw [hrest] at hre
              rw [← hre] at hd2
              obtain ⟨h1, h2, _⟩ := at_drop hd2
              rw [decide_eq_false (fun z => by have := Int.ofNat.inj (V.int.inj z); omega), List.getD_eq_getElem?_getD, h1]
              rfl
        · rw [if_neg hr, List.cons_append] at hre
          rw [decide_eq_false hr]
          rw [← hre] at hd2
          obtain ⟨h1, h2, _⟩ := at_drop hd2
          rw [decide_eq_false (fun z => by have := Int.ofNat.inj (V.int.inj z); omega), List.getD_eq_getElem?_getD, h1]
          show (false || decide (sp = 10)) = false
          rw [decide_eq_false (by rcases hs with h | h | h <;> omega)]
          rfl
      have hoff : L' ++ [(f.1, at', f.2)] ++ offsF sp (at2 + 1) r = offsF sp pre.length fs := by
        rw [← hL, List.append_assoc, ← hat2]
        rfl
      refine Evl.s_aug rfl ev_c fun H8 e8 => ?_
      have e78 := e7.trans e8
      by_cases hr : r = []
      · subst hr
        rw [if_pos rfl] at htot
        refine ⟨0, by simp, at2 + 1, true, qs ++ [p], _, [], _, by rw [decide_eq_true rfl]; rfl, x6.trans e78, e78 _ _ hpfG, hA6.mono fun q l _ h => h.ex e78, ?_, (fun f h => nomatch h), hoff, .inr ⟨rfl, rfl, ?_, rfl⟩⟩
        · rw [List.length_append]
          show qs.length + 1 ≤ at2 + 1
          omega
        · simp at htot
          omega
      · rw [if_neg hr, List.length_cons] at htot
        rw [if_neg hr, List.cons_append] at hre
        rw [← hre] at hd2
        obtain ⟨_, h2, h3⟩ := at_drop hd2
        refine ⟨r.length + 1, by simp, at2 + 1, false, qs ++ [p], _, r, _, by rw [decide_eq_false hr]; rfl, x6.trans e78, e78 _ _ hpfG, hA6.mono fun q l _ h => h.ex e78, ?_, (fun g h => hF' g (List.mem_cons_of_mem _ h)), hoff, .inl ⟨rfl, hr, h3, h2, by omega, rfl⟩⟩
        rw [List.length_append]
        show qs.length + 1 ≤ at2 + 1
        omega
  · rcases hc with ⟨rfl, _⟩ | ⟨rfl, rfl, hat, rfl⟩
    · exact nomatch hb
    have x4 := e.trans e4
    have hL2 : L' = offsF sp pre.length fs := by rw [← hL]; exact (List.append_nil _).symm
    subst hL2
    refine s_retU (xs := [.ref pf, .int (at' : Int)]) (eu_tup (ea_cons (ev_var rfl) (ea_cons (ev_var rfl) ea_nil)) (by show 2 ≤ 100000; decide)) fun qa H5 hqa e5 h5 => q qa pf H5 (fresh_back x4 hqa) hpf (x4.trans e5) (by rw [h5, hat]) ⟨qs, (e4.trans e5) _ _ hl, hA.mono fun q l _ h => h.ex (e4.trans e5)⟩
end
open Dg
theorem body_next {sp at' : Nat} {t : List Nat} {rs : List (List Fl)} {tl : Option (List Fl)} (hd : t.drop at' = bodyT sp rs tl) (hrs : ∀ r ∈ rs, okRec sp r) (htl : ∀ r, tl = some r → okRec sp r ∧ recT sp r ≠ []) (hne : (rs ++ tl.toList).isEmpty = false) :
    ∃ r rest rs2 tl2, rs ++ tl.toList = r :: (rs2 ++ tl2.toList) ∧ t.drop at' = recT sp r ++ rest ∧ okE rest ∧ okRec sp r ∧ at' < t.length ∧ t.drop (at' + (recT sp r).length + 1) = bodyT sp rs2 tl2 ∧ (∀ r ∈ rs2, okRec sp r) ∧ (∀ r, tl2 = some r → okRec sp r ∧ recT sp r ≠ []) := by
  have lt_of : ∀ {x : List Nat}, t.drop at' = x → x ≠ [] → at' < t.length := fun {x} h hx => by
    by_cases z : at' < t.length
    · exact z
    · rw [List.drop_eq_nil_of_le (by omega)] at h
      exact absurd h.symm hx
  cases rs with
  | nil =>
    cases tl with
    | none => exact nomatch hne
    | some r =>
      obtain ⟨h1, h2⟩ := htl r rfl
      have hd' : t.drop at' = recT sp r ++ [] := by rw [hd, List.append_nil]; rfl
      refine ⟨r, [], [], none, rfl, hd', .inl rfl, h1, lt_of hd h2, ?_, (fun r h => nomatch h), fun r h => nomatch h⟩
      rw [← List.drop_drop, drop_app hd']
      rfl
  | cons r rs =>
    have hd' : t.drop at' = recT sp r ++ (10 :: bodyT sp rs tl) := hd
    refine ⟨r, _, rs, tl, rfl, hd', .inr rfl, hrs r List.mem_cons_self, lt_of hd' (by simp), ?_, (fun r h => hrs r (List.mem_cons_of_mem _ h)), htl⟩
    rw [← List.drop_drop, drop_app hd']
    rfl
section
variable {P : Program} {w : World} {K : PySem.W.Frag} {mg : Str → Option Value} {base : Heap}
theorem ok_split_records (D : Dn K mg "split_records" s_split_records ["text", "separator"]) (c__next_record : C8.Cal P w K mg base 4 "_next_record" (sp__next_record K) []) (z_len : mg "len" = none) :
    C8.Cal P w K mg base 5 "split_records" (sp_split_records K) [] := by
  refine cal_of D sc_split_records (fun vs H Q E h => ?_) (fun f cdv A outer s H vs Q E hr h => ?_)
  · obtain ⟨_, _, _, rfl, _⟩ := h
    rfl
  refine ⟨_, (pss_cons (ps_set (i := 2) sc_split_records.nd rfl (.inl rfl) (pe_lst pa_nil))
    (pss_cons (ps_set (i := 3) sc_split_records.nd rfl (.inl rfl) pe_int)
    (pss_cons (ps_while PassesOwn.never (pt_cmpR op_lt (pv 3) (pe_callB call_len_str (by rfl) z_len PySem.boot_len (pa_cons (pv 0) pa_nil)) (nomark _))
      (pss_cons (ps_asg (C8.pe_c c__next_record hr (by decide) (by rfl) (pa_cons (pv 0) (pa_cons (pv 3) (pa_cons (pv 1) pa_nil)))) (pg_tup rfl (pgs_cons (pg_name (i := 4) sc_split_records.nd rfl (.inl rfl)) (pgs_cons (pg_name (i := 3) sc_split_records.nd rfl (.inl rfl)) pgs_nil))))
    (pss_one (ps_expr (pe_bm PySem.F.plainAttrs_list PySem.F.slot_list_append PySem.F.type_list_append mt_append (pv 2) (pa_cons (pv 4) pa_nil))))))
    (pss_one (ps_ret (pv 2)))))), ?_⟩
  obtain ⟨sp, rs, tl, rfl, hrs, htl, hs, hz, q⟩ := h
  generalize htx : bodyT sp rs tl = t at hz ⊢
  have hz2 : t.length ≤ 100000 := by omega
  refine q_asgL (el_lst ea_nil (by decide)) fun pr H1 hpr e1 h1 => ?_
  refine q_asg (v := .int ((0 : Nat) : Int)) ev_c fun H2 e2 => ?_
  refine q_while (fun m σ' H' => ∃ (at' : Nat) (qs : List Addr) (L' : List (List Fo)) (rs' : List (List Fl)) (tl' : Option (List Fl)) (fv : Option V), σ' = [some (.str (SX.S t)), some (.str (SX.S [sp])), some (.ref pr), some (.int (at' : Int)), fv] ∧ Ex H H' ∧ H' pr = some (.lst (qs.map V.ref)) ∧ Al2 (Lst2 (FieldAt K)) (wo pr H') qs L' ∧ qs.length ≤ at' ∧ (∀ r ∈ rs', okRec sp r) ∧ (∀ r, tl' = some r → okRec sp r ∧ recT sp r ≠ []) ∧ t.drop at' = bodyT sp rs' tl' ∧ L' ++ offsR sp at' (rs' ++ tl'.toList) = offsR sp 0 (rs ++ tl.toList) ∧ m = (rs' ++ tl'.toList).length) (rs ++ tl.toList).length ⟨0, [], [], rs, tl, none, rfl, e1.trans e2, e2 _ _ h1, Al2.nil, Nat.le_refl _, hrs, htl, by rw [← htx]; rfl, rfl, rfl⟩ fun m σ' H' pv => ?_
  obtain ⟨at', qs, L', rs', tl', fv, rfl, e, hl, hA, hql, hrs', htl', hd, hL, rfl⟩ := pv
  have htest : decide ((at' : Int) < (t.length : Int)) = !(rs' ++ tl'.toList).isEmpty := by
    cases h : (rs' ++ tl'.toList).isEmpty with
    | false =>
      obtain ⟨_, _, _, _, _, _, _, _, hlt, _⟩ := body_next hd hrs' htl' h
      rw [decide_eq_true (by omega)]
      rfl
    | true =>
      have h2 := List.isEmpty_iff.mp h
      have h3 := List.append_eq_nil_iff.mp h2
      have h4 : tl' = none := by
        cases tl' with
        | none => rfl
        | some r => exact nomatch h3.2
      rw [h3.1, h4] at hd
      have := drop_nil hd
      rw [decide_eq_false (by omega)]
      rfl
  refine ⟨!(rs' ++ tl'.toList).isEmpty, et_is (et_test (ev_op (ev_var rfl) (ev_lenX (ev_var rfl) hz2) rv_I0)) htest, fun hb H4 e4 => ?_, fun hb H4 e4 => ?_⟩
  · have hne : (rs' ++ tl'.toList).isEmpty = false := by
      cases h : (rs' ++ tl'.toList).isEmpty with
      | false => rfl
      | true => rw [h] at hb; exact nomatch hb
    obtain ⟨r, rest, rs2, tl2, hsplit, hdr, hE, hok, hlt, hd2, hrs2, htl2⟩ := body_next hd hrs' htl' hne
    rw [hsplit] at hL ⊢
    have htk : (t.take at').length = at' := by rw [List.length_take]; omega
    have htt : t = t.take at' ++ (recT sp r ++ rest) := by rw [← hdr, List.take_append_drop]
    refine ⟨fun σ2 H2 => ∃ m', m' < (r :: (rs2 ++ tl2.toList)).length ∧ ∃ (at' : Nat) (qs : List Addr) (L' : List (List Fo)) (rs' : List (List Fl)) (tl' : Option (List Fl)) (fv : Option V), σ2 = [some (.str (SX.S t)), some (.str (SX.S [sp])), some (.ref pr), some (.int (at' : Int)), fv] ∧ Ex H H2 ∧ H2 pr = some (.lst (qs.map V.ref)) ∧ Al2 (Lst2 (FieldAt K)) (wo pr H2) qs L' ∧ qs.length ≤ at' ∧ (∀ r ∈ rs', okRec sp r) ∧ (∀ r, tl' = some r → okRec sp r ∧ recT sp r ≠ []) ∧ t.drop at' = bodyT sp rs' tl' ∧ L' ++ offsR sp at' (rs' ++ tl'.toList) = offsR sp 0 (rs ++ tl.toList) ∧ m' = (rs' ++ tl'.toList).length, fun σ2 H2 h => h, ?_⟩
    refine q_callG (ea_cons (ev_var rfl) (ea_cons (ev_var rfl) (ea_cons (ev_var rfl) ea_nil))) fun H5 e5 => ⟨sp, t, t.take at', rest, r, by rw [htk]; rfl, htt, hok.1, hok.2, hE, hs, hz, fun qa p H6 hqa hp e6 h6 hR => ?_⟩
    rw [htk] at h6 hR
    refine gt2 (st_of h6) ?_
    have x5 := e4.trans e5
    have hpr6 : H6 pr = some (.lst (qs.map V.ref)) := e6 _ _ (x5 _ _ hl)
    have hpp : p ≠ pr := fun z => by
      have := x5 _ _ hl
      rw [← z, hp] at this
      cases this
    have hRw : Lst2 (FieldAt K) (wo pr H6) p (offsF sp at' r) := by
      obtain ⟨fq, hf1, hf2⟩ := hR
      exact ⟨fq, by rw [wo_ne hpp]; exact hf1, hf2.mono fun q l _ h => h.wo hpr6⟩
    have x6 := x5.trans e6
    have hq5 : qs.length < 100000 := by omega
    refine s_app (v := .ref p) hpr6 (ev_var rfl) (ev_var rfl) (by rw [List.length_map]; exact hq5) fun H7 e7 => ⟨(rs2 ++ tl2.toList).length, by rw [List.length_cons]; exact Nat.lt_succ_self _, at' + (recT sp r).length + 1, qs ++ [p], L' ++ [offsF sp at' r], rs2, tl2, _, rfl, Ex.mut ((e.trans x6).trans e7) hpr, by rw [upd_same, List.map_append]; rfl, ?_, ?_, hrs2, htl2, hd2, ?_, rfl⟩
    · rw [wo_upd]
      exact (hA.mono fun q l _ h => h.mono (wo_mono (x6.trans e7)) fun q l h => h.ex (wo_mono (x6.trans e7))).snoc (hRw.mono (wo_mono e7) fun q l h => h.ex (wo_mono e7))
    · rw [List.length_append]
      show qs.length + 1 ≤ _
      omega
    · rw [← hL, List.append_assoc]
      rfl
  · have hne : (rs' ++ tl'.toList).isEmpty = true := by
      cases h : (rs' ++ tl'.toList).isEmpty with
      | true => rfl
      | false => rw [h] at hb; exact nomatch hb
    have h2 := List.isEmpty_iff.mp hne
    rw [h2] at hL
    have hL2 : L' = offsR sp 0 (rs ++ tl.toList) := by rw [← hL]; exact (List.append_nil _).symm
    subst hL2
    exact s_ret (ev_var rfl) fun H5 e5 => q pr H5 hpr (e.trans (e4.trans e5)) ⟨qs, (e4.trans e5) _ _ hl, hA.mono fun q l _ h => h.mono ((wo_le _ _).trans (e4.trans e5)) fun q l h => h.ex ((wo_le _ _).trans (e4.trans e5))⟩
end
open Dg
structure SupT (P : Program) (K : PySem.W.Frag) (mg : Str → Option Value) (C fI cda cc : Addr) (qual : Str) (st : Stmt) (fd : FuncData) : Prop where
  oex : OexC K C
  fn : ∃ (oc : Value) (od an : Option Addr) (osl : Array (Option Value)) (kV doc pm ct : Value), fd = PySem.W.fnX "__init__" qual (C8.fnArgs st) (C8.fnBody st) (C8.fnScope st) [("__class__", cc)] .none kV doc pm an (.ref cda) ct ∧ K.lookup fI = some ⟨oc, od, .func fd, osl⟩
  code : PySem.W.codeIn K (.ref cda) qual = true
  file : ∃ (ccl : Value) (cdd : Option Addr) (vs : Array Value) (ccs : Array (Option Value)) (file : Str) (tf : Tok), K.lookup cda = some ⟨ccl, cdd, .fields vs, ccs⟩ ∧ vs[2]? = some (.str file tf) ∧ ((P.main.file : Str) == file) = true
  cell : ∃ (cl : Value) (cld : Option Addr) (csl : Array (Option Value)), K.lookup cc = some ⟨cl, cld, .cell (some (.ref C)), csl⟩
  mro : PySem.W.mroIn K C (.ref C) = some true
  noS : mg "super" = none
  sup : PySem.W.ks_superIn K C C "__init__" = some (some (.builtin "ValueError.__init__"))
  subV : PySem.W.subIn K (.ref C) (.type "ValueError") = some true
  opq : PySem.W.nsIn K cStatics "thirdparty.any" = some none
  top : (P.main.scope.names.lookup ("super" : Str)).isSome = false
/-- the bound __init__ of ValueError, called -/
theorem call_mw {prog : Program} {w : World} {A : Around} {E : Value → Shared → Prop} {s : Shared} {u e C t0 : Addr} {rest : List Value} {Q : Value → Shared → Prop} {nm q : Str} {N : Addr} {bs bm : List Value} {hdct : Bool} {sn : List Str} {sub : List Value} {ab : Bool} {col : Option Bool} {dd : Option Addr} {k0 k1 k2 k3 k5 : Option Value}
    (hC : s.heap.get? C = some (excClassObj nm q C N bs bm hdct sn sub ab col dd k0 k1 k2 k3 k5 "ValueError.__new__")) (he : s.heap.get? e = some (HandSPX.excO C t0)) (hu : s.heap.get? u = some (PySem.W.kxs_mw "ValueError.__init__" e)) (hz : rest.length ≤ sizeLine)
    (h : ∀ h' t1, (∀ b o, b ≠ e → s.heap.get? b = some o → h'.get? b = some o) → h'.get? e = some (HandSPX.excO C t1) → Q .none { s with heap := h' }) : wpAny (model prog w) A (call (.ref u) rest) Q E s := by
  obtain ⟨hp, g, d, tk, os⟩ := s
  refine wpAny_call (codeAny_of_tree ?_)
  show wpAny _ A.in1 (callAny (.ref u) ⟨rest, []⟩) _ _ _
  simp only [callAny]
  refine wpAny_bind (wpAny_load hu ?_)
  simp only [PySem.W.kxs_mw, show (Value.type "method-wrapper" == Value.type "method" || Value.type "method-wrapper" == Value.type "builtin_function_or_method" || Value.type "method-wrapper" == Value.type "method-wrapper") = true by decide, if_true]
  refine PySem.W.KFB.if_so (by decide) ?_
  refine wpAny_bind (PySem.W.check_bound_init PySem.F.excBase_ValueError.toExcCallFacts hC he rfl ?_)
  refine wpAny_bind (wpAny_pure (wpAny_pure ?_))
  refine ⟨PySem.plainId_quiet PySem.F.excBase_ValueError.init.plain _, codeAny_builtin PySem.F.excBase_ValueError.initEntry ?_⟩
  exact PySem.W.exc_init_tree (cls := .ref C) (t0 := t0) (dv := none) (c2 := .none) (c3 := .none) (b4 := .bool false) he hz fun h' k e' _ => h h' _ k e'
theorem callWith_mw {M : Model} {A : Around} {E : Value → Shared → Prop} {s : Shared} {i : String} {u x : Addr} {pos : Pos} {env : Env} {e : Expr} {Q : Value → Shared → Prop} (he : starEach [e] env = (false, eval e env) :: starEach [] env)
    (h : wpAny M A (spliced (backTo pos (starEach [e] env))) (fun vs s1 => PySem.W.KxsAt i u x s1.heap ∧ wpAny M A (call (.ref u) vs) Q E s1) E s) : wpAny M A (callWith pos (.ref u) [] (backTo pos (starEach [e] env)) []) Q E s := by
  rw [he] at h ⊢
  exact PySem.W.kxs_callWith (i := i) (x := x) rfl (Calls.evalArgs_plain h)
/-- its frame: what the names hold -/
def supF (qual : Str) (st : Stmt) (cda cc : Addr) : NdefX.NF := ⟨"__init__", qual, C8.fnArgs st, C8.fnBody st, C8.fnScope st, [("__class__", cc)], cda⟩
theorem fn_sup {P : Program} {w : World} {K : PySem.W.Frag} {mg : Str → Option Value} {base : Heap} {C fI cda cc : Addr} {qual : Str} {st : Stmt} {fd : FuncData} {N ps : List Str} {k : Nat} {sp : Sp} {e0 : Expr} {rest : List Stmt} {p0 p1 ap p2 p3 : Pos} {ar : Arg}
    (T : SupT P K mg C fI cda cc qual st fd) (S : NdefX.NScope N (("self" : Str) :: ps) [("__class__" : Str)] (C8.fnScope st)) (hN : N[0]? = some ("self" : Str))
    (hb : C8.fnBody st = .Expr (.Call (.Attribute (.Call (.Name "super" p0) [] [] p1) "__init__" ap) [e0] [] p2) p3 :: rest) (hp : ((C8.fnArgs st).posonlyargs ++ (C8.fnArgs st).args).head? = some ar) (har : ar.arg = ("self" : Str))
    (hks : (C8.fnScope st).names.lookup ("super" : Str) = some .globalImplicit) (hkc : (C8.fnScope st).names.lookup ("__class__" : Str) = some .free) (hka : (C8.fnScope st).names.lookup ("self" : Str) = some .local)
    (hev : ∀ env : Env, ∃ pl : Sem Bool, eval (.Call (.Attribute (.Call (.Name "super" p0) [] [] p1) "__init__" ap) [e0] [] p2) env = (do
      let ov ← attributeBase (.Call (.Name "super" p0) [] [] p1) "__init__" env (eval (.Call (.Name "super" p0) [] [] p1) env)
      standAt ap.atName
      let (f, first) ← holding [ov] (getMethod ov "__init__" pl)
      callWith p2 f first (backTo p2 (starEach [e0] env)) []))
    (hin : ∀ f L : Addr, interactive (NdefX.envF (supF qual st cda cc) f L) = false) (hst : ∀ env : Env, starEach [e0] env = (false, eval e0 env) :: starEach [] env)
    (len : ∀ vs H Q E, sp vs H Q E → vs.length = ps.length + 1)
    (hbody : ∀ (A : Around) (outer : List Env) (s : Shared) (H : Hp) (vs : List V) (Q : VK) (E : XK), Room k (A.deeper (NdefX.envF (supF qual st cda cc) fI s.heap.objs.size)) → sp vs H Q E →
      ∃ (a : Addr) (vs' : List V) (te : TE) (t : TS), vs = .ref a :: vs' ∧ H a = some (exo a C none) ∧ PE (NdefX.ncx C8.CX0 P w K mg base N (supF qual st cda cc) fI A outer s H E).nox e0 te ∧ PSs (NdefX.ncx C8.CX0 P w K mg base N (supF qual st cda cc) fI A outer s H E).nox rest t ∧
        tCons te tNil (NdefX.startF N vs [some (.ref C)]) H fun xs H1 => xs.length ≤ 1000 ∧ H1 a = some (exo a C none) ∧ t { nx := fun _ H' => Q .non H', rt := Q } (NdefX.startF N vs [some (.ref C)]) H1) : FnOk P w K mg base C8.CX0 (k + 1) fI fd (("self" : Str) :: ps) sp := by
  refine ⟨fun vs H Q E h => len vs H Q E h, fun A outer s H args us vs Q E hr e0' bi rv hsp => ?_⟩
  obtain ⟨hp0, g, d, tk, os⟩ := s
  have hl := len _ _ _ _ hsp
  obtain ⟨oc, od, an, osl, kV, doc, pm, ct, rfl, look⟩ := T.fn
  obtain ⟨ccl, cdd, fvs, ccs, file, tf, lookC, hvs, hfile⟩ := T.file
  obtain ⟨cl, cld, csl, lookE⟩ := T.cell
  obtain ⟨nm, q, Nc, bs, bm, sn, sub, ab, col, dd, k0, k1, k2, k3, k5, hC, hbm⟩ := T.oex.cls
  have sub0 : ∀ b o, base.get? b = some o → hp0.get? b = some o := fun b o e => (e0'.bs b o e).1
  have inK := e0'.mod.kin.keeps sub0
  have lim : hp0.NoLimit := e0'.mod.nolimit.keeps sub0
  have hcl : PySem.W.clsIn K C = some { name := nm, bases := bs, mro := .ref C :: bm, ns := Nc, qualname := q, hasDict := true, slotNames := sn, subclasses := sub, abstract := ab, collection := col, hasDel := false } := by unfold PySem.W.clsIn; rw [hC] <;> rfl
  let F := supF qual st cda cc
  have hcc : hp0.IsCell cc (some (.ref C)) := ⟨_, inK _ _ lookE, rfl⟩
  have cells : NdefX.CellsAt F.cl [("__class__" : Str)] [some (.ref C)] hp0 H := by
    refine ⟨rfl, fun y c e => ?_, fun x y c e1 e2 => ?_, fun i y e => ?_⟩
    · have : c = cc := by
        by_cases hy : y = ("__class__" : Str)
        · subst hy
          exact (Option.some.inj ((show F.cl.lookup ("__class__" : Str) = some cc from rfl).symm.trans e)).symm
        · have z : (y == ("__class__" : Str)) = false := by simpa using hy
          have : F.cl.lookup y = none := by show List.lookup y [(("__class__" : Str), cc)] = none; simp [List.lookup, z]
          rw [this] at e
          cases e
      subst this
      exact ⟨(e0'.bs _ _ (e0'.mod.kin _ _ lookE)).2, _, hcc⟩
    · have one : ∀ {x : Str} {c : Addr}, F.cl.lookup x = some c → x = ("__class__" : Str) := fun {x c} e => by
        by_cases hy : x = ("__class__" : Str)
        · exact hy
        · have z : (x == ("__class__" : Str)) = false := by simpa using hy
          have : F.cl.lookup x = none := by show List.lookup x [(("__class__" : Str), cc)] = none; simp [List.lookup, z]
          rw [this] at e
          cases e
      rw [one e1, one e2]
    · cases i with
      | zero =>
        cases e
        exact ⟨cc, rfl, fun v hv => ⟨.ref C, by cases hv; rfl, hcc⟩⟩
      | succ i => simp at e
  refine ks_codeAny_call_defAt (body := C8.fnBody st) (binds := (("self" : Str) :: ps).zip us) hr.depth (inK _ _ look) rfl lim (PySem.W.codeRec_of inK T.code) rfl bi S.nocell (fun x hx => S.par _ (List.of_mem_zip hx).1) (fun h₁ hns kp => ?_) S.co S.gen S.kind
  show PySem.wpAt _ (A.deeper (NdefX.envF F fI hp0.objs.size)) (.func (C8.fnBody st) (NdefX.envF F fI hp0.objs.size)) (execs (C8.fnBody st) (NdefX.envF F fI hp0.objs.size)) _ _ _
  obtain ⟨a, vs', te, t, rfl, ea, hte, ht, hq⟩ := hbody A outer ⟨hp0, g, d, tk, os⟩ H vs Q E (hr.deeper _) hsp
  have I : Inv (NdefX.ncx C8.CX0 P w K mg base N F fI A outer ⟨hp0, g, d, tk, os⟩ H E) [] (NdefX.startF N (.ref a :: vs') [some (.ref C)]) H { (⟨hp0, g, d, tk, os⟩ : Shared) with heap := h₁, toks := tk + ((("self" : Str) :: ps).zip us).length } := NdefX.inv_startN S hr.hd e0' hl rv cells hns kp
  rw [hb]
  obtain ⟨pl, hev1⟩ := hev (NdefX.envF F fI hp0.objs.size)
  refine ks_wpAt_execs_cons (ks_wpAt_Expr_any (ks_wpAt_MethodCall (pl := pl) ?_ hev1) (hin _ _))
  have inK1 : K.In h₁ := inK.keeps kp
  obtain ⟨t1, hea⟩ := exo_at I.hok ea
  refine ks_wpAt_super_base (env := NdefX.envF F fI hp0.objs.size) hks hkc rfl rfl (inK1 _ _ look) rfl hp rfl (inK1 _ _ lookC) rfl hvs hfile T.top ?_
  obtain ⟨mb, g1, g2⟩ := I.mod.blt
  refine PySem.W.ks_loadName_global (env := NdefX.envF F fI hp0.objs.size) S.kind hks (Calls.loadGlobal_builtin (env := NdefX.envF F fI hp0.objs.size) (I.mod.glob.keeps I.bk) T.noS (g1.keeps I.bk) ((g2 "super" (by decide)).trans (by kernel_rfl)) ⟨rfl, ?_⟩)
  refine wpAny_loadName_free S.kind hkc rfl ⟨_, inK1 _ _ lookE, rfl⟩ ?_
  refine wpAny_loadName_local S.kind (by rw [har]; exact hka) hns (v := .ref a) ?_ ?_
  · rw [har]
    have ndP : (("self" : Str) :: ps).Nodup := by
      have q := S.nd.sublist (List.take_sublist ((("self" : Str) :: ps).length + 1) N)
      rw [show N.take ((("self" : Str) :: ps).length + 1) = _ from S.pre] at q
      exact (List.nodup_append.mp q).1
    have hu0 : us[0]? = some (Value.ref a) := by
      cases rv with
      | cons r1 r2 =>
        cases r1
        rfl
    exact NdefX.zip_look (i := 0) ndP rfl hu0
  refine ks_wpAny_isType_cls (inK1 _ _ hC) rfl ⟨rfl, ?_⟩
  refine ks_wpAny_call_super (inK1 _ _ hC) rfl hea rfl (fun c e => nomatch e) (PySem.W.looks_mroIn inK1 T.mro) (fun h2 e2 k2 => ?_)
  have I2 : Inv (NdefX.ncx C8.CX0 P w K mg base N F fI A outer ⟨hp0, g, d, tk, os⟩ H E) [] (NdefX.startF N (.ref a :: vs') [some (.ref C)]) H ⟨h2, g, d, tk + ((("self" : Str) :: ps).zip us).length, os⟩ := I.kept (t' := tk + ((("self" : Str) :: ps).zip us).length) k2
  have inK2 : K.In h2 := inK1.keeps k2
  have hac : a ≠ C := fun z => by
    have := (e0'.bs _ _ (e0'.mod.kin _ _ hC)).2
    rw [← z, ea] at this
    cases this
  refine PySem.W.kxs_getMethod PySem.W.kxs_ValueError e2 (PySem.W.looks_opaque inK2 T.opq) (l₀ := .ref C :: bm) ((PySem.W.looks_clsIn inK2 hcl).andThen .now) rfl inK2 ?_ ?_ hac (by decide) ?_
  · have := T.sup
    unfold PySem.W.ks_superIn at this
    rw [hcl] at this
    exact this
  · exact (show PySem.W.InstAt h2 a (HandSPX.excO C t1) C none from ⟨k2 _ _ hea, rfl, rfl, trivial⟩).type.andThen (PySem.W.looks_subIn inK2 T.subV)
  have I3 := ClX.pin_new (a := h2.objs.size) (o := PySem.W.kxs_mw "ValueError.__init__" a) (h' := h2.push (PySem.W.kxs_mw "ValueError.__init__" a)) (t' := tk + ((("self" : Str) :: ps).zip us).length + 1) I2 (fun b u e => Heap.get?_push_of_some _ e) (Nat.le_refl _) (Heap.get?_push_at rfl rfl) (fun v z => nomatch z)
  show wpAny _ _ (callWith p2 (.ref h2.objs.size) [] (backTo p2 (starEach [e0] (NdefX.envF F fI hp0.objs.size))) []) _ _ _
  refine callWith_mw (i := "ValueError.__init__") (x := a) (hst _) ?_
  refine thn ((pa_cons hte.nox pa_nil (hst _)).run p2 _ _ _ H _ I3 hq) fun us1 s1 ⟨xs, H1, I4, r1, hx1, ea1, q1⟩ => ?_
  refine ⟨ClX.pin_at I4, ?_⟩
  obtain ⟨t2, he2⟩ := exo_at I4.hok ea1
  refine call_mw (I4.kIn _ _ hC) he2 (ClX.pin_at I4) (by rw [← r1.length, sizeLine_eq]; omega) fun h5 t3 k5 e5 => ?_
  have I5 := (ClX.unpin I4).write (t' := s1.toks) (x := a) (e := a) (o := exo a C none) (by rw [ea1]; exact True.intro) (.inl rfl) k5 ⟨_, e5⟩ (exo_ok e5)
  have eu : upd H1 a (exo a C none) = H1 := by
    funext b
    by_cases hb : b = a
    · rw [hb, upd_same, ea1]
    · rw [upd_ne hb]
  rw [eu] at I5
  show PySem.wpAt _ _ _ (execs rest _) _ _ _
  refine wpAt_of_wpAny ?_
  refine wpAny_mono (ht.nox.run [] _ _ H1 _ I5 q1) (fun fl s' hs => ?_) fun e s' hs => hs
  have fin : ∀ {σ' : L2.St} {H' : Hp} {v : V} {u : Value}, Inv (NdefX.ncx C8.CX0 P w K mg base N F fI A outer ⟨hp0, g, d, tk, os⟩ H E) [] σ' H' s' → L2.RelV v u → Q v H' → CE outer P w H ⟨hp0, g, d, tk, os⟩ Q u s' :=
    fun {σ' H' v u} J rv q => ⟨v, H', J.os, J.bare, J.base, J.hok, rv, q⟩
  cases fl with
  | ret u =>
    obtain ⟨v, σ', H', J, rv, q⟩ := hs
    exact fin J rv q
  | next =>
    obtain ⟨σ', H', J, q⟩ := hs
    exact fin (v := V.non) (u := Value.none) J rfl q
  | brk =>
    obtain ⟨_, _, _, q⟩ := hs
    exact False.elim q
  | cont =>
    obtain ⟨_, _, _, q⟩ := hs
    exact False.elim q
def ivF (o : Int) (r : Str) : List (Str × V) := [("reason", .str r), ("offset", .int o)]
/-- what is let out: an InvalidText of this offset and reason, its dict new -/
def Out (K : PySem.W.Frag) (E : XK) (H : Hp) (o : Int) (r : Str) : Prop := ∀ d H', H d = none → Ex H H' → H' d = some (.xd (ivF o r)) → E (.ref (clsAt K "InvalidText")) (some d) H'
theorem Out.ex {K : PySem.W.Frag} {E : XK} {H H1 : Hp} {o : Int} {r : Str} (h : Out K E H o r) (e : Ex H H1) : Out K E H1 o r := fun d H' hd e' h' => h d H' (fresh_back e hd) (e.trans e') h'
def sp_InvalidText____init__ (K : PySem.W.Frag) : Sp := fun vs H Q _ => ∃ (a : Addr) (o : Nat) (r : Str), vs = [.ref a, .int (o : Int), .str r] ∧ o < 10 ^ 20 ∧ r.length ≤ 1000 ∧ H a = some (exo a (clsAt K "InvalidText") none) ∧
  ∀ d H', H d = none → d ≠ a → Ex (wo a H) H' → H' a = some (exo a (clsAt K "InvalidText") (some d)) → H' d = some (exd d (ivF o r)) → Q .non H'
structure IvM (P : Program) (w : World) (K : PySem.W.Frag) (mg : Str → Option Value) (base : Heap) (k : Nat) : Prop where
  ex : ∃ (fI : Addr) (fd : FuncData) (ps : List Str), OexC K (clsAt K "InvalidText") ∧ PySem.W.findIn K (.ref (clsAt K "InvalidText")) "__init__" = some (some (.ref fI)) ∧ PySem.W.typeIn K (.ref fI) = some (.type "function") ∧ FnOk P w K mg base C8.CX0 k fI fd ps (sp_InvalidText____init__ K) ∧ Binds K fd ps [] ∧ mg "InvalidText" = some (.ref (clsAt K "InvalidText"))
def tRaiseIv (K : PySem.W.Frag) (W : WX) (ta : TA) : TS := fun _ σ H => tMkO (clsAt K "InvalidText") (sp_InvalidText____init__ K) [] ta σ H fun cls d H' => W cls d σ H'
theorem ps_raiseIv {X : Cx} {k j : Nat} {W : WX} {e : Expr} {es : List Expr} {ta : TA} {p pos pos2 : Pos} (c : IvM X.prog X.w X.K X.mg X.base k) (hc : X.calm = true) (tk : Takes X W) (hr : Room j X.A) (hk : k + 1 ≤ j) (hg : Gl X "InvalidText") (ha : PA X (e :: es) ta)
    (he : starEach (e :: es) X.env = (false, eval e X.env) :: starEach es X.env := by rfl) (hpl : (backTo pos (starEach es X.env)).any (·.1) = false := by rfl) : PS X (.Raise (some (.Call (.Name "InvalidText" p) (e :: es) [] pos)) none pos2) (tRaiseIv X.K W ta) := by
  obtain ⟨fI, fd, ps, T, iC, tI, F, b, hm⟩ := c.ex
  exact ps_raise hc tk (pmk_oex T iC tI F (hr.mono hk) b .nil C8.pass0 hg hm ha (by decide) he hpl)
theorem s_raiseIv {K : PySem.W.Frag} {D : Ends} {W : WX} {σ : L2.St} {H : Hp} {ta : TA} {o : Nat} {r : Str} (h : EvA ta σ H [.int (o : Int), .str r]) (ho : o < 10 ^ 20) (hr : r.length ≤ 1000)
    (k : ∀ d H1, H d = none → Ex H H1 → H1 d = some (.xd (ivF o r)) → W (.ref (clsAt K "InvalidText")) (some d) σ H1) : tRaiseIv K W ta D σ H := h H (Ex.refl H) _ fun H1 e1 => by
  refine ⟨by show 2 ≤ 1000; decide, fun a ha => ⟨a, o, r, rfl, ho, hr, upd_same, fun d H' hd hne e hea hed => ⟨rfl, d, ivF o r, hea, hed, ?_, ?_⟩⟩⟩
  · rw [upd_ne hne] at hd
    exact hd
  · have hd1 : H1 d = none := by rw [upd_ne hne] at hd; exact hd
    refine k d _ (fresh_back e1 hd1) (fun b u hb => ?_) upd_same
    have hb1 := e1 b u hb
    have nb : b ≠ a := ne_of_none hb1 ha
    have nd : b ≠ d := ne_of_none hb1 hd1
    rw [upd_ne nd, del_ne nb]
    exact e b u (by rw [wo_ne nb, upd_ne nb]; exact hb1)
theorem ok_iv {P : Program} {w : World} {K : PySem.W.Frag} {mg : Str → Option Value} {base : Heap} {C fI cda cc : Addr} {fd : FuncData} (T : SupT P K mg C fI cda cc "InvalidText.__init__" s_InvalidText____init__ fd) (hC : clsAt K "InvalidText" = C)
    (iC : PySem.W.findIn K (.ref C) "__init__" = some (some (.ref fI))) (tI : PySem.W.typeIn K (.ref fI) = some (.type "function")) (n1 : PySem.W.findIn K (.ref C) "offset" = some none) (n2 : PySem.W.findIn K (.ref C) "reason" = some none)
    (gC : mg "InvalidText" = some (.ref C)) (bd : Binds K fd ["self", "offset", "reason"] []) : IvM P w K mg base 1 := by
  subst hC
  refine ⟨fI, fd, ["self", "offset", "reason"], T.oex, iC, tI, ?_, bd, gC⟩
  refine fn_sup (k := 0) (N := ["self", "offset", "reason", "__class__"]) (ps := ["offset", "reason"]) T (NdefX.nscope_by (by decide +kernel)) rfl rfl rfl rfl (by decide +kernel) (by decide +kernel) (by decide +kernel) (fun _ => ⟨_, rfl⟩) (fun _ _ => rfl) (fun _ => rfl) (fun vs H Q E h => ?_) (fun A outer s H vs Q E hr h => ?_)
  · obtain ⟨_, _, _, rfl, _⟩ := h
    rfl
  obtain ⟨a, o, r, rfl, ho, hr1, ha, q⟩ := h
  have ol := TL.numL_len (n := o) (k := 30) (by decide) (by omega)
  have em : ∀ x : Str, Str.empty ++ x = x := fun x => TL.ext_tl (by rw [TL.tl_append]; rfl)
  have la : ∀ a b : Str, (a ++ b).length = a.length + b.length := fun a b => Array.size_append
  have hS : (SX.S (TL.numL o)).length = (TL.numL o).length := by rw [SX.S_len]
  have h5 : (PySem.Str.ofString " (at ").length = 5 := by decide +kernel
  have h1 : (PySem.Str.ofString ")").length = 1 := by decide +kernel
  refine ⟨a, [.int (o : Int), .str r], _, _, rfl, ha, (pe_joined (PJ.cons (pe_fmt (pv 2)) (PJ.cons pe_str (PJ.cons (pe_fmt (pv 1)) (PJ.cons pe_str PJ.nil))))), (pss_cons (ps_ost (pv 0) (pv 1)) (pss_one (ps_ost (pv 0) (pv 2)))), ?_⟩
  refine js_str (fm_str (ev_var rfl) (by omega)) (by rw [em]; omega) fun H1 e1 => js_str (ev_c (v := .str (PySem.Str.ofString " (at "))) (by rw [em, la, h5]; omega) fun H2 e2 => js_str (fm_int (ev_var rfl) (by omega)) (by rw [em, la, la, h5]; omega) fun H3 e3 => js_str (ev_c (v := .str (PySem.Str.ofString ")"))) (by rw [em, la, la, la, h5, h1]; omega) fun H4 e4 => ?_
  have x4 := ((e1.trans e2).trans e3).trans e4
  refine ⟨by show 1 ≤ 1000; decide, x4 _ _ ha, ?_⟩
  refine ⟨_, rfl, _, rfl, a, _, rfl, T.oex, n1, .inl ⟨x4 _ _ ha, fun dx hdx hne => ?_⟩⟩
  refine ⟨_, rfl, _, rfl, a, _, rfl, T.oex, n2, .inr ⟨dx, _, upd_same, (by rw [upd_ne hne, upd_same]), by show 1 ≤ 900; decide, ?_⟩⟩
  refine q dx _ (fresh_back x4 hdx) hne (fun b u hb => ?_) (by rw [upd_ne (Ne.symm hne), upd_same]) upd_same
  have nb : b ≠ a := fun z => by rw [z, wo_self] at hb; cases hb
  rw [wo_ne nb] at hb
  have hb4 := x4 _ _ hb
  have nd : b ≠ dx := ne_of_none hb4 hdx
  rw [upd_ne nd, upd_ne nb, upd_ne nd]
  exact hb4
structure CalX (P : Program) (w : World) (K : PySem.W.Frag) (mg : Str → Option Value) (base : Heap) (k : Nat) (x : Str) (sp : Sp) : Prop where
  ex : ∃ f : Addr, mg x = some (.ref f) ∧ PySem.W.keepIn K (.ref f) = true ∧ ∀ (A : Around) (outer : List Env) (s : Shared) (H : Hp) (us : List Value) (vs : List V) (Q : VK) (E : XK), Room k A → Env0 P w K mg base A outer s H → Vals vs us → sp vs H Q E →
    codeAny (model P w) A (.call (.ref f) ⟨us, []⟩) (CR (L2.CX P w) outer P w H s Q E) s
/-- .. with keywords ks, and what else lacks by its defaults dvs -/
structure CalXK (P : Program) (w : World) (K : PySem.W.Frag) (mg : Str → Option Value) (base : Heap) (k : Nat) (x : Str) (n : Nat) (ks : List Str) (sp : Sp) (dvs : List V) : Prop where
  ex : ∃ f : Addr, mg x = some (.ref f) ∧ PySem.W.keepIn K (.ref f) = true ∧ ∀ (A : Around) (outer : List Env) (s : Shared) (H : Hp) (us ws : List Value) (vs zs : List V) (Q : VK) (E : XK), Room k A → Env0 P w K mg base A outer s H → Vals vs us → Vals zs ws → vs.length = n → zs.length = ks.length → sp (vs ++ zs ++ dvs) H Q E →
    codeAny (model P w) A (.call (.ref f) ⟨us, ks.zip ws⟩) (CR (L2.CX P w) outer P w H s Q E) s
def DnXK (K : PySem.W.Frag) (mg : Str → Option Value) (x : Str) (st : Stmt) (ps : List Str) (n : Nat) (ks : List Str) (dvs : List V) : Prop := ∃ f fd, C8.Def K mg x st f fd ∧ ∃ mv : List Value, L2.KBn K fd ps n ks (fun us ws => us ++ ws ++ mv) (fun vs zs => vs ++ zs ++ dvs)
section
variable {P : Program} {w : World} {K : PySem.W.Frag} {mg : Str → Option Value} {base : Heap}
theorem dnXK_mk {x : Str} {st : Stmt} {f : Addr} {oc : Value} {od an : Option Addr} {osl : Array (Option Value)} {kV doc pm cdv ct : Value} {ps ks : List Str} {n : Nat} {kws : List (Str × V)}
    (l : K.lookup f = some ⟨oc, od, .func (PySem.W.fnOf x x (C8.fnArgs st) (C8.fnBody st) (C8.fnScope st) .none kV doc pm an cdv ct), osl⟩)
    (c : PySem.W.codeIn K cdv x = true) (k : PySem.W.keepIn K (.ref f) = true) (m : mg x = some (.ref f)) (hk : KwdV K kV kws) (hne : kws ≠ [])
    (h : ∀ (D : Addr) (doc pm : Value) (an : Option Addr) (cdv ct : Value) (us mv ws : List Value), us.length = n → mv.length = kws.length → ws.length = ks.length →
      KwChain D ((kws.map (·.1)).zip mv) (bindArgs (PySem.W.fnOf x x (C8.fnArgs st) (C8.fnBody st) (C8.fnScope st) .none (.ref D) doc pm an cdv ct) ⟨us, ks.zip ws⟩) (ps.zip (us ++ ws ++ mv))) : DnXK K mg x st ps n ks (kws.map (·.2)) := by
  have G : FunD K x x (C8.fnArgs st) (C8.fnBody st) (C8.fnScope st) [] kws f (PySem.W.fnOf x x (C8.fnArgs st) (C8.fnBody st) (C8.fnScope st) .none kV doc pm an cdv ct) := ⟨⟨oc, od, .none, kV, doc, pm, an, cdv, ct, osl, rfl, l, c, .inl ⟨rfl, rfl⟩, hk⟩, k⟩
  exact ⟨f, _, def_mk l c k m, G.kbinds0 n ks kws (fun us mv ws => us ++ ws ++ mv) hne (fun q hq => hq) (fun r1 r2 r3 => (r1.append r3).append r2) h⟩
theorem calX_of {x : Str} {st : Stmt} {N ps : List Str} {k : Nat} {sp : Sp} (D : Dn K mg x st ps) (S : FnScope N ps (C8.fnScope st)) (len : ∀ vs H Q E, sp vs H Q E → vs.length = ps.length)
    (hbody : ∀ (f : Addr) (cdv : Value) (A : Around) (outer : List Env) (s : Shared) (H : Hp) (vs : List V) (Q : VK) (E : XK), Room k (A.deeper (envOfC x (C8.fnScope st) s.heap.objs.size f cdv)) → sp vs H Q E →
      ∃ t, PSs (cxOf (L2.CX P w) P w K mg base N x (C8.fnScope st) f cdv A outer s H E) (C8.fnBody st) t ∧ t { nx := fun _ H' => Q .non H', rt := Q } (start N vs) H) : CalX P w K mg base (k + 1) x sp := by
  obtain ⟨f, fd, F, b⟩ := D
  obtain ⟨oc, od, dV, kV, doc, pm, an, cdv, ct, osl, rfl, lk, hcd⟩ := F.fn.ex
  have G : FnOk P w K mg base (L2.CX P w) (k + 1) f _ ps sp := fn_of lk hcd S len fun A outer s H vs Q E hr hsp => hbody f cdv A outer s H vs Q E hr hsp
  refine ⟨f, F.mgf, F.kp, fun A outer s H us vs Q E hr e0 r h => G.run A outer s H ⟨us, []⟩ us vs Q E hr e0 ?_ r h⟩
  have := b s us (e0.mod.kin.keeps fun b o e => (e0.bs b o e).1) (by rw [List.append_nil, ← r.length]; exact len _ _ _ _ h)
  rwa [List.append_nil] at this
theorem calXK_of {x : Str} {st : Stmt} {N ps ks : List Str} {k n : Nat} {sp : Sp} {dvs : List V} (D : DnXK K mg x st ps n ks dvs) (S : FnScope N ps (C8.fnScope st)) (len : ∀ vs H Q E, sp vs H Q E → vs.length = ps.length)
    (hbody : ∀ (f : Addr) (cdv : Value) (A : Around) (outer : List Env) (s : Shared) (H : Hp) (vs : List V) (Q : VK) (E : XK), Room k (A.deeper (envOfC x (C8.fnScope st) s.heap.objs.size f cdv)) → sp vs H Q E →
      ∃ t, PSs (cxOf (L2.CX P w) P w K mg base N x (C8.fnScope st) f cdv A outer s H E) (C8.fnBody st) t ∧ t { nx := fun _ H' => Q .non H', rt := Q } (start N vs) H) : CalXK P w K mg base (k + 1) x n ks sp dvs := by
  obtain ⟨f, fd, F, mv, b⟩ := D
  obtain ⟨oc, od, dV, kV, doc, pm, an, cdv, ct, osl, rfl, lk, hcd⟩ := F.fn.ex
  have G : FnOk P w K mg base (L2.CX P w) (k + 1) f _ ps sp := fn_of lk hcd S len fun A outer s H vs Q E hr hsp => hbody f cdv A outer s H vs Q E hr hsp
  exact ⟨f, F.mgf, F.kp, fun A outer s H us ws vs zs Q E hr e0 r rz l1 l2 h => G.run A outer s H ⟨us, ks.zip ws⟩ (us ++ ws ++ mv) (vs ++ zs ++ dvs) Q E hr e0 (b.to s us ws (e0.mod.kin.keeps fun b o e => (e0.bs b o e).1) (r.length.symm.trans l1) (rz.length.symm.trans l2)) (b.rel r rz) h⟩
/-- one that raises nothing -/
theorem calX_cal {k : Nat} {x : Str} {sp : Sp} (c : C8.Cal P w K mg base k x sp []) : CalX P w K mg base k x sp := by
  obtain ⟨f, fd, ps, ds, F, hm, kp, b, d⟩ := c.ex
  cases d
  refine ⟨f, hm, kp, fun A outer s H us vs Q E hr e0 r h => ?_⟩
  have bi := b s us (e0.mod.kin.keeps fun b o e => (e0.bs b o e).1) (by rw [List.append_nil, ← r.length]; exact F.len _ _ _ _ h)
  rw [List.append_nil] at bi
  refine codeAny_mono (F.run A outer s H ⟨us, []⟩ us vs Q E hr e0 bi r h) fun r s' hq => ?_
  cases r with
  | error e => exact False.elim hq
  | ok fl => cases fl <;> exact hq
theorem calX_or {k k' : Nat} {x : Str} {sp1 sp2 : Sp} (c : C8.Cal P w K mg base k x sp1 []) (b : CalX P w K mg base k' x sp2) : CalX P w K mg base (max k k') x (fun vs H Q E => sp1 vs H Q E ∨ sp2 vs H Q E) := by
  obtain ⟨f, hm, kp, r1⟩ := (calX_cal c).ex
  obtain ⟨f', hm', _, r2⟩ := b.ex
  cases hm.symm.trans hm'
  exact ⟨f, hm, kp, fun A outer s H us vs Q E hr e0 r h => h.elim (fun h => r1 A outer s H us vs Q E (hr.mono (Nat.le_max_left _ _)) e0 r h) fun h => r2 A outer s H us vs Q E (hr.mono (Nat.le_max_right _ _)) e0 r h⟩
end
section
variable {X : L2.Cx} {W : WX} {k j n : Nat} {x : Str} {ks : List Str} {sp : Sp} {dvs : List V} {p pos : Pos} {e : Expr} {es : List Expr} {kws : List Keyword} {t tk : TA}
theorem pe_cX (c : CalX X.prog X.w X.K X.mg X.base k x sp) (ta : Takes X W) (hr : Room j X.A) (hk : k ≤ j) (hg : Gl X x) (ha : PA X (e :: es) t)
    (hdb : (x == ("__debug__" : Str)) = false := by decide) (he : starEach (e :: es) X.env = (false, eval e X.env) :: starEach es X.env := by rfl) (hpl : (backTo pos (starEach es X.env)).any (·.1) = false := by rfl) :
    PE X (.Call (.Name x p) (e :: es) [] pos) (tCallS sp (WE W) t) := by
  obtain ⟨f, hm, kp, run⟩ := c.ex
  refine ⟨fun pins s σ H Q I h => ?_⟩
  refine wpAny_Call_Name_kw (ld_glob I hg hm ?_ hdb)
  refine PySem.W.callWith_K (h₀ := X.base) I.ok.mod.kin kp (thn (ha.run pos pins s σ H _ I h) fun us s1 ⟨vs, H1, I1, r, q⟩ => ⟨I1.kIn, ?_⟩) he hpl
  refine wpAny_call (codeAny_mono (run X.A X.stack s1 H1 us vs Q (WE W σ) (hr.mono hk) I1.env0 r q) fun r s' hq => ?_)
  cases r with
  | error e => exact passAt ta σ pins H1 s1 e s' I1 hq
  | ok fl =>
    cases fl with
    | ret u => exact I1.after hq
    | next => exact False.elim hq
    | brk => exact False.elim hq
    | cont => exact False.elim hq
def tCallXK (n m : Nat) (sp : Sp) (dvs : List V) (E : L2.St → XK) (t tk : TA) : TE := fun σ H Q => t σ H fun vs H1 => tk σ H1 fun zs H2 => vs.length = n ∧ zs.length = m ∧ sp (vs ++ zs ++ dvs) H2 Q (E σ)
theorem pe_cXK (c : CalXK X.prog X.w X.K X.mg X.base k x n ks sp dvs) (ta : Takes X W) (hr : Room j X.A) (hk : k ≤ j) (hg : Gl X x) (ha : PA X (e :: es) t) (hkw : PK X kws tk)
    (hall : (backToKw pos (keywordEach kws X.env)).all (·.1.isSome) = true := by rfl) (hks : (backToKw pos (keywordEach kws X.env)).filterMap (·.1) = ks := by rfl)
    (hdb : (x == ("__debug__" : Str)) = false := by decide) (he : starEach (e :: es) X.env = (false, eval e X.env) :: starEach es X.env := by rfl)
    (hpl : ((backTo pos (starEach (e :: es) X.env)).any (·.1) || (backToKw pos (keywordEach kws X.env)).any (·.1.isNone)) = false := by rfl) :
    PE X (.Call (.Name x p) (e :: es) kws pos) (tCallXK n ks.length sp dvs (WE W) t tk) := by
  obtain ⟨f, hm, kp, run⟩ := c.ex
  refine ⟨fun pins s σ H Q I h => ?_⟩
  refine wpAny_Call_Name_kw (ld_glob I hg hm ?_ hdb)
  refine PySem.W.callWith_KW (h₀ := X.base) I.ok.mod.kin kp hall (thn (ha.run pos pins s σ H _ I h) fun us s1 ⟨vs, H1, I1, r, q⟩ => ?_) hpl he
  refine thn (hkw.run pos pins s1 σ H1 _ I1 q) fun ws s2 ⟨zs, H2, I2, rz, l1, l2, q2⟩ => ⟨I2.kIn, ?_⟩
  rw [hks]
  refine wpAny_call (codeAny_mono (run X.A X.stack s2 H2 us ws vs zs Q (WE W σ) (hr.mono hk) I2.env0 r rz l1 l2 q2) fun r s' hq => ?_)
  cases r with
  | error e => exact passAt ta σ pins H2 s2 e s' I2 hq
  | ok fl =>
    cases fl with
    | ret u => exact I2.after hq
    | next => exact False.elim hq
    | brk => exact False.elim hq
    | cont => exact False.elim hq
end
open Dg
def rzIn : Str := "a quotation mark stands in a field without quotation marks"
def rzSep : Str := "a separator is expected"
def rzOpen : Str := "the quotation mark is not closed"
/-- at o of t stands a field that is refused: where, why -/
inductive BadF (sp : Nat) (t : List Nat) (o : Nat) : Nat → Str → Prop
  | opn (rest : List Nat) : t.drop o = 34 :: rest → 34 ∉ rest → BadF sp t o o rzOpen
  | aft (s : List Nat) (c : Nat) (rest : List Nat) : t.drop o = wrL s true ++ c :: rest → c ≠ 34 → c ≠ sp → c ≠ 10 → BadF sp t o (o + (wrL s true).length) rzSep
  | inn (pl rest : List Nat) : t.drop o = pl ++ 34 :: rest → pl ≠ [] → (∀ c ∈ pl, c ≠ sp ∧ c ≠ 34 ∧ c ≠ 10) → BadF sp t o (o + pl.length) rzIn
theorem wr_cons (s : List Nat) : wrL s true = 34 :: (dblL s ++ [34]) := rfl
theorem BadF.lt {sp o off : Nat} {t : List Nat} {r : Str} (h : BadF sp t o off r) : off ≤ t.length ∧ o < t.length := by
  cases h with
  | opn rest h _ =>
    have := congrArg List.length h
    rw [List.length_drop, List.length_cons] at this
    omega
  | aft s c rest h _ _ _ =>
    have := congrArg List.length h
    rw [List.length_drop, List.length_append, List.length_cons] at this
    omega
  | inn pl rest h _ _ =>
    have := congrArg List.length h
    rw [List.length_drop, List.length_append, List.length_cons] at this
    omega
/-- it begins by a quotation mark -/
def isMk (t : List Nat) (o : Nat) : Bool := decide ((t.drop o).take 1 = [34])
theorem find3_none {t : List Nat} {c i : Nat} (h : c ∉ t.drop i) (hi : i ≤ t.length) : Txt.find3 (SX.S t) (SX.S [c]) (i : Int) = -1 := by
  have hf : fromIndex (SX.S t).length (i : Int) = i := by
    unfold fromIndex
    rw [if_neg (by omega)]
    omega
  rcases StrLaws.find3_spec (SX.S t) c (i : Int) with ⟨h1, _⟩ | ⟨k, h1, h2, h3, h4, h5⟩
  · exact h1
  · rw [hf] at h2
    rw [getD_S] at h4
    rw [SX.S_len] at h3
    refine absurd ?_ h
    have : (t.drop i)[k - i]? = some c := by
      rw [List.getElem?_drop, show i + (k - i) = k by omega, List.getElem?_eq_getElem (by omega)]
      rw [List.getD_eq_getElem?_getD, List.getElem?_eq_getElem (by omega)] at h4
      exact congrArg some h4
    exact List.mem_of_getElem? this
def spB__marked_field (K : PySem.W.Frag) : Sp := fun vs H _ E => ∃ (sp : Nat) (t : List Nat) (o off : Nat) (r : Str), vs = [.str (SX.S t), .int (o : Int), .str (SX.S [sp])] ∧ BadF sp t o off r ∧ isMk t o = true ∧ okSep sp ∧ t.length ≤ 50000 ∧ Out K E H off r
def spB__plain_field (K : PySem.W.Frag) : Sp := fun vs H _ E => ∃ (sp : Nat) (t : List Nat) (o off : Nat) (r : Str), vs = [.str (SX.S t), .int (o : Int), .str (SX.S [sp])] ∧ BadF sp t o off r ∧ isMk t o = false ∧ okSep sp ∧ t.length ≤ 50000 ∧ Out K E H off r
/-- n fields ab, each with its separator -/
def abs_ (sp n : Nat) : List Nat := (List.replicate n [97, 98, sp]).flatten
theorem abs_add (sp a b : Nat) : abs_ sp (a + b) = abs_ sp a ++ abs_ sp b := by
  unfold abs_
  rw [← List.replicate_append_replicate, List.flatten_append]
theorem abs_len (sp n : Nat) : (abs_ sp n).length = 3 * n := by
  induction n with
  | zero => rfl
  | succ n ih => rw [abs_add, List.length_append, ih]; rfl
theorem abs_drop {sp o n i : Nat} {t : List Nat} (h : t.drop o = abs_ sp n ++ t.drop (o + 3 * n)) (hi : i ≤ n) : t.drop (o + 3 * i) = abs_ sp (n - i) ++ t.drop (o + 3 * n) := by
  have hl := abs_len sp i
  have h2 : n = i + (n - i) := by omega
  rw [h2, abs_add, List.append_assoc] at h
  rw [← List.drop_drop, h, ← hl, List.drop_left, ← h2]
theorem abs_next {sp o n i : Nat} {t : List Nat} (h : t.drop o = abs_ sp n ++ t.drop (o + 3 * n)) (hi : i < n) : ∃ R, t.drop (o + 3 * i) = 97 :: 98 :: sp :: R := by
  rw [abs_drop h (Nat.le_of_lt hi), show n - i = 1 + (n - i - 1) by omega, abs_add]
  exact ⟨_, rfl⟩
def spB__next_record (K : PySem.W.Frag) : Sp := fun vs H _ E => ∃ (sp : Nat) (t : List Nat) (o n off : Nat) (r : Str), vs = [.str (SX.S t), .int (o : Int), .str (SX.S [sp])] ∧ t.drop o = abs_ sp n ++ t.drop (o + 3 * n) ∧ o + 3 * n ≤ t.length ∧ BadF sp t (o + 3 * n) off r ∧ okSep sp ∧ sp ≠ 49 ∧ t.length ≤ 50000 ∧ Out K E H off r
def spB_split_records (K : PySem.W.Frag) : Sp := fun vs H _ E => ∃ (sp : Nat) (t : List Nat) (rs : List (List Fl)) (n off : Nat) (r : Str), vs = [.str (SX.S t), .str (SX.S [sp])] ∧ (∀ x ∈ rs, okRec sp x) ∧ t = bodyT sp rs none ++ (abs_ sp n ++ t.drop ((bodyT sp rs none).length + 3 * n)) ∧ (bodyT sp rs none).length + 3 * n ≤ t.length ∧ BadF sp t ((bodyT sp rs none).length + 3 * n) off r ∧ okSep sp ∧ sp ≠ 49 ∧ t.length ≤ 50000 ∧ Out K E H off r
theorem q_callS {σ : L2.St} {H : Hp} {D : Ends} {sp : Sp} {vs : List V} {E : L2.St → XK} {tr : TA} {g : TG} (h : EvA tr σ H vs) (k : ∀ H1, Ex H H1 → sp vs H1 (fun x H2 => g x σ H2 D.nx) (E σ)) : tAsg (tCallS sp E tr) g D σ H := h H (Ex.refl H) _ fun H1 e1 => k H1 e1
theorem q_callSq {σ : L2.St} {H : Hp} {D : Ends} {tz : TS} {sp : Sp} {vs : List V} {E : L2.St → XK} {tr : TA} {g : TG} (h : EvA tr σ H vs) (k : ∀ H1, Ex H H1 → sp vs H1 (fun x H2 => g x σ H2 (tz D)) (E σ)) : tSeq (tAsg (tCallS sp E tr) g) tz D σ H := h H (Ex.refl H) _ fun H1 e1 => k H1 e1
section
variable {P : Program} {w : World} {K : PySem.W.Frag} {mg : Str → Option Value} {base : Heap}
def spX__marked_field (K : PySem.W.Frag) : Sp := fun vs H Q E => sp__marked_field K vs H Q E ∨ spB__marked_field K vs H Q E
theorem okX__marked_field (D : Dn K mg "_marked_field" s__marked_field ["text", "start", "separator"]) (C_Field : ClsD K mg "Field" ["text", "offset", "marked"]) (c_Field____init__ : C8.Mak P w K mg base 1 "Field" (clsAt K "Field") (sp_Field____init__ K) []) (iv : IvM P w K mg base 1) (z_len : mg "len" = none) (g__LINE_END : ∃ u, mg "_LINE_END" = some u ∧ RelV (.str (SX.S [10])) u) (g__MARK : ∃ u, mg "_MARK" = some u ∧ RelV (.str (SX.S [34])) u) :
    CalX P w K mg base 3 "_marked_field" (spB__marked_field K) := by
  refine calX_of D sc__marked_field (fun vs H Q E h => ?_) (fun f cdv A outer s H vs Q E hr h => ?_)
  · obtain ⟨_, _, _, _, _, rfl, _⟩ := h
    rfl
  refine ⟨_, (pss_cons (ps_set (i := 3) sc__marked_field.nd rfl (.inl rfl) (pe_lst pa_nil))
    (pss_cons (ps_set (i := 4) sc__marked_field.nd rfl (.inl rfl) (pe_op op_add (pv 1) pe_int))
    (pss_cons (ps_set (i := 5) sc__marked_field.nd rfl (.inl rfl) pe_bl)
    (pss_cons (ps_while (passes_of rfl) (pt_not (pt_val (pv 5)))
      (pss_cons (ps_set (i := 6) sc__marked_field.nd rfl (.inl rfl) (pe_bm PySem.F.plainAttrs_str PySem.F.slot_str_find PySem.F.type_str_find mt_find3 (pv 0) (pa_cons (C8.pe_gc rfl g__MARK) (pa_cons (pv 4) pa_nil))))
    (pss_cons (ps_if (pt_cmpR op_lt (pv 6) pe_int (nomark _))
      (pss_one (ps_raiseIv iv rfl (takes_of rfl rfl rfl rfl) hr (by decide) (by rfl) (pa_cons (pv 1) (pa_cons pe_str pa_nil))))
      pss_nil)
    (pss_cons (ps_expr (pe_bm PySem.F.plainAttrs_list PySem.F.slot_list_append PySem.F.type_list_append mt_append (pv 3) (pa_cons (pe_slice C8.sl_txt (pv 0) (po_some (pv 4)) (po_some (pv 6))) pa_nil)))
    (pss_cons (ps_set (i := 5) sc__marked_field.nd rfl (.inl rfl) (pe_cmpR op_ne (pe_slice C8.sl_txt (pv 0) (po_some (pe_op op_add (pv 6) pe_int)) (po_some (pe_op op_add (pv 6) pe_int))) (C8.pe_gc rfl g__MARK) (nomark _)))
    (pss_one (ps_set (i := 4) sc__marked_field.nd rfl (.inl rfl) (pe_ifExp (pt_val (pv 5)) (pe_op op_add (pv 6) pe_int) (pe_op op_add (pv 6) pe_int)))))))))
    (pss_cons (ps_if (PW.pt (pw_and (pt_cmpR op_lt (pv 4) (pe_callB call_len_str (by rfl) z_len PySem.boot_len (pa_cons (pv 0) pa_nil)) (nomark _)) (pw_and (pt_cmpR op_ne (pe_ix ix_str (pv 0) (pv 4) (fun _ _ => rfl)) (pv 2) (nomark _)) (pw_and1 (pt_cmpR op_ne (pe_ix ix_str (pv 0) (pv 4) (fun _ _ => rfl)) (C8.pe_gc rfl g__LINE_END) (nomark _))))))
      (pss_one (ps_raiseIv iv rfl (takes_of rfl rfl rfl rfl) hr (by decide) (by rfl) (pa_cons (pv 4) (pa_cons pe_str pa_nil))))
      pss_nil)
    (pss_one (ps_ret (pe_tup (pa_cons (C8.pe_mk c_Field____init__ hr (by decide) (by rfl) (pa_cons (pe_join (C8.pe_gc rfl g__MARK) (pv 3)) (pa_cons (pv 1) (pa_cons pe_bl pa_nil)))) (pa_cons (pv 4) pa_nil)))))))))), ?_⟩
  obtain ⟨sp, t, o, off, r, rfl, hB, hM, hs, hz, q⟩ := h
  have hz2 : t.length ≤ 100000 := by omega
  have hlo := hB.lt
  cases hB with
  | inn pl rest hd hne hpl =>
    unfold isMk at hM
    rw [hd] at hM
    cases pl with
    | nil => exact absurd rfl hne
    | cons c pl =>
      have h1 := of_decide_eq_true hM
      have h2 : c = 34 := (List.cons.inj h1).1
      exact absurd h2 (hpl c List.mem_cons_self).2.1
  | opn rest hd h34 =>
    obtain ⟨_, hlt, hd1⟩ := at_drop hd
    have hf : Txt.find3 (SX.S t) (SX.S [34]) ((o + 1 : Nat) : Int) = -1 := find3_none (by rw [hd1]; exact h34) (by omega)
    refine q_asgL (el_lst ea_nil (by decide)) fun pp H1 hpp e1 h1 => ?_
    refine q_asg (v := .int ((o + 1 : Nat) : Int)) (ev_op (ev_var rfl) ev_c rv_I0) fun H2 e2 => ?_
    refine q_asg (v := .bl false) ev_c fun H3 e3 => ?_
    refine q_while (fun m σ' H' => σ' = [some (.str (SX.S t)), some (.int (o : Int)), some (.str (SX.S [sp])), some (.ref pp), some (.int ((o + 1 : Nat) : Int)), some (.bl false), none] ∧ Ex H H') 0 ⟨rfl, (e1.trans e2).trans e3⟩ fun m σ' H' pv => ?_
    obtain ⟨rfl, e⟩ := pv
    refine ⟨!false, et_not (et_B (ev_var rfl)), fun _ H4 e4 => ?_, fun hb => nomatch hb⟩
    refine ⟨fun _ _ => False, fun _ _ h => h.elim, ?_⟩
    refine q_asg (v := .int (-1)) (ev_bmS (a := SX.S t) (ys := [.str (SX.S [34]), .int ((o + 1 : Nat) : Int)]) (ev_var rfl) (ea_cons ev_c (ea_cons (ev_var rfl) ea_nil)) fun H1 Q k => ⟨SX.S t, SX.S [34], ((o + 1 : Nat) : Int), rfl, rfl, by rw [hf]; exact k H1 (Ex.refl H1)⟩) fun H5 e5 => ?_
    refine q_when (b := true) (et_is (et_test (ev_op (ev_var rfl) ev_c rv_I0)) (by decide)) (fun _ H6 e6 => ?_) (fun hb => nomatch hb)
    have x6 := e.trans ((e4.trans e5).trans e6)
    exact s_raiseIv (o := o) (r := rzOpen) (ea_cons (ev_var rfl) (ea_cons ev_c ea_nil)) (by omega) (by decide +kernel) fun d H7 hd e7 h7 => q d H7 (fresh_back x6 hd) (x6.trans e7) h7
  | aft s c rest hd hc1 hc2 hc3 =>
    rw [wr_cons] at hd q hlo
    have hd0 : t.drop o = 34 :: (dblL s ++ 34 :: (c :: rest)) := by rw [hd]; simp
    obtain ⟨_, hlt, hd1⟩ := at_drop hd0
    generalize hrs : c :: rest = rst at hd0 hd1
    have hone : rst.take 1 ≠ [34] := fun z => by rw [← hrs] at z; exact hc1 (List.cons.inj z).1
    have hstop : stopB sp rst = true := by
      rw [← hrs]
      show (!decide (c = sp) && !decide (c = 10)) = true
      rw [decide_eq_false hc2, decide_eq_false hc3]
      rfl
    refine q_asgL (el_lst ea_nil (by decide)) fun pp H1 hpp e1 h1 => ?_
    refine q_asg (v := .int ((o + 1 : Nat) : Int)) (ev_op (ev_var rfl) ev_c rv_I0) fun H2 e2 => ?_
    refine q_asg (v := .bl false) ev_c fun H3 e3 => ?_
    refine q_while (fun m σ' H' => ∃ (at' : Nat) (cl : Bool) (pcs : List V) (ev : Option V), σ' = [some (.str (SX.S t)), some (.int (o : Int)), some (.str (SX.S [sp])), some (.ref pp), some (.int (at' : Int)), some (.bl cl), ev] ∧ Ex H H' ∧ H' pp = some (.lst pcs) ∧ pcs.length ≤ at' ∧ at' ≤ t.length ∧
      ((cl = false ∧ ∃ s', t.drop at' = dblL s' ++ 34 :: rst ∧ m = s'.length + 1) ∨ (cl = true ∧ t.drop at' = rst ∧ m = 0))) (s.length + 1) ⟨o + 1, false, [], none, rfl, (e1.trans e2).trans e3, e3 _ _ (e2 _ _ h1), Nat.zero_le _, hlt, .inl ⟨rfl, s, hd1, rfl⟩⟩ fun m σ' H' pv => ?_
    obtain ⟨at', cl, pcs, ev, rfl, e, hl, hpl, hat, hc⟩ := pv
    refine ⟨!cl, et_not (et_B (ev_var rfl)), fun hb H4 e4 => ?_, fun hb H4 e4 => ?_⟩
    · rcases hc with ⟨rfl, s', hd, rfl⟩ | ⟨rfl, _⟩
      rotate_left
      · exact nomatch hb
      obtain ⟨a, tl, rfl, ha, htl⟩ := cut34 s'
      have hmore : ∃ more, t.drop at' = a ++ 34 :: more ∧ ((tl = [] ∧ more = rst) ∨ ∃ t', tl = 34 :: t' ∧ more = 34 :: (dblL t' ++ 34 :: rst)) := by
        rw [dbl_app, dbl_plain ha] at hd
        rcases htl with rfl | ⟨t', rfl⟩
        · exact ⟨rst, by rw [hd]; simp [dblL], .inl ⟨rfl, rfl⟩⟩
        · refine ⟨_, ?_, .inr ⟨t', rfl, rfl⟩⟩
          rw [hd]
          show a ++ (if (34 : Nat) = 34 then 34 :: 34 :: dblL t' else 34 :: dblL t') ++ 34 :: rst = _
          rw [if_pos rfl]
          simp
      obtain ⟨more, hdm, hcase⟩ := hmore
      have hf := find3_at hdm ha
      have hdr := drop_app hdm
      obtain ⟨_, hlt2, hdr2⟩ := at_drop hdr
      refine ⟨fun σ2 H2 => ∃ m', m' < (a ++ tl).length + 1 ∧ ∃ (at' : Nat) (cl : Bool) (pcs : List V) (ev : Option V), σ2 = [some (.str (SX.S t)), some (.int (o : Int)), some (.str (SX.S [sp])), some (.ref pp), some (.int (at' : Int)), some (.bl cl), ev] ∧ Ex H H2 ∧ H2 pp = some (.lst pcs) ∧ pcs.length ≤ at' ∧ at' ≤ t.length ∧
        ((cl = false ∧ ∃ s', t.drop at' = dblL s' ++ 34 :: rst ∧ m' = s'.length + 1) ∨ (cl = true ∧ t.drop at' = rst ∧ m' = 0)), fun σ2 H2 h => h, ?_⟩
      refine q_asg (v := .int ((at' + a.length : Nat) : Int)) (ev_bmS (a := SX.S t) (ys := [.str (SX.S [34]), .int (at' : Int)]) (ev_var rfl) (ea_cons ev_c (ea_cons (ev_var rfl) ea_nil)) fun H1 Q k => ⟨SX.S t, SX.S [34], (at' : Int), rfl, rfl, by rw [hf]; exact k H1 (Ex.refl H1)⟩) fun H5 e5 => ?_
      refine q_when (b := decide (((at' + a.length : Nat) : Int) < 0)) (et_test (ev_op (ev_var rfl) ev_c rv_I0)) (fun hb => absurd (of_decide_eq_true hb) (by omega)) fun _ H6 e6 => ?_
      have x6 := (e4.trans e5).trans e6
      refine q_app (v := .str (SX.S a)) (x6 _ _ hl) (ev_var rfl) (ev_is (ev_slM (i := at') (j := at' + a.length) (ev_var rfl) (ev_var rfl) (ev_var rfl) (by omega) (by omega) hz2) ?_) (by omega) fun H7 e7 => ?_
      · rw [hdm, show at' + a.length - at' = a.length by omega, List.take_left]
      refine q_asg (v := .bl (!decide (V.str (SX.S (more.take 1)) = V.str (SX.S [34])))) (ev_op (ev_is (ev_slA (i := at' + a.length + 1) (j := at' + a.length + 2) (ev_var rfl) (ev_op (ev_var rfl) ev_c rv_I0) (ev_op (ev_var rfl) ev_c rv_I0) hz2) ?_) ev_c (rv_ne rfl)) fun H8 e8 => ?_
      · rw [take1, hdr2]
      have hpp7 : (upd H7 pp (.lst (pcs ++ [.str (SX.S a)]))) pp = some (.lst (pcs ++ [.str (SX.S a)])) := upd_same
      have x8 : Ex H H8 := (Ex.mut ((e.trans x6).trans e7) hpp).trans e8
      rw [dec_S]
      rcases hcase with ⟨rfl, rfl⟩ | ⟨t', rfl, rfl⟩
      · rw [decide_eq_false hone]
        refine s_asg (v := .int ((at' + a.length + 1 : Nat) : Int)) (ev_if (b := true) (et_B (ev_var rfl)) (fun _ => ev_op (ev_var rfl) ev_c rv_I0) fun h => nomatch h) fun H9 e9 => ⟨0, by omega, at' + a.length + 1, true, pcs ++ [.str (SX.S a)], _, rfl, x8.trans e9, e9 _ _ (e8 _ _ hpp7), ?_, hlt2, .inr ⟨rfl, hdr2, rfl⟩⟩
        rw [List.length_append]
        show pcs.length + 1 ≤ _
        omega
      · have e2' : (34 :: (dblL t' ++ 34 :: rst)).take 1 = [34] := rfl
        rw [decide_eq_true e2']
        have hdr3 := at_drop hdr2
        refine s_asg (v := .int ((at' + a.length + 2 : Nat) : Int)) (ev_if (b := false) (et_B (ev_var rfl)) (fun h => nomatch h) fun _ => ev_op (ev_var rfl) ev_c rv_I0) fun H9 e9 => ⟨t'.length + 1, ?_, at' + a.length + 2, false, pcs ++ [.str (SX.S a)], _, rfl, x8.trans e9, e9 _ _ (e8 _ _ hpp7), ?_, hdr3.2.1, .inl ⟨rfl, t', hdr3.2.2, rfl⟩⟩
        · rw [List.length_append, List.length_cons]
          omega
        · rw [List.length_append]
          show pcs.length + 1 ≤ _
          omega
    · rcases hc with ⟨rfl, _⟩ | ⟨rfl, hd', rfl⟩
      · exact nomatch hb
      have hal : at' = o + (34 :: (dblL s ++ [34])).length := by
        have h1 := congrArg List.length hd'
        have h2 := congrArg List.length hd0
        rw [List.length_drop] at h1 h2
        rw [List.length_cons, List.length_append] at h2 ⊢
        rw [List.length_cons] at h2
        simp only [List.length_cons, List.length_nil] at h2 ⊢
        omega
      refine q_when (et_stop (b := true) (i := 4) (j := 2) (sp := sp) rfl rfl rfl hz (by rw [hd', hstop])) (fun _ H5 e5 => ?_) (fun h => nomatch h)
      have x5 := e.trans (e4.trans e5)
      subst hal
      exact s_raiseIv (o := o + (34 :: (dblL s ++ [34])).length) (r := rzSep) (ea_cons (ev_var rfl) (ea_cons ev_c ea_nil)) (by omega) (by decide +kernel) fun d H7 hd e7 h7 => q d H7 (fresh_back x5 hd) (x5.trans e7) h7
def spX__plain_field (K : PySem.W.Frag) : Sp := fun vs H Q E => sp__plain_field K vs H Q E ∨ spB__plain_field K vs H Q E
theorem okX__plain_field (D : Dn K mg "_plain_field" s__plain_field ["text", "start", "separator"]) (C_Field : ClsD K mg "Field" ["text", "offset", "marked"]) (c_Field____init__ : C8.Mak P w K mg base 1 "Field" (clsAt K "Field") (sp_Field____init__ K) []) (iv : IvM P w K mg base 1) (z_len : mg "len" = none) (g__LINE_END : ∃ u, mg "_LINE_END" = some u ∧ RelV (.str (SX.S [10])) u) (g__MARK : ∃ u, mg "_MARK" = some u ∧ RelV (.str (SX.S [34])) u) :
    CalX P w K mg base 3 "_plain_field" (spB__plain_field K) := by
  refine calX_of D sc__plain_field (fun vs H Q E h => ?_) (fun f cdv A outer s H vs Q E hr h => ?_)
  · obtain ⟨_, _, _, _, _, rfl, _⟩ := h
    rfl
  refine ⟨_, (pss_cons (ps_set (i := 3) sc__plain_field.nd rfl (.inl rfl) (pv 1))
    (pss_cons (ps_while (passes_of rfl) (PW.pt (pw_and (pt_cmpR op_lt (pv 3) (pe_callB call_len_str (by rfl) z_len PySem.boot_len (pa_cons (pv 0) pa_nil)) (nomark _)) (pw_and (pt_cmpR op_ne (pe_ix ix_str (pv 0) (pv 3) (fun _ _ => rfl)) (pv 2) (nomark _)) (pw_and1 (pt_cmpR op_ne (pe_ix ix_str (pv 0) (pv 3) (fun _ _ => rfl)) (C8.pe_gc rfl g__LINE_END) (nomark _))))))
      (pss_cons (ps_if (pt_cmpR op_eq (pe_ix ix_str (pv 0) (pv 3) (fun _ _ => rfl)) (C8.pe_gc rfl g__MARK) (nomark _))
      (pss_one (ps_raiseIv iv rfl (takes_of rfl rfl rfl rfl) hr (by decide) (by rfl) (pa_cons (pv 3) (pa_cons pe_str pa_nil))))
      pss_nil)
    (pss_one (ps_aug (i := 3) sc__plain_field.nd rfl (.inl rfl) pe_int ip_add))))
    (pss_one (ps_ret (pe_tup (pa_cons (C8.pe_mk c_Field____init__ hr (by decide) (by rfl) (pa_cons (pe_slice C8.sl_txt (pv 0) (po_some (pv 1)) (po_some (pv 3))) (pa_cons (pv 1) (pa_cons pe_bl pa_nil)))) (pa_cons (pv 3) pa_nil))))))), ?_⟩
  obtain ⟨sp, t, o, off, r, rfl, hB, hM, hs, hz, q⟩ := h
  have hz2 : t.length ≤ 100000 := by omega
  have hlo := hB.lt
  have hs34 : (34 : Nat) ≠ sp := by rcases hs with h | h | h | h <;> omega
  cases hB with
  | opn rest hd h34 =>
    unfold isMk at hM
    rw [hd] at hM
    exact absurd rfl (of_decide_eq_false hM)
  | aft s c rest hd h1 h2 h3 =>
    unfold isMk at hM
    rw [hd] at hM
    exact absurd rfl (of_decide_eq_false hM)
  | inn pl rest hd hne hpl =>
    have hdi : ∀ i, i ≤ pl.length → t.drop (o + i) = pl.drop i ++ 34 :: rest := fun i hi => by
      rw [← List.drop_drop, hd, List.drop_append_of_le_length hi]
    refine q_asg (v := .int ((o + 0 : Nat) : Int)) (ev_var rfl) fun H1 e1 => ?_
    refine q_while (fun m σ' H' => ∃ i, i ≤ pl.length ∧ σ' = [some (.str (SX.S t)), some (.int (o : Int)), some (.str (SX.S [sp])), some (.int ((o + i : Nat) : Int))] ∧ Ex H H' ∧ m = pl.length - i) pl.length ⟨0, Nat.zero_le _, rfl, e1, rfl⟩ fun m σ' H' pv => ?_
    obtain ⟨i, hi, rfl, e, rfl⟩ := pv
    have hst : true = stopB sp (t.drop (o + i)) := by
      rw [hdi i hi]
      by_cases h : i < pl.length
      · rw [List.drop_eq_getElem_cons h, List.cons_append]
        have hc := hpl pl[i] (List.getElem_mem h)
        show true = (!decide (pl[i] = sp) && !decide (pl[i] = 10))
        rw [decide_eq_false hc.1, decide_eq_false hc.2.2]
        rfl
      · rw [List.drop_eq_nil_of_le (by omega), List.nil_append]
        show true = (!decide (34 = sp) && !decide (34 = 10))
        rw [decide_eq_false hs34]
        rfl
    refine ⟨true, et_stop (i := 3) (j := 2) (sp := sp) rfl rfl rfl hz hst, fun _ H2 e2 => ?_, fun hb => nomatch hb⟩
    refine ⟨fun σ2 H3 => ∃ i', i' ≤ pl.length ∧ i < i' ∧ σ2 = [some (.str (SX.S t)), some (.int (o : Int)), some (.str (SX.S [sp])), some (.int ((o + i' : Nat) : Int))] ∧ Ex H H3, fun σ2 H3 h => ?_, ?_⟩
    · obtain ⟨i', h1, h2, h3, h4⟩ := h
      exact ⟨pl.length - i', by omega, i', h1, h3, h4, rfl⟩
    have hd2 := hdi i hi
    by_cases hi2 : i < pl.length
    · rw [List.drop_eq_getElem_cons hi2, List.cons_append] at hd2
      obtain ⟨hc, _, _⟩ := at_drop hd2
      have h34 := (hpl pl[i] (List.getElem_mem hi2)).2.1
      refine q_when (b := false) (et_test (ev_is (ev_op (ix_at rfl rfl hc hz) ev_c (rv_eq rfl)) ?_)) (fun h => nomatch h) fun _ H3 e3 => ?_
      · rw [dec_S, decide_eq_false fun z => h34 (List.cons.inj z).1]
      exact Evl.s_aug rfl ev_c fun H4 e4 => ⟨i + 1, hi2, Nat.lt_succ_self i, by
        have : ((o + i : Nat) : Int) + 1 = ((o + (i + 1) : Nat) : Int) := by omega
        rw [← this]
        rfl, ((e.trans e2).trans e3).trans e4⟩
    · have hi3 : i = pl.length := by omega
      subst hi3
      rw [List.drop_length, List.nil_append] at hd2
      obtain ⟨hc, _, _⟩ := at_drop hd2
      refine q_when (b := true) (et_test (ev_is (ev_op (ix_at rfl rfl hc hz) ev_c (rv_eq rfl)) (by rw [dec_S, decide_eq_true rfl]))) (fun _ H3 e3 => ?_) (fun h => nomatch h)
      have x3 := e.trans (e2.trans e3)
      exact s_raiseIv (o := o + pl.length) (r := rzIn) (ea_cons (ev_var rfl) (ea_cons ev_c ea_nil)) (by omega) (by decide +kernel) fun d H7 hd e7 h7 => q d H7 (fresh_back x3 hd) (x3.trans e7) h7
def spX__next_record (K : PySem.W.Frag) : Sp := fun vs H Q E => sp__next_record K vs H Q E ∨ spB__next_record K vs H Q E
theorem okX__next_record (D : Dn K mg "_next_record" s__next_record ["text", "start", "separator"]) (b__marked_field : CalX P w K mg base 3 "_marked_field" (spX__marked_field K)) (b__plain_field : CalX P w K mg base 3 "_plain_field" (spX__plain_field K)) (z_len : mg "len" = none) (g__LINE_END : ∃ u, mg "_LINE_END" = some u ∧ RelV (.str (SX.S [10])) u) (g__MARK : ∃ u, mg "_MARK" = some u ∧ RelV (.str (SX.S [34])) u) :
    CalX P w K mg base 4 "_next_record" (spB__next_record K) := by
  refine calX_of D sc__next_record (fun vs H Q E h => ?_) (fun f cdv A outer s H vs Q E hr h => ?_)
  · obtain ⟨_, _, _, _, _, _, rfl, _⟩ := h
    rfl
  refine ⟨_, (pss_cons (ps_set (i := 3) sc__next_record.nd rfl (.inl rfl) (pe_lst pa_nil))
    (pss_cons (ps_set (i := 4) sc__next_record.nd rfl (.inl rfl) (pv 1))
    (pss_cons (ps_set (i := 5) sc__next_record.nd rfl (.inl rfl) pe_bl)
    (pss_cons (ps_while (passes_of rfl) (pt_not (pt_val (pv 5)))
      (Evl.pss_cut (ps_if (pt_cmpR op_eq (pe_slice C8.sl_txt (pv 0) (po_some (pv 4)) (po_some (pe_op op_add (pv 4) pe_int))) (C8.pe_gc rfl g__MARK) (nomark _))
      (pss_one (ps_asg (pe_cX b__marked_field (takes_of rfl rfl rfl rfl) hr (by decide) (by rfl) (pa_cons (pv 0) (pa_cons (pv 4) (pa_cons (pv 2) pa_nil)))) (pg_tup rfl (pgs_cons (pg_name (i := 6) sc__next_record.nd rfl (.inl rfl)) (pgs_cons (pg_name (i := 4) sc__next_record.nd rfl (.inl rfl)) pgs_nil)))))
      (pss_one (ps_asg (pe_cX b__plain_field (takes_of rfl rfl rfl rfl) hr (by decide) (by rfl) (pa_cons (pv 0) (pa_cons (pv 4) (pa_cons (pv 2) pa_nil)))) (pg_tup rfl (pgs_cons (pg_name (i := 6) sc__next_record.nd rfl (.inl rfl)) (pgs_cons (pg_name (i := 4) sc__next_record.nd rfl (.inl rfl)) pgs_nil))))))
    (pss_cons (ps_expr (pe_bm PySem.F.plainAttrs_list PySem.F.slot_list_append PySem.F.type_list_append mt_append (pv 3) (pa_cons (pv 6) pa_nil)))
    (pss_cons (ps_set (i := 5) sc__next_record.nd rfl (.inl rfl) (pe_or (pe_cmpR op_eq (pv 4) (pe_callB call_len_str (by rfl) z_len PySem.boot_len (pa_cons (pv 0) pa_nil)) (nomark _)) (pe_one (pe_cmpR op_eq (pe_ix ix_str (pv 0) (pv 4) (fun _ _ => rfl)) (C8.pe_gc rfl g__LINE_END) (nomark _)))))
    (pss_one (ps_aug (i := 4) sc__next_record.nd rfl (.inl rfl) pe_int ip_add))))))
    (pss_one (ps_ret (pe_tup (pa_cons (pv 3) (pa_cons (pv 4) pa_nil))))))))), ?_⟩
  obtain ⟨sp, t, o, n, off, r, rfl, hab, hle, hB, hs, h49, hz, q⟩ := h
  have hz2 : t.length ≤ 100000 := by omega
  have hsp : sp ≠ 97 ∧ sp ≠ 98 ∧ sp ≠ 34 ∧ sp ≠ 10 := by rcases hs with h | h | h | h <;> omega
  refine q_asgL (el_lst ea_nil (by decide)) fun pf H1 hpf e1 h1 => ?_
  refine q_asg (v := .int (o : Int)) (ev_var rfl) fun H2 e2 => ?_
  refine q_asg (v := .bl false) ev_c fun H3 e3 => ?_
  refine q_while (fun m σ' H' => ∃ (i : Nat) (ws : List V) (fv : Option V), i ≤ n ∧ σ' = [some (.str (SX.S t)), some (.int (o : Int)), some (.str (SX.S [sp])), some (.ref pf), some (.int ((o + 3 * i : Nat) : Int)), some (.bl false), fv] ∧ Ex H H' ∧ H' pf = some (.lst ws) ∧ ws.length = i ∧ m = n - i) n ⟨0, [], none, Nat.zero_le _, rfl, (e1.trans e2).trans e3, e3 _ _ (e2 _ _ h1), rfl, rfl⟩ fun m σ' H' pv => ?_
  obtain ⟨i, ws, fv, hi, rfl, e, hl, hwl, rfl⟩ := pv
  refine ⟨!false, et_not (et_B (ev_var rfl)), fun _ H4 e4 => ?_, fun hb => nomatch hb⟩
  refine ⟨fun σ2 H2 => ∃ (i' : Nat) (ws : List V) (fv : Option V), i < i' ∧ i' ≤ n ∧ σ2 = [some (.str (SX.S t)), some (.int (o : Int)), some (.str (SX.S [sp])), some (.ref pf), some (.int ((o + 3 * i' : Nat) : Int)), some (.bl false), fv] ∧ Ex H H2 ∧ H2 pf = some (.lst ws) ∧ ws.length = i', fun σ2 H2 h => ?_, ?_⟩
  · obtain ⟨i', ws', fv', h1, h2, h3, h4, h5, h6⟩ := h
    exact ⟨n - i', by omega, i', ws', fv', h2, h3, h4, h5, h6, rfl⟩
  have hat : o + 3 * i ≤ t.length := by omega
  refine q_cut (M := fun σ2 H2 => i < n ∧ ∃ p, σ2 = [some (.str (SX.S t)), some (.int (o : Int)), some (.str (SX.S [sp])), some (.ref pf), some (.int ((o + 3 * i + 2 : Nat) : Int)), some (.bl false), some (.ref p)] ∧ Ex H' H2) ?_ fun σ2 H5 pw => ?_
  · refine s_if (b := isMk t (o + 3 * i)) (et_test (ev_is (ev_op (ev_slA (i := o + 3 * i) (j := o + 3 * i + 1) (ev_var rfl) (ev_var rfl) (ev_op (ev_var rfl) ev_c rv_I0) hz2) ev_c (rv_eq rfl)) (by rw [take1, dec_S]; rfl))) (fun hb H5 e5 => ?_) fun hb H5 e5 => ?_
    · by_cases hin : i < n
      · obtain ⟨R, hR⟩ := abs_next hab hin
        unfold isMk at hb
        rw [hR] at hb
        exact absurd (List.cons.inj (of_decide_eq_true hb)).1 (by decide)
      · obtain rfl : i = n := by omega
        refine (show tAsg _ _ _ _ _ from ?_)
        refine q_callS (ea_cons (ev_var rfl) (ea_cons (ev_var rfl) (ea_cons (ev_var rfl) ea_nil))) fun H6 e6 => .inr ⟨sp, t, o + 3 * i, off, r, rfl, hB, hb, hs, hz, q.ex (((e.trans e4).trans e5).trans e6)⟩
    · by_cases hin : i < n
      · obtain ⟨R, hR⟩ := abs_next hab hin
        have htk : (t.take (o + 3 * i)).length = o + 3 * i := by rw [List.length_take]; omega
        refine (show tAsg _ _ _ _ _ from ?_)
        refine q_callS (ea_cons (ev_var rfl) (ea_cons (ev_var rfl) (ea_cons (ev_var rfl) ea_nil))) fun H6 e6 => .inl ⟨sp, t, t.take (o + 3 * i), [97, 98], sp :: R, by rw [htk], ?_, fun _ c hc => ?_, fun c hc => .inl ?_, hs, hz, fun qa p H7 hqa e7 h7 hfa => ?_⟩
        · have : wrL [97, 98] false ++ sp :: R = t.drop (o + 3 * i) := by rw [hR]; rfl
          rw [this, List.take_append_drop]
        · simp only [List.mem_cons, List.not_mem_nil, or_false] at hc
          rcases hc with rfl | rfl
          · exact ⟨Ne.symm hsp.1, by decide, by decide⟩
          · exact ⟨Ne.symm hsp.2.1, by decide, by decide⟩
        · cases hc
          rfl
        · rw [htk] at h7
          exact gt2 (st_of h7) ⟨hin, p, rfl, ((e4.trans e5).trans e6).trans e7⟩
      · obtain rfl : i = n := by omega
        refine (show tAsg _ _ _ _ _ from ?_)
        refine q_callS (ea_cons (ev_var rfl) (ea_cons (ev_var rfl) (ea_cons (ev_var rfl) ea_nil))) fun H6 e6 => .inr ⟨sp, t, o + 3 * i, off, r, rfl, hB, hb, hs, hz, q.ex (((e.trans e4).trans e5).trans e6)⟩
  · obtain ⟨hin, p, rfl, e5⟩ := pw
    obtain ⟨R, hR⟩ := abs_next hab hin
    have hd2 : t.drop (o + 3 * i + 2) = sp :: R := by rw [← List.drop_drop, hR]; rfl
    obtain ⟨hat2, hlt2, _⟩ := at_drop hd2
    refine q_app (v := .ref p) (e5 _ _ hl) (ev_var rfl) (ev_var rfl) (by omega) fun H6 e6 => ?_
    have hpf6 := e6 _ _ (e5 _ _ hl)
    have x6 : Ex H (upd H6 pf (.lst (ws ++ [.ref p]))) := Ex.mut ((e.trans e5).trans e6) hpf
    generalize hG : upd H6 pf (.lst (ws ++ [.ref p])) = G at x6
    have hpfG : G pf = some (.lst (ws ++ [.ref p])) := by rw [← hG, upd_same]
    refine q_asg (v := .bl false) (ev_is (v := .bl (decide (V.int ((o + 3 * i + 2 : Nat) : Int) = V.int (t.length : Nat)) || decide (V.str (SX.S [sp]) = V.str (SX.S [10])))) (ev_orV (ev_op (ev_var rfl) (ev_lenX (ev_var rfl) hz2) (rv_eq rfl)) fun hne => ev_op (ix_at rfl rfl hat2 hz) ev_c (rv_eq rfl)) ?_) fun H7 e7 => ?_
    · rw [dec_S, decide_eq_false fun z => hsp.2.2.2 (List.cons.inj z).1, decide_eq_false fun z => by have := V.int.inj z; omega]
      rfl
    exact Evl.s_aug rfl ev_c fun H8 e8 => ⟨i + 1, ws ++ [.ref p], some (.ref p), Nat.lt_succ_self i, hin, by
      have : ((o + 3 * i + 2 : Nat) : Int) + 1 = ((o + 3 * (i + 1) : Nat) : Int) := by omega
      rw [← this]
      rfl, (x6.trans e7).trans e8, e8 _ _ (e7 _ _ hpfG), by rw [List.length_append, hwl]; rfl⟩
def spX_split_records (K : PySem.W.Frag) : Sp := fun vs H Q E => sp_split_records K vs H Q E ∨ spB_split_records K vs H Q E
theorem okX_split_records (D : Dn K mg "split_records" s_split_records ["text", "separator"]) (b__next_record : CalX P w K mg base 4 "_next_record" (spX__next_record K)) (z_len : mg "len" = none) :
    CalX P w K mg base 5 "split_records" (spB_split_records K) := by
  refine calX_of D sc_split_records (fun vs H Q E h => ?_) (fun f cdv A outer s H vs Q E hr h => ?_)
  · obtain ⟨_, _, _, _, _, _, rfl, _⟩ := h
    rfl
  refine ⟨_, (pss_cons (ps_set (i := 2) sc_split_records.nd rfl (.inl rfl) (pe_lst pa_nil))
    (pss_cons (ps_set (i := 3) sc_split_records.nd rfl (.inl rfl) pe_int)
    (pss_cons (ps_while (passes_of rfl) (pt_cmpR op_lt (pv 3) (pe_callB call_len_str (by rfl) z_len PySem.boot_len (pa_cons (pv 0) pa_nil)) (nomark _))
      (pss_cons (ps_asg (pe_cX b__next_record (takes_of rfl rfl rfl rfl) hr (by decide) (by rfl) (pa_cons (pv 0) (pa_cons (pv 3) (pa_cons (pv 1) pa_nil)))) (pg_tup rfl (pgs_cons (pg_name (i := 4) sc_split_records.nd rfl (.inl rfl)) (pgs_cons (pg_name (i := 3) sc_split_records.nd rfl (.inl rfl)) pgs_nil))))
    (pss_one (ps_expr (pe_bm PySem.F.plainAttrs_list PySem.F.slot_list_append PySem.F.type_list_append mt_append (pv 2) (pa_cons (pv 4) pa_nil))))))
    (pss_one (ps_ret (pv 2)))))), ?_⟩
  obtain ⟨sp, t, rs, n, off, r, rfl, hrs, ht, hle, hB, hs, h49, hz, q⟩ := h
  have hz2 : t.length ≤ 100000 := by omega
  have hlo := hB.lt
  generalize hBd : abs_ sp n ++ t.drop ((bodyT sp rs none).length + 3 * n) = B at ht
  have hdB : t.drop (bodyT sp rs none).length = B := by
    have := congrArg (List.drop (bodyT sp rs none).length) ht
    rw [List.drop_left] at this
    exact this
  refine q_asgL (el_lst ea_nil (by decide)) fun pr H1 hpr e1 h1 => ?_
  refine q_asg (v := .int ((0 : Nat) : Int)) ev_c fun H2 e2 => ?_
  refine q_while (fun m σ' H' => ∃ (at' : Nat) (ws : List V) (rs' : List (List Fl)) (fv : Option V), σ' = [some (.str (SX.S t)), some (.str (SX.S [sp])), some (.ref pr), some (.int (at' : Int)), fv] ∧ Ex H H' ∧ H' pr = some (.lst ws) ∧ ws.length ≤ at' ∧ (∀ x ∈ rs', okRec sp x) ∧ t.drop at' = bodyT sp rs' none ++ B ∧ at' + (bodyT sp rs' none).length = (bodyT sp rs none).length ∧ m = rs'.length) rs.length ⟨0, [], rs, none, rfl, e1.trans e2, e2 _ _ h1, Nat.le_refl _, hrs, ht, by omega, rfl⟩ fun m σ' H' pv => ?_
  obtain ⟨at', ws, rs', fv, rfl, e, hl, hwl, hrs', hd, htot, rfl⟩ := pv
  have hlt : at' < t.length := by omega
  refine ⟨true, et_is (et_test (ev_op (ev_var rfl) (ev_lenX (ev_var rfl) hz2) rv_I0)) (decide_eq_true (by omega)), fun _ H4 e4 => ?_, fun hb => nomatch hb⟩
  refine ⟨fun σ2 H2 => ∃ m', m' < rs'.length ∧ ∃ (at' : Nat) (ws : List V) (rs' : List (List Fl)) (fv : Option V), σ2 = [some (.str (SX.S t)), some (.str (SX.S [sp])), some (.ref pr), some (.int (at' : Int)), fv] ∧ Ex H H2 ∧ H2 pr = some (.lst ws) ∧ ws.length ≤ at' ∧ (∀ x ∈ rs', okRec sp x) ∧ t.drop at' = bodyT sp rs' none ++ B ∧ at' + (bodyT sp rs' none).length = (bodyT sp rs none).length ∧ m' = rs'.length, fun σ2 H2 h => h, ?_⟩
  cases rs' with
  | nil =>
    have hat : at' = (bodyT sp rs none).length := htot
    subst hat
    refine q_callSq (ea_cons (ev_var rfl) (ea_cons (ev_var rfl) (ea_cons (ev_var rfl) ea_nil))) fun H5 e5 => .inr ⟨sp, t, (bodyT sp rs none).length, n, off, r, rfl, by rw [hdB, hBd], hle, hB, hs, h49, hz, q.ex ((e.trans e4).trans e5)⟩
  | cons x rs2 =>
    have hdr : t.drop at' = recT sp x ++ (10 :: (bodyT sp rs2 none ++ B)) := by
      rw [hd]
      show (recT sp x ++ 10 :: bodyT sp rs2 none) ++ B = _
      rw [List.append_assoc]
      rfl
    have hbl : (bodyT sp (x :: rs2) none).length = (recT sp x).length + ((bodyT sp rs2 none).length + 1) := by
      show (recT sp x ++ 10 :: bodyT sp rs2 none).length = _
      rw [List.length_append, List.length_cons]
    have htk : (t.take at').length = at' := by rw [List.length_take]; omega
    have htt : t = t.take at' ++ (recT sp x ++ (10 :: (bodyT sp rs2 none ++ B))) := by rw [← hdr, List.take_append_drop]
    have hok := hrs' x List.mem_cons_self
    refine q_callSq (ea_cons (ev_var rfl) (ea_cons (ev_var rfl) (ea_cons (ev_var rfl) ea_nil))) fun H5 e5 => .inl ⟨sp, t, t.take at', 10 :: (bodyT sp rs2 none ++ B), x, by rw [htk], htt, hok.1, hok.2, .inr rfl, hs, hz, fun qa p H6 hqa hp e6 h6 hR => ?_⟩
    rw [htk] at h6
    refine gt2 (st_of h6) ?_
    have x5 := e4.trans e5
    have hpr6 : H6 pr = some (.lst ws) := e6 _ _ (x5 _ _ hl)
    have x6 := x5.trans e6
    refine s_app (v := .ref p) hpr6 (ev_var rfl) (ev_var rfl) (by omega) fun H7 e7 => ⟨rs2.length, by rw [List.length_cons]; exact Nat.lt_succ_self _, at' + (recT sp x).length + 1, ws ++ [.ref p], rs2, _, rfl, Ex.mut ((e.trans x6).trans e7) hpr, upd_same, ?_, fun y hy => hrs' y (List.mem_cons_of_mem _ hy), ?_, ?_, rfl⟩
    · rw [List.length_append]
      show ws.length + 1 ≤ _
      omega
    · rw [← List.drop_drop, drop_app hdr]
      rfl
    · omega
end
open Dg
def spB_read_separated (K : PySem.W.Frag) : Sp := fun vs H Q E => ∃ (t : List Nat) (sp : Nat) (cv hv : V), vs = [.str (SX.S t), cv, .str (SX.S [sp]), hv] ∧ spB_split_records K [.str (SX.S t), .str (SX.S [sp])] H Q E
section
variable {P : Program} {w : World} {K : PySem.W.Frag} {mg : Str → Option Value} {base : Heap}
abbrev spX_read_separated (K : PySem.W.Frag) : Sp := spB_read_separated K
theorem okX_read_separated (D : DnXK K mg "read_separated" s_read_separated ["text", "columns", "separator", "head"] 2 ["separator"] [.bl (true)]) (b_split_records : CalX P w K mg base 5 "split_records" (spX_split_records K)) :
    CalXK P w K mg base 6 "read_separated" 2 ["separator"] (spB_read_separated K) [.bl (true)] := by
  refine calXK_of D sc_read_separated (fun vs H Q E h => ?_) (fun f cdv A outer s H vs Q E hr h => ?_)
  · obtain ⟨_, _, _, _, rfl, _⟩ := h
    rfl
  refine ⟨_, (pss_cons (ps_set (i := 4) sc_read_separated.nd rfl (.inl rfl) (pe_cX b_split_records (takes_of rfl rfl rfl rfl) hr (by decide) (by rfl) (pa_cons (pv 0) (pa_cons (pv 2) pa_nil))))
    (pss_cons ps_never
    (pss_cons ps_never
    (pss_one ps_never)))), ?_⟩
  obtain ⟨t, sp, cv, hv, rfl, sp', t', rs, n, off, r, e0, hrs, ht, hle, hB, hs, h49, hz, q⟩ := h
  cases e0
  exact q_callSq (ea_cons (ev_var rfl) (ea_cons (ev_var rfl) ea_nil)) fun H1 e1 => .inr ⟨sp, t, rs, n, off, r, rfl, hrs, ht, hle, hB, hs, h49, hz, q.ex e1⟩
end
structure ExcD (K : PySem.W.Frag) (D : Addr) : Prop where
  hc : (PySem.W.clsIn K D).isSome = true
  hg : PySem.W.findIn K (.ref D) "__getattribute__" = some (some (.builtin "BaseException.__getattribute__"))
  hk : PySem.W.findIn K (.ref D) "__getattr__" = some none
  hs : PySem.W.subIn K (.ref D) (.type "BaseException") = some true
  ha : PySem.W.findIn K (.ref D) "__class__" = some (some (.builtin "object.__class__"))
  hn : PySem.W.specialIn K (.builtin "object.__class__") "__get__" = some (some (.builtin "getset_descriptor.__get__"))
  ht : PySem.W.takesIn K (.builtin "object.__class__") = some true
  hm : PySem.W.mroIn K D (.type "object") = some true
/-- isinstance(e, c), e the error that the suite holds, its dict at d -/
def rIsX (K : PySem.W.Frag) (a : Addr) (cls : Value) (d : Option Addr) : List V → Hp → VK → Prop := fun xs H Q => ∃ (D : Addr) (c : V) (cv : Value) (b : Bool) (dd : Addr) (fs : List (Str × V)), cls = .ref D ∧ ExcD K D ∧ xs = [.ref a, c] ∧ (∀ u, RelV c u → u = cv) ∧ PySem.W.kitOne K (.ref D) cv = some b ∧ d = some dd ∧ H dd = some (.xd fs) ∧ Q (.bl b) H
theorem call_isX {X : L2.Cx} {a : Addr} {cls : Value} {d : Option Addr} {oe : Obj} {pn : List (Addr × Obj)} (hz : Zc cls d oe) (hf : ∃ vs, oe.data = .fields vs) : CallR (X.suite a ((a, oe) :: pn)) (.builtin "isinstance") (rIsX X.K a cls d) := by
  intro pins s σ H xs us Q I r h
  obtain ⟨D, c, cv, b, dd, fs, rfl, C, rfl, hcv, e, ed, ea, q⟩ := h
  cases r with
  | cons rx rr =>
    cases rr with
    | cons rt rr =>
      cases rr
      cases rx
      have ec := hcv _ rt
      subst ec
      obtain ⟨hget, _⟩ := I.pin (a, oe) (List.mem_append.mpr (.inl List.mem_cons_self))
      obtain ⟨vs, hv⟩ := hf
      have hx : ObjOk X.prog X.w H s.heap dd (.xd fs) := I.hok dd _ ea
      obtain ⟨mA, hns, hr⟩ := hx
      obtain ⟨od, ho, hl⟩ := lookIn_ns hns
      have J : PySem.W.InstAt s.heap a oe D (some od) := ⟨hget, hz.1, by unfold PySem.W.notCls; rw [hv] <;> rfl, by rw [hz.2, ed]; exact ho⟩
      exact PySem.W.kia_one (PySem.W.kitx_exc C.hc C.hg C.hk C.hs C.ha C.hn C.ht C.hm) I.kIn J e (fun z => nomatch z) fun tk => ⟨.bl b, H, I.kept (t' := tk) fun _ _ z => z, rfl, q⟩
open Dg
structure TldX (K : PySem.W.Frag) (mg : Str → Option Value) (CS CQ : Addr) : Prop where
  gI : mg "InvalidText" = some (.ref (clsAt K "InvalidText"))
  te : PySem.W.exmOne K (.ref (clsAt K "InvalidText")) (.ref (clsAt K "InvalidText")) = some true
  xf : XfC K (clsAt K "InvalidText")
  n1 : PySem.W.findIn K (.ref (clsAt K "InvalidText")) "offset" = some none
  n2 : PySem.W.findIn K (.ref (clsAt K "InvalidText")) "reason" = some none
  xd : ExcD K (clsAt K "InvalidText")
  gS : mg "StylobateError" = some (.ref CS)
  kS : PySem.W.kitOne K (.ref (clsAt K "InvalidText")) (.ref CS) = some true
  gQ : mg "QueryError" = some (.ref CQ)
  kQ : PySem.W.kitOne K (.ref (clsAt K "InvalidText")) (.ref CQ) = some false
def BadT (t : List Nat) (sp off : Nat) (r : Str) : Prop := ∃ (rs : List (List Fl)) (n : Nat), (∀ x ∈ rs, okRec sp x) ∧ t = bodyT sp rs none ++ (abs_ sp n ++ t.drop ((bodyT sp rs none).length + 3 * n)) ∧ (bodyT sp rs none).length + 3 * n ≤ t.length ∧ BadF sp t ((bodyT sp rs none).length + 3 * n) off r ∧ okSep sp ∧ sp ≠ 49 ∧ t.length ≤ 50000
def GoodT (t : List Nat) (sp : Nat) : Prop := ∃ (rs : List (List Fl)) (tl : Option (List Fl)), t = bodyT sp rs tl ∧ (∀ r ∈ rs, okRec sp r) ∧ (∀ r, tl = some r → okRec sp r ∧ recT sp r ≠ []) ∧ okSep sp ∧ (bodyT sp rs tl).length ≤ 50000
def sp__law_told (K : PySem.W.Frag) : Sp := fun vs H Q _ => ∃ (t : List Nat) (sp : Nat) (cv : V), vs = [.str (SX.S t), .str (SX.S [sp]), cv] ∧
  ((cv = .non ∧ GoodT t sp ∧ ∀ H', Ex H H' → Q .non H') ∨ ∃ (off : Nat) (r : Str), BadT t sp off r ∧ ∀ q H', H q = none → Ex H H' → H' q = some (.tup [.int (off : Int), .str r, .bl true]) → Q (.ref q) H')
section
variable {K : PySem.W.Frag} {σ : L2.St} {H : Hp} {ta tb te : TE} {a D dd : Addr} {fs : List (Str × V)} {c v : V} {cv : Value} {b b2 : Bool} {f : Str}
theorem ev_isX (ha : Ev ta σ H (.ref a)) (hb : Ev tb σ H c) (X : ExcD K D) (hc : ∀ u, RelV c u → u = cv) (hk : PySem.W.kitOne K (.ref D) cv = some b) (h : H dd = some (.xd fs)) : Ev (tCB (rIsX K a (.ref D) (some dd)) (tCons ta (tCons tb tNil))) σ H (.bl b) := fun H1 e Q q =>
  ha H1 e _ fun H2 e2 => hb H2 (e.trans e2) _ fun H3 e3 => ⟨D, c, cv, b, dd, fs, rfl, X, rfl, hc, hk, rfl, ((e.trans e2).trans e3) _ _ h, q H3 (e2.trans e3)⟩
theorem ev_xf (ha : Ev ta σ H (.ref a)) (h : H dd = some (.xd fs)) (l : fs.lookup f = some v) : Ev (tXf a (.ref D) (some dd) D f ta) σ H v := fun H1 e Q q =>
  ha H1 e _ fun H2 e2 => ⟨rfl, rfl, dd, fs, v, rfl, (e.trans e2) _ _ h, l, q H2 e2⟩
theorem ev_andT (ha : Ev ta σ H (.bl true)) (hb : Ev tb σ H (.bl b)) : Ev (tAndV ta tb) σ H (.bl b) := fun H1 e Q q => ha H1 e _ fun H2 e2 => ⟨true, rfl, by
  rw [if_pos rfl]
  exact hb H2 (e.trans e2) Q fun H3 e3 => q H3 (e2.trans e3)⟩
theorem ev_notV (ha : Ev ta σ H (.bl b)) : Ev (tNotV ta) σ H (.bl (!b)) := fun H1 e Q q => ha H1 e _ fun H2 e2 => ⟨b, rfl, q H2 e2⟩
theorem s_drS {D : Ends} {sp : Sp} {vs : List V} {E : L2.St → XK} {tr : TA} (h : EvA tr σ H vs) (k : ∀ H1, Ex H H1 → sp vs H1 (fun _ H2 => D.nx σ H2) (E σ)) : tDrop (tCallS sp E tr) D σ H := h H (Ex.refl H) _ fun H1 e1 => k H1 e1
theorem s_drXK {D : Ends} {sp : Sp} {n m : Nat} {vs zs dvs : List V} {E : L2.St → XK} {tr tk : TA} (h : EvA tr σ H vs) (hk : EvA tk σ H zs) (h1 : vs.length = n) (h2 : zs.length = m) (k : ∀ H1, Ex H H1 → sp (vs ++ zs ++ dvs) H1 (fun _ H2 => D.nx σ H2) (E σ)) : tDrop (tCallXK n m sp dvs E tr tk) D σ H := h H (Ex.refl H) _ fun H1 e1 => hk H1 e1 _ fun H2 e2 => ⟨h1, h2, k H2 (e1.trans e2)⟩
end
theorem exm_own {K : PySem.W.Frag} {S : Addr} (h1 : PySem.W.subIn K (.ref S) (.type "BaseException") = some true) (h2 : (PySem.W.clsIn K S).isSome = true) (h3 : PySem.W.typeIn K (.ref S) = some (.type "type")) (h4 : PySem.W.subIn K (.ref S) (.ref S) = some true) : PySem.W.exmOne K (.ref S) (.ref S) = some true := by
  have e1 : (PySem.W.subIn K (.ref S) (.type "BaseException") == some true) = true := by rw [h1] <;> rfl
  have e2 : ((PySem.W.clsIn K S).isSome && PySem.W.typeIn K (.ref S) == some (.type "type")) = true := by rw [h2, h3] <;> rfl
  show (if (PySem.W.subIn K (.ref S) (.type "BaseException") == some true) = true then (if ((PySem.W.clsIn K S).isSome && PySem.W.typeIn K (.ref S) == some (.type "type")) = true then PySem.W.subIn K (.ref S) (.ref S) else none) else none) = some true
  rw [if_pos e1, if_pos e2]
  exact h4
theorem relV_ref {a : Addr} {u : Value} (h : RelV (.ref a) u) : u = .ref a := h
section
variable {P : Program} {w : World} {K : PySem.W.Frag} {mg : Str → Option Value} {base : Heap}
theorem ok__law_told (D : Dn K mg "_law_told" s__law_told ["text", "separator", "columns"]) (b_read_separated : CalXK P w K mg base 6 "read_separated" 2 ["separator"] (spX_read_separated K) [.bl (true)]) (b_split_records : CalX P w K mg base 5 "split_records" (spX_split_records K)) (z_isinstance : mg "isinstance" = none) {CS CQ : Addr} (T : TldX K mg CS CQ) :
    C8.Cal P w K mg base 7 "_law_told" (sp__law_told K) [] := by
  refine cal_of D sc__law_told (fun vs H Q E h => ?_) (fun f cdv A outer s H vs Q E hr h => ?_)
  · obtain ⟨_, _, _, rfl, _⟩ := h
    rfl
  refine ⟨_, (pss_cons (ps_try_as (x := "InvalidText") (i := 3)
    (tb := fun W => tIfS (tTest (tOp (fun x y H Q => y = .non ∧ Q (.bl (decide (x = .non))) H) (tVar 2) (tC .non))) (tDrop (tCallS (spX_split_records K) (WE W) (tCons (tVar 0) (tCons (tVar 1) tNil)))) (tDrop (tCallXK 2 1 (spX_read_separated K) [.bl true] (WE W) (tCons (tVar 0) (tCons (tVar 2) tNil)) (tCons (tVar 1) tNil))))
    (ts := fun a cls d => tSeq (tAsg (tAndV (tCB (rIsX K a cls d) (tCons (tVar 3) (tCons (tC (.ref CS)) tNil))) (tNotV (tCB (rIsX K a cls d) (tCons (tVar 3) (tCons (tC (.ref CQ)) tNil))))) (gName 4)) (tRet (tTup (tCons (tXf a cls d (clsAt K "InvalidText") "offset" (tVar 3)) (tCons (tXf a cls d (clsAt K "InvalidText") "reason" (tVar 3)) (tCons (tVar 4) tNil))))))
    (Wout := fun _ _ _ _ => False) rfl rfl sc__law_told.nd rfl rfl ⟨rfl, by decide, .inl T.gI⟩ takes0
    (fun W pn xe tk _ => pss_one (ps_if (pt_cmpR op_isN (pv 2) pe_non (nomark _)) (pss_one (ps_expr (pe_cX b_split_records tk hr (by decide) (by rfl) (pa_cons (pv 0) (pa_cons (pv 1) pa_nil))))) (pss_one (ps_expr (pe_cXK b_read_separated tk hr (by decide) (by rfl) (pa_cons (pv 0) (pa_cons (pv 2) pa_nil)) (pk_cons (pv 1) pk_nil))))))
    (fun a oe cls d pn hz hf => pss_cons (ps_set (i := 4) sc__law_told.nd rfl (.inl rfl) (pe_and (pe_callB (call_isX hz hf) (by rfl) z_isinstance (by decide +kernel) (pa_cons (pv 3) (pa_cons (pe_glob (v := .ref CS) (by rfl) T.gS rfl) pa_nil))) (pe_one (pe_not (pe_callB (call_isX hz hf) (by rfl) z_isinstance (by decide +kernel) (pa_cons (pv 3) (pa_cons (pe_glob (v := .ref CQ) (by rfl) T.gQ rfl) pa_nil)))))))
      (pss_one (ps_ret (pe_tup (pa_cons (pe_xf T.xf T.n1 hz hf (pv 3)) (pa_cons (pe_xf T.xf T.n2 hz hf (pv 3)) (pa_cons (pv 4) pa_nil))))))))
    (pss_one (ps_ret pe_non))), ?_⟩
  obtain ⟨t, sp, cv, rfl, h⟩ := h
  have caught : ∀ {off : Nat} {r : Str} {H0 : Hp} {nx : L2.St → Hp → Prop} {bk ct : L2.St → Hp → Prop}, Ex H H0 → (∀ q H', H q = none → Ex H H' → H' q = some (.tup [.int (off : Int), .str r, .bl true]) → Q (.ref q) H') → ∀ σ : L2.St, σ = [some (.str (SX.S t)), some (.str (SX.S [sp])), some cv, none, none] →
      Out K (fun cls d H1 => wAs K (.ref (clsAt K "InvalidText")) 3 (fun a cls d => tSeq (tAsg (tAndV (tCB (rIsX K a cls d) (tCons (tVar 3) (tCons (tC (.ref CS)) tNil))) (tNotV (tCB (rIsX K a cls d) (tCons (tVar 3) (tCons (tC (.ref CQ)) tNil))))) (gName 4)) (tRet (tTup (tCons (tXf a cls d (clsAt K "InvalidText") "offset" (tVar 3)) (tCons (tXf a cls d (clsAt K "InvalidText") "reason" (tVar 3)) (tCons (tVar 4) tNil)))))) (fun _ _ _ _ => False) { nx := nx, rt := Q, bk := bk, ct := ct } cls d σ H1) H0 off r := fun {off r H0 nx bk ct} e0 q σ hσ d H1 hd e1 h1 => by
    subst hσ
    refine ⟨true, T.te, fun _ a ha => ?_, fun h => nomatch h⟩
    have lo : (ivF (off : Int) r).lookup ("offset" : Str) = some (.int (off : Int)) := rfl
    have lr : (ivF (off : Int) r).lookup ("reason" : Str) = some (.str r) := rfl
    refine q_asg (v := .bl (!false)) (ev_andT (ev_isX (ev_var rfl) ev_c T.xd (fun u => relV_ref) T.kS h1) (ev_notV (ev_isX (ev_var rfl) ev_c T.xd (fun u => relV_ref) T.kQ h1))) fun H2 e2 => ?_
    have h2 := e2 _ _ h1
    exact eu_tup (ea_cons (ev_xf (ev_var rfl) h2 lo) (ea_cons (ev_xf (ev_var rfl) h2 lr) (ea_cons (ev_var rfl) ea_nil))) (by show 3 ≤ 100000; decide) H2 (Ex.refl H2) _ fun p H3 hp e3 h3 => q p H3 (fresh_back (e0.trans (e1.trans e2)) hp) ((e0.trans (e1.trans e2)).trans e3) h3
  show tIfS _ _ _ _ _ _
  rcases h with ⟨rfl, hg, q⟩ | ⟨off, r, hb, q⟩
  · obtain ⟨rs, tl, ht, hrs, htl, hs, hz⟩ := hg
    subst ht
    refine s_if (b := decide (V.non = .non)) (et_test (ev_op (ev_var rfl) ev_c rv_isN)) (fun _ H1 e1 => ?_) fun hb => by rw [decide_eq_true rfl] at hb; cases hb
    refine s_drS (ea_cons (ev_var rfl) (ea_cons (ev_var rfl) ea_nil)) fun H2 e2 => .inl ⟨sp, rs, tl, rfl, hrs, htl, hs, hz, fun p H3 hp e3 hL => ?_⟩
    exact (show tRet (tC V.non) { nx := fun _ H' => Q .non H', rt := Q } [some (.str (SX.S (bodyT sp rs tl))), some (.str (SX.S [sp])), some .non, none, none] H3 from s_ret ev_c fun H4 e4 => q H4 (((e1.trans e2).trans e3).trans e4))
  · obtain ⟨rs, n, hrs, ht, hle, hB, hs, h49, hz⟩ := hb
    refine s_if (b := decide (cv = .non)) (et_test (ev_op (ev_var rfl) ev_c rv_isN)) (fun _ H1 e1 => ?_) fun _ H1 e1 => ?_
    · exact s_drS (ea_cons (ev_var rfl) (ea_cons (ev_var rfl) ea_nil)) fun H2 e2 => .inr ⟨sp, t, rs, n, off, r, rfl, hrs, ht, hle, hB, hs, h49, hz, caught (e1.trans e2) q _ rfl⟩
    · exact s_drXK (vs := [.str (SX.S t), cv]) (zs := [.str (SX.S [sp])]) (ea_cons (ev_var rfl) (ea_cons (ev_var rfl) ea_nil)) (ea_cons (ev_var rfl) ea_nil) rfl rfl fun H2 e2 => ⟨t, sp, cv, .bl true, rfl, sp, t, rs, n, off, r, rfl, hrs, ht, hle, hB, hs, h49, hz, caught (e1.trans e2) q _ rfl⟩
end
open Dg
def mustB (sp : Nat) (s : List Nat) : Bool := decide (sp ∈ s) || (decide (34 ∈ s) || decide (10 ∈ s))
theorem must_ok {sp : Nat} {s : List Nat} {m : Bool} (h : m = false → mustB sp s = false) : okF sp (s, m) := fun hm c hc => by
  have h2 := h hm
  unfold mustB at h2
  rw [Bool.or_eq_false_iff, Bool.or_eq_false_iff] at h2
  exact ⟨fun z => of_decide_eq_false h2.1 (z ▸ hc), fun z => of_decide_eq_false h2.2.1 (z ▸ hc), fun z => of_decide_eq_false h2.2.2 (z ▸ hc)⟩
theorem dbl_len2 : ∀ s : List Nat, (dblL s).length ≤ 2 * s.length
  | [] => Nat.le_refl _
  | c :: r => by
    have := dbl_len2 r
    unfold dblL
    split
    · show (dblL r).length + 1 + 1 ≤ 2 * (r.length + 1)
      omega
    · show (dblL r).length + 1 ≤ 2 * (r.length + 1)
      omega
def S80 : List Nat := (PySem.Str.ofString "ab1,; '\"\n-x").cps.toList
theorem S80_len : S80.length = 11 := by decide +kernel
theorem S80_S : PySem.Str.ofString "ab1,; '\"\n-x" = SX.S S80 := by decide +kernel
theorem dbl_flat : ∀ s : List Nat, (s.map fun c => if c = 34 then [34, 34] else [c]).flatten = dblL s
  | [] => rfl
  | c :: r => by
    show (if c = 34 then [34, 34] else [c]) ++ (r.map fun c => if c = 34 then [34, 34] else [c]).flatten = if c = 34 then 34 :: 34 :: dblL r else c :: dblL r
    rw [dbl_flat r]
    split <;> rfl
theorem join_flat : ∀ ls : List (List Nat), TL.joinL [] ls = ls.flatten
  | [] => rfl
  | [p] => by
    show p = p ++ []
    rw [List.append_nil]
  | p :: q :: r => by
    have e : TL.joinL [] (p :: q :: r) = p ++ ([] ++ TL.joinL [] (q :: r)) := rfl
    rw [e, join_flat (q :: r)]
    rfl
def sp__law_field_text (K : PySem.W.Frag) : Sp := fun vs H Q _ => ∃ p : Addr, vs = [.ref p] ∧ Dr p H ∧ ∀ v H', txtP S80 5 v → Ex (wo p H) H' → Dr p H' → Q v H'
def sp__law_written (K : PySem.W.Frag) : Sp := fun vs H Q _ => ∃ (s : List Nat) (z : V) (m : Bool), vs = [.str (SX.S s), z, .bl m] ∧ s.length ≤ 100 ∧ ∀ H', Ex H H' → Q (.str (SX.S (wrL s m))) H'
def sp__law_must_mark (K : PySem.W.Frag) : Sp := fun vs H Q _ => ∃ (s : List Nat) (sp : Nat), vs = [.str (SX.S s), .str (SX.S [sp])] ∧ ∀ H', Ex H H' → Q (.bl (mustB sp s)) H'
section
variable {σ : L2.St} {H : Hp} {ta tb : TE}
theorem ev_inSign {c : Nat} {z : List Nat} (ha : Ev ta σ H (.str (SX.S [c]))) (hb : Ev tb σ H (.str (SX.S z))) : Ev (tOp (fun x y H Q => ∃ (c : Nat) (z : Str), x = .str ⟨#[c]⟩ ∧ y = .str z ∧ Q (.bl (decide (c ∈ z.cps.toList))) H) ta tb) σ H (.bl (decide (c ∈ z))) := fun H1 e Q q =>
  ha H1 e _ fun H2 e2 => hb H2 (e.trans e2) _ fun H3 e3 => ⟨c, SX.S z, rfl, rfl, q H3 (e2.trans e3)⟩
end
section
variable {P : Program} {w : World} {K : PySem.W.Frag} {mg : Str → Option Value} {base : Heap}
theorem ok__law_field_text (D : Dn K mg "_law_field_text" s__law_field_text ["state"]) (c__law_digit : C8.Cal P w K mg base 1 "_law_digit" (sp__law_digit K) []) (z_range : mg "range" = none) :
    C8.Cal P w K mg base 2 "_law_field_text" (sp__law_field_text K) [] := by
  refine cal_of D sc__law_field_text (fun vs H Q E h => ?_) (fun f cdv A outer s H vs Q E hr h => ?_)
  · obtain ⟨_, rfl, _⟩ := h
    rfl
  refine ⟨_, (pss_cons (ps_set (i := 1) sc__law_field_text.nd rfl (.inr rfl) pe_str)
    (pss_one (ps_ret (pe_join pe_str (pe_lc (own := [("k", 2)]) (g := gName 2) (tt := tYes) rfl sc__law_field_text.nd (pi_range1 rfl z_range (pa_cons (C8.pe_c c__law_digit hr (by decide) (by rfl) (pa_cons (pv 0) (pa_cons pe_int pa_nil))) pa_nil)) (blkOk_by (N := n__law_field_text) (sc := C8.fnScope s__law_field_text) (by decide +kernel)) (fun _ _ _ _ _ => pg_name (i := 2) sc__law_field_text.nd rfl (Or.inl rfl)) (fun _ _ _ _ _ => pts_nil) (fun _ _ _ _ _ => (pe_ix ix_str (pv 1) (C8.pe_c c__law_digit hr (by decide) (by rfl) (pa_cons (pv 0) (pa_cons pe_int pa_nil))) (fun _ _ => rfl)))))))), ?_⟩
  obtain ⟨p, rfl, d, q⟩ := h
  refine q_asg (v := .str (SX.S S80)) (ev_is ev_c (by rw [S80_S])) fun H1 e1 => ?_
  exact s1_ret (P := txtP S80 5) (e1_join (by decide) (e1_lc (m := 5) (ez_mono (ez_digit (ev_var rfl) ev_c (by decide) (by decide)) fun i hi => by omega) (by decide) (fun _ => rfl) fun i => e1_sign rfl (by rw [S80_len]; rfl) (by decide) (by decide) (ev_var rfl) ev_c)) (d.ex e1) fun v H2 hv e2 d2 => q _ H2 hv (wx_trans (wx_of e1) e2) d2
theorem ok__law_written (D : Dn K mg "_law_written" s__law_written ["text", "separator", "marked"]) :
    C8.Cal P w K mg base 1 "_law_written" (sp__law_written K) [] := by
  refine cal_of D sc__law_written (fun vs H Q E h => ?_) (fun f cdv A outer s H vs Q E hr h => ?_)
  · obtain ⟨_, _, _, rfl, _⟩ := h
    rfl
  refine ⟨_, (pss_cons (ps_if (pt_not (pt_val (pv 2)))
      (pss_one (ps_ret (pv 0)))
      pss_nil)
    (pss_one (ps_ret (pe_op op_add_str (pe_op op_add_str pe_str (pe_join pe_str (pe_lc (own := [("sign", 3)]) (g := gName 3) (tt := tYes) rfl sc__law_written.nd (pi_str (pv 0)) (blkOk_by (N := n__law_written) (sc := C8.fnScope s__law_written) (by decide +kernel)) (fun _ _ _ _ _ => pg_name (i := 3) sc__law_written.nd rfl (Or.inl rfl)) (fun _ _ _ _ _ => pts_nil) (fun _ _ _ _ _ => (pe_ifExp (pt_cmpR op_eq (pv 3) pe_str (nomark _)) pe_str (pv 3)))))) pe_str)))), ?_⟩
  obtain ⟨s, z, m, rfl, hl, q⟩ := h
  cases m with
  | false => exact q_when (b := !false) (et_not (et_B (ev_var rfl))) (fun _ H1 e1 => s_ret (ev_var rfl) fun H2 e2 => q H2 (e1.trans e2)) fun h => nomatch h
  | true =>
    refine q_when (b := !true) (et_not (et_B (ev_var rfl))) (fun h => nomatch h) fun _ H1 e1 => ?_
    have hd := dbl_len2 s
    have ej : EvL (tLc (iStr (tVar 0)) (gName 3) tYes (tIf (tTest (tOp rEq (tVar 3) (tC (.str (PySem.Str.ofString "\""))))) (tC (.str (PySem.Str.ofString "\"\""))) (tVar 3)) [3]) [some (.str (SX.S s)), some z, some (.bl true), none] H1 (s.map fun c => V.str (SX.S (if c = 34 then [34, 34] else [c]))) := el_lcX _ (ev_var rfl) (by omega) (fun _ => rfl) fun i c H2 e2 hc => by
      refine ev_if (b := decide (c = 34)) (et_test (ev_is (ev_op (x := .str (SX.S [c])) (y := .str (SX.S [34])) (ev_var rfl) (ev_is ev_c (by rw [mk34])) (rv_eq rfl)) ?_)) (fun hb => ?_) fun hb => ?_
      · rw [dec_S]
        by_cases h : c = 34
        · rw [h]; simp
        · rw [decide_eq_false h, decide_eq_false fun z => h (List.cons.inj z).1]
      · rw [if_pos (of_decide_eq_true hb)]
        exact ev_is ev_c (by decide +kernel)
      · rw [if_neg (of_decide_eq_false hb)]
        exact ev_var rfl
    have hjn : TL.joinL [] (s.map fun c => if c = 34 then [34, 34] else [c]) = dblL s := by rw [join_flat, dbl_flat]
    refine s_ret (v := .str (SX.S [34] ++ SX.S (dblL s) ++ SX.S [34])) (ev_cat (ev_cat (ev_is ev_c (by rw [mk34])) (fun H2 e2 Q k => ?_) ?_) (ev_is ev_c (by rw [mk34])) ?_) fun H2 e2 => ?_
    · refine ⟨⟨_, rfl⟩, ej H2 e2 _ fun l H3 hl3 e3 h3 => ⟨SX.S [], l, (s.map fun c => if c = 34 then [34, 34] else [c]).map SX.S, by rw [c00], rfl, .inl (sq_of ?_), ?_, ?_⟩⟩
      · rw [h3, List.map_map, List.map_map]
        rfl
      · rw [SX.lens, SX.S_len]
        have := joinL_len [] (s.map fun c => if c = 34 then [34, 34] else [c])
        rw [hjn] at this
        show _ + _ * 0 ≤ _
        omega
      · rw [show (SX.S ([] : List Nat)) = SX.S [] from rfl, SX.join_S, hjn]
        exact k H3 e3
    · rw [SX.S_len, SX.S_len]
      show 1 + _ ≤ _
      omega
    · rw [SX.S_cat, SX.S_len, SX.S_len, List.length_append]
      show 1 + _ + 1 ≤ _
      omega
    · rw [SX.S_cat, SX.S_cat]
      exact q H2 (e1.trans e2)
theorem ok__law_must_mark (D : Dn K mg "_law_must_mark" s__law_must_mark ["text", "separator"]) :
    C8.Cal P w K mg base 1 "_law_must_mark" (sp__law_must_mark K) [] := by
  refine cal_of D sc__law_must_mark (fun vs H Q E h => ?_) (fun f cdv A outer s H vs Q E hr h => ?_)
  · obtain ⟨_, _, rfl, _⟩ := h
    rfl
  refine ⟨_, (pss_one (ps_ret (pe_or (pe_cmpR op_in_sign (pv 1) (pv 0) (by with_unfolding_all rfl)) (pe_or (pe_cmpR op_in_sign pe_str (pv 0) (by with_unfolding_all rfl)) (pe_one (pe_cmpR op_in_sign pe_str (pv 0) (by with_unfolding_all rfl))))))), ?_⟩
  obtain ⟨s, sp, rfl, q⟩ := h
  exact s_ret (v := .bl (mustB sp s)) (ev_orV (ev_inSign (ev_var rfl) (ev_var rfl)) fun _ => ev_orV (ev_inSign (c := 34) (ev_is ev_c (by rw [mk34])) (ev_var rfl)) fun _ => ev_inSign (c := 10) (ev_is ev_c (by rw [mk10])) (ev_var rfl)) fun H1 e1 => q H1 e1
end
theorem rec_snoc (sp : Nat) (f : Fl) : ∀ fs : List Fl, recT sp (fs ++ [f]) = (if fs = [] then [] else recT sp fs ++ [sp]) ++ wrL f.1 f.2
  | [] => rfl
  | [g] => by
    rw [if_neg (fun h => nomatch h)]
    show wrL g.1 g.2 ++ sp :: wrL f.1 f.2 = (wrL g.1 g.2 ++ [sp]) ++ wrL f.1 f.2
    rw [List.append_assoc]
    rfl
  | g :: h :: r => by
    have ih := rec_snoc sp f (h :: r)
    rw [if_neg (fun h => nomatch h)] at ih ⊢
    show wrL g.1 g.2 ++ sp :: recT sp (h :: r ++ [f]) = (wrL g.1 g.2 ++ sp :: recT sp (h :: r)) ++ [sp] ++ wrL f.1 f.2
    rw [ih]
    simp
theorem body_snoc (sp : Nat) (x : List Fl) : ∀ rs : List (List Fl), bodyT sp (rs ++ [x]) none = bodyT sp rs none ++ (recT sp x ++ [10])
  | [] => rfl
  | r :: rs => by
    show recT sp r ++ 10 :: bodyT sp (rs ++ [x]) none = (recT sp r ++ 10 :: bodyT sp rs none) ++ (recT sp x ++ [10])
    rw [body_snoc sp x rs, List.append_assoc]
    rfl
theorem wr_le {s : List Nat} {m : Bool} (h : s.length ≤ 5) : (wrL s m).length ≤ 12 := by
  have h2 : ∀ s : List Nat, (dblL s).length ≤ 2 * s.length := fun s => by
    induction s with
    | nil => exact Nat.le_refl _
    | cons c r ih =>
      unfold dblL
      split
      · show (dblL r).length + 1 + 1 ≤ 2 * (r.length + 1)
        omega
      · show (dblL r).length + 1 ≤ 2 * (r.length + 1)
        omega
  have := h2 s
  cases m with
  | true =>
    show (34 :: (dblL s ++ [34])).length ≤ _
    rw [List.length_cons, List.length_append]
    show (dblL s).length + 1 + 1 ≤ _
    omega
  | false =>
    show s.length ≤ _
    omega
theorem Dr.at {p : Addr} {H : Hp} (d : Dr p H) : ∃ xs, H p = some (.lst xs) := by
  obtain ⟨s, _, h⟩ := d
  exact ⟨_, h⟩
section
variable {K : PySem.W.Frag} {σ : L2.St} {H : Hp} {p : Addr} {ta tb tc te tl tn : TE} {D : Ends} {tz tu : TS} {PI : Int → Prop} {R : V → Prop} {E : XK}
theorem q_forD {j : Nat} (h : EvD1 te σ p H (ZP PI)) (d : Dr p H) (k : ∀ (n : Int) H1, PI n → Ex (wo p H) H1 → Dr p H1 → tSeq (tFor (iRng1 (tCons (tC (.int n)) tNil)) (gName j) tu) tz D σ H1) : tSeq (tFor (iRng1 (tCons te tNil)) (gName j) tu) tz D σ H := h H (wo_le p H) d _ fun v H1 ⟨n, ev, hn⟩ e1 d1 => by
  subst ev
  exact k n H1 hn e1 d1
theorem e1_ft (ha : Ev ta σ (wo p H) (.ref p)) : EvD1 (tCall (sp__law_field_text K) [] E (tCons ta tNil)) σ p H (txtP S80 5) := fun H1 e d Q q =>
  ha H1 e _ fun H2 e2 => ⟨p, rfl, d.ex e2, fun v H3 hv e3 d3 => q v H3 hv (wx_trans (wx_of e2) e3) d3⟩
/-- (a, b, c)[i], texts that are written -/
theorem e1_ixUS {xs : List Str} (ha : EvU ta σ (wo p H) (xs.map V.str)) (hb : EvD1 tb σ p H (ZP fun j => 0 ≤ j ∧ j < (xs.length : Int))) : EvD1 (tOp (rIxT K) ta tb) σ p H (fun v => ∃ s ∈ xs, v = .str s) := fun H1 e d Q q =>
  ha H1 e _ fun t H2 ht e2 h2 => hb H2 (e.trans e2) (d.ex e2) _ fun y H3 ⟨j, ey, hj⟩ e3 d3 => by
    subst ey
    obtain ⟨jn, rfl⟩ := Int.eq_ofNat_of_zero_le hj.1
    have hjn : jn < xs.length := by omega
    have htp : t ≠ p := fun z => by
      obtain ⟨ys, hy⟩ := d.at
      rw [← z, ht] at hy
      cases hy
    have h3 : H3 t = some (.tup (xs.map V.str)) := e3 _ _ (by rw [wo_ne htp]; exact h2)
    exact rv_ixT (st_of h3) (atI_nat (j := jn) (v := .str xs[jn]) (by rw [List.getElem?_map, List.getElem?_eq_getElem hjn]; rfl)) H3 (Ex.refl H3) Q fun H4 e4 => q _ H4 ⟨_, List.getElem_mem hjn, rfl⟩ (wx_trans (wx_of e2) (wx_trans e3 (wx_of e4))) (d3.ex e4)
/-- a or b, b drawn -/
theorem e1_orM {m : Bool} {P : Prop} (ha : Ev ta σ (wo p H) (.bl m)) (hb : EvD1 tb σ p H (fun v => ∃ b, v = .bl b)) (hP : m = false → P) : EvD1 (tOrV ta tb) σ p H (fun v => ∃ b, v = .bl b ∧ (b = false → P)) := fun H1 e d Q q =>
  ha H1 e _ fun H2 e2 => ⟨m, rfl, by
    cases m with
    | true =>
      rw [if_pos rfl]
      exact q _ H2 ⟨true, rfl, fun h => nomatch h⟩ (wx_of e2) (d.ex e2)
    | false =>
      rw [if_neg (fun h => nomatch h)]
      exact hb H2 (e.trans e2) (d.ex e2) _ fun v H3 ⟨b, ev⟩ e3 d3 => q v H3 ⟨b, ev, fun _ => hP rfl⟩ (wx_trans (wx_of e2) e3) d3⟩
end
open Dg
def sp__law_good (K : PySem.W.Frag) : Sp := fun vs H Q _ => ∃ (p : Addr) (sp : Nat), vs = [.ref p, .str (SX.S [sp])] ∧ Dr p H ∧ okSep sp ∧
  ∀ H' rs n, Ex (wo p H) H' → Dr p H' → (∀ x ∈ rs, okRec sp x) → n ≤ 2 → (bodyT sp rs none).length ≤ 1000 → Q (.str (SX.S (bodyT sp rs none ++ abs_ sp n))) H'
def presep (sp : Nat) (fs : List Fl) : List Nat := if fs = [] then [] else recT sp fs ++ [sp]
theorem presep_len {sp : Nat} {fs : List Fl} : (presep sp fs).length ≤ (recT sp fs).length + 1 := by
  unfold presep
  split
  · exact Nat.zero_le _
  · rw [List.length_append]
    exact Nat.le_refl _
section
variable {K : PySem.W.Frag} {σ : L2.St} {H : Hp} {p : Addr} {ta tb tc te : TE} {E : XK} {P : Prop} {R : V → Prop}
/-- text + what is drawn -/
theorem e1_catS {a : List Nat} {S : List Nat → Prop} (ha : Ev ta σ (wo p H) (.str (SX.S a))) (hb : EvD1 tb σ p H (fun v => ∃ l, v = .str (SX.S l) ∧ S l)) (hz : ∀ l, S l → a.length + l.length ≤ 100000) :
    EvD1 (tOp (fun x y H Q => ∃ i j, x = .str i ∧ y = .str j ∧ i.length + j.length ≤ sizeLine ∧ Q (.str (i ++ j)) H) ta tb) σ p H (fun v => ∃ l, v = .str (SX.S (a ++ l)) ∧ S l) := fun H1 e d Q q =>
  ha H1 e _ fun H2 e2 => hb H2 (e.trans e2) (d.ex e2) _ fun v H3 ⟨l, ev, hl⟩ e3 d3 => by
    subst ev
    refine ⟨_, _, rfl, rfl, sz_of (by rw [SX.S_len, SX.S_len]; exact hz l hl), ?_⟩
    rw [SX.S_cat]
    exact q _ H3 ⟨l, rfl, hl⟩ (wx_trans (wx_of e2) e3) d3
theorem e1_wr {l : List Nat} {z : V} (ha : Ev ta σ (wo p H) (.str (SX.S l))) (hb : Ev tb σ (wo p H) z) (hc : EvD1 tc σ p H (fun v => ∃ b, v = .bl b ∧ (b = false → P))) (hl : l.length ≤ 100) :
    EvD1 (tCall (sp__law_written K) [] E (tCons ta (tCons tb (tCons tc tNil)))) σ p H (fun v => ∃ w, v = .str (SX.S w) ∧ ∃ m, w = wrL l m ∧ (m = false → P)) := fun H1 e d Q q =>
  ha H1 e _ fun H2 e2 => hb H2 (e.trans e2) _ fun H3 e3 => hc H3 ((e.trans e2).trans e3) (d.ex (e2.trans e3)) _ fun v H4 ⟨m, ev, hm⟩ e4 d4 => by
    subst ev
    exact ⟨l, z, m, rfl, hl, fun H5 e5 => q _ H5 ⟨_, rfl, m, rfl, hm⟩ (wx_trans (wx_of (e2.trans e3)) (e4.trans e5)) (d4.ex e5)⟩
theorem ec_must {s : List Nat} {sp : Nat} (ha : Ev ta σ H (.str (SX.S s))) (hb : Ev tb σ H (.str (SX.S [sp]))) : Ev (tCall (sp__law_must_mark K) [] E (tCons ta (tCons tb tNil))) σ H (.bl (mustB sp s)) := ev_call (ea_cons ha (ea_cons hb ea_nil)) fun H1 e1 Q q E => ⟨s, sp, rfl, q⟩
end
section
variable {P : Program} {w : World} {K : PySem.W.Frag} {mg : Str → Option Value} {base : Heap}
theorem ok__law_good (D : Dn K mg "_law_good" s__law_good ["state", "separator"]) (c__law_digit : C8.Cal P w K mg base 1 "_law_digit" (sp__law_digit K) []) (c__law_field_text : C8.Cal P w K mg base 2 "_law_field_text" (sp__law_field_text K) []) (c__law_must_mark : C8.Cal P w K mg base 1 "_law_must_mark" (sp__law_must_mark K) []) (c__law_written : C8.Cal P w K mg base 1 "_law_written" (sp__law_written K) []) (z_range : mg "range" = none) :
    C8.Cal P w K mg base 3 "_law_good" (sp__law_good K) [] := by
  refine cal_of D sc__law_good (fun vs H Q E h => ?_) (fun f cdv A outer s H vs Q E hr h => ?_)
  · obtain ⟨_, _, rfl, _⟩ := h
    rfl
  refine ⟨_, (pss_cons (ps_set (i := 2) sc__law_good.nd rfl (.inl rfl) pe_str)
    (pss_cons (ps_for PassesOwn.never rfl (pi_range1 rfl z_range (pa_cons (C8.pe_c c__law_digit hr (by decide) (by rfl) (pa_cons (pv 0) (pa_cons pe_int pa_nil))) pa_nil)) (pg_name (i := 3) sc__law_good.nd rfl (.inl rfl))
      (pss_cons (ps_for PassesOwn.never rfl (pi_range1 rfl z_range (pa_cons (pe_op op_add pe_int (C8.pe_c c__law_digit hr (by decide) (by rfl) (pa_cons (pv 0) (pa_cons pe_int pa_nil)))) pa_nil)) (pg_name (i := 4) sc__law_good.nd rfl (.inl rfl))
      (pss_cons (ps_if (pt_cmpR op_gt (pv 4) pe_int (nomark _))
      (pss_one (ps_set (i := 2) sc__law_good.nd rfl (.inl rfl) (pe_op op_add_str (pv 2) (pv 1))))
      pss_nil)
    (pss_cons (ps_set (i := 5) sc__law_good.nd rfl (.inl rfl) (C8.pe_c c__law_field_text hr (by decide) (by rfl) (pa_cons (pv 0) pa_nil)))
    (pss_one (ps_set (i := 2) sc__law_good.nd rfl (.inl rfl) (pe_op op_add_str (pv 2) (C8.pe_c c__law_written hr (by decide) (by rfl) (pa_cons (pv 5) (pa_cons (pv 1) (pa_cons (pe_or (C8.pe_c c__law_must_mark hr (by decide) (by rfl) (pa_cons (pv 5) (pa_cons (pv 1) pa_nil))) (pe_one (pe_cmpR op_eq (C8.pe_c c__law_digit hr (by decide) (by rfl) (pa_cons (pv 0) (pa_cons pe_int pa_nil))) pe_int (nomark _)))) pa_nil))))))))))
    (pss_one (ps_set (i := 2) sc__law_good.nd rfl (.inl rfl) (pe_op op_add_str (pv 2) pe_str)))))
    (pss_cons (ps_for PassesOwn.never rfl (pi_range1 rfl z_range (pa_cons (C8.pe_c c__law_digit hr (by decide) (by rfl) (pa_cons (pv 0) (pa_cons pe_int pa_nil))) pa_nil)) (pg_name (i := 4) sc__law_good.nd rfl (.inl rfl))
      (pss_one (ps_set (i := 2) sc__law_good.nd rfl (.inl rfl) (pe_op op_add_str (pe_op op_add_str (pv 2) pe_str) (pv 1)))))
    (pss_one (ps_ret (pv 2)))))), ?_⟩
  obtain ⟨p, sp, rfl, d, hs, q⟩ := h
  refine q_asg (v := .str (SX.S (bodyT sp [] none))) (ev_is ev_c (by rw [c00]; rfl)) fun H1 e1 => ?_
  refine q_forD (PI := fun n => 0 ≤ n ∧ n ≤ 3) (ez_mono (ez_digit (m := 4) (ev_var rfl) ev_c (by decide) (by decide)) fun i h => ⟨h.1, by omega⟩) (d.ex e1) fun nk H2 hnk e2 d2 => ?_
  refine q_forR1 (n := nk) (ea_cons ev_c ea_nil) ⟨by omega, by omega⟩ (fun i σ' H' => ∃ (kv jv fv : Option V) (rs : List (List Fl)), σ' = [some (.ref p), some (.str (SX.S [sp])), some (.str (SX.S (bodyT sp rs none))), kv, jv, fv] ∧ Ex (wo p H) H' ∧ Dr p H' ∧ (∀ x ∈ rs, okRec sp x) ∧ (bodyT sp rs none).length ≤ 100 * i) (fun H3 e3 => ⟨_, _, _, [], rfl, (wx_trans (wx_of e1) e2).trans e3, d2.ex e3, (fun x h => nomatch h), Nat.zero_le _⟩) (fun i σ' H' hi pv => ?_) fun σ' H' pv => ?_
  · obtain ⟨kv, jv, fv, rs, rfl, e, d', hrs, hbl⟩ := pv
    have hi3 : i ≤ 2 := by omega
    refine q_forD (PI := fun n => 1 ≤ n ∧ n ≤ 3) (ez_op0 (PI := fun j => j = 1) (e1_int (PI := fun j => j = 1) ev_c rfl) (ez_digit (m := 3) (ev_var rfl) ev_c (by decide) (by decide)) fun i j hi hj => ⟨by omega, by omega⟩) d' fun nj H3 hnj e3 d3 => ?_
    refine q_forR1 (n := nj) (ea_cons ev_c ea_nil) ⟨by omega, by omega⟩ (fun j σ' H' => ∃ (jv fv : Option V) (fs : List Fl), σ' = [some (.ref p), some (.str (SX.S [sp])), some (.str (SX.S (bodyT sp rs none ++ recT sp fs))), some (.int (i : Int)), jv, fv] ∧ Ex (wo p H) H' ∧ Dr p H' ∧ fs.length = j ∧ (∀ f ∈ fs, okF sp f) ∧ (recT sp fs).length ≤ 20 * j) (fun H4 e4 => ⟨_, _, [], (by rw [show recT sp [] = [] from rfl, List.append_nil]; rfl), (wx_trans e e3).trans e4, d3.ex e4, rfl, (fun x h => nomatch h), Nat.zero_le _⟩) (fun j σ' H' hj pv => ?_) fun σ' H' pv => ?_
    · obtain ⟨jv, fv, fs, rfl, e5, d5, hfl, hF, hrl⟩ := pv
      have hpl := presep_len (sp := sp) (fs := fs)
      refine q_ifAsg (b := decide ((j : Int) > 0)) (v := .str (SX.S (bodyT sp rs none ++ presep sp fs))) (et_test (ev_op (ev_var rfl) ev_c rv_I0)) (fun hb => ?_) (fun hb => ?_) fun H6 e6 => ?_
      · have hj0 : 0 < j := by have := of_decide_eq_true hb; omega
        have hne : fs ≠ [] := fun z => by rw [z] at hfl; simp at hfl; omega
        refine ev_is (ev_cat (ev_var rfl) (ev_var rfl) (by rw [SX.S_len, SX.S_len, List.length_append]; show _ + 1 ≤ _; omega)) ?_
        rw [SX.S_cat]
        unfold presep
        rw [if_neg hne, List.append_assoc]
      · have hj0 : j = 0 := by have := of_decide_eq_false hb; omega
        have hnil : fs = [] := List.eq_nil_of_length_eq_zero (by omega)
        subst hnil
        rfl
      refine q1_asg (e1_ft (ev_var rfl)) (d5.ex e6) fun v H7 hv e7 d7 => ?_
      obtain ⟨l, rfl, hll, hlc⟩ := hv
      refine s1_asg (P := fun v => ∃ w, v = .str (SX.S ((bodyT sp rs none ++ presep sp fs) ++ w)) ∧ ∃ m, w = wrL l m ∧ (m = false → mustB sp l = false)) (e1_catS (ev_var rfl) (e1_wr (ev_var rfl) (ev_var rfl) (e1_orM (ec_must (ev_var rfl) (ev_var rfl)) (ez_eq (ez_digit (m := 3) (ev_var rfl) ev_c (by decide) (by decide)) (e1_int (PI := fun j => j = 0) ev_c rfl)) fun h => h) (by omega)) fun w hw => ?_) d7 fun v H8 hv e8 d8 => ?_
      · obtain ⟨m, rfl, _⟩ := hw
        have := wr_le (m := m) hll
        rw [List.length_append]
        omega
      · obtain ⟨w', rfl, m, rfl, hm⟩ := hv
        have hw := wr_le (m := m) hll
        have hsn : recT sp (fs ++ [(l, m)]) = presep sp fs ++ wrL l m := rec_snoc sp (l, m) fs
        refine ⟨_, _, fs ++ [(l, m)], (by rw [hsn, ← List.append_assoc]; rfl), wx_trans e5 (wx_trans (wx_of e6) (wx_trans e7 e8)), d8, (by rw [List.length_append, hfl]; rfl), fun f hf => ?_, ?_⟩
        · rcases List.mem_append.mp hf with h | h
          · exact hF f h
          · rw [List.mem_singleton.mp h]
            exact must_ok hm
        · rw [hsn, List.length_append]
          omega
    · obtain ⟨jv, fv, fs, rfl, e5, d5, hfl, hF, hrl⟩ := pv
      have hne : fs ≠ [] := fun z => by rw [z] at hfl; simp at hfl; omega
      have hbs := body_snoc sp fs rs
      refine s_asg (v := .str (SX.S (bodyT sp (rs ++ [fs]) none))) (ev_is (ev_cat (b := SX.S [10]) (ev_var rfl) (ev_is ev_c (by rw [mk10])) (by rw [SX.S_len, SX.S_len, List.length_append]; show _ + 1 ≤ _; omega)) (by rw [SX.S_cat, hbs, List.append_assoc])) fun H6 e6 => ⟨_, _, _, rs ++ [fs], rfl, e5.trans e6, d5.ex e6, fun x hx => ?_, ?_⟩
      · rcases List.mem_append.mp hx with h | h
        · exact hrs x h
        · rw [List.mem_singleton.mp h]
          exact ⟨hne, hF⟩
      · rw [hbs, List.length_append, List.length_append]
        show _ + (_ + 1) ≤ _
        omega
  · obtain ⟨kv, jv, fv, rs, rfl, e, d', hrs, hbl⟩ := pv
    refine q_forD (PI := fun n => 0 ≤ n ∧ n ≤ 2) (ez_mono (ez_digit (m := 3) (ev_var rfl) ev_c (by decide) (by decide)) fun i h => ⟨h.1, by omega⟩) d' fun nj H3 hnj e3 d3 => ?_
    refine q_forR1 (n := nj) (ea_cons ev_c ea_nil) ⟨by omega, by omega⟩ (fun j σ' H' => ∃ (jv : Option V), σ' = [some (.ref p), some (.str (SX.S [sp])), some (.str (SX.S (bodyT sp rs none ++ abs_ sp j))), kv, jv, fv] ∧ Ex (wo p H) H' ∧ Dr p H') (fun H4 e4 => ⟨_, (by rw [show abs_ sp 0 = [] from rfl, List.append_nil]), (wx_trans e e3).trans e4, d3.ex e4⟩) (fun j σ' H' hj pv => ?_) fun σ' H' pv => ?_
    · obtain ⟨jv, rfl, e5, d5⟩ := pv
      have hal := abs_len sp j
      refine s_asg (v := .str (SX.S (bodyT sp rs none ++ abs_ sp (j + 1)))) (ev_is (ev_cat (a := SX.S (bodyT sp rs none ++ abs_ sp j ++ [97, 98])) (b := SX.S [sp]) (ev_is (ev_cat (b := SX.S [97, 98]) (ev_var rfl) (ev_is ev_c (by decide +kernel)) (by rw [SX.S_len, SX.S_len, List.length_append]; show _ + 2 ≤ _; omega)) (by rw [SX.S_cat])) (ev_var rfl) (by rw [SX.S_len, SX.S_len, List.length_append, List.length_append]; show _ + 2 + 1 ≤ _; omega)) ?_) fun H6 e6 => ⟨_, rfl, e5.trans e6, d5.ex e6⟩
      rw [SX.S_cat, abs_add]
      simp [abs_]
    · obtain ⟨jv, rfl, e5, d5⟩ := pv
      exact s_ret (ev_var rfl) fun H6 e6 => q H6 rs nj.toNat (e5.trans e6) (d5.ex e6) hrs (by omega) (by omega)
end
open Dg
def plC : List Nat := [97, 49, 120, 32, 121]
def plL : List (List Nat) := [[97], [49], [120, 32], [121]]
def PlOk (l : List Nat) : Prop := l ≠ [] ∧ l.length ≤ 6 ∧ ∀ c ∈ l, c ∈ plC
theorem plC_ok {c sp : Nat} (h : c ∈ plC) (hs : sp = 44 ∨ sp = 59) : c ≠ sp ∧ c ≠ 34 ∧ c ≠ 10 := by
  simp only [plC, List.mem_cons, List.not_mem_nil, or_false] at h
  rcases h with rfl | rfl | rfl | rfl | rfl <;> rcases hs with rfl | rfl <;> decide
theorem pl_flat : ∀ {ls : List (List Nat)}, (∀ l ∈ ls, l ∈ plL) → ls.flatten.length ≤ 2 * ls.length ∧ ∀ c ∈ ls.flatten, c ∈ plC
  | [], _ => ⟨Nat.le_refl _, fun c h => nomatch h⟩
  | l :: r, h => by
    obtain ⟨h1, h2⟩ := pl_flat fun x hx => h x (List.mem_cons_of_mem _ hx)
    have hl := h l List.mem_cons_self
    have h3 : l.length ≤ 2 ∧ ∀ c ∈ l, c ∈ plC := by
      simp only [plL, List.mem_cons, List.not_mem_nil, or_false] at hl
      rcases hl with rfl | rfl | rfl | rfl <;> decide
    rw [List.flatten_cons]
    refine ⟨by rw [List.length_append, List.length_cons]; omega, fun c hc => ?_⟩
    rcases List.mem_append.mp hc with h | h
    · exact h3.2 c h
    · exact h2 c h
theorem pl_ok {ls : List (List Nat)} (h : ∀ l ∈ ls, l ∈ plL) (h0 : 1 ≤ ls.length) (h3 : ls.length ≤ 3) : PlOk ls.flatten := by
  obtain ⟨h1, h2⟩ := pl_flat h
  refine ⟨fun z => ?_, by omega, h2⟩
  cases ls with
  | nil => simp at h0
  | cons l r =>
    have hl := h l List.mem_cons_self
    rw [List.flatten_cons] at z
    have := (List.append_eq_nil_iff.mp z).1
    rw [this] at hl
    exact absurd hl (by decide)
/-- what is refused, wherever it stands -/
inductive BadW (sp : Nat) : List Nat → Nat → Str → Prop
  | inn (pl : List Nat) : PlOk pl → BadW sp (pl ++ 34 :: pl) pl.length rzIn
  | aft (s pl : List Nat) : PlOk pl → BadW sp (wrL s true ++ pl) (wrL s true).length rzSep
  | opn (pl : List Nat) : PlOk pl → BadW sp (34 :: (pl ++ sp :: 10 :: pl)) 0 rzOpen
theorem BadW.bad {sp d : Nat} {w pre jk t : List Nat} {r : Str} (h : BadW sp w d r) (hs : sp = 44 ∨ sp = 59) (hj : r = rzOpen → jk = []) (ht : t = pre ++ (w ++ jk)) : BadF sp t pre.length (pre.length + d) r := by
  have hd : t.drop pre.length = w ++ jk := by rw [ht, List.drop_left]
  cases h with
  | inn pl hp =>
    refine .inn pl (pl ++ jk) ?_ hp.1 fun c hc => plC_ok (hp.2.2 c hc) hs
    rw [hd]
    simp
  | aft s pl hp =>
    obtain ⟨c, pl', rfl⟩ := List.exists_cons_of_ne_nil hp.1
    obtain ⟨h1, h2, h3⟩ := plC_ok (hp.2.2 c List.mem_cons_self) hs
    refine .aft s c (pl' ++ jk) ?_ h2 h1 h3
    rw [hd]
    simp
  | opn pl hp =>
    refine .opn (pl ++ sp :: 10 :: pl) ?_ fun hm => ?_
    · rw [hd, hj rfl, List.append_nil]
    · rcases List.mem_append.mp hm with h | h
      · exact (plC_ok (hp.2.2 _ h) hs).2.1 rfl
      · rcases List.mem_cons.mp h with h | h
        · rcases hs with z | z <;> omega
        · rcases List.mem_cons.mp h with h | h
          · exact absurd h (by decide)
          · exact (plC_ok (hp.2.2 _ h) hs).2.1 rfl
def sp__law_wrong (K : PySem.W.Frag) : Sp := fun vs H Q _ => ∃ (p : Addr) (o sp : Nat), vs = [.ref p, .int (o : Int), .str (SX.S [sp])] ∧ Dr p H ∧ o ≤ 10000 ∧
  ∀ q H' w d r, BadW sp w d r → w.length ≤ 100 → H q = none → Ex (wo p H) H' → Dr p H' → H' q = some (.tup [.str (SX.S w), .int ((o + d : Nat) : Int), .str r]) → Q (.ref q) H'
section
variable {K : PySem.W.Frag} {σ : L2.St} {H : Hp} {p : Addr} {ta tb tc te tn : TE} {E : XK} {PI : Int → Prop} {R : V → Prop}
/-- [what is drawn for k in range(a number that is drawn)] -/
theorem e1_lcN {j : Nat} {vs : List Nat} (hn : EvD1 tn σ p H (ZP PI)) (hm : ∀ n, PI n → 0 ≤ n ∧ n ≤ 10000) (hw : ∀ x, wipe ((wipe σ vs).set j (some x)) vs = wipe σ vs)
    (he : ∀ i : Nat, EvD1 te ((wipe σ vs).set j (some (.int (i : Int)))) p H R) : EvLD1 (tLc (iRng1 (tCons tn tNil)) (gName j) tYes te vs) σ p H (fun xs => PI (xs.length : Int) ∧ ∀ x ∈ xs, R x) := fun H0 e d Q q =>
  hn H0 e d _ fun v H1 ⟨n, ev, hPn⟩ e1 d1 => by
    obtain ⟨hn0, hn1⟩ := hm n hPn
    subst ev
    refine ⟨n, rfl, by omega, by omega, fun Dl hD => ?_⟩
    have hpd : p ≠ Dl := dr_ne d1 hD
    refine lc_range (lo := 0) (n := n.toNat) (fun i H' => Ex (wo p H1) H' ∧ Dr p H' ∧ ∃ acc, H' Dl = some (.lst acc) ∧ acc.length = i ∧ ∀ x ∈ acc, R x) ⟨Ex.mut (wo_le p H1) (by rw [wo_ne (Ne.symm hpd)]; exact hD), d1.upd hpd, [], upd_same, rfl, fun x hx => by cases hx⟩ (fun i H' hi pv => ?_) (fun H' pv => ?_)
    · obtain ⟨p1, p2, acc, p3, p4, p5⟩ := pv
      have e0 : (0 : Int) + (i : Int) = (i : Int) := Int.zero_add _
      show wipe ((wipe σ vs).set j (some (.int ((0 : Int) + (i : Int))))) vs = wipe σ vs ∧ te ((wipe σ vs).set j (some (.int ((0 : Int) + (i : Int))))) H' fun y H4 => ∃ acc, H4 Dl = some (.lst acc) ∧ acc.length < sizeLine ∧ _
      rw [e0]
      refine ⟨hw _, he i H' (wx_trans e (wx_trans e1 p1)) p2 _ fun y H4 hy e4 d4 => ?_⟩
      refine ⟨acc, e4 Dl _ (by rw [wo_ne (Ne.symm hpd)]; exact p3), sz_lt (by omega), Ex.mut (wx_trans p1 e4) (by rw [wo_ne (Ne.symm hpd)]; exact hD), d4.upd hpd, acc ++ [y], upd_same, by rw [List.length_append, p4]; rfl, fun x hx => ?_⟩
      rcases List.mem_append.mp hx with h | h
      · exact p5 x h
      · rw [List.mem_singleton.mp h]
        exact hy
    · obtain ⟨p1, p2, acc, p3, p4, p5⟩ := pv
      have hD0 : H0 Dl = none := by
        cases z : H0 Dl with
        | none => rfl
        | some o =>
          have := e1 Dl o (by rw [wo_ne (Ne.symm hpd)]; exact z)
          rw [hD] at this
          cases this
      exact q Dl H' acc ⟨by rw [p4, Int.toNat_of_nonneg hn0]; exact hPn, p5⟩ hD0 (wx_trans e1 p1) p2 p3
theorem pls_of : ∀ {xs : List V}, (∀ x ∈ xs, ∃ s ∈ plL.map SX.S, x = .str s) → ∃ ls : List (List Nat), xs = (ls.map SX.S).map V.str ∧ ∀ l ∈ ls, l ∈ plL
  | [], _ => ⟨[], rfl, fun l h => nomatch h⟩
  | x :: r, h => by
    obtain ⟨ls, e, hl⟩ := pls_of (xs := r) fun y hy => h y (List.mem_cons_of_mem _ hy)
    obtain ⟨s, hs, ex⟩ := h x List.mem_cons_self
    obtain ⟨l, hlp, rfl⟩ := List.mem_map.mp hs
    refine ⟨l :: ls, by rw [ex, e]; rfl, fun y hy => ?_⟩
    rcases List.mem_cons.mp hy with rfl | hy
    · exact hlp
    · exact hl y hy
theorem joinE : ∀ ls : List (List Nat), TL.joinL [] ls = ls.flatten := join_flat
/-- ''.join(texts that are drawn) -/
theorem e1_joinP (h : EvLD1 te σ p H (fun xs => (1 ≤ (xs.length : Int) ∧ (xs.length : Int) ≤ 3) ∧ ∀ x ∈ xs, ∃ s ∈ plL.map SX.S, x = .str s)) : EvD1 (tM1 (fun x xs H Q => ∃ a p, ∃ ys : List Str, x = .str a ∧ xs = [.ref p] ∧ (SqL K H p (ys.map V.str) ∨ SqT K H p (ys.map V.str)) ∧
      (ys.map (·.length)).sum + ys.length * a.length ≤ 16777216 ∧ Q (.str (Txt.join a ys)) H) (tC (.str (PySem.Str.ofString ""))) te) σ p H (fun v => ∃ l, v = .str (SX.S l) ∧ PlOk l) := fun H1 e d Q q => by
  refine ⟨⟨_, rfl⟩, h H1 e d _ fun l H2 xs hP hl e2 d2 h2 => ?_⟩
  obtain ⟨⟨h1, h3⟩, hxs⟩ := hP
  obtain ⟨ls, rfl, hls⟩ := pls_of hxs
  rw [List.length_map, List.length_map] at h1 h3
  have hok := pl_ok hls (by omega) (by omega)
  have hfl := joinE ls
  refine ⟨SX.S [], l, ls.map SX.S, by rw [c00], rfl, .inl (sq_of h2), ?_, ?_⟩
  · rw [SX.lens, SX.S_len, List.length_map]
    have := joinL_len [] ls
    have h6 := hok.2.1
    rw [hfl] at this
    show _ + _ * 0 ≤ _
    omega
  · rw [SX.join_S, hfl]
    exact q _ H2 ⟨_, rfl, hok⟩ e2 d2
theorem e1_wrT {z : V} (ha : EvD1 ta σ p H (txtP S80 5)) (hb : ∀ H1, Ev tb σ H1 z) (hc : ∀ H1, Ev tc σ H1 (.bl true)) :
    EvD1 (tCall (sp__law_written K) [] E (tCons ta (tCons tb (tCons tc tNil)))) σ p H (fun v => ∃ s, v = .str (SX.S (wrL s true)) ∧ s.length ≤ 5) := fun H1 e d Q q =>
  ha H1 e d _ fun v H2 hv e2 d2 => hb H2 H2 (Ex.refl H2) _ fun H3 e3 => hc H3 H3 (Ex.refl H3) _ fun H4 e4 => by
    obtain ⟨l, rfl, hll, _⟩ := hv
    exact ⟨l, z, true, rfl, by omega, fun H5 e5 => q _ H5 ⟨l, rfl, hll⟩ (wx_trans e2 (wx_of ((e3.trans e4).trans e5))) (d2.ex ((e3.trans e4).trans e5))⟩
end
section
variable {P : Program} {w : World} {K : PySem.W.Frag} {mg : Str → Option Value} {base : Heap}
theorem ok__law_wrong (D : Dn K mg "_law_wrong" s__law_wrong ["state", "at", "separator"]) (c__law_digit : C8.Cal P w K mg base 1 "_law_digit" (sp__law_digit K) []) (c__law_field_text : C8.Cal P w K mg base 2 "_law_field_text" (sp__law_field_text K) []) (c__law_written : C8.Cal P w K mg base 1 "_law_written" (sp__law_written K) []) (z_len : mg "len" = none) (z_range : mg "range" = none) :
    C8.Cal P w K mg base 3 "_law_wrong" (sp__law_wrong K) [] := by
  refine cal_of D sc__law_wrong (fun vs H Q E h => ?_) (fun f cdv A outer s H vs Q E hr h => ?_)
  · obtain ⟨_, _, _, rfl, _⟩ := h
    rfl
  refine ⟨_, (pss_cons (ps_set (i := 3) sc__law_wrong.nd rfl (.inl rfl) (C8.pe_c c__law_digit hr (by decide) (by rfl) (pa_cons (pv 0) (pa_cons pe_int pa_nil))))
    (pss_cons (ps_set (i := 4) sc__law_wrong.nd rfl (.inl rfl) (pe_join pe_str (pe_lc (own := [("k", 6)]) (g := gName 6) (tt := tYes) rfl sc__law_wrong.nd (pi_range1 rfl z_range (pa_cons (pe_op op_add pe_int (C8.pe_c c__law_digit hr (by decide) (by rfl) (pa_cons (pv 0) (pa_cons pe_int pa_nil)))) pa_nil)) (blkOk_by (N := n__law_wrong) (sc := C8.fnScope s__law_wrong) (by decide +kernel)) (fun _ _ _ _ _ => pg_name (i := 6) sc__law_wrong.nd rfl (Or.inl rfl)) (fun _ _ _ _ _ => pts_nil) (fun _ _ _ _ _ => (pe_ix (ix_tupK (K := K) rfl) (pe_tup (pa_cons pe_str (pa_cons pe_str (pa_cons pe_str (pa_cons pe_str pa_nil))))) (C8.pe_c c__law_digit hr (by decide) (by rfl) (pa_cons (pv 0) (pa_cons pe_int pa_nil))) (fun _ _ => rfl))))))
    (pss_cons (ps_if (pt_cmpR op_eq (pv 3) pe_int (nomark _))
      (pss_one (ps_ret (pe_tup (pa_cons (pe_op op_add_str (pe_op op_add_str (pv 4) pe_str) (pv 4)) (pa_cons (pe_op op_add (pv 1) (pe_callB call_len_str (by rfl) z_len PySem.boot_len (pa_cons (pv 4) pa_nil))) (pa_cons pe_str pa_nil))))))
      pss_nil)
    (pss_cons (ps_set (i := 5) sc__law_wrong.nd rfl (.inl rfl) (C8.pe_c c__law_written hr (by decide) (by rfl) (pa_cons (C8.pe_c c__law_field_text hr (by decide) (by rfl) (pa_cons (pv 0) pa_nil)) (pa_cons (pv 2) (pa_cons pe_bl pa_nil)))))
    (pss_cons (ps_if (pt_cmpR op_eq (pv 3) pe_int (nomark _))
      (pss_one (ps_ret (pe_tup (pa_cons (pe_op op_add_str (pv 5) (pv 4)) (pa_cons (pe_op op_add (pv 1) (pe_callB call_len_str (by rfl) z_len PySem.boot_len (pa_cons (pv 5) pa_nil))) (pa_cons pe_str pa_nil))))))
      pss_nil)
    (pss_one (ps_ret (pe_tup (pa_cons (pe_op op_add_str (pe_op op_add_str (pe_op op_add_str (pe_op op_add_str pe_str (pv 4)) (pv 2)) pe_str) (pv 4)) (pa_cons (pv 1) (pa_cons pe_str pa_nil))))))))))), ?_⟩
  obtain ⟨p, o, sp, rfl, d, ho, q⟩ := h
  refine qz_asg (ez_digit (m := 3) (ev_var rfl) ev_c (by decide) (by decide)) d fun kd H1 hkd e1 d1 => ?_
  refine q1_asg (e1_joinP (e1_lcN (PI := fun n => 1 ≤ n ∧ n ≤ 3) (ez_op0 (PI := fun j => j = 1) (e1_int (PI := fun j => j = 1) ev_c rfl) (ez_digit (m := 3) (ev_var rfl) ev_c (by decide) (by decide)) fun i j hi hj => ⟨by omega, by omega⟩) (fun n hn => ⟨by omega, by omega⟩) (fun _ => rfl) fun i => e1_ixUS (K := K) (xs := plL.map SX.S) (eu_tup (ea_cons (ev_is ev_c (by decide +kernel)) (ea_cons (ev_is ev_c (by decide +kernel)) (ea_cons (ev_is ev_c (by decide +kernel)) (ea_cons (ev_is ev_c (by decide +kernel)) ea_nil)))) (by show 4 ≤ 100000; decide)) (ez_digit (m := 4) (ev_var rfl) ev_c (by decide) (by decide)))) d1 fun v H2 hv e2 d2 => ?_
  obtain ⟨pl, rfl, hpl⟩ := hv
  have hp6 := hpl.2.1
  have x2 := wx_trans e1 e2
  have ret : ∀ {H0 : Hp} {te : TE} {σ : L2.St} {w : List Nat} {dd : Nat} {r : Str}, Ex (wo p H) H0 → Dr p H0 → EvU te σ H0 [.str (SX.S w), .int ((o + dd : Nat) : Int), .str r] → BadW sp w dd r → w.length ≤ 100 → tRet te { nx := fun _ H' => Q .non H', rt := Q } σ H0 := fun {H0 te σ w dd r} e d hu hb hl => hu H0 (Ex.refl H0) _ fun q' H3 hq e3 h3 => by
    refine q q' H3 w dd r hb hl ?_ (e.trans e3) (d.ex e3) h3
    cases z : H q' with
    | none => rfl
    | some u =>
      by_cases hp : q' = p
      · obtain ⟨ys, hy⟩ := d.at
        rw [← hp, hq] at hy
        cases hy
      · have := e q' u (by rw [wo_ne hp]; exact z)
        rw [hq] at this
        cases this
  have lenS : ∀ {l : List Nat} {H0 : Hp} {te : TE} {σ : L2.St}, Ev te σ H0 (.str (SX.S l)) → l.length ≤ 100 → Ev (tCB (fun xs H Q => ∃ z, xs = [.str z] ∧ z.length ≤ sizeLine ∧ Q (.int z.length) H) (tCons te tNil)) σ H0 (.int (l.length : Nat)) := fun {l H0 te σ} h hl => ev_is (ev_lenS h (by rw [SX.S_len]; omega)) (by rw [SX.S_len])
  have q34 : ∀ {H0 : Hp} {σ : L2.St}, Ev (tC (.str (PySem.Str.ofString "\""))) σ H0 (.str (SX.S [34])) := ev_is ev_c (by decide +kernel)
  have q10 : ∀ {H0 : Hp} {σ : L2.St}, Ev (tC (.str (PySem.Str.ofString "\n"))) σ H0 (.str (SX.S [10])) := ev_is ev_c (by decide +kernel)
  have cat : ∀ {a b : List Nat} {H0 : Hp} {ta tb : TE} {σ : L2.St}, Ev ta σ H0 (.str (SX.S a)) → Ev tb σ H0 (.str (SX.S b)) → a.length + b.length ≤ 1000 → Ev (tOp (fun x y H Q => ∃ i j, x = .str i ∧ y = .str j ∧ i.length + j.length ≤ sizeLine ∧ Q (.str (i ++ j)) H) ta tb) σ H0 (.str (SX.S (a ++ b))) := fun {a b H0 ta tb σ} h1 h2 hl => ev_is (ev_cat h1 h2 (by rw [SX.S_len, SX.S_len]; omega)) (by rw [SX.S_cat])
  refine q_when (b := decide (V.int kd = V.int 0)) (et_test (ev_op (ev_var rfl) ev_c (rv_eq rfl))) (fun _ H3 e3 => ?_) fun _ H3 e3 => ?_
  · refine ret (x2.trans e3) (d2.ex e3) (eu_tup (ea_cons (cat (cat (ev_var rfl) q34 (by show _ + 1 ≤ _; omega)) (ev_var rfl) (by rw [List.length_append]; show _ + 1 + _ ≤ _; omega)) (ea_cons (ev_op (ev_var rfl) (lenS (ev_var rfl) (by omega)) rv_I0) (ea_cons ev_c ea_nil))) (by show 3 ≤ 100000; decide)) ?_ ?_
    · have := BadW.inn (sp := sp) pl hpl
      rwa [show pl ++ 34 :: pl = pl ++ [34] ++ pl by simp] at this
    · rw [List.length_append, List.length_append]
      show _ + 1 + _ ≤ _
      omega
  refine q1_asg (e1_wrT (e1_ft (ev_var rfl)) (fun _ => ev_var rfl) fun _ => ev_c) (d2.ex e3) fun v H4 hv e4 d4 => ?_
  obtain ⟨s, rfl, hsl⟩ := hv
  have hw := wr_le (m := true) hsl
  have x4 := wx_trans (x2.trans e3) e4
  refine q_when (b := decide (V.int kd = V.int 1)) (et_test (ev_op (ev_var rfl) ev_c (rv_eq rfl))) (fun _ H5 e5 => ?_) fun _ H5 e5 => ?_
  · refine ret (x4.trans e5) (d4.ex e5) (eu_tup (ea_cons (cat (ev_var rfl) (ev_var rfl) (by omega)) (ea_cons (ev_op (ev_var rfl) (lenS (ev_var rfl) (by omega)) rv_I0) (ea_cons ev_c ea_nil))) (by show 3 ≤ 100000; decide)) (BadW.aft s pl hpl) ?_
    rw [List.length_append]
    omega
  · refine ret (dd := 0) (x4.trans e5) (d4.ex e5) (eu_tup (ea_cons (cat (cat (cat (cat q34 (ev_var rfl) (by show 1 + _ ≤ _; omega)) (ev_var rfl) (by rw [List.length_append]; show 1 + _ + 1 ≤ _; omega)) q10 (by rw [List.length_append, List.length_append]; show 1 + _ + 1 + 1 ≤ _; omega)) (ev_var rfl) (by rw [List.length_append, List.length_append, List.length_append]; show 1 + _ + 1 + 1 + _ ≤ _; omega)) (ea_cons (ev_var rfl) (ea_cons ev_c ea_nil))) (by show 3 ≤ 100000; decide)) ?_ ?_
    · have := BadW.opn (sp := sp) pl hpl
      rwa [show 34 :: (pl ++ sp :: 10 :: pl) = [34] ++ pl ++ [sp] ++ [10] ++ pl by simp] at this
    · rw [List.length_append, List.length_append, List.length_append, List.length_append]
      show 1 + _ + 1 + 1 + _ ≤ _
      omega
end
open Dg
def sp_Column____init__ (K : PySem.W.Frag) : Sp := fun vs H Q _ => ∃ (p dx : Addr) (x y z : V), vs = [.ref p, x, y, z] ∧ H p = some (.ins (clsAt K "Column") dx []) ∧ ∀ H', Ex (wo p H) H' → Q .non H'
def sp_law (K : PySem.W.Frag) : Sp := fun vs H Q _ => ∃ (a : Addr) (ns : List Int), vs = [.ref a] ∧ SqL K H a (ns.map V.int) ∧ ns.length ≤ 63 ∧ ∀ H', Q (.bl true) H'
theorem sp_law_of {K : PySem.W.Frag} {H : Hp} {a : Addr} {ns : List Int} (hl : ns.length ≤ 63) (hS : SqL K H a (ns.map V.int)) : sp_law K [.ref a] H (fun v _ => v = .bl true) fun _ _ _ => False :=
  ⟨a, ns, rfl, hS, hl, fun _ => rfl⟩
theorem rec_abs (sp : Nat) : ∀ n : Nat, recT sp (List.replicate n (([97, 98], false) : Fl) ++ [([], false)]) = abs_ sp n
  | 0 => rfl
  | n + 1 => by
    have ih := rec_abs sp n
    rw [List.replicate_succ]
    show recT sp (([97, 98], false) :: (List.replicate n (([97, 98], false) : Fl) ++ [([], false)])) = [97, 98, sp] ++ abs_ sp n
    rw [← ih]
    cases n with
    | zero => rfl
    | succ n => rfl
theorem body_tl (sp : Nat) (r : List Fl) : ∀ rs : List (List Fl), bodyT sp rs (some r) = bodyT sp rs none ++ recT sp r
  | [] => rfl
  | x :: rs => by
    show recT sp x ++ 10 :: bodyT sp rs (some r) = (recT sp x ++ 10 :: bodyT sp rs none) ++ recT sp r
    rw [body_tl sp r rs, List.append_assoc]
    rfl
theorem good_T {sp n : Nat} {rs : List (List Fl)} (hs : sp = 44 ∨ sp = 59) (hrs : ∀ x ∈ rs, okRec sp x) (hl : (bodyT sp rs none).length ≤ 1000) (hn : n ≤ 2) : GoodT (bodyT sp rs none ++ abs_ sp n) sp := by
  have hos : okSep sp := by rcases hs with h | h; exact .inl h; exact .inr (.inl h)
  have hal := abs_len sp n
  by_cases h0 : n = 0
  · subst h0
    exact ⟨rs, none, List.append_nil _, hrs, (fun r h => nomatch h), hos, by omega⟩
  · have hb := body_tl sp (List.replicate n (([97, 98], false) : Fl) ++ [([], false)]) rs
    rw [rec_abs] at hb
    refine ⟨rs, some (List.replicate n (([97, 98], false) : Fl) ++ [([], false)]), hb.symm, hrs, fun r h => ?_, hos, by rw [hb, List.length_append]; omega⟩
    cases h
    refine ⟨⟨by simp, fun f hf => ?_⟩, fun z => ?_⟩
    · rcases List.mem_append.mp hf with h | h
      · rw [(List.mem_replicate.mp h).2]
        intro _ c hc
        simp only [List.mem_cons, List.not_mem_nil, or_false] at hc
        rcases hc with rfl | rfl <;> rcases hs with rfl | rfl <;> decide
      · rw [List.mem_singleton.mp h]
        exact fun _ c hc => nomatch hc
    · rw [rec_abs] at z
      rw [z] at hal
      simp at hal
      omega
theorem bad_T {sp n d : Nat} {rs : List (List Fl)} {w jk : List Nat} {r : Str} (hs : sp = 44 ∨ sp = 59) (hrs : ∀ x ∈ rs, okRec sp x) (hl : (bodyT sp rs none).length ≤ 1000) (hn : n ≤ 2) (hw : BadW sp w d r) (hwl : w.length ≤ 100) (hj : r = rzOpen → jk = []) (hjl : jk.length ≤ 10) :
    BadT ((bodyT sp rs none ++ abs_ sp n) ++ (w ++ jk)) sp ((bodyT sp rs none ++ abs_ sp n).length + d) r := by
  have hos : okSep sp := by rcases hs with h | h; exact .inl h; exact .inr (.inl h)
  have hal := abs_len sp n
  have hpl : (bodyT sp rs none ++ abs_ sp n).length = (bodyT sp rs none).length + 3 * n := by rw [List.length_append, hal]
  have hb := hw.bad (pre := bodyT sp rs none ++ abs_ sp n) (jk := jk) hs hj rfl
  rw [hpl] at hb ⊢
  have hd : ((bodyT sp rs none ++ abs_ sp n) ++ (w ++ jk)).drop ((bodyT sp rs none).length + 3 * n) = w ++ jk := by rw [← hpl, List.drop_left]
  refine ⟨rs, n, hrs, by rw [hd, List.append_assoc], by rw [List.length_append, hpl]; omega, hb, hos, by rcases hs with h | h <;> omega, ?_⟩
  rw [List.length_append, hpl, List.length_append]
  omega
theorem rz_S (r : Str) : r = SX.S r.cps.toList := by
  show r = ⟨r.cps.toList.toArray⟩
  rw [Array.toArray_toList]
theorem rz_t : ∀ {sp d : Nat} {w : List Nat} {r : Str}, BadW sp w d r → (!decide (V.str (SX.S (r.cps.toList.take 1)) = V.str (PySem.Str.ofString "t"))) = true → r ≠ rzOpen := fun {sp d w r} h hb z => by
  subst z
  rw [show V.str (SX.S (rzOpen.cps.toList.take 1)) = V.str (PySem.Str.ofString "t") by decide +kernel, decide_eq_true rfl] at hb
  cases hb
theorem rz_ok {sp d : Nat} {w : List Nat} {r : Str} (h : BadW sp w d r) : r.length ≤ 100 ∧ PyData.strOk r = true := by
  cases h <;> decide +kernel
theorem sh_due {o : Int} {r : Str} (h : PyData.strOk r = true) : SeqAt.shaped (.tuple [.int o, .str r, .bool true]) = true := by
  show ((true && (PyData.strOk r && (true && true))) && _) = true
  rw [h]
  rfl
section
variable {K : PySem.W.Frag} {σ : L2.St} {H : Hp} {p : Addr} {ta tb tc te : TE} {tr : TA} {t u : TT} {D : Ends} {tz tu : TS} {E E2 : XK} {PB : Bool → Prop} {xs : List V} {ds : List PyData}
theorem e1_ixUT {xs : List Str} {m : Nat} (hm : m ≤ xs.length) (ha : EvU ta σ (wo p H) (xs.map V.str)) (hb : EvD1 tb σ p H (ZP fun j => 0 ≤ j ∧ j < (m : Int))) : EvD1 (tOp (rIxT K) ta tb) σ p H (fun v => ∃ s ∈ xs.take m, v = .str s) := fun H1 e d Q q =>
  ha H1 e _ fun t H2 ht e2 h2 => hb H2 (e.trans e2) (d.ex e2) _ fun y H3 ⟨j, ey, hj⟩ e3 d3 => by
    subst ey
    obtain ⟨jn, rfl⟩ := Int.eq_ofNat_of_zero_le hj.1
    have hjn : jn < xs.length := by omega
    have htp : t ≠ p := fun z => by
      obtain ⟨ys, hy⟩ := d.at
      rw [← z, ht] at hy
      cases hy
    have h3 : H3 t = some (.tup (xs.map V.str)) := e3 _ _ (by rw [wo_ne htp]; exact h2)
    refine rv_ixT (st_of h3) (atI_nat (j := jn) (v := .str xs[jn]) (by rw [List.getElem?_map, List.getElem?_eq_getElem hjn]; rfl)) H3 (Ex.refl H3) Q fun H4 e4 => q _ H4 ⟨xs[jn], ?_, rfl⟩ (wx_trans (wx_of e2) (wx_trans e3 (wx_of e4))) (d3.ex e4)
    exact List.mem_of_getElem? (i := jn) (by rw [List.getElem?_take_of_lt (by omega), List.getElem?_eq_getElem hjn])
theorem q_good {i sp : Nat} (ha : Ev ta σ H (.ref p)) (hb : Ev tb σ H (.str (SX.S [sp]))) (d : Dr p H) (hs : okSep sp) (k : ∀ rs n H1, Ex (wo p H) H1 → Dr p H1 → (∀ x ∈ rs, okRec sp x) → n ≤ 2 → (bodyT sp rs none).length ≤ 1000 → tz D (σ.set i (some (.str (SX.S (bodyT sp rs none ++ abs_ sp n))))) H1) : tSeq (tAsg (tCall (sp__law_good K) [] E (tCons ta (tCons tb tNil))) (gName i)) tz D σ H :=
  ha H (Ex.refl H) _ fun H1 e1 => hb H1 e1 _ fun H2 e2 => ⟨p, sp, rfl, d.ex (e1.trans e2), hs, fun H3 rs n e3 d3 hr hn hl => k rs n H3 (wx_trans (wx_of (e1.trans e2)) e3) d3 hr hn hl⟩
theorem q_wrong {g : TG} {o sp : Nat} (ha : Ev ta σ H (.ref p)) (hb : Ev tb σ H (.int (o : Int))) (hc : Ev tc σ H (.str (SX.S [sp]))) (d : Dr p H) (ho : o ≤ 10000) (k : ∀ q w dd r H1, BadW sp w dd r → w.length ≤ 100 → Ex (wo p H) H1 → Dr p H1 → H1 q = some (.tup [.str (SX.S w), .int ((o + dd : Nat) : Int), .str r]) → g (.ref q) σ H1 (tz D)) : tSeq (tAsg (tCall (sp__law_wrong K) [] E (tCons ta (tCons tb (tCons tc tNil)))) g) tz D σ H :=
  ha H (Ex.refl H) _ fun H1 e1 => hb H1 e1 _ fun H2 e2 => hc H2 (e1.trans e2) _ fun H3 e3 => ⟨p, o, sp, rfl, d.ex ((e1.trans e2).trans e3), ho, fun q H4 w dd r hw hl hq e4 d4 h4 => k q w dd r H4 hw hl (wx_trans (wx_of ((e1.trans e2).trans e3)) e4) d4 h4⟩
theorem edt_andP {b : Bool} (h1 : Ev te σ (wo p H) (.bl b)) (h2 : EvDT u σ p H (fun _ => True)) : EvDT (tAnd (tTest te) u) σ p H (fun c => c = true → b = true) := fun H1 e d Q q =>
  h1 H1 e _ fun H2 e2 => ⟨b, rfl, by
    cases b with
    | true =>
      rw [if_pos rfl]
      exact h2 H2 (e.trans e2) (d.ex e2) Q fun c H3 _ e3 d3 => q c H3 (fun _ => rfl) (wx_trans (wx_of e2) e3) d3
    | false =>
      rw [if_neg (fun h => nomatch h)]
      exact q false H2 (fun h => nomatch h) (wx_of e2) (d.ex e2)⟩
theorem s1_ifP (ht : EvDT t σ p H PB) (d : Dr p H) (h1 : ∀ H1, PB true → Ex (wo p H) H1 → Dr p H1 → tu D σ H1) (h2 : ∀ H1, PB false → Ex (wo p H) H1 → Dr p H1 → D.nx σ H1) : tIfS t tu tNext D σ H := ht H (wo_le p H) d _ fun b H1 hb e1 d1 => by
  cases b with
  | true =>
    show tu D σ H1
    exact h1 H1 hb e1 d1
  | false =>
    show D.nx σ H1
    exact h2 H1 hb e1 d1
theorem ed_U (h : EvU te σ H xs) (hd : ∀ H1, DpAll K H1 xs ds) : EvD K te σ H (.tuple ds) := fun H1 e Q q => h H1 e _ fun p H2 _ e2 h2 => q _ H2 e2 (.tup (st_of h2) (hd H2))
/-- _law_told(t, separator, ..) of a text that is refused -/
theorem eu_told {tx : List Nat} {sp off : Nat} {r : Str} (ha : Ev ta σ H (.str (SX.S tx))) (hb : Ev tb σ H (.str (SX.S [sp]))) (hc : ∀ H1, Ex H H1 → ∀ Q : VK, (∀ v H2, Ex H1 H2 → Q v H2) → tc σ H1 Q) (h : BadT tx sp off r) : EvU (tCall (sp__law_told K) [] E (tCons ta (tCons tb (tCons tc tNil)))) σ H [.int (off : Int), .str r, .bl true] := fun H1 e Q q =>
  ha H1 e _ fun H2 e2 => hb H2 (e.trans e2) _ fun H3 e3 => hc H3 ((e.trans e2).trans e3) _ fun v H4 e4 => ⟨tx, sp, v, rfl, .inr ⟨off, r, h, fun p H5 hp e5 h5 => q p H5 (fresh_back ((e2.trans e3).trans e4) hp) (((e2.trans e3).trans e4).trans e5) h5⟩⟩
theorem ec_told {tx : List Nat} {sp : Nat} (ha : Ev ta σ H (.str (SX.S tx))) (hb : Ev tb σ H (.str (SX.S [sp]))) (hc : Ev tc σ H .non) (h : GoodT tx sp) : Ev (tCall (sp__law_told K) [] E (tCons ta (tCons tb (tCons tc tNil)))) σ H .non :=
  ev_call (ea_cons ha (ea_cons hb (ea_cons hc ea_nil))) fun H1 e1 Q q E => ⟨tx, sp, .non, rfl, .inl ⟨rfl, h, q⟩⟩
theorem any_ev {v : V} (h : Ev te σ H v) : ∀ H1, Ex H H1 → ∀ Q : VK, (∀ v H2, Ex H1 H2 → Q v H2) → te σ H1 Q := fun H1 e Q q => h H1 e Q fun H2 e2 => q v H2 e2
/-- [Column(..)] -/
theorem any_col {x y z : V} (h : EvA tr σ H [x, y, z]) : ∀ H1, Ex H H1 → ∀ Q : VK, (∀ v H2, Ex H1 H2 → Q v H2) → tLst (tCons (tMake (clsAt K "Column") (sp_Column____init__ K) [] C8.E0 tr) tNil) σ H1 Q := fun H1 e Q q =>
  h H1 e _ fun H2 e2 => fun x' dx hx hdx ne => ⟨x', dx, x, y, z, rfl, upd_same, fun H' e' => ⟨rfl, sz_of (by show 1 ≤ 100000; decide), fun l hl => q _ _ (e2.trans (fun b o hb => by
    have nb : b ≠ x' := fun z => by rw [z, hx] at hb; cases hb
    have nd : b ≠ dx := fun z => by rw [z, hdx] at hb; cases hb
    have h' := e' b o (by rw [wo_ne nb, upd_ne nb, upd_ne nd]; exact hb)
    rw [upd_ne (ne_of_none h' hl)]
    exact h'))⟩⟩
end
section
variable {P : Program} {w : World} {K : PySem.W.Frag} {mg : Str → Option Value} {base : Heap}
theorem ok_Column____init__ (D : MetD K "Column" "__init__" "Column.__init__" s_Column____init__ ["self", "name", "kind", "nullable"]) (C_Column : ClsD K mg "Column" ["name", "kind", "nullable"]) :
    C8.Mak P w K mg base 1 "Column" (clsAt K "Column") (sp_Column____init__ K) [] := by
  refine mak_of C_Column D sc_Column____init__ (fun vs H Q E h => ?_) (fun f cdv A outer s H vs Q E hr h => ?_)
  · obtain ⟨_, _, _, _, _, rfl, _⟩ := h
    rfl
  refine ⟨_, (pss_cons (ps_fld (pv 0) (pv 1) rfl)
    (pss_cons (ps_fld (pv 0) (pv 2) rfl)
    (pss_one (ps_fld (pv 0) (pv 3) rfl)))), ?_⟩
  obtain ⟨p, dx, x, y, z, rfl, hp, q⟩ := h
  have cl := C_Column.cl
  refine q_fld (ev_var rfl) (fun _ _ => ev_var rfl) hp cl C_Column.na.1 (by decide) fun H1 e1 => ?_
  have l1 : (putF "name" x []).length < 1000 := Nat.lt_of_le_of_lt (putF_le _ _ _) (by decide)
  have l2 : (putF "kind" y (putF "name" x [])).length < 1000 := Nat.lt_of_le_of_lt (putF_le _ _ _) (Nat.lt_of_le_of_lt (Nat.succ_le_succ (putF_le _ _ _)) (by decide))
  refine q_fld (ev_var rfl) (fun _ _ => ev_var rfl) upd_same cl C_Column.na.2.1 l1 fun H2 e2 => ?_
  refine s_fld (ev_var rfl) (fun _ _ => ev_var rfl) upd_same cl C_Column.na.2.2.1 l2 fun H3 e3 => q _ ?_
  have xa : Ex (wo p H) (upd H1 p (.ins (clsAt K "Column") dx (putF "name" x []))) := wx_mut (wx_of e1)
  have xb : Ex (wo p H) (upd H2 p (.ins (clsAt K "Column") dx (putF "kind" y (putF "name" x [])))) := wx_mut (xa.trans e2)
  exact wx_mut (xb.trans e3)
theorem ok_law {f : Addr} {fd : FuncData} (D : C8.Def K mg "law" s_law f fd) (c_Column____init__ : C8.Mak P w K mg base 1 "Column" (clsAt K "Column") (sp_Column____init__ K) []) (c__law_cell : C8.Cal P w K mg base 1 "_law_cell" (sp__law_cell K) []) (c__law_digit : C8.Cal P w K mg base 1 "_law_digit" (sp__law_digit K) []) (c__law_good : C8.Cal P w K mg base 3 "_law_good" (sp__law_good K) []) (c__law_state : C8.Cal P w K mg base 1 "_law_state" (sp__law_state K) []) (c__law_told : C8.Cal P w K mg base 7 "_law_told" (sp__law_told K) []) (c__law_wrong : C8.Cal P w K mg base 3 "_law_wrong" (sp__law_wrong K) []) (z_len : mg "len" = none) (z_max : mg "max" = none) (z_min : mg "min" = none) (z_range : mg "range" = none) :
    FnOk P w K mg base C8.CX0 8 f fd ["script"] (sp_law K) := by
  refine C8.fn0 D.fn sc_law (fun vs H Q E h => ?_) (fun cdv A outer s H vs Q E hr h => ?_)
  · obtain ⟨_, _, rfl, _⟩ := h
    rfl
  refine ⟨_, (pss_cons (ps_for PassesOwn.never rfl (pi_range1 rfl z_range (pa_cons (pe_callB (call_min2 rfl) (by rfl) z_min (by decide +kernel) (pa_cons pe_int (pa_cons (pe_callB (call_max2 rfl) (by rfl) z_max (by decide +kernel) (pa_cons pe_int (pa_cons (pe_callB call_len_seq (by rfl) z_len PySem.boot_len (pa_cons (pv 0) pa_nil)) pa_nil))) pa_nil))) pa_nil)) (pg_name (i := 1) sc_law.nd rfl (.inl rfl))
      (pss_cons (ps_set (i := 2) sc_law.nd rfl (.inl rfl) (C8.pe_c c__law_state hr (by decide) (by rfl) (pa_cons (C8.pe_c c__law_cell hr (by decide) (by rfl) (pa_cons (pv 0) (pa_cons (pv 1) pa_nil))) (pa_cons (pv 1) pa_nil))))
    (pss_cons (ps_set (i := 3) sc_law.nd rfl (.inl rfl) (pe_ix ix_tup (pe_tup (pa_cons pe_str (pa_cons pe_str (pa_cons pe_str pa_nil)))) (C8.pe_c c__law_digit hr (by decide) (by rfl) (pa_cons (pv 2) (pa_cons pe_int pa_nil))) (fun _ _ => rfl)))
    (pss_cons (ps_set (i := 4) sc_law.nd rfl (.inl rfl) (C8.pe_c c__law_good hr (by decide) (by rfl) (pa_cons (pv 2) (pa_cons (pv 3) pa_nil))))
    (pss_cons (ps_asg (C8.pe_c c__law_wrong hr (by decide) (by rfl) (pa_cons (pv 2) (pa_cons (pe_callB call_len_str (by rfl) z_len PySem.boot_len (pa_cons (pv 4) pa_nil)) (pa_cons (pv 3) pa_nil)))) (pg_tup rfl (pgs_cons (pg_name (i := 5) sc_law.nd rfl (.inl rfl)) (pgs_cons (pg_name (i := 6) sc_law.nd rfl (.inl rfl)) (pgs_cons (pg_name (i := 7) sc_law.nd rfl (.inl rfl)) pgs_nil)))))
    (pss_cons (ps_set (i := 8) sc_law.nd rfl (.inl rfl) (pe_op op_add_str (pv 4) (pv 5)))
    (Evl.pss_cut (ps_if (PW.pt (pw_and (pt_cmpR op_ne (pe_slice C8.sl_txt (pv 7) po_none (po_some pe_int)) pe_str (nomark _)) (pw_and1 (pt_cmpR op_eq (C8.pe_c c__law_digit hr (by decide) (by rfl) (pa_cons (pv 2) (pa_cons pe_int pa_nil))) pe_int (nomark _)))))
      (pss_one (ps_set (i := 8) sc_law.nd rfl (.inl rfl) (pe_op op_add_str (pe_op op_add_str (pe_op op_add_str (pe_op op_add_str (pv 8) (pv 3)) pe_str) pe_str) pe_str)))
      pss_nil)
    (pss_cons (ps_set (i := 9) sc_law.nd rfl (.inl rfl) (pe_tup (pa_cons (pv 6) (pa_cons (pv 7) (pa_cons pe_bl pa_nil)))))
    (pss_cons (ps_if (PW.pt (pw_or (pt_cmpR (op_neD (hu64 hr)) (C8.pe_c c__law_told hr (by decide) (by rfl) (pa_cons (pv 8) (pa_cons (pv 3) (pa_cons pe_non pa_nil)))) (pv 9) (nomark _)) (pw_or1 (pt_cmpR (op_neD (hu64 hr)) (C8.pe_c c__law_told hr (by decide) (by rfl) (pa_cons (pv 8) (pa_cons (pv 3) (pa_cons (pe_lst (pa_cons (C8.pe_mk c_Column____init__ hr (by decide) (by rfl) (pa_cons pe_str (pa_cons pe_str (pa_cons pe_bl pa_nil)))) pa_nil)) pa_nil)))) (pv 9) (nomark _)))))
      (pss_one (ps_ret pe_bl))
      pss_nil)
    (pss_one (ps_if (pt_cmpR op_notN (C8.pe_c c__law_told hr (by decide) (by rfl) (pa_cons (pv 4) (pa_cons (pv 3) (pa_cons pe_non pa_nil)))) pe_non (nomark _))
      (pss_one (ps_ret pe_bl))
      pss_nil)))))))))))
    (pss_one (ps_ret pe_bl))), ?_⟩
  obtain ⟨a, ns, rfl, hS, h63, q⟩ := h
  have hm : ∃ many : Int, (if (if (((ns.map V.int).length : Nat) : Int) > 2 then (((ns.map V.int).length : Nat) : Int) else 2) < 6 then (if (((ns.map V.int).length : Nat) : Int) > 2 then (((ns.map V.int).length : Nat) : Int) else 2) else 6) = many ∧ 0 ≤ many ∧ many ≤ 6 := by
    refine ⟨_, rfl, ?_, ?_⟩ <;> (split <;> split <;> omega)
  obtain ⟨many, hmany, hm0, hm6⟩ := hm
  refine q_forR1 (n := many) (ea_cons (ev_is (ev_min2 ev_c (Evl.ev_max2 ev_c (ev_len (ev_var rfl) hS))) (by rw [hmany])) ea_nil) ⟨by omega, by omega⟩ (fun i σ' H' => ∃ v1 v2 v3 v4 v5 v6 v7 v8 v9 : Option V, σ' = [some (.ref a), v1, v2, v3, v4, v5, v6, v7, v8, v9] ∧ Ex H H') (fun H1 e1 => ⟨_, _, _, _, _, _, _, _, _, rfl, e1⟩) (fun i σ' Ho hi pv => ?_) fun σ' H' pv => ?_
  · obtain ⟨v1, v2, v3, v4, v5, v6, v7, v8, v9, rfl, xo⟩ := pv
    refine q_asgC (ec_state (ec_cell (k := (i : Int)) (ev_var rfl) (ev_var rfl) (ex_l xo hS) (by omega)) (ev_var rfl)) fun ps Ha hps ea da => ?_
    refine q1_asg (e1_ixUT (K := K) (xs := [",", ";", " "]) (m := 2) (by decide) (eu_tup (ea_cons ev_c (ea_cons ev_c (ea_cons ev_c ea_nil))) (by show 3 ≤ 100000; decide)) (ez_digit (m := 2) (ev_var rfl) ev_c (by decide) (by decide))) da fun v Hb hv eb db => ?_
    have hsp : ∃ sp, v = .str (SX.S [sp]) ∧ (sp = 44 ∨ sp = 59) := by
      obtain ⟨s0, hs0, rfl⟩ := hv
      have hs1 : s0 ∈ ([",", ";"] : List Str) := hs0
      simp only [List.mem_cons, List.not_mem_nil, or_false] at hs1
      rcases hs1 with rfl | rfl
      · exact ⟨44, by decide +kernel, .inl rfl⟩
      · exact ⟨59, by decide +kernel, .inr rfl⟩
    obtain ⟨sp, rfl, hs⟩ := hsp
    have hos : okSep sp := by rcases hs with h | h; exact .inl h; exact .inr (.inl h)
    refine q_good (ev_var rfl) (ev_var rfl) db hos fun rs n Hc ec dc hrs hn hbl => ?_
    have hal := abs_len sp n
    generalize hpre : bodyT sp rs none ++ abs_ sp n = pre
    have hpl : pre.length ≤ 1006 := by rw [← hpre, List.length_append, hal]; omega
    refine q_wrong (o := pre.length) (ev_var rfl) (ev_is (ev_lenS (s := SX.S pre) (ev_var rfl) (by rw [SX.S_len]; omega)) (by rw [SX.S_len])) (ev_var rfl) dc (by omega) fun pq w dd r Hd hw hwl ed dd' hpq => ?_
    refine gt3 (st_of hpq) ?_
    obtain ⟨hrl, hrok⟩ := rz_ok hw
    refine q_asg (v := .str (SX.S (pre ++ w))) (ev_is (ev_cat (a := SX.S pre) (b := SX.S w) (ev_var rfl) (ev_var rfl) (by rw [SX.S_len, SX.S_len]; omega)) (by rw [SX.S_cat])) fun He ee => ?_
    have xe : Ex H He := xo.trans (wx_back hps ea (wx_trans (wx_trans eb ec) (wx_trans ed (wx_of ee))))
    have dde := dd'.ex ee
    refine q_cut (M := fun σ2 H2 => ∃ jk : List Nat, σ2 = [some (.ref a), some (.int (i : Int)), some (.ref ps), some (.str (SX.S [sp])), some (.str (SX.S pre)), some (.str (SX.S w)), some (.int ((pre.length + dd : Nat) : Int)), some (.str r), some (.str (SX.S (pre ++ (w ++ jk)))), v9] ∧ Ex H H2 ∧ (r = rzOpen → jk = []) ∧ jk.length ≤ 10) ?_ fun σ2 Hf pw => ?_
    · refine s1_ifP (edt_andP (b := !decide (V.str (SX.S (r.cps.toList.take 1)) = V.str (PySem.Str.ofString "t"))) (ev_op (ev_slT (l := r.cps.toList) (i := 1) (ev_is (ev_var rfl) (by rw [← rz_S])) (fun _ _ _ q => q) ev_c (by show r.length ≤ _; omega)) ev_c (rv_ne rfl)) (edt_test (ez_eq (ez_digit (m := 2) (ev_var rfl) ev_c (by decide) (by decide)) (e1_int (PI := fun j => j = 0) ev_c rfl)))) dde (fun Hf hb ef df => ?_) fun Hf hb ef df => ?_
      · have hne := rz_t hw (hb rfl)
        refine s_asg (v := .str (SX.S (pre ++ (w ++ [sp, 122, 34, 122, 10, 34])))) (ev_is (ev_cat (a := SX.S (pre ++ w ++ [sp] ++ [122, 34, 122] ++ [10])) (b := SX.S [34]) (ev_is (ev_cat (a := SX.S (pre ++ w ++ [sp] ++ [122, 34, 122])) (b := SX.S [10]) (ev_is (ev_cat (a := SX.S (pre ++ w ++ [sp])) (b := SX.S [122, 34, 122]) (ev_is (ev_cat (a := SX.S (pre ++ w)) (b := SX.S [sp]) (ev_var rfl) (ev_var rfl) ?_) (by rw [SX.S_cat])) (ev_is ev_c (by decide +kernel)) ?_) (by rw [SX.S_cat])) (ev_is ev_c (by decide +kernel)) ?_) (by rw [SX.S_cat])) (ev_is ev_c (by decide +kernel)) ?_) (by rw [SX.S_cat]; simp)) fun Hg eg => ⟨[sp, 122, 34, 122, 10, 34], rfl, xo.trans (wx_back hps ea (wx_trans (wx_trans eb ec) (wx_trans (wx_trans ed (wx_of ee)) (wx_trans ef (wx_of eg))))), fun z => absurd z hne, by show 6 ≤ 10; decide⟩
        · rw [SX.S_len, SX.S_len, List.length_append]
          show _ + 1 ≤ _
          omega
        · rw [SX.S_len, SX.S_len, List.length_append, List.length_append]
          show _ + 1 + 3 ≤ _
          omega
        · rw [SX.S_len, SX.S_len, List.length_append, List.length_append, List.length_append]
          show _ + 1 + 3 + 1 ≤ _
          omega
        · rw [SX.S_len, SX.S_len, List.length_append, List.length_append, List.length_append, List.length_append]
          show _ + 1 + 3 + 1 + 1 ≤ _
          omega
      · exact ⟨[], (by rw [List.append_nil]; rfl), xo.trans (wx_back hps ea (wx_trans (wx_trans eb ec) (wx_trans (wx_trans ed (wx_of ee)) ef))), fun _ => rfl, by decide⟩
    obtain ⟨jk, rfl, xf, hjk, hjl⟩ := pw
    have hbad : BadT (pre ++ (w ++ jk)) sp (pre.length + dd) r := by
      rw [← hpre]
      exact bad_T hs hrs hbl hn hw hwl hjk hjl
    have hgood : GoodT pre sp := by
      rw [← hpre]
      exact good_T hs hrs hbl hn
    have sh := sh_due (o := ((pre.length + dd : Nat) : Int)) hrok
    have er := PySem.SeqAt.eqv_refl _ (SeqAt.canLay_of_shaped sh)
    refine q_asgU (eu_tup (ea_cons (ev_var rfl) (ea_cons (ev_var rfl) (ea_cons ev_c ea_nil))) (by show 3 ≤ 100000; decide)) fun pd Hg hpd eg hg => ?_
    have dd3 : ∀ H1, DpAll K H1 [.int ((pre.length + dd : Nat) : Int), .str r, .bl true] [.int ((pre.length + dd : Nat) : Int), .str r, .bool true] := fun H1 => .cons (.int _) (.cons (.str _) (.cons (.bl _) .nil))
    have due : ∀ {H0 : Hp} {σ : L2.St}, Ex Hg H0 → σ[9]? = some (some (.ref pd)) → EvD K (tVar 9) σ H0 (.tuple [.int ((pre.length + dd : Nat) : Int), .str r, .bool true]) := fun {H0 σ} e h9 => ed_val (ev_var h9) (.tup (st_of (e _ _ hg)) (dd3 _))
    refine q_when (b := !PyData.eqv (.tuple [.int ((pre.length + dd : Nat) : Int), .str r, .bool true]) (.tuple [.int ((pre.length + dd : Nat) : Int), .str r, .bool true]) || !PyData.eqv (.tuple [.int ((pre.length + dd : Nat) : Int), .str r, .bool true]) (.tuple [.int ((pre.length + dd : Nat) : Int), .str r, .bool true])) (et_or (et_test (ev_neD (ed_U (eu_told (ev_var rfl) (ev_var rfl) (any_ev ev_c) hbad) dd3) (due (Ex.refl _) rfl) sh sh)) fun _ => et_test (ev_neD (ed_U (eu_told (ev_var rfl) (ev_var rfl) (any_col (ea_cons ev_c (ea_cons ev_c (ea_cons ev_c ea_nil)))) hbad) dd3) (due (Ex.refl _) rfl) sh sh)) (fun hb => by rw [er] at hb; cases hb) fun _ Hh eh => ?_
    exact s_when (b := !decide (V.non = .non)) (et_test (ev_op (ec_told (ev_var rfl) (ev_var rfl) ev_c hgood) ev_c rv_notN)) (fun hb => by rw [decide_eq_true rfl] at hb; cases hb) fun _ Hi ei => ⟨_, _, _, _, _, _, _, _, _, rfl, (xf.trans eg).trans (eh.trans ei)⟩
  · obtain ⟨v1, v2, v3, v4, v5, v6, v7, v8, v9, rfl, xo⟩ := pv
    exact s_ret ev_c fun H1 e1 => q H1
end
theorem all_mk {P : Program} {w : World} {K : PySem.W.Frag} {h : Heap} {mg : Str → Option Value} {fa : Addr} (X : K.In h) (G : h.Ns mainGlobals mg) (hfa : mg "law" = some (.ref fa))
    {C_Column : Addr} (qC_Column : PySem.W.nsIn K mainGlobals "Column" = some (some (.ref C_Column))) (pgC_Column : PySem.W.plainGet K C_Column Str.empty = true) (hdC_Column : PySem.W.hasDictIn K C_Column = true) (poC_Column : PySem.W.plainOver K C_Column = true) (saC_Column : PySem.W.findIn K (.ref C_Column) "__setattr__" = some (some (.builtin "object.__setattr__"))) (mkC_Column : PySem.W.makesIn K C_Column = true) (kcC_Column : PySem.W.keepIn K (.ref C_Column) = true)
    (naC_Column_0 : PySem.W.findIn K (.ref C_Column) "name" = some none)
    (naC_Column_1 : PySem.W.findIn K (.ref C_Column) "kind" = some none)
    (naC_Column_2 : PySem.W.findIn K (.ref C_Column) "nullable" = some none)
    {C_Field : Addr} (qC_Field : PySem.W.nsIn K mainGlobals "Field" = some (some (.ref C_Field))) (pgC_Field : PySem.W.plainGet K C_Field Str.empty = true) (hdC_Field : PySem.W.hasDictIn K C_Field = true) (poC_Field : PySem.W.plainOver K C_Field = true) (saC_Field : PySem.W.findIn K (.ref C_Field) "__setattr__" = some (some (.builtin "object.__setattr__"))) (mkC_Field : PySem.W.makesIn K C_Field = true) (kcC_Field : PySem.W.keepIn K (.ref C_Field) = true)
    (naC_Field_0 : PySem.W.findIn K (.ref C_Field) "text" = some none)
    (naC_Field_1 : PySem.W.findIn K (.ref C_Field) "offset" = some none)
    (naC_Field_2 : PySem.W.findIn K (.ref C_Field) "marked" = some none)
    {f0 : Addr} {od0 an0 : Option Addr} {sl0 : Array (Option Value)} {oc0 kV0 dc0 pm0 cd0 ct0 : Value}
    (a0 : PySem.W.findIn K (.ref C_Field) "__init__" = some (some (.ref f0))) (iF0 : PySem.W.isFn K (.ref f0) = true)
    (l0 : K.lookup f0 = some ⟨oc0, od0, .func (PySem.W.fnOf "__init__" "Field.__init__" (C8.fnArgs s_Field____init__) (C8.fnBody s_Field____init__) (C8.fnScope s_Field____init__) .none kV0 dc0 pm0 an0 cd0 ct0), sl0⟩) (b0 : PySem.W.codeIn K cd0 "Field.__init__" = true) (k0 : PySem.W.keepIn K (.ref f0) = true)
    {f1 : Addr} {od1 an1 : Option Addr} {sl1 : Array (Option Value)} {oc1 kV1 dc1 pm1 cd1 ct1 : Value} (a1 : PySem.W.nsIn K mainGlobals "_marked_field" = some (some (.ref f1))) (l1 : K.lookup f1 = some ⟨oc1, od1, .func (PySem.W.fnOf "_marked_field" "_marked_field" (C8.fnArgs s__marked_field) (C8.fnBody s__marked_field) (C8.fnScope s__marked_field) .none kV1 dc1 pm1 an1 cd1 ct1), sl1⟩) (b1 : PySem.W.codeIn K cd1 "_marked_field" = true) (k1 : PySem.W.keepIn K (.ref f1) = true)
    {f2 : Addr} {od2 an2 : Option Addr} {sl2 : Array (Option Value)} {oc2 kV2 dc2 pm2 cd2 ct2 : Value} (a2 : PySem.W.nsIn K mainGlobals "_plain_field" = some (some (.ref f2))) (l2 : K.lookup f2 = some ⟨oc2, od2, .func (PySem.W.fnOf "_plain_field" "_plain_field" (C8.fnArgs s__plain_field) (C8.fnBody s__plain_field) (C8.fnScope s__plain_field) .none kV2 dc2 pm2 an2 cd2 ct2), sl2⟩) (b2 : PySem.W.codeIn K cd2 "_plain_field" = true) (k2 : PySem.W.keepIn K (.ref f2) = true)
    {f3 : Addr} {od3 an3 : Option Addr} {sl3 : Array (Option Value)} {oc3 kV3 dc3 pm3 cd3 ct3 : Value} (a3 : PySem.W.nsIn K mainGlobals "_next_record" = some (some (.ref f3))) (l3 : K.lookup f3 = some ⟨oc3, od3, .func (PySem.W.fnOf "_next_record" "_next_record" (C8.fnArgs s__next_record) (C8.fnBody s__next_record) (C8.fnScope s__next_record) .none kV3 dc3 pm3 an3 cd3 ct3), sl3⟩) (b3 : PySem.W.codeIn K cd3 "_next_record" = true) (k3 : PySem.W.keepIn K (.ref f3) = true)
    {f4 : Addr} {od4 an4 : Option Addr} {sl4 : Array (Option Value)} {oc4 kV4 dc4 pm4 cd4 ct4 : Value} (a4 : PySem.W.nsIn K mainGlobals "split_records" = some (some (.ref f4))) (l4 : K.lookup f4 = some ⟨oc4, od4, .func (PySem.W.fnOf "split_records" "split_records" (C8.fnArgs s_split_records) (C8.fnBody s_split_records) (C8.fnScope s_split_records) .none kV4 dc4 pm4 an4 cd4 ct4), sl4⟩) (b4 : PySem.W.codeIn K cd4 "split_records" = true) (k4 : PySem.W.keepIn K (.ref f4) = true)
    {f5 : Addr} {od5 an5 : Option Addr} {sl5 : Array (Option Value)} {oc5 kV5 dc5 pm5 cd5 ct5 : Value} (a5 : PySem.W.nsIn K mainGlobals "read_separated" = some (some (.ref f5))) (l5 : K.lookup f5 = some ⟨oc5, od5, .func (PySem.W.fnOf "read_separated" "read_separated" (C8.fnArgs s_read_separated) (C8.fnBody s_read_separated) (C8.fnScope s_read_separated) .none kV5 dc5 pm5 an5 cd5 ct5), sl5⟩) (b5 : PySem.W.codeIn K cd5 "read_separated" = true) (k5 : PySem.W.keepIn K (.ref f5) = true)
    {Dk5 : Addr} (kd5 : kV5 = .ref Dk5)
    (kn5_0 : PySem.W.nsIn K Dk5 "head" = some (some (.bool true)))
    {f6 : Addr} {od6 an6 : Option Addr} {sl6 : Array (Option Value)} {oc6 kV6 dc6 pm6 cd6 ct6 : Value}
    (a6 : PySem.W.findIn K (.ref C_Column) "__init__" = some (some (.ref f6))) (iF6 : PySem.W.isFn K (.ref f6) = true)
    (l6 : K.lookup f6 = some ⟨oc6, od6, .func (PySem.W.fnOf "__init__" "Column.__init__" (C8.fnArgs s_Column____init__) (C8.fnBody s_Column____init__) (C8.fnScope s_Column____init__) .none kV6 dc6 pm6 an6 cd6 ct6), sl6⟩) (b6 : PySem.W.codeIn K cd6 "Column.__init__" = true) (k6 : PySem.W.keepIn K (.ref f6) = true)
    {f7 : Addr} {od7 an7 : Option Addr} {sl7 : Array (Option Value)} {oc7 kV7 dc7 pm7 cd7 ct7 : Value} (a7 : PySem.W.nsIn K mainGlobals "_law_cell" = some (some (.ref f7))) (l7 : K.lookup f7 = some ⟨oc7, od7, .func (PySem.W.fnOf "_law_cell" "_law_cell" (C8.fnArgs s__law_cell) (C8.fnBody s__law_cell) (C8.fnScope s__law_cell) .none kV7 dc7 pm7 an7 cd7 ct7), sl7⟩) (b7 : PySem.W.codeIn K cd7 "_law_cell" = true) (k7 : PySem.W.keepIn K (.ref f7) = true)
    {f8 : Addr} {od8 an8 : Option Addr} {sl8 : Array (Option Value)} {oc8 kV8 dc8 pm8 cd8 ct8 : Value} (a8 : PySem.W.nsIn K mainGlobals "_law_state" = some (some (.ref f8))) (l8 : K.lookup f8 = some ⟨oc8, od8, .func (PySem.W.fnOf "_law_state" "_law_state" (C8.fnArgs s__law_state) (C8.fnBody s__law_state) (C8.fnScope s__law_state) .none kV8 dc8 pm8 an8 cd8 ct8), sl8⟩) (b8 : PySem.W.codeIn K cd8 "_law_state" = true) (k8 : PySem.W.keepIn K (.ref f8) = true)
    {f9 : Addr} {od9 an9 : Option Addr} {sl9 : Array (Option Value)} {oc9 kV9 dc9 pm9 cd9 ct9 : Value} (a9 : PySem.W.nsIn K mainGlobals "_law_digit" = some (some (.ref f9))) (l9 : K.lookup f9 = some ⟨oc9, od9, .func (PySem.W.fnOf "_law_digit" "_law_digit" (C8.fnArgs s__law_digit) (C8.fnBody s__law_digit) (C8.fnScope s__law_digit) .none kV9 dc9 pm9 an9 cd9 ct9), sl9⟩) (b9 : PySem.W.codeIn K cd9 "_law_digit" = true) (k9 : PySem.W.keepIn K (.ref f9) = true)
    {f10 : Addr} {od10 an10 : Option Addr} {sl10 : Array (Option Value)} {oc10 kV10 dc10 pm10 cd10 ct10 : Value} (a10 : PySem.W.nsIn K mainGlobals "_law_field_text" = some (some (.ref f10))) (l10 : K.lookup f10 = some ⟨oc10, od10, .func (PySem.W.fnOf "_law_field_text" "_law_field_text" (C8.fnArgs s__law_field_text) (C8.fnBody s__law_field_text) (C8.fnScope s__law_field_text) .none kV10 dc10 pm10 an10 cd10 ct10), sl10⟩) (b10 : PySem.W.codeIn K cd10 "_law_field_text" = true) (k10 : PySem.W.keepIn K (.ref f10) = true)
    {f11 : Addr} {od11 an11 : Option Addr} {sl11 : Array (Option Value)} {oc11 kV11 dc11 pm11 cd11 ct11 : Value} (a11 : PySem.W.nsIn K mainGlobals "_law_written" = some (some (.ref f11))) (l11 : K.lookup f11 = some ⟨oc11, od11, .func (PySem.W.fnOf "_law_written" "_law_written" (C8.fnArgs s__law_written) (C8.fnBody s__law_written) (C8.fnScope s__law_written) .none kV11 dc11 pm11 an11 cd11 ct11), sl11⟩) (b11 : PySem.W.codeIn K cd11 "_law_written" = true) (k11 : PySem.W.keepIn K (.ref f11) = true)
    {f12 : Addr} {od12 an12 : Option Addr} {sl12 : Array (Option Value)} {oc12 kV12 dc12 pm12 cd12 ct12 : Value} (a12 : PySem.W.nsIn K mainGlobals "_law_must_mark" = some (some (.ref f12))) (l12 : K.lookup f12 = some ⟨oc12, od12, .func (PySem.W.fnOf "_law_must_mark" "_law_must_mark" (C8.fnArgs s__law_must_mark) (C8.fnBody s__law_must_mark) (C8.fnScope s__law_must_mark) .none kV12 dc12 pm12 an12 cd12 ct12), sl12⟩) (b12 : PySem.W.codeIn K cd12 "_law_must_mark" = true) (k12 : PySem.W.keepIn K (.ref f12) = true)
    {f13 : Addr} {od13 an13 : Option Addr} {sl13 : Array (Option Value)} {oc13 kV13 dc13 pm13 cd13 ct13 : Value} (a13 : PySem.W.nsIn K mainGlobals "_law_good" = some (some (.ref f13))) (l13 : K.lookup f13 = some ⟨oc13, od13, .func (PySem.W.fnOf "_law_good" "_law_good" (C8.fnArgs s__law_good) (C8.fnBody s__law_good) (C8.fnScope s__law_good) .none kV13 dc13 pm13 an13 cd13 ct13), sl13⟩) (b13 : PySem.W.codeIn K cd13 "_law_good" = true) (k13 : PySem.W.keepIn K (.ref f13) = true)
    {f14 : Addr} {od14 an14 : Option Addr} {sl14 : Array (Option Value)} {oc14 kV14 dc14 pm14 cd14 ct14 : Value} (a14 : PySem.W.nsIn K mainGlobals "_law_wrong" = some (some (.ref f14))) (l14 : K.lookup f14 = some ⟨oc14, od14, .func (PySem.W.fnOf "_law_wrong" "_law_wrong" (C8.fnArgs s__law_wrong) (C8.fnBody s__law_wrong) (C8.fnScope s__law_wrong) .none kV14 dc14 pm14 an14 cd14 ct14), sl14⟩) (b14 : PySem.W.codeIn K cd14 "_law_wrong" = true) (k14 : PySem.W.keepIn K (.ref f14) = true)
    {f15 : Addr} {od15 an15 : Option Addr} {sl15 : Array (Option Value)} {oc15 kV15 dc15 pm15 cd15 ct15 : Value} (a15 : PySem.W.nsIn K mainGlobals "_law_told" = some (some (.ref f15))) (l15 : K.lookup f15 = some ⟨oc15, od15, .func (PySem.W.fnOf "_law_told" "_law_told" (C8.fnArgs s__law_told) (C8.fnBody s__law_told) (C8.fnScope s__law_told) .none kV15 dc15 pm15 an15 cd15 ct15), sl15⟩) (b15 : PySem.W.codeIn K cd15 "_law_told" = true) (k15 : PySem.W.keepIn K (.ref f15) = true)
    {f16 : Addr} {od16 an16 : Option Addr} {sl16 : Array (Option Value)} {oc16 kV16 dc16 pm16 cd16 ct16 : Value} (a16 : PySem.W.nsIn K mainGlobals "law" = some (some (.ref f16))) (l16 : K.lookup f16 = some ⟨oc16, od16, .func (PySem.W.fnOf "law" "law" (C8.fnArgs s_law) (C8.fnBody s_law) (C8.fnScope s_law) .none kV16 dc16 pm16 an16 cd16 ct16), sl16⟩) (b16 : PySem.W.codeIn K cd16 "law" = true) (k16 : PySem.W.keepIn K (.ref f16) = true)
    (z_int : PySem.W.nsIn K mainGlobals "int" = some none)
    (z_isinstance : PySem.W.nsIn K mainGlobals "isinstance" = some none)
    (z_len : PySem.W.nsIn K mainGlobals "len" = some none)
    (z_max : PySem.W.nsIn K mainGlobals "max" = some none)
    (z_min : PySem.W.nsIn K mainGlobals "min" = some none)
    (z_range : PySem.W.nsIn K mainGlobals "range" = some none)
    {C_IV fIV cdaIV ccIV CS CQ : Addr} {nmV qV fileV : Str} {NV : Addr} {bsV bmV : List Value} {snV : List Str} {subV : List Value} {abV : Bool} {colV : Option Bool} {ddV : Option Addr} {k0V k1V k2V k3V k5V : Option Value} {odV anV cddV cldV : Option Addr} {slV ccsV cslV : Array (Option Value)} {ocV kVV dcV pmV ctV cclV clV : Value} {vsV : Array Value} {tfV : Tok}
    (qV_ : PySem.W.nsIn K mainGlobals "InvalidText" = some (some (.ref C_IV))) (xV_ : K.lookup C_IV = some (excClassObj nmV qV C_IV NV bsV bmV true snV subV abV colV ddV k0V k1V k2V k3V k5V "ValueError.__new__")) (rV_ : PySem.HandSPX.refsVE bmV = true)
    (saV_ : PySem.W.findIn K (.ref C_IV) "__setattr__" = some (some (.builtin "object.__setattr__"))) (eV_ : PySem.W.subIn K (.ref C_IV) (.type "BaseException") = some true) (tV_ : PySem.W.typeIn K (.ref C_IV) = some (.type "type")) (kV_ : PySem.W.keepIn K (.ref C_IV) = true)
    (iV_ : PySem.W.findIn K (.ref C_IV) "__init__" = some (some (.ref fIV))) (tiV_ : PySem.W.typeIn K (.ref fIV) = some (.type "function"))
    (lV_ : K.lookup fIV = some ⟨ocV, odV, .func (PySem.W.fnX "__init__" "InvalidText.__init__" (C8.fnArgs s_InvalidText____init__) (C8.fnBody s_InvalidText____init__) (C8.fnScope s_InvalidText____init__) [("__class__", ccIV)] .none kVV dcV pmV anV (.ref cdaIV) ctV), slV⟩) (cV_ : PySem.W.codeIn K (.ref cdaIV) "InvalidText.__init__" = true)
    (lcV_ : K.lookup cdaIV = some ⟨cclV, cddV, .fields vsV, ccsV⟩) (vV_ : vsV[2]? = some (.str fileV tfV)) (fV_ : ((P.main.file : Str) == fileV) = true) (leV_ : K.lookup ccIV = some ⟨clV, cldV, .cell (some (.ref C_IV)), cslV⟩)
    (mV_ : PySem.W.mroIn K C_IV (.ref C_IV) = some true) (zV_ : PySem.W.nsIn K mainGlobals "super" = some none) (suV_ : PySem.W.ks_superIn K C_IV C_IV "__init__" = some (some (.builtin "ValueError.__init__"))) (svV_ : PySem.W.subIn K (.ref C_IV) (.type "ValueError") = some true)
    (oV_ : PySem.W.nsIn K cStatics "thirdparty.any" = some none) (toV_ : (P.main.scope.names.lookup ("super" : Str)).isSome = false)
    (n1V_ : PySem.W.findIn K (.ref C_IV) "offset" = some none) (n2V_ : PySem.W.findIn K (.ref C_IV) "reason" = some none)
    (gaV_ : PySem.W.findIn K (.ref C_IV) "__getattribute__" = some (some (.builtin "BaseException.__getattribute__"))) (ggV_ : PySem.W.findIn K (.ref C_IV) "__getattr__" = some none) (hdV_ : PySem.W.hasDictIn K C_IV = true) (ssV_ : PySem.W.subIn K (.ref C_IV) (.ref C_IV) = some true)
    (haV_ : PySem.W.findIn K (.ref C_IV) "__class__" = some (some (.builtin "object.__class__"))) (hnV_ : PySem.W.specialIn K (.builtin "object.__class__") "__get__" = some (some (.builtin "getset_descriptor.__get__"))) (htV_ : PySem.W.takesIn K (.builtin "object.__class__") = some true) (hmV_ : PySem.W.mroIn K C_IV (.type "object") = some true)
    (qS_ : PySem.W.nsIn K mainGlobals "StylobateError" = some (some (.ref CS))) (kS_ : PySem.W.kitOne K (.ref C_IV) (.ref CS) = some true) (qQ_ : PySem.W.nsIn K mainGlobals "QueryError" = some (some (.ref CQ))) (kQ_ : PySem.W.kitOne K (.ref C_IV) (.ref CQ) = some false)
    {t__LINE_END : Tok} {x__LINE_END : Str} (q__LINE_END : PySem.W.nsIn K mainGlobals "_LINE_END" = some (some (.str x__LINE_END t__LINE_END))) (e__LINE_END : x__LINE_END = SX.S [10])
    {t__MARK : Tok} {x__MARK : Str} (q__MARK : PySem.W.nsIn K mainGlobals "_MARK" = some (some (.str x__MARK t__MARK))) (e__MARK : x__MARK = SX.S [34])
    : ∃ fd : FuncData, (∀ (s : Shared) (v : Value), BindsTo s fd ⟨[v], []⟩ [("script", v)]) ∧ ∀ base : Heap, K.In base → base.Ns mainGlobals mg → FnOk P w K mg base C8.CX0 8 fa fd ["script"] (sp_law K) := by
  have F_Field____init__ : C8.Fun K "__init__" "Field.__init__" s_Field____init__ f0 _ := ⟨_, _, _, _, _, _, _, _, _, _, rfl, l0, b0⟩
  have B_Field____init__ : Binds K _ ["self", "text", "offset", "marked"] [] := C8.Fun.binds F_Field____init__ rfl (fun _ _ _ _ _ _ us hl => match us, hl with | [_, _, _, _], _ => rfl)
  have D_Field____init__ : MetD K "Field" "__init__" "Field.__init__" s_Field____init__ ["self", "text", "offset", "marked"] := metD_mk qC_Field a0 iF0 k0 F_Field____init__ B_Field____init__
  have D__marked_field : Dn K mg "_marked_field" s__marked_field ["text", "start", "separator"] := dn_mk l1 b1 k1 (PySem.W.mg_of X G a1) (fun _ _ _ _ _ _ us hl => match us, hl with | [_, _, _], _ => rfl)
  have D__plain_field : Dn K mg "_plain_field" s__plain_field ["text", "start", "separator"] := dn_mk l2 b2 k2 (PySem.W.mg_of X G a2) (fun _ _ _ _ _ _ us hl => match us, hl with | [_, _, _], _ => rfl)
  have D__next_record : Dn K mg "_next_record" s__next_record ["text", "start", "separator"] := dn_mk l3 b3 k3 (PySem.W.mg_of X G a3) (fun _ _ _ _ _ _ us hl => match us, hl with | [_, _, _], _ => rfl)
  have D_split_records : Dn K mg "split_records" s_split_records ["text", "separator"] := dn_mk l4 b4 k4 (PySem.W.mg_of X G a4) (fun _ _ _ _ _ _ us hl => match us, hl with | [_, _], _ => rfl)
  have D_read_separated : DnXK K mg "read_separated" s_read_separated ["text", "columns", "separator", "head"] 2 ["separator"] [.bl (true)] := dnXK_mk l5 b5 k5 (PySem.W.mg_of X G a5) (kws := [("head", .bl (true))]) (.inr ⟨_, kd5, List.forall_mem_cons.mpr ⟨⟨_, kn5_0, rfl⟩, fun _ h => nomatch h⟩⟩) (by decide) (fun _ _ _ _ _ _ us mv ws h1 h3 h2 => match us, h1, mv, h3, ws, h2 with | [_, _], _, [_], _, [_], _ => ⟨_, _, _, _, _, _, rfl, rfl, rfl⟩)
  have F_Column____init__ : C8.Fun K "__init__" "Column.__init__" s_Column____init__ f6 _ := ⟨_, _, _, _, _, _, _, _, _, _, rfl, l6, b6⟩
  have B_Column____init__ : Binds K _ ["self", "name", "kind", "nullable"] [] := C8.Fun.binds F_Column____init__ rfl (fun _ _ _ _ _ _ us hl => match us, hl with | [_, _, _, _], _ => rfl)
  have D_Column____init__ : MetD K "Column" "__init__" "Column.__init__" s_Column____init__ ["self", "name", "kind", "nullable"] := metD_mk qC_Column a6 iF6 k6 F_Column____init__ B_Column____init__
  have D__law_cell : Dn K mg "_law_cell" s__law_cell ["script", "k"] := dn_mk l7 b7 k7 (PySem.W.mg_of X G a7) (fun _ _ _ _ _ _ us hl => match us, hl with | [_, _], _ => rfl)
  have D__law_state : Dn K mg "_law_state" s__law_state ["cell", "k"] := dn_mk l8 b8 k8 (PySem.W.mg_of X G a8) (fun _ _ _ _ _ _ us hl => match us, hl with | [_, _], _ => rfl)
  have D__law_digit : Dn K mg "_law_digit" s__law_digit ["state", "many"] := dn_mk l9 b9 k9 (PySem.W.mg_of X G a9) (fun _ _ _ _ _ _ us hl => match us, hl with | [_, _], _ => rfl)
  have D__law_field_text : Dn K mg "_law_field_text" s__law_field_text ["state"] := dn_mk l10 b10 k10 (PySem.W.mg_of X G a10) (fun _ _ _ _ _ _ us hl => match us, hl with | [_], _ => rfl)
  have D__law_written : Dn K mg "_law_written" s__law_written ["text", "separator", "marked"] := dn_mk l11 b11 k11 (PySem.W.mg_of X G a11) (fun _ _ _ _ _ _ us hl => match us, hl with | [_, _, _], _ => rfl)
  have D__law_must_mark : Dn K mg "_law_must_mark" s__law_must_mark ["text", "separator"] := dn_mk l12 b12 k12 (PySem.W.mg_of X G a12) (fun _ _ _ _ _ _ us hl => match us, hl with | [_, _], _ => rfl)
  have D__law_good : Dn K mg "_law_good" s__law_good ["state", "separator"] := dn_mk l13 b13 k13 (PySem.W.mg_of X G a13) (fun _ _ _ _ _ _ us hl => match us, hl with | [_, _], _ => rfl)
  have D__law_wrong : Dn K mg "_law_wrong" s__law_wrong ["state", "at", "separator"] := dn_mk l14 b14 k14 (PySem.W.mg_of X G a14) (fun _ _ _ _ _ _ us hl => match us, hl with | [_, _, _], _ => rfl)
  have D__law_told : Dn K mg "_law_told" s__law_told ["text", "separator", "columns"] := dn_mk l15 b15 k15 (PySem.W.mg_of X G a15) (fun _ _ _ _ _ _ us hl => match us, hl with | [_, _, _], _ => rfl)
  have C_Column : ClsD K mg "Column" ["name", "kind", "nullable"] := clsD_mk qC_Column (PySem.W.mg_of X G qC_Column) pgC_Column hdC_Column poC_Column saC_Column mkC_Column kcC_Column ⟨naC_Column_0, ⟨naC_Column_1, ⟨naC_Column_2, trivial⟩⟩⟩
  have C_Field : ClsD K mg "Field" ["text", "offset", "marked"] := clsD_mk qC_Field (PySem.W.mg_of X G qC_Field) pgC_Field hdC_Field poC_Field saC_Field mkC_Field kcC_Field ⟨naC_Field_0, ⟨naC_Field_1, ⟨naC_Field_2, trivial⟩⟩⟩
  have y_int : mg "int" = none := PySem.W.mg_none_of X G z_int
  have y_isinstance : mg "isinstance" = none := PySem.W.mg_none_of X G z_isinstance
  have y_len : mg "len" = none := PySem.W.mg_none_of X G z_len
  have y_max : mg "max" = none := PySem.W.mg_none_of X G z_max
  have y_min : mg "min" = none := PySem.W.mg_none_of X G z_min
  have y_range : mg "range" = none := PySem.W.mg_none_of X G z_range
  have v__LINE_END : ∃ u, mg "_LINE_END" = some u ∧ RelV (.str (SX.S [10])) u := ⟨_, PySem.W.mg_of X G q__LINE_END, ⟨_, by rw [e__LINE_END]⟩⟩
  have v__MARK : ∃ u, mg "_MARK" = some u ∧ RelV (.str (SX.S [34])) u := ⟨_, PySem.W.mg_of X G q__MARK, ⟨_, by rw [e__MARK]⟩⟩
  have e := hfa.symm.trans (PySem.W.mg_of X G a16)
  cases e
  have D_law := def_mk (x := "law") (st := s_law) l16 b16 k16 hfa
  refine ⟨PySem.W.fnOf "law" "law" (C8.fnArgs s_law) (C8.fnBody s_law) (C8.fnScope s_law) .none kV16 dc16 pm16 an16 cd16 ct16, fun s v => .of_eq rfl, fun base _ _ => ?_⟩
  have hCV : clsAt K "InvalidText" = C_IV := by unfold clsAt; rw [qV_]
  have oexV : OexC K C_IV := ⟨⟨_, _, _, _, _, _, _, _, _, _, _, _, _, _, _, xV_, rV_⟩, saV_, eV_, tV_, kV_⟩
  have supT : SupT P K mg C_IV fIV cdaIV ccIV "InvalidText.__init__" s_InvalidText____init__ _ := ⟨oexV, ⟨_, _, _, _, _, _, _, _, rfl, lV_⟩, cV_, ⟨_, _, _, _, _, _, lcV_, vV_, fV_⟩, ⟨_, _, _, leV_⟩, mV_, PySem.W.mg_none_of X G zV_, suV_, svV_, oV_, toV_⟩
  have iv : IvM P w K mg base 1 := ok_iv supT hCV iV_ tiV_ n1V_ n2V_ (PySem.W.mg_of X G qV_) (.all fun us hl => match us, hl with | [_, _, _], _ => rfl)
  have tldx : TldX K mg CS CQ := { gI := by rw [hCV]; exact PySem.W.mg_of X G qV_, te := by rw [hCV]; exact exm_own eV_ (by unfold PySem.W.clsIn; rw [xV_] <;> rfl) tV_ ssV_, xf := by rw [hCV]; exact ⟨gaV_, ggV_, eV_, hdV_⟩, n1 := by rw [hCV]; exact n1V_, n2 := by rw [hCV]; exact n2V_, xd := by rw [hCV]; exact ⟨by unfold PySem.W.clsIn; rw [xV_] <;> rfl, gaV_, ggV_, eV_, haV_, hnV_, htV_, hmV_⟩, gS := PySem.W.mg_of X G qS_, kS := by rw [hCV]; exact kS_, gQ := PySem.W.mg_of X G qQ_, kQ := by rw [hCV]; exact kQ_ }
  have c_Field____init__ := ok_Field____init__ (P := P) (w := w) (base := base) D_Field____init__ C_Field 
  have c__marked_field := ok__marked_field (P := P) (w := w) (base := base) D__marked_field C_Field c_Field____init__ y_len v__LINE_END v__MARK 
  have b__marked_field := calX_or c__marked_field (okX__marked_field (P := P) (w := w) (base := base) D__marked_field C_Field c_Field____init__ iv y_len v__LINE_END v__MARK )
  have c__plain_field := ok__plain_field (P := P) (w := w) (base := base) D__plain_field C_Field c_Field____init__ y_len v__LINE_END v__MARK 
  have b__plain_field := calX_or c__plain_field (okX__plain_field (P := P) (w := w) (base := base) D__plain_field C_Field c_Field____init__ iv y_len v__LINE_END v__MARK )
  have c__next_record := ok__next_record (P := P) (w := w) (base := base) D__next_record c__marked_field c__plain_field y_len v__LINE_END v__MARK 
  have b__next_record := calX_or c__next_record (okX__next_record (P := P) (w := w) (base := base) D__next_record b__marked_field b__plain_field y_len v__LINE_END v__MARK )
  have c_split_records := ok_split_records (P := P) (w := w) (base := base) D_split_records c__next_record y_len 
  have b_split_records := calX_or c_split_records (okX_split_records (P := P) (w := w) (base := base) D_split_records b__next_record y_len )
  have b_read_separated := okX_read_separated (P := P) (w := w) (base := base) D_read_separated b_split_records 
  have c_Column____init__ := ok_Column____init__ (P := P) (w := w) (base := base) D_Column____init__ C_Column 
  have c__law_cell := ok__law_cell (P := P) (w := w) (base := base) D__law_cell y_len 
  have c__law_state := ok__law_state (P := P) (w := w) (base := base) D__law_state y_int 
  have c__law_digit := ok__law_digit (P := P) (w := w) (base := base) D__law_digit y_int 
  have c__law_field_text := ok__law_field_text (P := P) (w := w) (base := base) D__law_field_text c__law_digit y_range 
  have c__law_written := ok__law_written (P := P) (w := w) (base := base) D__law_written 
  have c__law_must_mark := ok__law_must_mark (P := P) (w := w) (base := base) D__law_must_mark 
  have c__law_good := ok__law_good (P := P) (w := w) (base := base) D__law_good c__law_digit c__law_field_text c__law_must_mark c__law_written y_range 
  have c__law_wrong := ok__law_wrong (P := P) (w := w) (base := base) D__law_wrong c__law_digit c__law_field_text c__law_written y_len y_range 
  have c__law_told := ok__law_told (P := P) (w := w) (base := base) D__law_told b_read_separated b_split_records y_isinstance tldx
  exact ok_law (P := P) (w := w) (base := base) D_law c_Column____init__ c__law_cell c__law_digit c__law_good c__law_state c__law_told c__law_wrong y_len y_max y_min y_range
end My
open PySem PySem.W PyProof.Rows
set_option maxHeartbeats 0 in
theorem PySem.Challenge.cw_stylobate_k81_faults_of_texts_holds : PySem.Challenge.rw_stylobate_k81_faults_of_texts.Holds := by
  w_on; o_law; k_head; (case hw => w_witness2)
  k_fill
  refine L2.walk_of (l := PySem.Challenge.rw_stylobate_k81_faults_of_texts) (n := 63) (k := 8) (x := "script") (CX := fun _ => C8.CX0) (sp := fun w => My.sp_law _) rfl (by decide) rfl ⟨rfl, by decide, by decide⟩ (fun w h Y => PySem.W.kIn_of Y) ?F (fun _ _ a ns hl _ hS => My.sp_law_of hl hS) (fun _ _ _ _ _ h => h)
  case F =>
    intro w mg fa h KX G hmg
    refine' My.all_mk KX G hmg ?qC_Column ?pgC_Column ?hdC_Column ?poC_Column ?saC_Column ?mkC_Column ?kcC_Column ?naC_Column_0 ?naC_Column_1 ?naC_Column_2 ?qC_Field ?pgC_Field ?hdC_Field ?poC_Field ?saC_Field ?mkC_Field ?kcC_Field ?naC_Field_0 ?naC_Field_1 ?naC_Field_2 ?a0 ?iF0 ?l0 ?b0 ?k0 ?a1 ?l1 ?b1 ?k1 ?a2 ?l2 ?b2 ?k2 ?a3 ?l3 ?b3 ?k3 ?a4 ?l4 ?b4 ?k4 ?a5 ?l5 ?b5 ?k5 ?kd5 ?kn5_0 ?a6 ?iF6 ?l6 ?b6 ?k6 ?a7 ?l7 ?b7 ?k7 ?a8 ?l8 ?b8 ?k8 ?a9 ?l9 ?b9 ?k9 ?a10 ?l10 ?b10 ?k10 ?a11 ?l11 ?b11 ?k11 ?a12 ?l12 ?b12 ?k12 ?a13 ?l13 ?b13 ?k13 ?a14 ?l14 ?b14 ?k14 ?a15 ?l15 ?b15 ?k15 ?a16 ?l16 ?b16 ?k16 ?z_int ?z_isinstance ?z_len ?z_max ?z_min ?z_range ?qV_ ?xV_ ?rV_ ?saV_ ?eV_ ?tV_ ?kV_ ?iV_ ?tiV_ ?lV_ ?cV_ ?lcV_ ?vV_ ?fV_ ?leV_ ?mV_ ?zV_ ?suV_ ?svV_ ?oV_ ?toV_ ?n1V_ ?n2V_ ?gaV_ ?ggV_ ?hdV_ ?ssV_ ?haV_ ?hnV_ ?htV_ ?hmV_ ?qS_ ?kS_ ?qQ_ ?kQ_ ?q__LINE_END ?e__LINE_END ?q__MARK ?e__MARK
    (case qC_Column => k_is); (case pgC_Column => k_is); (case hdC_Column => k_is); (case poC_Column => k_is); (case saC_Column => k_is); (case mkC_Column => k_is); (case kcC_Column => k_is); (case naC_Column_0 => k_is); (case naC_Column_1 => k_is); (case naC_Column_2 => k_is); (case qC_Field => k_is); (case pgC_Field => k_is); (case hdC_Field => k_is); (case poC_Field => k_is); (case saC_Field => k_is); (case mkC_Field => k_is); (case kcC_Field => k_is); (case naC_Field_0 => k_is); (case naC_Field_1 => k_is); (case naC_Field_2 => k_is); (case a0 => k_is); (case iF0 => k_is); (case l0 => k_is); (case b0 => k_is); (case k0 => k_is); (case a1 => k_is); (case l1 => k_is); (case b1 => k_is); (case k1 => k_is); (case a2 => k_is); (case l2 => k_is); (case b2 => k_is); (case k2 => k_is); (case a3 => k_is); (case l3 => k_is); (case b3 => k_is); (case k3 => k_is); (case a4 => k_is); (case l4 => k_is); (case b4 => k_is); (case k4 => k_is); (case a5 => k_is); (case l5 => k_is); (case b5 => k_is); (case k5 => k_is); (case kd5 => rfl); (case kn5_0 => k_is); (case a6 => k_is); (case iF6 => k_is); (case l6 => k_is); (case b6 => k_is); (case k6 => k_is); (case a7 => k_is); (case l7 => k_is); (case b7 => k_is); (case k7 => k_is); (case a8 => k_is); (case l8 => k_is); (case b8 => k_is); (case k8 => k_is); (case a9 => k_is); (case l9 => k_is); (case b9 => k_is); (case k9 => k_is); (case a10 => k_is); (case l10 => k_is); (case b10 => k_is); (case k10 => k_is); (case a11 => k_is); (case l11 => k_is); (case b11 => k_is); (case k11 => k_is); (case a12 => k_is); (case l12 => k_is); (case b12 => k_is); (case k12 => k_is); (case a13 => k_is); (case l13 => k_is); (case b13 => k_is); (case k13 => k_is); (case a14 => k_is); (case l14 => k_is); (case b14 => k_is); (case k14 => k_is); (case a15 => k_is); (case l15 => k_is); (case b15 => k_is); (case k15 => k_is); (case a16 => k_is); (case l16 => k_is); (case b16 => k_is); (case k16 => k_is); (case z_int => k_is); (case z_isinstance => k_is); (case z_len => k_is); (case z_max => k_is); (case z_min => k_is); (case z_range => k_is); (case q__LINE_END => k_is); (case q__MARK => k_is)
    (case qV_ => k_is); (case xV_ => k_is); (case rV_ => decide +kernel); (case saV_ => k_is); (case eV_ => k_is); (case tV_ => k_is); (case kV_ => k_is); (case iV_ => k_is); (case tiV_ => k_is); (case lV_ => k_is); (case cV_ => k_is); (case lcV_ => k_is)
    (case vV_ => rfl); (case fV_ => decide +kernel); (case leV_ => k_is); (case mV_ => k_is); (case zV_ => k_is); (case suV_ => kernel_rfl); (case svV_ => k_is); (case oV_ => k_is); (case toV_ => decide +kernel); (case n1V_ => k_is); (case n2V_ => k_is)
    (case gaV_ => k_is); (case ggV_ => k_is); (case hdV_ => k_is); (case ssV_ => first | k_is | rfl); (case haV_ => k_is); (case hnV_ => k_is); (case htV_ => k_is); (case hmV_ => k_is); (case qS_ => k_is); (case kS_ => kit_is); (case qQ_ => k_is); (case kQ_ => kit_is)
    (case e__LINE_END => decide +kernel)
    (case e__MARK => decide +kernel)
