import PyProof.Rows.All
import Wide.All
import OpenK.AllK
import Wide.FinOn
import HandS.ForMost
import HandS.Codes
import HandS.Evl
import HandS.IsInst
import HandS.Wide
import PySem.Challenge.RW_stylobate_k06_division_and_rounding
set_option Elab.async false
set_option linter.all false
set_option maxRecDepth 100000
set_option maxHeartbeats 4000000
namespace My
open PySem PySem.Spec PyProof.Rows L2 Evl
/-! ### defs of the text, promises, the end -/
def Dn (K : PySem.W.Frag) (mg : Str → Option Value) (x : Str) (st : Stmt) (ps : List Str) : Prop := ∃ f fd, C8.Def K mg x st f fd ∧ Binds K fd ps []
section
variable {P : Program} {w : World} {K : PySem.W.Frag} {mg : Str → Option Value} {base : Heap}
theorem cal_of {x : Str} {st : Stmt} {N ps : List Str} {k : Nat} {sp : Sp} (D : Dn K mg x st ps) (S : FnScope N ps (C8.fnScope st)) (len : ∀ vs H Q E, sp vs H Q E → vs.length = ps.length)
    (hbody : ∀ (f : Addr) (cdv : Value) (A : Around) (outer : List Env) (s : Shared) (H : Hp) (vs : List V) (Q : VK) (E : XK), Room k (A.deeper (envOfC x (C8.fnScope st) s.heap.objs.size f cdv)) → sp vs H Q E →
      ∃ t, PSs (cxOf C8.CX0 P w K mg base N x (C8.fnScope st) f cdv A outer s H E).nox (C8.fnBody st) t ∧ t { nx := fun _ H' => Q .non H', rt := Q } (start N vs) H) : C8.Cal P w K mg base (k + 1) x sp [] := by
  obtain ⟨f, fd, F, b⟩ := D
  exact C8.cal0 F b .nil S len (hbody f)
theorem def_mk {x : Str} {st : Stmt} {f : Addr} {oc : Value} {od an : Option Addr} {osl : Array (Option Value)} {kV doc pm cdv ct : Value}
    (l : K.lookup f = some ⟨oc, od, .func (PySem.W.fnOf x x (C8.fnArgs st) (C8.fnBody st) (C8.fnScope st) .none kV doc pm an cdv ct), osl⟩)
    (c : PySem.W.codeIn K cdv x = true) (k : PySem.W.keepIn K (.ref f) = true) (m : mg x = some (.ref f)) : C8.Def K mg x st f (PySem.W.fnOf x x (C8.fnArgs st) (C8.fnBody st) (C8.fnScope st) .none kV doc pm an cdv ct) :=
  ⟨⟨oc, od, .none, kV, doc, pm, an, cdv, ct, osl, rfl, l, c⟩, m, k⟩
theorem dn_mk {x : Str} {st : Stmt} {f : Addr} {oc : Value} {od an : Option Addr} {osl : Array (Option Value)} {kV doc pm cdv ct : Value} {ps : List Str}
    (l : K.lookup f = some ⟨oc, od, .func (PySem.W.fnOf x x (C8.fnArgs st) (C8.fnBody st) (C8.fnScope st) .none kV doc pm an cdv ct), osl⟩)
    (c : PySem.W.codeIn K cdv x = true) (k : PySem.W.keepIn K (.ref f) = true) (m : mg x = some (.ref f))
    (h : ∀ (kV doc pm : Value) (an : Option Addr) (cdv ct : Value) (us : List Value), us.length = ps.length → bindArgs (PySem.W.fnOf x x (C8.fnArgs st) (C8.fnBody st) (C8.fnScope st) .none kV doc pm an cdv ct) ⟨us, []⟩ = pure (ps.zip us)) : Dn K mg x st ps :=
  ⟨f, _, def_mk l c k m, C8.Fun.binds (def_mk l c k m).fn rfl h⟩
end
/-! ### x is True, x is False, of any value -/
def rIsT : R2 := fun x y H Q => ∃ b : Bool, y = .bl b ∧ Q (.bl (decide (x = .bl b))) H
def rNotT : R2 := fun x y H Q => ∃ b : Bool, y = .bl b ∧ Q (.bl (!decide (x = .bl b))) H
section
variable {X : Cx}
theorem rel_bl {x : V} {v : Value} {b : Bool} (rx : RelV x v) : PySem.plainIs v (.bool b) = true ∧ (v == .bool b) = decide (x = .bl b) ∨ ∃ n, v = .builtin n := by
  cases x with
  | non => cases (show v = Value.none from rx); exact .inl ⟨rfl, rfl⟩
  | bl c => cases (show v = Value.bool c from rx); exact .inl ⟨rfl, by cases b <;> cases c <;> rfl⟩
  | int i => obtain ⟨t, e⟩ := (show ∃ t, v = Value.int i t from rx); cases e; exact .inl ⟨rfl, rfl⟩
  | str i => obtain ⟨t, e⟩ := (show ∃ t, v = Value.str i t from rx); cases e; exact .inl ⟨rfl, rfl⟩
  | byt i => obtain ⟨t, e⟩ := (show ∃ t, v = Value.bytes i t from rx); cases e; exact .inl ⟨rfl, rfl⟩
  | flt i => obtain ⟨t, e⟩ := (show ∃ t, v = Value.float i t from rx); cases e; exact .inl ⟨rfl, rfl⟩
  | ref a => cases (show v = Value.ref a from rx); exact .inl ⟨rfl, rfl⟩
  | ty n => cases (show v = Value.type n from rx); exact .inl ⟨rfl, rfl⟩
theorem rel_bl' {x : V} {v : Value} {b : Bool} (rx : RelV x v) : PySem.plainIs v (.bool b) = true ∧ (v == .bool b) = decide (x = .bl b) := by
  rcases rel_bl (b := b) rx with h | ⟨n, rfl⟩
  · exact h
  · cases x <;> first | exact nomatch (rx : Value.builtin n = _) | (obtain ⟨t, e⟩ := rx; exact nomatch e)
theorem op_isTF : OpR X (compareOp .Is) rIsT := by
  intro pins s σ H x y v u Q I rx ry h
  obtain ⟨b, rfl, q⟩ := h
  cases (show u = Value.bool b from ry)
  obtain ⟨h1, h2⟩ := rel_bl' (b := b) rx
  exact wpAny_is_plain h1 ⟨.bl _, H, I, rfl, by rw [h2]; exact q⟩
theorem op_notTF : OpR X (compareOp .IsNot) rNotT := by
  intro pins s σ H x y v u Q I rx ry h
  obtain ⟨b, rfl, q⟩ := h
  cases (show u = Value.bool b from ry)
  obtain ⟨h1, h2⟩ := rel_bl' (b := b) rx
  exact wpAny_isNot_plain h1 ⟨.bl _, H, I, rfl, by rw [h2]; exact q⟩
end
/-! ### what evaluates to what: further -/
section
variable {K : PySem.W.Frag} {σ : L2.St} {H H' : Hp} {ta tb te tx : TE} {t u : TT} {x y z v : V} {r : R2}
theorem rv_isT {b : Bool} : RV rIsT x (.bl b) H (.bl (decide (x = .bl b))) := fun H1 _ _ q => ⟨b, rfl, q H1 (Ex.refl H1)⟩
theorem rv_notT {b : Bool} : RV rNotT x (.bl b) H (.bl (!decide (x = .bl b))) := fun H1 _ _ q => ⟨b, rfl, q H1 (Ex.refl H1)⟩
theorem rv_isN : RV (fun x y H Q => y = .non ∧ Q (.bl (decide (x = .non))) H) x .non H (.bl (decide (x = .non))) := fun H1 _ _ q => ⟨rfl, q H1 (Ex.refl H1)⟩
theorem rv_notN : RV (fun x y H Q => y = .non ∧ Q (.bl (!decide (x = .non))) H) x .non H (.bl (!decide (x = .non))) := fun H1 _ _ q => ⟨rfl, q H1 (Ex.refl H1)⟩
theorem ev_int {i : Int} (h : Ev ta σ H (.int i)) : Ev (tCB (fun xs H Q => (∃ i, xs = [.int i] ∧ Q (.int i) H) ∨ ∃ k, xs = [.bl k] ∧ Q (.int (if k then 1 else 0)) H) (tCons ta tNil)) σ H (.int i) :=
  fun H1 e Q q => h H1 e _ fun H2 e2 => .inl ⟨i, rfl, q H2 e2⟩
theorem ev_intB {b : Bool} (h : Ev ta σ H (.bl b)) : Ev (tCB (fun xs H Q => (∃ i, xs = [.int i] ∧ Q (.int i) H) ∨ ∃ k, xs = [.bl k] ∧ Q (.int (if k then 1 else 0)) H) (tCons ta tNil)) σ H (.int (if b then 1 else 0)) :=
  fun H1 e Q q => h H1 e _ fun H2 e2 => .inr ⟨b, rfl, q H2 e2⟩
theorem ev_abs {i : Int} (h : Ev ta σ H (.int i)) : Ev (tCB (fun xs H Q => ∃ i, xs = [.int i] ∧ Q (.int (if i < 0 then -i else i)) H) (tCons ta tNil)) σ H (.int (if i < 0 then -i else i)) :=
  fun H1 e Q q => h H1 e _ fun H2 e2 => ⟨i, rfl, q H2 e2⟩
theorem ev_min2 {i j : Int} (ha : Ev ta σ H (.int i)) (hb : Ev tb σ H (.int j)) : Ev (tCB (fun xs H Q => ∃ i j, xs = [.int i, .int j] ∧ Q (.int (if j < i then j else i)) H) (tCons ta (tCons tb tNil))) σ H (.int (if j < i then j else i)) := fun H1 e Q q =>
  ha H1 e _ fun H2 e2 => hb H2 (e.trans e2) _ fun H3 e3 => ⟨i, j, rfl, q H3 (e2.trans e3)⟩
theorem ev_lenS {s : Str} (h : Ev ta σ H (.str s)) (hz : s.length ≤ 100000) : Ev (tCB (fun xs H Q => ∃ z, xs = [.str z] ∧ z.length ≤ sizeLine ∧ Q (.int z.length) H) (tCons ta tNil)) σ H (.int s.length) :=
  fun H1 e Q q => h H1 e _ fun H2 e2 => ⟨s, rfl, sz_of hz, q H2 e2⟩
/-- isinstance(x, T) of a plain value -/
def tyOf : V → String
  | .non => "NoneType"
  | .bl _ => "bool"
  | .int _ => "int"
  | .str _ => "str"
  | .byt _ => "bytes"
  | .flt _ => "float"
  | _ => "?"
def isTy (x : V) (T : String) : Bool := ((kitB (tyOf x) T).getD false)
theorem ev_isi {T : String} {tn : String} {b : Bool} (ha : Ev ta σ H x) (ht : ∀ H1, TyX K H1 x (.type tn)) (hk : kitB tn T = some b) : Ev (tCB (rIsi K) (tCons ta (tCons (tC (.ty T)) tNil))) σ H (.bl b) :=
  fun H1 e Q q => ha H1 e _ fun H2 e2 => ⟨x, .ty T, .type tn, .type T, b, rfl, .ty T, ht H2, kit_ty hk, q H2 e2⟩
theorem tx_int (i : Int) (H1 : Hp) : TyX K H1 (.int i) (.type "int") := .base (.int i)
theorem tx_bl (i : Bool) (H1 : Hp) : TyX K H1 (.bl i) (.type "bool") := .base (.bl i)
theorem tx_str (i : Str) (H1 : Hp) : TyX K H1 (.str i) (.type "str") := .base (.str i)
theorem tx_non (H1 : Hp) : TyX K H1 .non (.type "NoneType") := .base .non
section
variable {D : Ends} {tz : TS}
/-- if c: x = e, an int: told by the value x has behind it -/
theorem q_ifI {b : Bool} {i : Nat} {p q : Int} (h : EvT t σ H b) (h1 : b = true → Ev te σ H (.int p)) (h0 : σ[i]? = some (some (.int q))) (k : ∀ H1, Ex H H1 → tz D (σ.set i (some (.int (if b = true then p else q)))) H1) : tSeq (tIfS t (tAsg te (gName i)) tNext) tz D σ H := by
  refine q_ifAsg h (fun hb => ?_) (fun hb => ?_) k
  · rw [if_pos hb]
    exact h1 hb
  · rw [hb]
    show σ.set i (some (V.int q)) = σ
    apply List.ext_getElem?
    intro j
    rw [List.getElem?_set]
    split
    · rename_i e
      subst e
      rw [h0]
      have := (List.getElem?_eq_some_iff.mp h0).1
      rw [if_pos this]
    · rfl
end
/-- a promise of one value, all else as it was -/
theorem spv {sp : Sp} {vs : List V} (h : ∀ H1, Ex H H1 → ∀ Q : VK, (∀ H2, Ex H1 H2 → Q z H2) → ∀ E : XK, sp vs H1 Q E) : SpV sp vs H z := h
end
local macro_rules | `(tactic| walk_at "side") => `(tactic| first
  | exact .inr ⟨by decide, by decide⟩
  | exact .inl ⟨by decide, by decide⟩
  | exact .inl ⟨by omega, by omega⟩
  | exact .inr ⟨by omega, by omega⟩
  | exact ⟨by decide, by decide⟩
  | exact ⟨by omega, by omega⟩
  | decide
  | (show (_ : Int) < _; omega)
  | omega)
local macro_rules | `(tactic| walk_at "rv") => `(tactic| first
  | exact rv_I0
  | ((refine' rv_I ?k1); (case k1 => walk_at "side"))
  | exact rv_isT
  | exact rv_notT
  | exact rv_isN
  | exact rv_notN
  | exact rv_eq rfl
  | exact rv_ne rfl)
local macro_rules | `(tactic| walk_at "sq") => `(tactic| first | assumption | exact ex_l (by assumption) (by assumption) | exact sq_of (by assumption))
/-- what a part gives, read off its form -/
local macro_rules | `(tactic| walk_at "ev") => `(tactic| first
  | exact ev_var rfl
  | exact ev_c
  | ((with_reducible refine' ev_op ?k1 ?k2 ?k3); (case k1 => walk_at "ev"); (case k2 => walk_at "ev"); (case k3 => walk_at "rv"))
  | ((with_reducible refine' ev_un ?k1 ?k2); (case k1 => walk_at "ev"); (case k2 => exact ru_neg))
  | ((with_reducible refine' ev_int ?k1); (case k1 => walk_at "ev"))
  | ((with_reducible refine' ev_abs ?k1); (case k1 => walk_at "ev"))
  | ((with_reducible refine' ev_andV ?k1 ?k2); (case k1 => walk_at "ev"); (case k2 => intro _; walk_at "ev"))
  | ((with_reducible refine' ev_orV ?k1 ?k2); (case k1 => walk_at "ev"); (case k2 => intro _; walk_at "ev"))
  | ((with_reducible refine' ev_notV ?k1); (case k1 => walk_at "ev"))
  | ((refine' ev_len ?k1 ?k2); (case k1 => walk_at "ev"); (case k2 => walk_at "sq")))
local macro_rules | `(tactic| walk_at "et") => `(tactic| first
  | ((with_reducible refine' et_or ?k1 ?k2); (case k1 => walk_at "et"); (case k2 => intro _; walk_at "et"))
  | ((with_reducible refine' et_and ?k1 ?k2); (case k1 => walk_at "et"); (case k2 => intro _; walk_at "et"))
  | ((with_reducible refine' et_not ?k1); (case k1 => walk_at "et"))
  | (refine' et_test ?k1; (case k1 => walk_at "ev"))
  | (refine' et_B ?k1; (case k1 => walk_at "ev")))

def topS (i : Nat) : Stmt := PySem.Challenge.pw_stylobate_k06_division_and_rounding.main.body.getD i (.Pass ⟨0, 0, 0, 0⟩)
abbrev s_rounded : Stmt := topS 1
abbrev n_rounded : List Str := ["number", "divisor", "size"]
theorem sc_rounded : FnScope n_rounded ["number", "divisor"] (C8.fnScope s_rounded) := C8.fnScope_by (by decide +kernel)
abbrev s_quotient : Stmt := topS 2
abbrev n_quotient : List Str := ["number", "divisor", "size"]
theorem sc_quotient : FnScope n_quotient ["number", "divisor"] (C8.fnScope s_quotient) := C8.fnScope_by (by decide +kernel)
abbrev s__law_numbers : Stmt := topS 4
abbrev n__law_numbers : List Str := ["script", "count", "numbers", "k", "cell"]
theorem sc__law_numbers : FnScope n__law_numbers ["script", "count"] (C8.fnScope s__law_numbers) := C8.fnScope_by (by decide +kernel)
abbrev s__law_is_integer : Stmt := topS 5
abbrev n__law_is_integer : List Str := ["value"]
theorem sc__law_is_integer : FnScope n__law_is_integer ["value"] (C8.fnScope s__law_is_integer) := C8.fnScope_by (by decide +kernel)
abbrev s__law_size : Stmt := topS 6
abbrev n__law_size : List Str := ["number"]
theorem sc__law_size : FnScope n__law_size ["number"] (C8.fnScope s__law_size) := C8.fnScope_by (by decide +kernel)
abbrev s__law_nearest : Stmt := topS 7
abbrev n__law_nearest : List Str := ["number", "divisor", "told", "off", "size"]
theorem sc__law_nearest : FnScope n__law_nearest ["number", "divisor", "told"] (C8.fnScope s__law_nearest) := C8.fnScope_by (by decide +kernel)
abbrev s_law : Stmt := topS 8
abbrev n_law : List Str := ["script", "numbers", "divisor", "number", "told", "whole", "rest"]
theorem sc_law : FnScope n_law ["script"] (C8.fnScope s_law) := C8.fnScope_by (by decide +kernel)
/-! ### the law's numbers -/
def cell0 (ns : List Int) (k : Nat) : Int := if 0 < ns.length then ns.getD (k - k / ns.length * ns.length) 0 else 0
def cell1 (ns : List Int) (k : Nat) : Int := if cell0 ns k < 0 then 1 - 2 * cell0 ns k else cell0 ns k
def cellM (c : Int) (k : Nat) : Int := (((c + 101 * (k : Int) + 13) * 40692 + (k : Int) * (k : Int) * 6271) % 2147483399 + 29 * (k : Int) + 5) * 3935559000370003845 % 18446744073709551533
def cellN (ns : List Int) (k : Nat) : Int := if (ns.length : Int) ≤ (k : Int) ∨ cell1 ns k < 1000000000 then cellM (cell1 ns k) k else cell1 ns k
def lawN (ns : List Int) (c : Nat) : List Int := (List.range c).map (cellN ns)
theorem cell1_nn (ns : List Int) (k : Nat) : 0 ≤ cell1 ns k := by
  unfold cell1
  split <;> omega
theorem cellN_nn (ns : List Int) (k : Nat) : 0 ≤ cellN ns k := by
  unfold cellN
  split
  · unfold cellM
    exact Int.emod_nonneg _ (by decide)
  · exact cell1_nn ns k
theorem lawN_len (ns : List Int) (c : Nat) : (lawN ns c).length = c := by
  unfold lawN
  rw [List.length_map, List.length_range]
theorem lawN_nn {ns : List Int} {c : Nat} : ∀ n ∈ lawN ns c, 0 ≤ n := by
  intro n h
  unfold lawN at h
  obtain ⟨k, _, e⟩ := List.mem_map.mp h
  rw [← e]
  exact cellN_nn ns k
theorem lawN_get {ns : List Int} {c i : Nat} (h : i < c) : (lawN ns c)[i]? = some (cellN ns i) := by
  unfold lawN
  rw [List.getElem?_map, List.getElem?_range h] <;> rfl
/-- the k-th of them, as the law's list of values -/
theorem lawN_at {ns : List Int} {c i : Nat} (h : i < c) : atI ((lawN ns c).map V.int) (i : Int) = some (.int (cellN ns i)) := atI_nat (by
  rw [List.getElem?_map, lawN_get h] <;> rfl)
def sp__law_numbers (K : PySem.W.Frag) : Sp := fun vs H Q _ => ∃ (a : Addr) (ns : List Int) (c : Nat), vs = [.ref a, .int (c : Int)] ∧ SqL K H a (ns.map V.int) ∧ ns.length ≤ 63 ∧ c ≤ 1000 ∧
  ∀ p H', H p = none → Ex H H' → H' p = some (.lst ((lawN ns c).map V.int)) → Q (.ref p) H'
section
variable {P : Program} {w : World} {K : PySem.W.Frag} {mg : Str → Option Value} {base : Heap}
theorem ok__law_numbers (D : Dn K mg "_law_numbers" s__law_numbers ["script", "count"]) (z_int : mg "int" = none) (z_len : mg "len" = none) (z_range : mg "range" = none) :
    C8.Cal P w K mg base 1 "_law_numbers" (sp__law_numbers K) [] := by
  refine cal_of D sc__law_numbers (fun vs H Q E h => ?_) (fun f cdv A outer s H vs Q E hr h => ?_)
  · obtain ⟨_, _, _, rfl, _⟩ := h
    rfl
  refine ⟨_, (pss_cons (ps_set (i := 2) sc__law_numbers.nd rfl (.inl rfl) (pe_lst pa_nil))
    (pss_cons (ps_for PassesOwn.never rfl (pi_range1 rfl z_range (pa_cons (pv 1) pa_nil)) (pg_name (i := 3) sc__law_numbers.nd rfl (.inl rfl))
      (pss_cons (ps_set (i := 4) sc__law_numbers.nd rfl (.inl rfl) pe_int)
    (pss_cons (ps_if (pt_cmpR op_gt (pe_callB call_len_seq (by rfl) z_len PySem.boot_len (pa_cons (pv 0) pa_nil)) pe_int (nomark _))
      (pss_one (ps_set (i := 4) sc__law_numbers.nd rfl (.inl rfl) (pe_callTy call_int1 (by rfl) z_int (by decide +kernel) (pa_cons (pe_ix ix_list (pv 0) (pe_op op_sub (pv 3) (pe_op op_mul (pe_op op_fdiv (pv 3) (pe_callB call_len_seq (by rfl) z_len PySem.boot_len (pa_cons (pv 0) pa_nil))) (pe_callB call_len_seq (by rfl) z_len PySem.boot_len (pa_cons (pv 0) pa_nil)))) (fun _ _ => rfl)) pa_nil))))
      pss_nil)
    (pss_cons (ps_if (pt_cmpR op_lt (pv 4) pe_int (nomark _))
      (pss_one (ps_set (i := 4) sc__law_numbers.nd rfl (.inl rfl) (pe_op op_sub pe_int (pe_op op_mul pe_int (pv 4)))))
      pss_nil)
    (Evl.pss_cut (ps_if (PW.pt (pw_or (pt_cmpR op_ge (pv 3) (pe_callB call_len_seq (by rfl) z_len PySem.boot_len (pa_cons (pv 0) pa_nil)) (nomark _)) (pw_or1 (pt_cmpR op_lt (pv 4) pe_int (nomark _)))))
      (pss_cons (ps_set (i := 4) sc__law_numbers.nd rfl (.inl rfl) (pe_op op_mod (pe_callTy call_int1 (by rfl) z_int (by decide +kernel) (pa_cons (pe_op op_add (pe_op op_mul (pe_op op_add (pe_op op_add (pv 4) (pe_op op_mul pe_int (pv 3))) pe_int) pe_int) (pe_op op_mul (pe_op op_mul (pv 3) (pv 3)) pe_int)) pa_nil)) pe_int))
    (pss_one (ps_set (i := 4) sc__law_numbers.nd rfl (.inl rfl) (pe_op op_mod (pe_callTy call_int1 (by rfl) z_int (by decide +kernel) (pa_cons (pe_op op_mul (pe_op op_add (pe_op op_add (pv 4) (pe_op op_mul pe_int (pv 3))) pe_int) pe_int) pa_nil)) pe_int))))
      pss_nil)
    (pss_one (ps_expr (pe_bm PySem.F.plainAttrs_list PySem.F.slot_list_append PySem.F.type_list_append mt_append (pv 2) (pa_cons (pv 4) pa_nil)))))))))
    (pss_one (ps_ret (pv 2))))), ?_⟩
  obtain ⟨a, ns, c, rfl, hS, h63, hc, q⟩ := h
  have hl : (ns.map V.int).length = ns.length := List.length_map _
  refine q_asgL (el_lst ea_nil (by decide)) fun p H1 hp e1 h1 => ?_
  refine q_forR1 (n := (c : Int)) (ea_cons (ev_var rfl) ea_nil) ⟨by omega, by omega⟩
    (fun i σ H' => ∃ y3 y4, σ = [some (.ref a), some (.int (c : Int)), some (.ref p), y3, y4] ∧ Ex H H' ∧ H' p = some (.lst ((lawN ns i).map V.int)))
    (fun H2 e2 => ⟨none, none, rfl, e1.trans e2, e2 _ _ h1⟩) (fun i σ H2 hi hw => ?_) (fun σ H2 hw => ?_)
  · obtain ⟨y3, y4, rfl, e2, h2⟩ := hw
    have hS2 : SqL K H2 a (ns.map V.int) := ex_l e2 hS
    refine q_asg ev_c fun H3 e3 => ?_
    have hS3 : SqL K H3 a (ns.map V.int) := ex_l e3 hS2
    -- the cell as the script has it
    refine q_ifAsg (v := .int (cell0 ns i)) (b := decide ((0 : Int) < ((ns.map V.int).length : Int))) ?_ (fun hb => ?_) (fun hb => ?_) fun H4 e4 => ?_
    · walk_at "et"
    · have h0 : 0 < ns.length := by
        have := of_decide_eq_true hb
        rw [hl] at this
        omega
      have em : i / ns.length * ns.length ≤ i := Nat.div_mul_le_self i ns.length
      have hlt : i - i / ns.length * ns.length < ns.length := by
        have := Nat.mod_lt i h0
        have := Nat.div_add_mod i ns.length
        rw [Nat.mul_comm] at this
        omega
      have ea : atI (ns.map V.int) ((i : Int) - (i : Int) / ((ns.map V.int).length : Int) * ((ns.map V.int).length : Int)) = some (.int (cell0 ns i)) := by
        rw [hl]
        have e5 : (i : Int) - (i : Int) / (ns.length : Int) * (ns.length : Int) = ((i - i / ns.length * ns.length : Nat) : Int) := by
          rw [Int.ofNat_sub em, Int.natCast_mul, Int.natCast_ediv]
        rw [e5]
        refine atI_nat ?_
        unfold cell0
        rw [if_pos h0, List.getElem?_map, List.getElem?_eq_getElem hlt, List.getD_eq_getElem?_getD, List.getElem?_eq_getElem hlt] <;> rfl
      refine ev_int (ev_op (ev_var rfl) (ev_op (ev_var rfl) (ev_op (ev_op (ev_var rfl) (ev_len (ev_var rfl) hS3) (rv_I ⟨?_, ?_⟩)) (ev_len (ev_var rfl) hS3) (rv_I ?_)) rv_I0) (rv_ixL hS3 ea))
      · rw [hl]; omega
      · rw [hl]; omega
      · rw [hl]; exact .inr ⟨by omega, by omega⟩
    · have h0 : ¬ 0 < ns.length := by
        have := of_decide_eq_false hb
        rw [hl] at this
        omega
      unfold cell0
      rw [if_neg h0]
      rfl
    have hS4 : SqL K H4 a (ns.map V.int) := ex_l e4 hS3
    refine q_ifAsg (v := .int (cell1 ns i)) (b := decide (cell0 ns i < 0)) (by walk_at "et") (fun hb => ?_) (fun hb => ?_) fun H5 e5 => ?_
    · refine ev_is (v := .int (1 - 2 * cell0 ns i)) (by walk_at "ev") ?_
      unfold cell1
      rw [if_pos (of_decide_eq_true hb)]
    · unfold cell1
      rw [if_neg (of_decide_eq_false hb)]
      rfl
    have hS5 : SqL K H5 a (ns.map V.int) := ex_l e5 hS4
    have h5 : H5 p = some (.lst ((lawN ns i).map V.int)) := e5 _ _ (e4 _ _ (e3 _ _ h2))
    have x5 : Ex H H5 := ((e2.trans e3).trans e4).trans e5
    -- the cell mixed
    refine q_cut (M := fun σ H' => σ = [some (.ref a), some (.int (c : Int)), some (.ref p), some (.int (i : Int)), some (.int (cellN ns i))] ∧ Ex H5 H') ?_ ?_
    · refine s_if (b := decide ((((ns.map V.int).length : Nat) : Int) ≤ (i : Int)) || decide (cell1 ns i < 1000000000)) ?_ (fun hb H6 e6 => ?_) (fun hb H6 e6 => ?_)
      · exact et_or (et_test (ev_op (ev_var rfl) (ev_len (ev_var rfl) hS5) rv_I0)) fun _ => et_test (ev_op (ev_var rfl) ev_c rv_I0)
      · have hb' : (ns.length : Int) ≤ (i : Int) ∨ cell1 ns i < 1000000000 := by
          rw [Bool.or_eq_true, decide_eq_true_eq, decide_eq_true_eq, hl] at hb
          exact hb
        refine q_asg (v := .int (((cell1 ns i + 101 * (i : Int) + 13) * 40692 + (i : Int) * (i : Int) * 6271) % 2147483399)) ?_ fun H7 e7 => ?_
        · refine ev_op (ev_int (ev_op (ev_op (ev_op (ev_op (ev_var rfl) (ev_op ev_c (ev_var rfl) (rv_I (.inl ⟨by decide, by decide⟩))) rv_I0) ev_c rv_I0) ev_c (rv_I (.inr ⟨by decide, by decide⟩))) (ev_op (ev_op (ev_var rfl) (ev_var rfl) (rv_I (.inl ⟨by omega, by omega⟩))) ev_c (rv_I (.inr ⟨by decide, by decide⟩))) rv_I0)) ev_c (rv_I (by decide))
        refine s_asg (v := .int (cellN ns i)) ?_ fun H8 e8 => ⟨rfl, (e6.trans e7).trans e8⟩
        refine ev_is (ev_op (ev_int (ev_op (ev_op (ev_op (ev_var rfl) (ev_op ev_c (ev_var rfl) (rv_I (.inl ⟨by decide, by decide⟩))) rv_I0) ev_c rv_I0) ev_c (rv_I (.inr ⟨by decide, by decide⟩)))) ev_c (rv_I (by decide))) ?_
        unfold cellN
        rw [if_pos hb']
        rfl
      · have hb' : ¬ ((ns.length : Int) ≤ (i : Int) ∨ cell1 ns i < 1000000000) := by
          intro z
          rw [Bool.or_eq_false_iff, decide_eq_false_iff_not, decide_eq_false_iff_not, hl] at hb
          rcases z with z | z
          · exact hb.1 z
          · exact hb.2 z
        refine ⟨?_, e6⟩
        unfold cellN
        rw [if_neg hb']
        rfl
    · intro σ' H' hm
      obtain ⟨rfl, x6⟩ := hm
      refine s_app (x6 _ _ h5) (ev_var rfl) (ev_var rfl) (by rw [List.length_map, lawN_len]; omega) fun H7 e7 => ?_
      refine ⟨_, _, rfl, Ex.mut ((x5.trans x6).trans e7) hp, ?_⟩
      rw [upd_same]
      unfold lawN
      rw [List.range_succ, List.map_append, List.map_append]
      rfl
  · obtain ⟨y3, y4, rfl, e2, h2⟩ := hw
    have ec : ((c : Int)).toNat = c := by omega
    rw [ec] at h2
    exact s_ret (ev_var rfl) fun H3 e3 => q p H3 hp (e2.trans e3) (e3 _ _ h2)
end

/-! ### the mathematics -/
def ab (i : Int) : Int := if i < 0 then -i else i
def rnd (n d : Int) : Int := if decide (V.bl (decide (n < 0)) = V.bl (decide (d < 0))) = true then (2 * ab n + ab d) / (2 * ab d) else -((2 * ab n + ab d) / (2 * ab d))
def quo (n d : Int) : Int := if decide (V.bl (decide (n < 0)) = V.bl (decide (d < 0))) = true then ab n / ab d else -(ab n / ab d)
theorem ab_nn (i : Int) : 0 ≤ ab i := by unfold ab; split <;> omega
theorem ab_pos {d : Int} (h : d ≠ 0) : 0 < ab d := by unfold ab; split <;> omega
theorem ab_or (i : Int) : (0 ≤ i ∧ ab i = i) ∨ (i < 0 ∧ ab i = -i) := by unfold ab; split <;> omega
theorem ab_neg (i : Int) : ab (-i) = ab i := by unfold ab; split <;> split <;> omega
/-- the off of a number from a multiple, by sizes -/
theorem off_eq {n d s t : Int} (h : t = if decide (V.bl (decide (n < 0)) = V.bl (decide (d < 0))) = true then s else -s) : (n - t * d = ab n - s * ab d ∧ 0 ≤ n) ∨ (n - t * d = -(ab n - s * ab d) ∧ n < 0) := by
  rw [dec_bl] at h
  unfold ab
  by_cases hn : n < 0 <;> by_cases hd : d < 0
  · rw [decide_eq_true hn, decide_eq_true hd, if_pos (beq_self_eq_true _)] at h
    rw [if_pos hn, if_pos hd, h, Int.mul_neg]
    exact .inr ⟨by omega, hn⟩
  · rw [decide_eq_true hn, decide_eq_false hd, if_neg (by decide)] at h
    rw [if_pos hn, if_neg hd, h, Int.neg_mul]
    exact .inr ⟨by omega, hn⟩
  · rw [decide_eq_false hn, decide_eq_true hd, if_neg (by decide)] at h
    rw [if_neg hn, if_pos hd, h, Int.neg_mul, Int.mul_neg]
    exact .inl ⟨by omega, by omega⟩
  · rw [decide_eq_false hn, decide_eq_false hd, if_pos (beq_self_eq_true _)] at h
    rw [if_neg hn, if_neg hd, h]
    exact .inl ⟨by omega, by omega⟩
theorem rnd_size {n d : Int} (h : d ≠ 0) : (2 * ab n + ab d) / (2 * ab d) * ab d * 2 ≤ 2 * ab n + ab d ∧ 2 * ab n + ab d < (2 * ab n + ab d) / (2 * ab d) * ab d * 2 + 2 * ab d ∧ 0 ≤ (2 * ab n + ab d) / (2 * ab d) := by
  have hd := ab_pos h
  have hn := ab_nn n
  have e := Int.mul_ediv_add_emod (2 * ab n + ab d) (2 * ab d)
  have h1 := Int.emod_nonneg (2 * ab n + ab d) (show 2 * ab d ≠ 0 by omega)
  have h2 := Int.emod_lt_of_pos (2 * ab n + ab d) (show 0 < 2 * ab d by omega)
  have e2 : 2 * ab d * ((2 * ab n + ab d) / (2 * ab d)) = (2 * ab n + ab d) / (2 * ab d) * ab d * 2 := by
    rw [Int.mul_comm (2 * ab d), Int.mul_comm 2 (ab d), ← Int.mul_assoc]
  have h3 : 0 ≤ (2 * ab n + ab d) / (2 * ab d) := Int.ediv_nonneg (by omega) (by omega)
  omega
theorem ab_ite {c : Prop} [Decidable c] {s : Int} (h : 0 ≤ s) : ab (if c then s else -s) = s := by
  unfold ab
  split <;> split <;> omega
/-- the nearest one: what the law asks of it -/
theorem rnd_near {n d : Int} (h : d ≠ 0) : ¬ 2 * ab (n - rnd n d * d) > ab d ∧ (2 * ab (n - rnd n d * d) = ab d → ab n < ab (rnd n d) * ab d) := by
  obtain ⟨h1, h2, h3⟩ := rnd_size (n := n) h
  have e1 : ab (rnd n d) = (2 * ab n + ab d) / (2 * ab d) := ab_ite h3
  rw [e1]
  have ho := off_eq (n := n) (d := d) (s := (2 * ab n + ab d) / (2 * ab d)) (t := rnd n d) rfl
  have e2 : ab (n - rnd n d * d) = ab (ab n - (2 * ab n + ab d) / (2 * ab d) * ab d) := by
    rcases ho with ⟨e, _⟩ | ⟨e, _⟩
    · rw [e]
    · rw [e, ab_neg]
  rw [e2]
  generalize (2 * ab n + ab d) / (2 * ab d) * ab d = m at *
  have hx := ab_or (ab n - m)
  have := ab_nn (ab n - m)
  constructor <;> omega
theorem quo_ok {n d : Int} (h : d ≠ 0) : ¬ ab (n - quo n d * d) ≥ ab d ∧ (n - quo n d * d = 0 ∨ decide (n - quo n d * d < 0) = decide (n < 0)) := by
  have hd := ab_pos h
  have hn := ab_nn n
  have e := Int.mul_ediv_add_emod (ab n) (ab d)
  have h1 := Int.emod_nonneg (ab n) (show ab d ≠ 0 by omega)
  have h2 := Int.emod_lt_of_pos (ab n) hd
  have ho := off_eq (n := n) (d := d) (s := ab n / ab d) (t := quo n d) rfl
  rw [Int.mul_comm] at e
  generalize ab n / ab d * ab d = m at *
  generalize n - quo n d * d = z at *
  rcases ho with ⟨e1, e3⟩ | ⟨e1, e3⟩
  · refine ⟨?_, ?_⟩
    · have : ab z = z := by unfold ab; split <;> omega
      omega
    · rw [decide_eq_false (show ¬ z < 0 by omega), decide_eq_false (show ¬ n < 0 by omega)]
      exact .inr rfl
  · refine ⟨?_, ?_⟩
    · have : ab z = -z := by unfold ab; split <;> omega
      omega
    · by_cases hz : z = 0
      · exact .inl hz
      · rw [decide_eq_true (show z < 0 by omega), decide_eq_true e3]
        exact .inr rfl
def sizeN (n : Int) : Int := if n % 3 = 0 then n / 3 % 30 else n / 3 * 1000003 % 1000000000000000000000000000000
theorem sizeN_in (n : Int) : 0 ≤ sizeN n ∧ sizeN n < 1000000000000000000000000000000 := by
  unfold sizeN
  split <;> omega
def big (n d : Int) : Prop := -(2 ^ 112) < n ∧ n < 2 ^ 112 ∧ -(2 ^ 112) < d ∧ d < 2 ^ 112 ∧ d ≠ 0
theorem pow112 {n : Int} (h1 : -(2 ^ 112) < n) (h2 : n < 2 ^ 112) : n.natAbs < 2 ^ 112 := by omega
theorem near_bound {n d : Int} (h : big n d) : (rnd n d).natAbs < 2 ^ 115 := by
  obtain ⟨h1, h2, h3⟩ := rnd_size (n := n) h.2.2.2.2
  have hd := ab_pos h.2.2.2.2
  have : (2 * ab n + ab d) / (2 * ab d) ≤ 2 * ab n + ab d := by
    have := Int.ediv_le_self (2 * ab d) (show 0 ≤ 2 * ab n + ab d by have := ab_nn n; omega)
    omega
  have a1 : ab n < 2 ^ 112 := by unfold ab; have := h.1; have := h.2.1; split <;> omega
  have a2 : ab d < 2 ^ 112 := by unfold ab; have := h.2.2.1; have := h.2.2.2.1; split <;> omega
  unfold rnd
  split <;> omega
theorem quo_bound {n d : Int} (h : big n d) : (quo n d).natAbs < 2 ^ 115 := by
  have hd := ab_pos h.2.2.2.2
  have h0 : 0 ≤ ab n / ab d := Int.ediv_nonneg (ab_nn n) (ab_nn d)
  have : ab n / ab d ≤ ab n := Int.ediv_le_self _ (ab_nn n)
  have a1 : ab n < 2 ^ 112 := by unfold ab; have := h.1; have := h.2.1; split <;> omega
  unfold quo
  split <;> omega
/-! ### promises -/
def sp_rounded (K : PySem.W.Frag) : Sp := fun vs H Q _ => ∃ n d : Int, vs = [.int n, .int d] ∧ big n d ∧ ∀ H', Ex H H' → Q (.int (rnd n d)) H'
def sp_quotient (K : PySem.W.Frag) : Sp := fun vs H Q _ => ∃ n d : Int, vs = [.int n, .int d] ∧ big n d ∧ ∀ H', Ex H H' → Q (.int (quo n d)) H'
def sp__law_is_integer (K : PySem.W.Frag) : Sp := fun vs H Q _ => ∃ n : Int, vs = [.int n] ∧ ∀ H', Ex H H' → Q (.bl true) H'
def sp__law_size (K : PySem.W.Frag) : Sp := fun vs H Q _ => ∃ n : Int, vs = [.int n] ∧ ∀ H', Ex H H' → Q (.int (sizeN n)) H'
def sp__law_nearest (K : PySem.W.Frag) : Sp := fun vs H Q _ => ∃ n d t : Int, vs = [.int n, .int d, .int t] ∧ big n d ∧ t = rnd n d ∧ ∀ H', Ex H H' → Q (.bl true) H'
def sp_law (K : PySem.W.Frag) : Sp := fun vs H Q _ => ∃ (a : Addr) (ns : List Int), vs = [.ref a] ∧ SqL K H a (ns.map V.int) ∧ ns.length ≤ 63 ∧ ∀ H', Q (.bl true) H'
theorem sp_law_of {K : PySem.W.Frag} {H : Hp} {a : Addr} {ns : List Int} (hl : ns.length ≤ 63) (hS : SqL K H a (ns.map V.int)) : sp_law K [.ref a] H (fun v _ => v = .bl true) fun _ _ _ => False :=
  ⟨a, ns, rfl, hS, hl, fun _ => rfl⟩
theorem wdiv {n d : Int} (h0 : 0 < d) (h : d < 2 ^ 120) : CDivW n d := wide_div (b := 120) h0 (by omega) (by decide) (by decide)
theorem wmul {n d : Int} (h0 : n.natAbs < 2 ^ 115) (h : d.natAbs < 2 ^ 115) : CMulW n d := wide_mul h0 h (by decide) (by decide) (by decide)
section
variable {P : Program} {w : World} {K : PySem.W.Frag} {mg : Str → Option Value} {base : Heap}
theorem ok_rounded (D : Dn K mg "rounded" s_rounded ["number", "divisor"]) (z_abs : mg "abs" = none) :
    C8.Cal P w K mg base 1 "rounded" (sp_rounded K) [] := by
  refine cal_of D sc_rounded (fun vs H Q E h => ?_) (fun f cdv A outer s H vs Q E hr h => ?_)
  · obtain ⟨_, _, rfl, _⟩ := h
    rfl
  refine ⟨_, (pss_cons (ps_set (i := 2) sc_rounded.nd rfl (.inl rfl) (pe_op op_fdivW (pe_op op_add (pe_op op_mul pe_int (pe_callB call_abs (by rfl) z_abs (by decide +kernel) (pa_cons (pv 0) pa_nil))) (pe_callB call_abs (by rfl) z_abs (by decide +kernel) (pa_cons (pv 1) pa_nil))) (pe_op op_mul pe_int (pe_callB call_abs (by rfl) z_abs (by decide +kernel) (pa_cons (pv 1) pa_nil)))))
    (pss_one (ps_ret (pe_ifExp (pt_cmpR op_eq (pe_cmpR op_lt (pv 0) pe_int (nomark _)) (pe_cmpR op_lt (pv 1) pe_int (nomark _)) (nomark _)) (pv 2) (pe_un un_neg (pv 2)))))), ?_⟩
  obtain ⟨n, d, rfl, hb, q⟩ := h
  have hd := ab_pos hb.2.2.2.2
  have a2 : ab d < 2 ^ 112 := by unfold ab; have := hb.2.2.1; have := hb.2.2.2.1; split <;> omega
  refine q_asg (v := .int ((2 * ab n + ab d) / (2 * ab d))) ?_ fun H1 e1 => ?_
  · exact ev_op (ev_op (ev_op ev_c (ev_abs (ev_var rfl)) (rv_I (.inl ⟨by decide, by decide⟩))) (ev_abs (ev_var rfl)) rv_I0) (ev_op ev_c (ev_abs (ev_var rfl)) (rv_I (.inl ⟨by decide, by decide⟩))) (rv_I (wdiv (by show 0 < 2 * ab d; omega) (by show 2 * ab d < 2 ^ 120; omega)))
  refine s_ret (v := .int (rnd n d)) ?_ fun H2 e2 => q _ (e1.trans e2)
  refine ev_if (b := decide (V.bl (decide (n < 0)) = V.bl (decide (d < 0)))) (by walk_at "et") (fun h => ?_) (fun h => ?_)
  · refine ev_is (ev_var rfl) ?_
    unfold rnd
    rw [if_pos h]
  · refine ev_is (v := .int (-((2 * ab n + ab d) / (2 * ab d)))) (by walk_at "ev") ?_
    unfold rnd
    rw [if_neg (by rw [h]; decide)]
theorem ok_quotient (D : Dn K mg "quotient" s_quotient ["number", "divisor"]) (z_abs : mg "abs" = none) :
    C8.Cal P w K mg base 1 "quotient" (sp_quotient K) [] := by
  refine cal_of D sc_quotient (fun vs H Q E h => ?_) (fun f cdv A outer s H vs Q E hr h => ?_)
  · obtain ⟨_, _, rfl, _⟩ := h
    rfl
  refine ⟨_, (pss_cons (ps_set (i := 2) sc_quotient.nd rfl (.inl rfl) (pe_op op_fdivW (pe_callB call_abs (by rfl) z_abs (by decide +kernel) (pa_cons (pv 0) pa_nil)) (pe_callB call_abs (by rfl) z_abs (by decide +kernel) (pa_cons (pv 1) pa_nil))))
    (pss_one (ps_ret (pe_ifExp (pt_cmpR op_eq (pe_cmpR op_lt (pv 0) pe_int (nomark _)) (pe_cmpR op_lt (pv 1) pe_int (nomark _)) (nomark _)) (pv 2) (pe_un un_neg (pv 2)))))), ?_⟩
  obtain ⟨n, d, rfl, hb, q⟩ := h
  have hd := ab_pos hb.2.2.2.2
  have a2 : ab d < 2 ^ 112 := by unfold ab; have := hb.2.2.1; have := hb.2.2.2.1; split <;> omega
  refine q_asg (v := .int (ab n / ab d)) ?_ fun H1 e1 => ?_
  · exact ev_op (ev_abs (ev_var rfl)) (ev_abs (ev_var rfl)) (rv_I (wdiv (by show 0 < ab d; omega) (by show ab d < 2 ^ 120; omega)))
  refine s_ret (v := .int (quo n d)) ?_ fun H2 e2 => q _ (e1.trans e2)
  refine ev_if (b := decide (V.bl (decide (n < 0)) = V.bl (decide (d < 0)))) (by walk_at "et") (fun h => ?_) (fun h => ?_)
  · refine ev_is (ev_var rfl) ?_
    unfold quo
    rw [if_pos h]
  · refine ev_is (v := .int (-(ab n / ab d))) (by walk_at "ev") ?_
    unfold quo
    rw [if_neg (by rw [h]; decide)]
theorem ok__law_is_integer (D : Dn K mg "_law_is_integer" s__law_is_integer ["value"]) (z_bool : mg "bool" = none) (z_int : mg "int" = none) (z_isinstance : mg "isinstance" = none) :
    C8.Cal P w K mg base 1 "_law_is_integer" (sp__law_is_integer K) [] := by
  refine cal_of D sc__law_is_integer (fun vs H Q E h => ?_) (fun f cdv A outer s H vs Q E hr h => ?_)
  · obtain ⟨_, rfl, _⟩ := h
    rfl
  refine ⟨_, (pss_one (ps_ret (pe_and (pe_callB call_isi (by rfl) z_isinstance (by decide +kernel) (pa_cons (pv 0) (pa_cons (pe_bltn (v := .ty "int") (u := .type "int") rfl z_int (by decide +kernel) rfl) pa_nil))) (pe_one (pe_not (pe_callB call_isi (by rfl) z_isinstance (by decide +kernel) (pa_cons (pv 0) (pa_cons (pe_bltn (v := .ty "bool") (u := .type "bool") rfl z_bool (by decide +kernel) rfl) pa_nil)))))))), ?_⟩
  obtain ⟨n, rfl, q⟩ := h
  refine s_ret (v := .bl true) ?_ fun H2 e2 => q _ e2
  exact ev_is (ev_andV (ev_isi (T := "int") (b := true) (ev_var rfl) (tx_int n) (by decide +kernel)) fun _ => ev_notV (ev_isi (T := "bool") (b := false) (ev_var rfl) (tx_int n) (by decide +kernel))) rfl
theorem ok__law_size (D : Dn K mg "_law_size" s__law_size ["number"]) (z_int : mg "int" = none) :
    C8.Cal P w K mg base 1 "_law_size" (sp__law_size K) [] := by
  refine cal_of D sc__law_size (fun vs H Q E h => ?_) (fun f cdv A outer s H vs Q E hr h => ?_)
  · obtain ⟨_, rfl, _⟩ := h
    rfl
  refine ⟨_, (pss_cons (ps_if (pt_cmpR op_eq (pe_op op_mod (pe_callTy call_int1 (by rfl) z_int (by decide +kernel) (pa_cons (pv 0) pa_nil)) pe_int) pe_int (nomark _))
      (pss_one (ps_ret (pe_op op_mod (pe_op op_fdiv (pe_callTy call_int1 (by rfl) z_int (by decide +kernel) (pa_cons (pv 0) pa_nil)) pe_int) pe_int)))
      pss_nil)
    (pss_one (ps_ret (pe_op op_mod (pe_op op_mul (pe_op op_fdiv (pe_callTy call_int1 (by rfl) z_int (by decide +kernel) (pa_cons (pv 0) pa_nil)) pe_int) pe_int) pe_int)))), ?_⟩
  obtain ⟨n, rfl, q⟩ := h
  refine q_when (b := decide (V.int (n % 3) = V.int 0)) (by walk_at "et") (fun hb H1 e1 => s_ret (v := .int (sizeN n)) ?_ fun H2 e2 => q _ (e1.trans e2)) fun hb H1 e1 => s_ret (v := .int (sizeN n)) ?_ fun H2 e2 => q _ (e1.trans e2)
  · refine ev_is (v := .int (n / 3 % 30)) (by walk_at "ev") ?_
    unfold sizeN
    rw [if_pos (V.int.inj (of_decide_eq_true hb))]
  · refine ev_is (v := .int (n / 3 * 1000003 % 1000000000000000000000000000000)) (by walk_at "ev") ?_
    unfold sizeN
    rw [if_neg fun e => of_decide_eq_false hb (by rw [e])]
theorem ok__law_nearest (D : Dn K mg "_law_nearest" s__law_nearest ["number", "divisor", "told"]) (z_abs : mg "abs" = none) :
    C8.Cal P w K mg base 1 "_law_nearest" (sp__law_nearest K) [] := by
  refine cal_of D sc__law_nearest (fun vs H Q E h => ?_) (fun f cdv A outer s H vs Q E hr h => ?_)
  · obtain ⟨_, _, _, rfl, _⟩ := h
    rfl
  refine ⟨_, (pss_cons (ps_set (i := 3) sc__law_nearest.nd rfl (.inl rfl) (pe_callB call_abs (by rfl) z_abs (by decide +kernel) (pa_cons (pe_op op_sub (pv 0) (pe_op op_mulW (pv 2) (pv 1))) pa_nil)))
    (pss_cons (ps_set (i := 4) sc__law_nearest.nd rfl (.inl rfl) (pe_callB call_abs (by rfl) z_abs (by decide +kernel) (pa_cons (pv 1) pa_nil)))
    (pss_cons (ps_if (pt_cmpR op_gt (pe_op op_mul pe_int (pv 3)) (pv 4) (nomark _))
      (pss_one (ps_ret pe_bl))
      pss_nil)
    (pss_cons (ps_if (pt_cmpR op_eq (pe_op op_mul pe_int (pv 3)) (pv 4) (nomark _))
      (pss_one (ps_ret (pe_cmpR op_gt (pe_op op_mulW (pe_callB call_abs (by rfl) z_abs (by decide +kernel) (pa_cons (pv 2) pa_nil)) (pv 4)) (pe_callB call_abs (by rfl) z_abs (by decide +kernel) (pa_cons (pv 0) pa_nil)) (nomark _))))
      pss_nil)
    (pss_one (ps_ret pe_bl)))))), ?_⟩
  obtain ⟨n, d, t, rfl, hb, rfl, q⟩ := h
  have hd := ab_pos hb.2.2.2.2
  have b1 := near_bound hb
  have b2 : d.natAbs < 2 ^ 115 := by have := hb.2.2.1; have := hb.2.2.2.1; omega
  have hn := rnd_near (n := n) hb.2.2.2.2
  have a3 : (ab (rnd n d)).natAbs < 2 ^ 115 := by unfold ab; split <;> omega
  have a4 : (ab d).natAbs < 2 ^ 115 := by unfold ab; split <;> omega
  refine q_asg (v := .int (ab (n - rnd n d * d))) ?_ fun H1 e1 => ?_
  · exact ev_abs (ev_op (ev_var rfl) (ev_op (ev_var rfl) (ev_var rfl) (rv_I (wmul b1 b2))) rv_I0)
  refine q_asg (v := .int (ab d)) (ev_abs (ev_var rfl)) fun H2 e2 => ?_
  refine q_when (b := decide (2 * ab (n - rnd n d * d) > ab d)) (by walk_at "et") (fun hb => absurd (of_decide_eq_true hb) hn.1) fun _ H3 e3 => ?_
  refine q_when (b := decide (V.int (2 * ab (n - rnd n d * d)) = V.int (ab d))) (by walk_at "et") (fun hc H4 e4 => s_ret (v := .bl true) ?_ fun H5 e5 => q _ ((((e1.trans e2).trans e3).trans e4).trans e5)) fun _ H4 e4 => s_ret ev_c fun H5 e5 => q _ ((((e1.trans e2).trans e3).trans e4).trans e5)
  refine ev_is (v := .bl (decide (ab n < ab (rnd n d) * ab d))) (ev_op (ev_op (ev_abs (ev_var rfl)) (ev_var rfl) (rv_I (wmul a3 a4))) (ev_abs (ev_var rfl)) rv_I0) ?_
  rw [decide_eq_true (hn.2 (V.int.inj (of_decide_eq_true hc)))]
variable {σ : L2.St} {H : Hp} {ta tb tc : TE} {E : XK} {n d : Int}
theorem ec_rounded (hb : big n d) (ha : Ev ta σ H (.int n)) (hb : Ev tb σ H (.int d)) : Ev (tCall (sp_rounded K) [] E (tCons ta (tCons tb tNil))) σ H (.int (rnd n d)) := ev_call (ea_cons ha (ea_cons hb ea_nil)) fun H1 e Q q E => ⟨n, d, rfl, by assumption, q⟩
theorem ec_quotient (hb : big n d) (ha : Ev ta σ H (.int n)) (hb : Ev tb σ H (.int d)) : Ev (tCall (sp_quotient K) [] E (tCons ta (tCons tb tNil))) σ H (.int (quo n d)) := ev_call (ea_cons ha (ea_cons hb ea_nil)) fun H1 e Q q E => ⟨n, d, rfl, by assumption, q⟩
theorem ec_isint (ha : Ev ta σ H (.int n)) : Ev (tCall (sp__law_is_integer K) [] E (tCons ta tNil)) σ H (.bl true) := ev_call (ea_cons ha ea_nil) fun H1 e Q q E => ⟨n, rfl, q⟩
theorem ec_size (ha : Ev ta σ H (.int n)) : Ev (tCall (sp__law_size K) [] E (tCons ta tNil)) σ H (.int (sizeN n)) := ev_call (ea_cons ha ea_nil) fun H1 e Q q E => ⟨n, rfl, q⟩
theorem ec_nearest (hb : big n d) (ha : Ev ta σ H (.int n)) (hb : Ev tb σ H (.int d)) (hc : Ev tc σ H (.int (rnd n d))) : Ev (tCall (sp__law_nearest K) [] E (tCons ta (tCons tb (tCons tc tNil)))) σ H (.bl true) := ev_call (ea_cons ha (ea_cons hb (ea_cons hc ea_nil))) fun H1 e Q q E => ⟨n, d, _, rfl, by assumption, rfl, q⟩
theorem ok_law {f : Addr} {fd : FuncData} (D : C8.Def K mg "law" s_law f fd) (c__law_is_integer : C8.Cal P w K mg base 1 "_law_is_integer" (sp__law_is_integer K) []) (c__law_nearest : C8.Cal P w K mg base 1 "_law_nearest" (sp__law_nearest K) []) (c__law_numbers : C8.Cal P w K mg base 1 "_law_numbers" (sp__law_numbers K) []) (c__law_size : C8.Cal P w K mg base 1 "_law_size" (sp__law_size K) []) (c_quotient : C8.Cal P w K mg base 1 "quotient" (sp_quotient K) []) (c_rounded : C8.Cal P w K mg base 1 "rounded" (sp_rounded K) []) (z_abs : mg "abs" = none) (z_int : mg "int" = none) :
    FnOk P w K mg base C8.CX0 2 f fd ["script"] (sp_law K) := by
  refine C8.fn0 D.fn sc_law (fun vs H Q E h => ?_) (fun cdv A outer s H vs Q E hr h => ?_)
  · obtain ⟨_, _, rfl, _⟩ := h
    rfl
  refine ⟨_, (pss_cons (ps_set (i := 1) sc_law.nd rfl (.inl rfl) (C8.pe_c c__law_numbers hr (by decide) (by rfl) (pa_cons (pv 0) (pa_cons pe_int pa_nil))))
    (pss_cons (ps_set (i := 2) sc_law.nd rfl (.inl rfl) (pe_op op_add pe_int (C8.pe_c c__law_size hr (by decide) (by rfl) (pa_cons (pe_ix ix_list (pv 1) pe_int (fun _ _ => rfl)) pa_nil))))
    (pss_cons (ps_set (i := 3) sc_law.nd rfl (.inl rfl) (C8.pe_c c__law_size hr (by decide) (by rfl) (pa_cons (pe_ix ix_list (pv 1) pe_int (fun _ _ => rfl)) pa_nil)))
    (pss_cons (ps_if (pt_cmpR op_eq (pe_op op_mod (pe_callTy call_int1 (by rfl) z_int (by decide +kernel) (pa_cons (pe_ix ix_list (pv 1) pe_int (fun _ _ => rfl)) pa_nil)) pe_int) pe_int (nomark _))
      (pss_one (ps_set (i := 3) sc_law.nd rfl (.inl rfl) (pe_op op_sub (pe_op op_add (pe_op op_fdiv (pe_op op_mul (pv 2) (pe_op op_add (pe_op op_mul pe_int (pe_op op_mod (pe_callTy call_int1 (by rfl) z_int (by decide +kernel) (pa_cons (pe_ix ix_list (pv 1) pe_int (fun _ _ => rfl)) pa_nil)) pe_int)) pe_int)) pe_int) (pe_op op_mod (pe_op op_fdiv (pe_callTy call_int1 (by rfl) z_int (by decide +kernel) (pa_cons (pe_ix ix_list (pv 1) pe_int (fun _ _ => rfl)) pa_nil)) pe_int) pe_int)) pe_int)))
      pss_nil)
    (pss_cons (ps_if (pt_cmpR op_eq (pe_op op_mod (pe_op op_fdiv (pe_callTy call_int1 (by rfl) z_int (by decide +kernel) (pa_cons (pe_ix ix_list (pv 1) pe_int (fun _ _ => rfl)) pa_nil)) pe_int) pe_int) pe_int (nomark _))
      (pss_one (ps_set (i := 3) sc_law.nd rfl (.inl rfl) (pe_un un_neg (pv 3))))
      pss_nil)
    (pss_cons (ps_if (pt_cmpR op_eq (pe_op op_mod (pe_op op_fdiv (pe_callTy call_int1 (by rfl) z_int (by decide +kernel) (pa_cons (pe_ix ix_list (pv 1) pe_int (fun _ _ => rfl)) pa_nil)) pe_int) pe_int) pe_int (nomark _))
      (pss_one (ps_set (i := 2) sc_law.nd rfl (.inl rfl) (pe_un un_neg (pv 2))))
      pss_nil)
    (pss_cons (ps_set (i := 4) sc_law.nd rfl (.inl rfl) (C8.pe_c c_rounded hr (by decide) (by rfl) (pa_cons (pv 3) (pa_cons (pv 2) pa_nil))))
    (pss_cons (ps_if (PW.pt (pw_or (pt_not (pt_val (C8.pe_c c__law_is_integer hr (by decide) (by rfl) (pa_cons (pv 4) pa_nil)))) (pw_or1 (pt_not (pt_val (C8.pe_c c__law_nearest hr (by decide) (by rfl) (pa_cons (pv 3) (pa_cons (pv 2) (pa_cons (pv 4) pa_nil)))))))))
      (pss_one (ps_ret pe_bl))
      pss_nil)
    (pss_cons (ps_set (i := 5) sc_law.nd rfl (.inl rfl) (C8.pe_c c_quotient hr (by decide) (by rfl) (pa_cons (pv 3) (pa_cons (pv 2) pa_nil))))
    (pss_cons (ps_if (pt_not (pt_val (C8.pe_c c__law_is_integer hr (by decide) (by rfl) (pa_cons (pv 5) pa_nil))))
      (pss_one (ps_ret pe_bl))
      pss_nil)
    (pss_cons (ps_set (i := 6) sc_law.nd rfl (.inl rfl) (pe_op op_sub (pv 3) (pe_op op_mulW (pv 5) (pv 2))))
    (pss_cons (ps_if (pt_cmpR op_ge (pe_callB call_abs (by rfl) z_abs (by decide +kernel) (pa_cons (pv 6) pa_nil)) (pe_callB call_abs (by rfl) z_abs (by decide +kernel) (pa_cons (pv 2) pa_nil)) (nomark _))
      (pss_one (ps_ret pe_bl))
      pss_nil)
    (pss_one (ps_ret (pe_or (pe_cmpR op_eq (pv 6) pe_int (nomark _)) (pe_one (pe_cmpR op_eq (pe_cmpR op_lt (pv 6) pe_int (nomark _)) (pe_cmpR op_lt (pv 3) pe_int (nomark _)) (nomark _)))))))))))))))))), ?_⟩
  obtain ⟨a, ns, rfl, hS, h63, q⟩ := h
  refine q_asgL (xs := (lawN ns 3).map V.int) (el_call (ea_cons (ev_var rfl) (ea_cons ev_c ea_nil)) fun H1 e Q q E => ⟨a, ns, 3, rfl, ex_l e hS, h63, by decide, q⟩) fun p1 H1 hp1 e1 h1 => ?_
  have i0 := lawN_at (ns := ns) (c := 3) (i := 0) (by decide)
  have i1 := lawN_at (ns := ns) (c := 3) (i := 1) (by decide)
  have i2 := lawN_at (ns := ns) (c := 3) (i := 2) (by decide)
  generalize cellN ns 0 = n0 at i0
  generalize cellN ns 1 = n1 at i1
  generalize cellN ns 2 = n2 at i2
  have g0 : ∀ {σ : L2.St} {H' : Hp}, σ[1]? = some (some (V.ref p1)) → Ex H1 H' → Ev (tOp (rIxL K) (tVar 1) (tC (.int 0))) σ H' (.int n0) := fun hσ e => ev_op (ev_var hσ) ev_c (rv_ixL (sq_of (e _ _ h1)) i0)
  have g1 : ∀ {σ : L2.St} {H' : Hp}, σ[1]? = some (some (V.ref p1)) → Ex H1 H' → Ev (tOp (rIxL K) (tVar 1) (tC (.int 1))) σ H' (.int n1) := fun hσ e => ev_op (ev_var hσ) ev_c (rv_ixL (sq_of (e _ _ h1)) i1)
  have g2 : ∀ {σ : L2.St} {H' : Hp}, σ[1]? = some (some (V.ref p1)) → Ex H1 H' → Ev (tOp (rIxL K) (tVar 1) (tC (.int 2))) σ H' (.int n2) := fun hσ e => ev_op (ev_var hσ) ev_c (rv_ixL (sq_of (e _ _ h1)) i2)
  refine q_asg (v := .int (1 + sizeN n1)) (ev_op ev_c (ec_size (g1 rfl (Ex.refl _))) rv_I0) fun H2 e2 => ?_
  refine q_asg (v := .int (sizeN n0)) (ec_size (g0 rfl e2)) fun H3 e3 => ?_
  have b1 := sizeN_in n1
  have b0 := sizeN_in n0
  generalize sizeN n0 = z0 at *
  generalize sizeN n1 = z1 at *
  have x3 := e2.trans e3
  refine q_ifI (b := decide (V.int (n2 % 4) = V.int 0)) (p := (1 + z1) * (2 * (n0 % 50) + 1) / 2 + n2 / 4 % 3 - 1) ?_ (fun _ => ?_) rfl fun H4 e4 => ?_
  · exact et_test (ev_op (ev_op (ev_int (g2 rfl x3)) ev_c (rv_I (by decide))) ev_c (rv_eq rfl))
  · refine ev_op (ev_op (ev_op (ev_op (ev_var rfl) (ev_op (ev_op ev_c (ev_op (ev_int (g0 rfl x3)) ev_c (rv_I (by decide))) (rv_I (.inl ⟨by decide, by decide⟩))) ev_c rv_I0) (rv_I (.inr ⟨by omega, by omega⟩))) ev_c (rv_I ⟨by decide, by decide⟩)) (ev_op (ev_op (ev_int (g2 rfl x3)) ev_c (rv_I ⟨by decide, by decide⟩)) ev_c (rv_I (by decide))) rv_I0) ev_c rv_I0
  have bn : -(2 ^ 111) < (if decide (V.int (n2 % 4) = V.int 0) = true then (1 + z1) * (2 * (n0 % 50) + 1) / 2 + n2 / 4 % 3 - 1 else z0) ∧ (if decide (V.int (n2 % 4) = V.int 0) = true then (1 + z1) * (2 * (n0 % 50) + 1) / 2 + n2 / 4 % 3 - 1 else z0) < 2 ^ 111 := by
    have m1 : (1 + z1) * (2 * (n0 % 50) + 1) ≤ (1 + z1) * 99 := Int.mul_le_mul_of_nonneg_left (by omega) (by omega)
    have m0 : 0 ≤ (1 + z1) * (2 * (n0 % 50) + 1) := Int.mul_nonneg (by omega) (by omega)
    split <;> omega
  generalize (if decide (V.int (n2 % 4) = V.int 0) = true then (1 + z1) * (2 * (n0 % 50) + 1) / 2 + n2 / 4 % 3 - 1 else z0) = m1 at *
  have x4 := x3.trans e4
  refine q_ifI (b := decide (V.int (n2 / 12 % 2) = V.int 0)) (p := -m1) ?_ (fun _ => by walk_at "ev") rfl fun H5 e5 => ?_
  · exact et_test (ev_op (ev_op (ev_op (ev_int (g2 rfl x4)) ev_c (rv_I ⟨by decide, by decide⟩)) ev_c (rv_I (by decide))) ev_c (rv_eq rfl))
  have x5 := x4.trans e5
  refine q_ifI (b := decide (V.int (n2 / 24 % 2) = V.int 0)) (p := -(1 + z1)) ?_ (fun _ => by walk_at "ev") rfl fun H6 e6 => ?_
  · exact et_test (ev_op (ev_op (ev_op (ev_int (g2 rfl x5)) ev_c (rv_I ⟨by decide, by decide⟩)) ev_c (rv_I (by decide))) ev_c (rv_eq rfl))
  have hbig : big (if decide (V.int (n2 / 12 % 2) = V.int 0) = true then -m1 else m1) (if decide (V.int (n2 / 24 % 2) = V.int 0) = true then -(1 + z1) else 1 + z1) := by
    unfold big
    split <;> split <;> omega
  generalize (if decide (V.int (n2 / 12 % 2) = V.int 0) = true then -m1 else m1) = n at *
  generalize (if decide (V.int (n2 / 24 % 2) = V.int 0) = true then -(1 + z1) else 1 + z1) = d at *
  refine q_asg (ec_rounded hbig (ev_var rfl) (ev_var rfl)) fun H7 e7 => ?_
  refine q_when (b := !true || !true) (et_or (et_not (et_B (ec_isint (ev_var rfl)))) fun _ => et_not (et_B (ec_nearest hbig (ev_var rfl) (ev_var rfl) (ev_var rfl)))) (fun hb => nomatch hb) fun _ H8 e8 => ?_
  refine q_asg (ec_quotient hbig (ev_var rfl) (ev_var rfl)) fun H9 e9 => ?_
  refine q_when (b := !true) (et_not (et_B (ec_isint (ev_var rfl)))) (fun hb => nomatch hb) fun _ Ha ea => ?_
  have b2 : d.natAbs < 2 ^ 115 := by have := hbig.2.2.1; have := hbig.2.2.2.1; omega
  have hq := quo_ok (n := n) hbig.2.2.2.2
  refine q_asg (v := .int (n - quo n d * d)) (ev_op (ev_var rfl) (ev_op (ev_var rfl) (ev_var rfl) (rv_I (wmul (quo_bound hbig) b2))) rv_I0) fun Hb eb => ?_
  refine q_when (b := decide (ab (n - quo n d * d) ≥ ab d)) (by walk_at "et") (fun hb => absurd (of_decide_eq_true hb) hq.1) fun _ Hc ec => ?_
  refine s_ret (v := .bl true) ?_ fun Hd ed => q Hd
  refine ev_is (v := .bl (decide (V.int (n - quo n d * d) = V.int 0) || decide (V.bl (decide (n - quo n d * d < 0)) = V.bl (decide (n < 0))))) (by walk_at "ev") ?_
  rcases hq.2 with e | e
  · rw [e]
    rfl
  · rw [e, decide_eq_true (show V.bl (decide (n < 0)) = V.bl (decide (n < 0)) from rfl), Bool.or_true]
end
theorem all_mk {P : Program} {w : World} {K : PySem.W.Frag} {h : Heap} {mg : Str → Option Value} {fa : Addr} (X : K.In h) (G : h.Ns mainGlobals mg) (hfa : mg "law" = some (.ref fa))
    {f0 : Addr} {od0 an0 : Option Addr} {sl0 : Array (Option Value)} {oc0 kV0 dc0 pm0 cd0 ct0 : Value} (a0 : PySem.W.nsIn K mainGlobals "rounded" = some (some (.ref f0))) (l0 : K.lookup f0 = some ⟨oc0, od0, .func (PySem.W.fnOf "rounded" "rounded" (C8.fnArgs s_rounded) (C8.fnBody s_rounded) (C8.fnScope s_rounded) .none kV0 dc0 pm0 an0 cd0 ct0), sl0⟩) (b0 : PySem.W.codeIn K cd0 "rounded" = true) (k0 : PySem.W.keepIn K (.ref f0) = true)
    {f1 : Addr} {od1 an1 : Option Addr} {sl1 : Array (Option Value)} {oc1 kV1 dc1 pm1 cd1 ct1 : Value} (a1 : PySem.W.nsIn K mainGlobals "quotient" = some (some (.ref f1))) (l1 : K.lookup f1 = some ⟨oc1, od1, .func (PySem.W.fnOf "quotient" "quotient" (C8.fnArgs s_quotient) (C8.fnBody s_quotient) (C8.fnScope s_quotient) .none kV1 dc1 pm1 an1 cd1 ct1), sl1⟩) (b1 : PySem.W.codeIn K cd1 "quotient" = true) (k1 : PySem.W.keepIn K (.ref f1) = true)
    {f2 : Addr} {od2 an2 : Option Addr} {sl2 : Array (Option Value)} {oc2 kV2 dc2 pm2 cd2 ct2 : Value} (a2 : PySem.W.nsIn K mainGlobals "_law_numbers" = some (some (.ref f2))) (l2 : K.lookup f2 = some ⟨oc2, od2, .func (PySem.W.fnOf "_law_numbers" "_law_numbers" (C8.fnArgs s__law_numbers) (C8.fnBody s__law_numbers) (C8.fnScope s__law_numbers) .none kV2 dc2 pm2 an2 cd2 ct2), sl2⟩) (b2 : PySem.W.codeIn K cd2 "_law_numbers" = true) (k2 : PySem.W.keepIn K (.ref f2) = true)
    {f3 : Addr} {od3 an3 : Option Addr} {sl3 : Array (Option Value)} {oc3 kV3 dc3 pm3 cd3 ct3 : Value} (a3 : PySem.W.nsIn K mainGlobals "_law_is_integer" = some (some (.ref f3))) (l3 : K.lookup f3 = some ⟨oc3, od3, .func (PySem.W.fnOf "_law_is_integer" "_law_is_integer" (C8.fnArgs s__law_is_integer) (C8.fnBody s__law_is_integer) (C8.fnScope s__law_is_integer) .none kV3 dc3 pm3 an3 cd3 ct3), sl3⟩) (b3 : PySem.W.codeIn K cd3 "_law_is_integer" = true) (k3 : PySem.W.keepIn K (.ref f3) = true)
    {f4 : Addr} {od4 an4 : Option Addr} {sl4 : Array (Option Value)} {oc4 kV4 dc4 pm4 cd4 ct4 : Value} (a4 : PySem.W.nsIn K mainGlobals "_law_size" = some (some (.ref f4))) (l4 : K.lookup f4 = some ⟨oc4, od4, .func (PySem.W.fnOf "_law_size" "_law_size" (C8.fnArgs s__law_size) (C8.fnBody s__law_size) (C8.fnScope s__law_size) .none kV4 dc4 pm4 an4 cd4 ct4), sl4⟩) (b4 : PySem.W.codeIn K cd4 "_law_size" = true) (k4 : PySem.W.keepIn K (.ref f4) = true)
    {f5 : Addr} {od5 an5 : Option Addr} {sl5 : Array (Option Value)} {oc5 kV5 dc5 pm5 cd5 ct5 : Value} (a5 : PySem.W.nsIn K mainGlobals "_law_nearest" = some (some (.ref f5))) (l5 : K.lookup f5 = some ⟨oc5, od5, .func (PySem.W.fnOf "_law_nearest" "_law_nearest" (C8.fnArgs s__law_nearest) (C8.fnBody s__law_nearest) (C8.fnScope s__law_nearest) .none kV5 dc5 pm5 an5 cd5 ct5), sl5⟩) (b5 : PySem.W.codeIn K cd5 "_law_nearest" = true) (k5 : PySem.W.keepIn K (.ref f5) = true)
    {f6 : Addr} {od6 an6 : Option Addr} {sl6 : Array (Option Value)} {oc6 kV6 dc6 pm6 cd6 ct6 : Value} (a6 : PySem.W.nsIn K mainGlobals "law" = some (some (.ref f6))) (l6 : K.lookup f6 = some ⟨oc6, od6, .func (PySem.W.fnOf "law" "law" (C8.fnArgs s_law) (C8.fnBody s_law) (C8.fnScope s_law) .none kV6 dc6 pm6 an6 cd6 ct6), sl6⟩) (b6 : PySem.W.codeIn K cd6 "law" = true) (k6 : PySem.W.keepIn K (.ref f6) = true)
    (z_abs : PySem.W.nsIn K mainGlobals "abs" = some none)
    (z_bool : PySem.W.nsIn K mainGlobals "bool" = some none)
    (z_int : PySem.W.nsIn K mainGlobals "int" = some none)
    (z_isinstance : PySem.W.nsIn K mainGlobals "isinstance" = some none)
    (z_len : PySem.W.nsIn K mainGlobals "len" = some none)
    (z_range : PySem.W.nsIn K mainGlobals "range" = some none)
    : ∃ fd : FuncData, (∀ (s : Shared) (v : Value), BindsTo s fd ⟨[v], []⟩ [("script", v)]) ∧ ∀ base : Heap, K.In base → base.Ns mainGlobals mg → FnOk P w K mg base C8.CX0 2 fa fd ["script"] (sp_law K) := by
  have D_rounded : Dn K mg "rounded" s_rounded ["number", "divisor"] := dn_mk l0 b0 k0 (PySem.W.mg_of X G a0) (fun _ _ _ _ _ _ us hl => match us, hl with | [_, _], _ => rfl)
  have D_quotient : Dn K mg "quotient" s_quotient ["number", "divisor"] := dn_mk l1 b1 k1 (PySem.W.mg_of X G a1) (fun _ _ _ _ _ _ us hl => match us, hl with | [_, _], _ => rfl)
  have D__law_numbers : Dn K mg "_law_numbers" s__law_numbers ["script", "count"] := dn_mk l2 b2 k2 (PySem.W.mg_of X G a2) (fun _ _ _ _ _ _ us hl => match us, hl with | [_, _], _ => rfl)
  have D__law_is_integer : Dn K mg "_law_is_integer" s__law_is_integer ["value"] := dn_mk l3 b3 k3 (PySem.W.mg_of X G a3) (fun _ _ _ _ _ _ us hl => match us, hl with | [_], _ => rfl)
  have D__law_size : Dn K mg "_law_size" s__law_size ["number"] := dn_mk l4 b4 k4 (PySem.W.mg_of X G a4) (fun _ _ _ _ _ _ us hl => match us, hl with | [_], _ => rfl)
  have D__law_nearest : Dn K mg "_law_nearest" s__law_nearest ["number", "divisor", "told"] := dn_mk l5 b5 k5 (PySem.W.mg_of X G a5) (fun _ _ _ _ _ _ us hl => match us, hl with | [_, _, _], _ => rfl)
  have y_abs : mg "abs" = none := PySem.W.mg_none_of X G z_abs
  have y_bool : mg "bool" = none := PySem.W.mg_none_of X G z_bool
  have y_int : mg "int" = none := PySem.W.mg_none_of X G z_int
  have y_isinstance : mg "isinstance" = none := PySem.W.mg_none_of X G z_isinstance
  have y_len : mg "len" = none := PySem.W.mg_none_of X G z_len
  have y_range : mg "range" = none := PySem.W.mg_none_of X G z_range
  have e := hfa.symm.trans (PySem.W.mg_of X G a6)
  cases e
  have D_law := def_mk (x := "law") (st := s_law) l6 b6 k6 hfa
  refine ⟨PySem.W.fnOf "law" "law" (C8.fnArgs s_law) (C8.fnBody s_law) (C8.fnScope s_law) .none kV6 dc6 pm6 an6 cd6 ct6, fun s v => .of_eq rfl, fun base _ _ => ?_⟩
  have c_rounded := ok_rounded (P := P) (w := w) (base := base) D_rounded y_abs
  have c_quotient := ok_quotient (P := P) (w := w) (base := base) D_quotient y_abs
  have c__law_numbers := ok__law_numbers (P := P) (w := w) (base := base) D__law_numbers y_int y_len y_range
  have c__law_is_integer := ok__law_is_integer (P := P) (w := w) (base := base) D__law_is_integer y_bool y_int y_isinstance
  have c__law_size := ok__law_size (P := P) (w := w) (base := base) D__law_size y_int
  have c__law_nearest := ok__law_nearest (P := P) (w := w) (base := base) D__law_nearest y_abs
  exact ok_law (P := P) (w := w) (base := base) D_law c__law_is_integer c__law_nearest c__law_numbers c__law_size c_quotient c_rounded y_abs y_int
end My
open PySem PySem.W PyProof.Rows
set_option maxHeartbeats 0 in
theorem PySem.Challenge.cw_stylobate_k06_division_and_rounding_holds : PySem.Challenge.rw_stylobate_k06_division_and_rounding.Holds := by
  w_on; o_law; k_head; (case hw => w_witness2)
  k_fill
  refine L2.walk_of (l := PySem.Challenge.rw_stylobate_k06_division_and_rounding) (n := 63) (k := 2) (x := "script") (CX := fun _ => C8.CX0) (sp := fun w => My.sp_law _) rfl (by decide) rfl ⟨rfl, by decide, by decide⟩ (fun w h Y => PySem.W.kIn_of Y) ?F (fun _ _ a ns hl _ hS => My.sp_law_of hl hS) (fun _ _ _ _ _ h => h)
  case F =>
    intro w mg fa h KX G hmg
    refine' My.all_mk KX G hmg ?a0 ?l0 ?b0 ?k0 ?a1 ?l1 ?b1 ?k1 ?a2 ?l2 ?b2 ?k2 ?a3 ?l3 ?b3 ?k3 ?a4 ?l4 ?b4 ?k4 ?a5 ?l5 ?b5 ?k5 ?a6 ?l6 ?b6 ?k6 ?z_abs ?z_bool ?z_int ?z_isinstance ?z_len ?z_range
    (case a0 => k_is); (case l0 => k_is); (case b0 => k_is); (case k0 => k_is); (case a1 => k_is); (case l1 => k_is); (case b1 => k_is); (case k1 => k_is); (case a2 => k_is); (case l2 => k_is); (case b2 => k_is); (case k2 => k_is); (case a3 => k_is); (case l3 => k_is); (case b3 => k_is); (case k3 => k_is); (case a4 => k_is); (case l4 => k_is); (case b4 => k_is); (case k4 => k_is); (case a5 => k_is); (case l5 => k_is); (case b5 => k_is); (case k5 => k_is); (case a6 => k_is); (case l6 => k_is); (case b6 => k_is); (case k6 => k_is); (case z_abs => k_is); (case z_bool => k_is); (case z_int => k_is); (case z_isinstance => k_is); (case z_len => k_is); (case z_range => k_is)

