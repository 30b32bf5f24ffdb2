import PyProof.Rows.All
import Wide.All
import OpenK.AllK
import Wide.FinOn
import HandS.ForMost
import HandS.Codes
import HandS.Evl
import HandS.IsInst
import HandS.Wide
import PySem.Challenge.RW_stylobate_k02_three_valued_logic
set_option Elab.async false
set_option linter.all false
set_option maxRecDepth 100000
set_option maxHeartbeats 4000000
namespace My
open PySem PySem.Spec PyProof.Rows L2 Evl
/-! ### defs of the text, promises, the end -/
def Dn (K : PySem.W.Frag) (mg : Str → Option Value) (x : Str) (st : Stmt) (ps : List Str) : Prop := ∃ f fd, C8.Def K mg x st f fd ∧ Binds K fd ps []
section
variable {P : Program} {w : World} {K : PySem.W.Frag} {mg : Str → Option Value} {base : Heap}
theorem cal_of {x : Str} {st : Stmt} {N ps : List Str} {k : Nat} {sp : Sp} (D : Dn K mg x st ps) (S : FnScope N ps (C8.fnScope st)) (len : ∀ vs H Q E, sp vs H Q E → vs.length = ps.length)
    (hbody : ∀ (f : Addr) (cdv : Value) (A : Around) (outer : List Env) (s : Shared) (H : Hp) (vs : List V) (Q : VK) (E : XK), Room k (A.deeper (envOfC x (C8.fnScope st) s.heap.objs.size f cdv)) → sp vs H Q E →
      ∃ t, PSs (cxOf C8.CX0 P w K mg base N x (C8.fnScope st) f cdv A outer s H E).nox (C8.fnBody st) t ∧ t { nx := fun _ H' => Q .non H', rt := Q } (start N vs) H) : C8.Cal P w K mg base (k + 1) x sp [] := by
  obtain ⟨f, fd, F, b⟩ := D
  exact C8.cal0 F b .nil S len (hbody f)
theorem def_mk {x : Str} {st : Stmt} {f : Addr} {oc : Value} {od an : Option Addr} {osl : Array (Option Value)} {kV doc pm cdv ct : Value}
    (l : K.lookup f = some ⟨oc, od, .func (PySem.W.fnOf x x (C8.fnArgs st) (C8.fnBody st) (C8.fnScope st) .none kV doc pm an cdv ct), osl⟩)
    (c : PySem.W.codeIn K cdv x = true) (k : PySem.W.keepIn K (.ref f) = true) (m : mg x = some (.ref f)) : C8.Def K mg x st f (PySem.W.fnOf x x (C8.fnArgs st) (C8.fnBody st) (C8.fnScope st) .none kV doc pm an cdv ct) :=
  ⟨⟨oc, od, .none, kV, doc, pm, an, cdv, ct, osl, rfl, l, c⟩, m, k⟩
theorem dn_mk {x : Str} {st : Stmt} {f : Addr} {oc : Value} {od an : Option Addr} {osl : Array (Option Value)} {kV doc pm cdv ct : Value} {ps : List Str}
    (l : K.lookup f = some ⟨oc, od, .func (PySem.W.fnOf x x (C8.fnArgs st) (C8.fnBody st) (C8.fnScope st) .none kV doc pm an cdv ct), osl⟩)
    (c : PySem.W.codeIn K cdv x = true) (k : PySem.W.keepIn K (.ref f) = true) (m : mg x = some (.ref f))
    (h : ∀ (kV doc pm : Value) (an : Option Addr) (cdv ct : Value) (us : List Value), us.length = ps.length → bindArgs (PySem.W.fnOf x x (C8.fnArgs st) (C8.fnBody st) (C8.fnScope st) .none kV doc pm an cdv ct) ⟨us, []⟩ = pure (ps.zip us)) : Dn K mg x st ps :=
  ⟨f, _, def_mk l c k m, C8.Fun.binds (def_mk l c k m).fn rfl h⟩
end
/-! ### x is True, x is False, of any value -/
def rIsT : R2 := fun x y H Q => ∃ b : Bool, y = .bl b ∧ Q (.bl (decide (x = .bl b))) H
def rNotT : R2 := fun x y H Q => ∃ b : Bool, y = .bl b ∧ Q (.bl (!decide (x = .bl b))) H
section
variable {X : Cx}
theorem rel_bl {x : V} {v : Value} {b : Bool} (rx : RelV x v) : PySem.plainIs v (.bool b) = true ∧ (v == .bool b) = decide (x = .bl b) ∨ ∃ n, v = .builtin n := by
  cases x with
  | non => cases (show v = Value.none from rx); exact .inl ⟨rfl, rfl⟩
  | bl c => cases (show v = Value.bool c from rx); exact .inl ⟨rfl, by cases b <;> cases c <;> rfl⟩
  | int i => obtain ⟨t, e⟩ := (show ∃ t, v = Value.int i t from rx); cases e; exact .inl ⟨rfl, rfl⟩
  | str i => obtain ⟨t, e⟩ := (show ∃ t, v = Value.str i t from rx); cases e; exact .inl ⟨rfl, rfl⟩
  | byt i => obtain ⟨t, e⟩ := (show ∃ t, v = Value.bytes i t from rx); cases e; exact .inl ⟨rfl, rfl⟩
  | flt i => obtain ⟨t, e⟩ := (show ∃ t, v = Value.float i t from rx); cases e; exact .inl ⟨rfl, rfl⟩
  | ref a => cases (show v = Value.ref a from rx); exact .inl ⟨rfl, rfl⟩
  | ty n => cases (show v = Value.type n from rx); exact .inl ⟨rfl, rfl⟩
theorem rel_bl' {x : V} {v : Value} {b : Bool} (rx : RelV x v) : PySem.plainIs v (.bool b) = true ∧ (v == .bool b) = decide (x = .bl b) := by
  rcases rel_bl (b := b) rx with h | ⟨n, rfl⟩
  · exact h
  · cases x <;> first | exact nomatch (rx : Value.builtin n = _) | (obtain ⟨t, e⟩ := rx; exact nomatch e)
theorem op_isTF : OpR X (compareOp .Is) rIsT := by
  intro pins s σ H x y v u Q I rx ry h
  obtain ⟨b, rfl, q⟩ := h
  cases (show u = Value.bool b from ry)
  obtain ⟨h1, h2⟩ := rel_bl' (b := b) rx
  exact wpAny_is_plain h1 ⟨.bl _, H, I, rfl, by rw [h2]; exact q⟩
theorem op_notTF : OpR X (compareOp .IsNot) rNotT := by
  intro pins s σ H x y v u Q I rx ry h
  obtain ⟨b, rfl, q⟩ := h
  cases (show u = Value.bool b from ry)
  obtain ⟨h1, h2⟩ := rel_bl' (b := b) rx
  exact wpAny_isNot_plain h1 ⟨.bl _, H, I, rfl, by rw [h2]; exact q⟩
end
/-! ### what evaluates to what: further -/
section
variable {K : PySem.W.Frag} {σ : L2.St} {H H' : Hp} {ta tb te tx : TE} {t u : TT} {x y z v : V} {r : R2}
theorem rv_isT {b : Bool} : RV rIsT x (.bl b) H (.bl (decide (x = .bl b))) := fun H1 _ _ q => ⟨b, rfl, q H1 (Ex.refl H1)⟩
theorem rv_notT {b : Bool} : RV rNotT x (.bl b) H (.bl (!decide (x = .bl b))) := fun H1 _ _ q => ⟨b, rfl, q H1 (Ex.refl H1)⟩
theorem rv_isN : RV (fun x y H Q => y = .non ∧ Q (.bl (decide (x = .non))) H) x .non H (.bl (decide (x = .non))) := fun H1 _ _ q => ⟨rfl, q H1 (Ex.refl H1)⟩
theorem rv_notN : RV (fun x y H Q => y = .non ∧ Q (.bl (!decide (x = .non))) H) x .non H (.bl (!decide (x = .non))) := fun H1 _ _ q => ⟨rfl, q H1 (Ex.refl H1)⟩
theorem ev_int {i : Int} (h : Ev ta σ H (.int i)) : Ev (tCB (fun xs H Q => (∃ i, xs = [.int i] ∧ Q (.int i) H) ∨ ∃ k, xs = [.bl k] ∧ Q (.int (if k then 1 else 0)) H) (tCons ta tNil)) σ H (.int i) :=
  fun H1 e Q q => h H1 e _ fun H2 e2 => .inl ⟨i, rfl, q H2 e2⟩
theorem ev_intB {b : Bool} (h : Ev ta σ H (.bl b)) : Ev (tCB (fun xs H Q => (∃ i, xs = [.int i] ∧ Q (.int i) H) ∨ ∃ k, xs = [.bl k] ∧ Q (.int (if k then 1 else 0)) H) (tCons ta tNil)) σ H (.int (if b then 1 else 0)) :=
  fun H1 e Q q => h H1 e _ fun H2 e2 => .inr ⟨b, rfl, q H2 e2⟩
theorem ev_abs {i : Int} (h : Ev ta σ H (.int i)) : Ev (tCB (fun xs H Q => ∃ i, xs = [.int i] ∧ Q (.int (if i < 0 then -i else i)) H) (tCons ta tNil)) σ H (.int (if i < 0 then -i else i)) :=
  fun H1 e Q q => h H1 e _ fun H2 e2 => ⟨i, rfl, q H2 e2⟩
theorem ev_min2 {i j : Int} (ha : Ev ta σ H (.int i)) (hb : Ev tb σ H (.int j)) : Ev (tCB (fun xs H Q => ∃ i j, xs = [.int i, .int j] ∧ Q (.int (if j < i then j else i)) H) (tCons ta (tCons tb tNil))) σ H (.int (if j < i then j else i)) := fun H1 e Q q =>
  ha H1 e _ fun H2 e2 => hb H2 (e.trans e2) _ fun H3 e3 => ⟨i, j, rfl, q H3 (e2.trans e3)⟩
theorem ev_lenS {s : Str} (h : Ev ta σ H (.str s)) (hz : s.length ≤ 100000) : Ev (tCB (fun xs H Q => ∃ z, xs = [.str z] ∧ z.length ≤ sizeLine ∧ Q (.int z.length) H) (tCons ta tNil)) σ H (.int s.length) :=
  fun H1 e Q q => h H1 e _ fun H2 e2 => ⟨s, rfl, sz_of hz, q H2 e2⟩
/-- isinstance(x, T) of a plain value -/
def tyOf : V → String
  | .non => "NoneType"
  | .bl _ => "bool"
  | .int _ => "int"
  | .str _ => "str"
  | .byt _ => "bytes"
  | .flt _ => "float"
  | _ => "?"
def isTy (x : V) (T : String) : Bool := ((kitB (tyOf x) T).getD false)
/-- a promise of one value, all else as it was -/
theorem spv {sp : Sp} {vs : List V} (h : ∀ H1, Ex H H1 → ∀ Q : VK, (∀ H2, Ex H1 H2 → Q z H2) → ∀ E : XK, sp vs H1 Q E) : SpV sp vs H z := h
end
local macro_rules | `(tactic| walk_at "side") => `(tactic| first
  | exact .inr ⟨by decide, by decide⟩
  | exact .inl ⟨by decide, by decide⟩
  | exact .inl ⟨by omega, by omega⟩
  | exact .inr ⟨by omega, by omega⟩
  | exact ⟨by decide, by decide⟩
  | exact ⟨by omega, by omega⟩
  | decide
  | (show (_ : Int) < _; omega)
  | omega)
local macro_rules | `(tactic| walk_at "rv") => `(tactic| first
  | exact rv_I0
  | ((refine' rv_I ?k1); (case k1 => walk_at "side"))
  | exact rv_isT
  | exact rv_notT
  | exact rv_isN
  | exact rv_notN
  | exact rv_eq rfl
  | exact rv_ne rfl)
local macro_rules | `(tactic| walk_at "sq") => `(tactic| first | assumption | exact ex_l (by assumption) (by assumption) | exact sq_of (by assumption))
/-- what a part gives, read off its form -/
local macro_rules | `(tactic| walk_at "ev") => `(tactic| first
  | exact ev_var rfl
  | exact ev_c
  | ((with_reducible refine' ev_op ?k1 ?k2 ?k3); (case k1 => walk_at "ev"); (case k2 => walk_at "ev"); (case k3 => walk_at "rv"))
  | ((with_reducible refine' ev_un ?k1 ?k2); (case k1 => walk_at "ev"); (case k2 => exact ru_neg))
  | ((with_reducible refine' ev_int ?k1); (case k1 => walk_at "ev"))
  | ((with_reducible refine' ev_abs ?k1); (case k1 => walk_at "ev"))
  | ((refine' ev_len ?k1 ?k2); (case k1 => walk_at "ev"); (case k2 => walk_at "sq")))
local macro_rules | `(tactic| walk_at "et") => `(tactic| first
  | ((with_reducible refine' et_or ?k1 ?k2); (case k1 => walk_at "et"); (case k2 => intro _; walk_at "et"))
  | ((with_reducible refine' et_and ?k1 ?k2); (case k1 => walk_at "et"); (case k2 => intro _; walk_at "et"))
  | ((with_reducible refine' et_not ?k1); (case k1 => walk_at "et"))
  | (refine' et_test ?k1; (case k1 => walk_at "ev"))
  | (refine' et_B ?k1; (case k1 => walk_at "ev")))

def topS (i : Nat) : Stmt := PySem.Challenge.pw_stylobate_k02_three_valued_logic.main.body.getD i (.Pass ⟨0, 0, 0, 0⟩)
abbrev s_negated : Stmt := topS 1
abbrev n_negated : List Str := ["value"]
theorem sc_negated : FnScope n_negated ["value"] (C8.fnScope s_negated) := C8.fnScope_by (by decide +kernel)
abbrev s_both : Stmt := topS 2
abbrev n_both : List Str := ["first", "second"]
theorem sc_both : FnScope n_both ["first", "second"] (C8.fnScope s_both) := C8.fnScope_by (by decide +kernel)
abbrev s_either : Stmt := topS 3
abbrev n_either : List Str := ["first", "second"]
theorem sc_either : FnScope n_either ["first", "second"] (C8.fnScope s_either) := C8.fnScope_by (by decide +kernel)
abbrev s__law_numbers : Stmt := topS 5
abbrev n__law_numbers : List Str := ["script", "count", "numbers", "k", "cell"]
theorem sc__law_numbers : FnScope n__law_numbers ["script", "count"] (C8.fnScope s__law_numbers) := C8.fnScope_by (by decide +kernel)
abbrev s__law_text : Stmt := topS 6
abbrev n__law_text : List Str := ["number", "size", "signs", "few", "word", "rest", "k"]
theorem sc__law_text : FnScope n__law_text ["number", "size"] (C8.fnScope s__law_text) := C8.fnScope_by (by decide +kernel)
abbrev s__law_value : Stmt := topS 7
abbrev n__law_value : List Str := ["number", "rest", "choice"]
theorem sc__law_value : FnScope n__law_value ["number"] (C8.fnScope s__law_value) := C8.fnScope_by (by decide +kernel)
abbrev s__law_truth : Stmt := topS 8
abbrev n__law_truth : List Str := ["value"]
theorem sc__law_truth : FnScope n__law_truth ["value"] (C8.fnScope s__law_truth) := C8.fnScope_by (by decide +kernel)
abbrev s__law_told : Stmt := topS 9
abbrev n__law_told : List Str := ["value", "due"]
theorem sc__law_told : FnScope n__law_told ["value", "due"] (C8.fnScope s__law_told) := C8.fnScope_by (by decide +kernel)
abbrev s_law : Stmt := topS 10
abbrev n_law : List Str := ["script", "numbers", "values", "first", "second"]
theorem sc_law : FnScope n_law ["script"] (C8.fnScope s_law) := C8.fnScope_by (by decide +kernel)
/-! ### the law's numbers -/
def cell0 (ns : List Int) (k : Nat) : Int := if 0 < ns.length then ns.getD (k - k / ns.length * ns.length) 0 else 0
def cell1 (ns : List Int) (k : Nat) : Int := if cell0 ns k < 0 then 1 - 2 * cell0 ns k else cell0 ns k
def cellM (c : Int) (k : Nat) : Int := (((c + 101 * (k : Int) + 13) * 40692 + (k : Int) * (k : Int) * 6271) % 2147483399 + 29 * (k : Int) + 5) * 3935559000370003845 % 18446744073709551533
def cellN (ns : List Int) (k : Nat) : Int := if (ns.length : Int) ≤ (k : Int) ∨ cell1 ns k < 1000000000 then cellM (cell1 ns k) k else cell1 ns k
def lawN (ns : List Int) (c : Nat) : List Int := (List.range c).map (cellN ns)
theorem cell1_nn (ns : List Int) (k : Nat) : 0 ≤ cell1 ns k := by
  unfold cell1
  split <;> omega
theorem cellN_nn (ns : List Int) (k : Nat) : 0 ≤ cellN ns k := by
  unfold cellN
  split
  · unfold cellM
    exact Int.emod_nonneg _ (by decide)
  · exact cell1_nn ns k
theorem lawN_len (ns : List Int) (c : Nat) : (lawN ns c).length = c := by
  unfold lawN
  rw [List.length_map, List.length_range]
theorem lawN_nn {ns : List Int} {c : Nat} : ∀ n ∈ lawN ns c, 0 ≤ n := by
  intro n h
  unfold lawN at h
  obtain ⟨k, _, e⟩ := List.mem_map.mp h
  rw [← e]
  exact cellN_nn ns k
theorem lawN_get {ns : List Int} {c i : Nat} (h : i < c) : (lawN ns c)[i]? = some (cellN ns i) := by
  unfold lawN
  rw [List.getElem?_map, List.getElem?_range h] <;> rfl
/-- the k-th of them, as the law's list of values -/
theorem lawN_at {ns : List Int} {c i : Nat} (h : i < c) : atI ((lawN ns c).map V.int) (i : Int) = some (.int (cellN ns i)) := atI_nat (by
  rw [List.getElem?_map, lawN_get h] <;> rfl)
def sp__law_numbers (K : PySem.W.Frag) : Sp := fun vs H Q _ => ∃ (a : Addr) (ns : List Int) (c : Nat), vs = [.ref a, .int (c : Int)] ∧ SqL K H a (ns.map V.int) ∧ ns.length ≤ 63 ∧ c ≤ 1000 ∧
  ∀ p H', H p = none → Ex H H' → H' p = some (.lst ((lawN ns c).map V.int)) → Q (.ref p) H'
section
variable {P : Program} {w : World} {K : PySem.W.Frag} {mg : Str → Option Value} {base : Heap}
theorem ok__law_numbers (D : Dn K mg "_law_numbers" s__law_numbers ["script", "count"]) (z_int : mg "int" = none) (z_len : mg "len" = none) (z_range : mg "range" = none) :
    C8.Cal P w K mg base 1 "_law_numbers" (sp__law_numbers K) [] := by
  refine cal_of D sc__law_numbers (fun vs H Q E h => ?_) (fun f cdv A outer s H vs Q E hr h => ?_)
  · obtain ⟨_, _, _, rfl, _⟩ := h
    rfl
  refine ⟨_, (pss_cons (ps_set (i := 2) sc__law_numbers.nd rfl (.inl rfl) (pe_lst pa_nil))
    (pss_cons (ps_for PassesOwn.never rfl (pi_range1 rfl z_range (pa_cons (pv 1) pa_nil)) (pg_name (i := 3) sc__law_numbers.nd rfl (.inl rfl))
      (pss_cons (ps_set (i := 4) sc__law_numbers.nd rfl (.inl rfl) pe_int)
    (pss_cons (ps_if (pt_cmpR op_gt (pe_callB call_len_seq (by rfl) z_len PySem.boot_len (pa_cons (pv 0) pa_nil)) pe_int (nomark _))
      (pss_one (ps_set (i := 4) sc__law_numbers.nd rfl (.inl rfl) (pe_callTy call_int1 (by rfl) z_int (by decide +kernel) (pa_cons (pe_ix ix_list (pv 0) (pe_op op_sub (pv 3) (pe_op op_mul (pe_op op_fdiv (pv 3) (pe_callB call_len_seq (by rfl) z_len PySem.boot_len (pa_cons (pv 0) pa_nil))) (pe_callB call_len_seq (by rfl) z_len PySem.boot_len (pa_cons (pv 0) pa_nil)))) (fun _ _ => rfl)) pa_nil))))
      pss_nil)
    (pss_cons (ps_if (pt_cmpR op_lt (pv 4) pe_int (nomark _))
      (pss_one (ps_set (i := 4) sc__law_numbers.nd rfl (.inl rfl) (pe_op op_sub pe_int (pe_op op_mul pe_int (pv 4)))))
      pss_nil)
    (Evl.pss_cut (ps_if (PW.pt (pw_or (pt_cmpR op_ge (pv 3) (pe_callB call_len_seq (by rfl) z_len PySem.boot_len (pa_cons (pv 0) pa_nil)) (nomark _)) (pw_or1 (pt_cmpR op_lt (pv 4) pe_int (nomark _)))))
      (pss_cons (ps_set (i := 4) sc__law_numbers.nd rfl (.inl rfl) (pe_op op_mod (pe_callTy call_int1 (by rfl) z_int (by decide +kernel) (pa_cons (pe_op op_add (pe_op op_mul (pe_op op_add (pe_op op_add (pv 4) (pe_op op_mul pe_int (pv 3))) pe_int) pe_int) (pe_op op_mul (pe_op op_mul (pv 3) (pv 3)) pe_int)) pa_nil)) pe_int))
    (pss_one (ps_set (i := 4) sc__law_numbers.nd rfl (.inl rfl) (pe_op op_mod (pe_callTy call_int1 (by rfl) z_int (by decide +kernel) (pa_cons (pe_op op_mul (pe_op op_add (pe_op op_add (pv 4) (pe_op op_mul pe_int (pv 3))) pe_int) pe_int) pa_nil)) pe_int))))
      pss_nil)
    (pss_one (ps_expr (pe_bm PySem.F.plainAttrs_list PySem.F.slot_list_append PySem.F.type_list_append mt_append (pv 2) (pa_cons (pv 4) pa_nil)))))))))
    (pss_one (ps_ret (pv 2))))), ?_⟩
  obtain ⟨a, ns, c, rfl, hS, h63, hc, q⟩ := h
  have hl : (ns.map V.int).length = ns.length := List.length_map _
  refine q_asgL (el_lst ea_nil (by decide)) fun p H1 hp e1 h1 => ?_
  refine q_forR1 (n := (c : Int)) (ea_cons (ev_var rfl) ea_nil) ⟨by omega, by omega⟩
    (fun i σ H' => ∃ y3 y4, σ = [some (.ref a), some (.int (c : Int)), some (.ref p), y3, y4] ∧ Ex H H' ∧ H' p = some (.lst ((lawN ns i).map V.int)))
    (fun H2 e2 => ⟨none, none, rfl, e1.trans e2, e2 _ _ h1⟩) (fun i σ H2 hi hw => ?_) (fun σ H2 hw => ?_)
  · obtain ⟨y3, y4, rfl, e2, h2⟩ := hw
    have hS2 : SqL K H2 a (ns.map V.int) := ex_l e2 hS
    refine q_asg ev_c fun H3 e3 => ?_
    have hS3 : SqL K H3 a (ns.map V.int) := ex_l e3 hS2
    -- the cell as the script has it
    refine q_ifAsg (v := .int (cell0 ns i)) (b := decide ((0 : Int) < ((ns.map V.int).length : Int))) ?_ (fun hb => ?_) (fun hb => ?_) fun H4 e4 => ?_
    · walk_at "et"
    · have h0 : 0 < ns.length := by
        have := of_decide_eq_true hb
        rw [hl] at this
        omega
      have em : i / ns.length * ns.length ≤ i := Nat.div_mul_le_self i ns.length
      have hlt : i - i / ns.length * ns.length < ns.length := by
        have := Nat.mod_lt i h0
        have := Nat.div_add_mod i ns.length
        rw [Nat.mul_comm] at this
        omega
      have ea : atI (ns.map V.int) ((i : Int) - (i : Int) / ((ns.map V.int).length : Int) * ((ns.map V.int).length : Int)) = some (.int (cell0 ns i)) := by
        rw [hl]
        have e5 : (i : Int) - (i : Int) / (ns.length : Int) * (ns.length : Int) = ((i - i / ns.length * ns.length : Nat) : Int) := by
          rw [Int.ofNat_sub em, Int.natCast_mul, Int.natCast_ediv]
        rw [e5]
        refine atI_nat ?_
        unfold cell0
        rw [if_pos h0, List.getElem?_map, List.getElem?_eq_getElem hlt, List.getD_eq_getElem?_getD, List.getElem?_eq_getElem hlt] <;> rfl
      refine ev_int (ev_op (ev_var rfl) (ev_op (ev_var rfl) (ev_op (ev_op (ev_var rfl) (ev_len (ev_var rfl) hS3) (rv_I ⟨?_, ?_⟩)) (ev_len (ev_var rfl) hS3) (rv_I ?_)) rv_I0) (rv_ixL hS3 ea))
      · rw [hl]; omega
      · rw [hl]; omega
      · rw [hl]; exact .inr ⟨by omega, by omega⟩
    · have h0 : ¬ 0 < ns.length := by
        have := of_decide_eq_false hb
        rw [hl] at this
        omega
      unfold cell0
      rw [if_neg h0]
      rfl
    have hS4 : SqL K H4 a (ns.map V.int) := ex_l e4 hS3
    refine q_ifAsg (v := .int (cell1 ns i)) (b := decide (cell0 ns i < 0)) (by walk_at "et") (fun hb => ?_) (fun hb => ?_) fun H5 e5 => ?_
    · refine ev_is (v := .int (1 - 2 * cell0 ns i)) (by walk_at "ev") ?_
      unfold cell1
      rw [if_pos (of_decide_eq_true hb)]
    · unfold cell1
      rw [if_neg (of_decide_eq_false hb)]
      rfl
    have hS5 : SqL K H5 a (ns.map V.int) := ex_l e5 hS4
    have h5 : H5 p = some (.lst ((lawN ns i).map V.int)) := e5 _ _ (e4 _ _ (e3 _ _ h2))
    have x5 : Ex H H5 := ((e2.trans e3).trans e4).trans e5
    -- the cell mixed
    refine q_cut (M := fun σ H' => σ = [some (.ref a), some (.int (c : Int)), some (.ref p), some (.int (i : Int)), some (.int (cellN ns i))] ∧ Ex H5 H') ?_ ?_
    · refine s_if (b := decide ((((ns.map V.int).length : Nat) : Int) ≤ (i : Int)) || decide (cell1 ns i < 1000000000)) ?_ (fun hb H6 e6 => ?_) (fun hb H6 e6 => ?_)
      · exact et_or (et_test (ev_op (ev_var rfl) (ev_len (ev_var rfl) hS5) rv_I0)) fun _ => et_test (ev_op (ev_var rfl) ev_c rv_I0)
      · have hb' : (ns.length : Int) ≤ (i : Int) ∨ cell1 ns i < 1000000000 := by
          rw [Bool.or_eq_true, decide_eq_true_eq, decide_eq_true_eq, hl] at hb
          exact hb
        refine q_asg (v := .int (((cell1 ns i + 101 * (i : Int) + 13) * 40692 + (i : Int) * (i : Int) * 6271) % 2147483399)) ?_ fun H7 e7 => ?_
        · refine ev_op (ev_int (ev_op (ev_op (ev_op (ev_op (ev_var rfl) (ev_op ev_c (ev_var rfl) (rv_I (.inl ⟨by decide, by decide⟩))) rv_I0) ev_c rv_I0) ev_c (rv_I (.inr ⟨by decide, by decide⟩))) (ev_op (ev_op (ev_var rfl) (ev_var rfl) (rv_I (.inl ⟨by omega, by omega⟩))) ev_c (rv_I (.inr ⟨by decide, by decide⟩))) rv_I0)) ev_c (rv_I (by decide))
        refine s_asg (v := .int (cellN ns i)) ?_ fun H8 e8 => ⟨rfl, (e6.trans e7).trans e8⟩
        refine ev_is (ev_op (ev_int (ev_op (ev_op (ev_op (ev_var rfl) (ev_op ev_c (ev_var rfl) (rv_I (.inl ⟨by decide, by decide⟩))) rv_I0) ev_c rv_I0) ev_c (rv_I (.inr ⟨by decide, by decide⟩)))) ev_c (rv_I (by decide))) ?_
        unfold cellN
        rw [if_pos hb']
        rfl
      · have hb' : ¬ ((ns.length : Int) ≤ (i : Int) ∨ cell1 ns i < 1000000000) := by
          intro z
          rw [Bool.or_eq_false_iff, decide_eq_false_iff_not, decide_eq_false_iff_not, hl] at hb
          rcases z with z | z
          · exact hb.1 z
          · exact hb.2 z
        refine ⟨?_, e6⟩
        unfold cellN
        rw [if_neg hb']
        rfl
    · intro σ' H' hm
      obtain ⟨rfl, x6⟩ := hm
      refine s_app (x6 _ _ h5) (ev_var rfl) (ev_var rfl) (by rw [List.length_map, lawN_len]; omega) fun H7 e7 => ?_
      refine ⟨_, _, rfl, Ex.mut ((x5.trans x6).trans e7) hp, ?_⟩
      rw [upd_same]
      unfold lawN
      rw [List.range_succ, List.map_append, List.map_append]
      rfl
  · obtain ⟨y3, y4, rfl, e2, h2⟩ := hw
    have ec : ((c : Int)).toNat = c := by omega
    rw [ec] at h2
    exact s_ret (ev_var rfl) fun H3 e3 => q p H3 hp (e2.trans e3) (e3 _ _ h2)
end

/-! ### the law's texts and values -/
def signsL : List Nat := (PySem.Str.ofString " !\"#$&'()*+,-./0123456789:;<=>?@ABCDEFGHIJKLMNOPQRSTUVWXYZ[\\]^_`abcdefghijklmnopqrstuvwxyz{|}~").cps.toList
def fewL : List Nat := (PySem.Str.ofString "ab*?\\ -'\"A").cps.toList
theorem signs_len : signsL.length = 94 := by decide +kernel
theorem few_len : fewL.length = 10 := by decide +kernel
theorem signs_ok : ∀ c ∈ signsL, 32 ≤ c ∧ c ≤ 126 := by decide +kernel
theorem few_ok : ∀ c ∈ fewL, 32 ≤ c ∧ c ≤ 126 := by decide +kernel
/-- what is written so far, and the rest of the number -/
def lawTS (n : Int) : Nat → List Nat × Int
  | 0 => ([], n / 3)
  | k + 1 => if n % 3 = 0 then ((lawTS n k).1 ++ [signsL.getD ((lawTS n k).2 % 94).toNat 0], (lawTS n k).2 / 94 + 7 * (k : Int))
      else ((lawTS n k).1 ++ [fewL.getD ((lawTS n k).2 % 10).toNat 0], (lawTS n k).2 / 10 + 7 * (k : Int))
def lawT (n : Int) (size : Nat) : List Nat := (lawTS n size).1
def okC (c : Nat) : Prop := 32 ≤ c ∧ c ≤ 126
theorem getD_mem {l : List Nat} {i : Nat} (h : i < l.length) : l.getD i 0 ∈ l := by
  rw [List.getD_eq_getElem?_getD, List.getElem?_eq_getElem h]
  exact List.getElem_mem h
theorem sign_at {l : List Nat} {r : Int} {m : Nat} (hl : l.length = m) (hm : 0 < m) : (r % (m : Int)).toNat < l.length := by
  have h1 := Int.emod_nonneg r (show (m : Int) ≠ 0 by omega)
  have h2 := Int.emod_lt_of_pos r (show (0 : Int) < (m : Int) by omega)
  omega
theorem pick {l : List Nat} {r : Int} {m : Nat} (hl : l.length = m) (hm : 0 < m) : atI l (r % (m : Int)) = some (l.getD (r % (m : Int)).toNat 0) := by
  have hx := sign_at (r := r) hl hm
  have h1 := Int.emod_nonneg r (show (m : Int) ≠ 0 by omega)
  have e : atI l (((r % (m : Int)).toNat : Nat) : Int) = some (l.getD (r % (m : Int)).toNat 0) := atI_nat (by
    rw [List.getElem?_eq_getElem hx, List.getD_eq_getElem?_getD, List.getElem?_eq_getElem hx] <;> rfl)
  rw [Int.toNat_of_nonneg h1] at e
  exact e
theorem lawT_len (n : Int) : ∀ k, (lawT n k).length = k
  | 0 => rfl
  | k + 1 => by
    have ih := lawT_len n k
    unfold lawT at ih ⊢
    rw [lawTS]
    split <;> (show (_ ++ [_]).length = k + 1; rw [List.length_append, ih] <;> rfl)
theorem lawT_ok (n : Int) : ∀ k, ∀ c ∈ lawT n k, okC c
  | 0, c, h => by cases h
  | k + 1, c, h => by
    have ih := lawT_ok n k
    unfold lawT at ih h
    rw [lawTS] at h
    split at h
    · rcases List.mem_append.mp h with h | h
      · exact ih c h
      · rw [List.mem_singleton.mp h]
        exact signs_ok _ (getD_mem (sign_at signs_len (by decide)))
    · rcases List.mem_append.mp h with h | h
      · exact ih c h
      · rw [List.mem_singleton.mp h]
        exact few_ok _ (getD_mem (sign_at few_len (by decide)))
def lawV (n : Int) : V :=
  if n % 8 = 0 then .non else if n % 8 = 1 then .bl (decide (n / 8 % 2 = 0)) else if n % 8 = 2 then .int (n / 8 % 3 - 1)
  else if n % 8 = 3 then .int (n / 8 % 2000000000000001 - 1000000000000000) else if n % 8 = 4 then .int (n / 8 % 3652059 - 719162)
  else if n % 8 = 5 then .int (n / 8 % 40 - 20) else .str (SX.S (lawT (n / 8 / 13) (n / 8 % 13).toNat))
/-- a plain value: None, a boolean, a small integer, a short text of plain signs -/
inductive VOk : V → Prop where
  | non : VOk .non
  | bl (b : Bool) : VOk (.bl b)
  | int (i : Int) (h : -1000000000000000 ≤ i ∧ i ≤ 1000000000000000) : VOk (.int i)
  | str (l : List Nat) (h : l.length ≤ 12) (hc : ∀ c ∈ l, okC c) : VOk (.str (SX.S l))
theorem lawV_ok (n : Int) : VOk (lawV n) := by
  unfold lawV
  split
  · exact .non
  split
  · exact .bl _
  split
  · exact .int _ (by omega)
  split
  · exact .int _ (by omega)
  split
  · exact .int _ (by omega)
  split
  · exact .int _ (by omega)
  · exact .str _ (by rw [lawT_len]; omega) (lawT_ok _ _)
def sp__law_text (K : PySem.W.Frag) : Sp := fun vs H Q _ => ∃ (n : Int) (z : Nat), vs = [.int n, .int (z : Int)] ∧ z ≤ 1000 ∧ ∀ H', Ex H H' → Q (.str (SX.S (lawT n z))) H'
def sp__law_value (K : PySem.W.Frag) : Sp := fun vs H Q _ => ∃ n : Int, vs = [.int n] ∧ ∀ H', Ex H H' → Q (lawV n) H'
theorem join_ones : ∀ l : List Nat, Txt.join (SX.S []) (l.map fun c => (⟨#[c]⟩ : Str)) = SX.S l := by
  intro l
  have e : (l.map fun c => (⟨#[c]⟩ : Str)) = (l.map fun c => [c]).map SX.S := by
    rw [List.map_map]
    rfl
  rw [e, SX.join_S]
  congr 1
  induction l with
  | nil => rfl
  | cons c r ih =>
    cases r with
    | nil => rfl
    | cons d r => 
      have e2 : TL.joinL [] (List.map (fun c => [c]) (c :: d :: r)) = c :: TL.joinL [] (List.map (fun c => [c]) (d :: r)) := rfl
      rw [e2, ih (by rw [List.map_map]; rfl)]
section
variable {P : Program} {w : World} {K : PySem.W.Frag} {mg : Str → Option Value} {base : Heap}
theorem ok__law_text (D : Dn K mg "_law_text" s__law_text ["number", "size"]) (z_int : mg "int" = none) (z_range : mg "range" = none) :
    C8.Cal P w K mg base 1 "_law_text" (sp__law_text K) [] := by
  refine cal_of D sc__law_text (fun vs H Q E h => ?_) (fun f cdv A outer s H vs Q E hr h => ?_)
  · obtain ⟨_, _, rfl, _⟩ := h
    rfl
  refine ⟨_, (pss_cons (ps_set (i := 2) sc__law_text.nd rfl (.inl rfl) pe_str)
    (pss_cons (ps_set (i := 3) sc__law_text.nd rfl (.inl rfl) pe_str)
    (pss_cons (ps_set (i := 4) sc__law_text.nd rfl (.inl rfl) (pe_lst pa_nil))
    (pss_cons (ps_set (i := 5) sc__law_text.nd rfl (.inl rfl) (pe_op op_fdiv (pe_callTy call_int1 (by rfl) z_int (by decide +kernel) (pa_cons (pv 0) pa_nil)) pe_int))
    (pss_cons (ps_for PassesOwn.never rfl (pi_range1 rfl z_range (pa_cons (pv 1) pa_nil)) (pg_name (i := 6) sc__law_text.nd rfl (.inl rfl))
      (pss_one (ps_if (pt_cmpR op_eq (pe_op op_mod (pe_callTy call_int1 (by rfl) z_int (by decide +kernel) (pa_cons (pv 0) pa_nil)) pe_int) pe_int (nomark _))
      (pss_cons (ps_expr (pe_bm PySem.F.plainAttrs_list PySem.F.slot_list_append PySem.F.type_list_append mt_append (pv 4) (pa_cons (pe_ix ix_str (pv 2) (pe_op op_mod (pe_callTy call_int1 (by rfl) z_int (by decide +kernel) (pa_cons (pv 5) pa_nil)) pe_int) (fun _ _ => rfl)) pa_nil)))
    (pss_one (ps_set (i := 5) sc__law_text.nd rfl (.inl rfl) (pe_op op_add (pe_op op_fdiv (pv 5) pe_int) (pe_op op_mul pe_int (pv 6))))))
      (pss_cons (ps_expr (pe_bm PySem.F.plainAttrs_list PySem.F.slot_list_append PySem.F.type_list_append mt_append (pv 4) (pa_cons (pe_ix ix_str (pv 3) (pe_op op_mod (pe_callTy call_int1 (by rfl) z_int (by decide +kernel) (pa_cons (pv 5) pa_nil)) pe_int) (fun _ _ => rfl)) pa_nil)))
    (pss_one (ps_set (i := 5) sc__law_text.nd rfl (.inl rfl) (pe_op op_add (pe_op op_fdiv (pv 5) pe_int) (pe_op op_mul pe_int (pv 6)))))))))
    (pss_one (ps_ret (pe_join pe_str (pv 4))))))))), ?_⟩
  obtain ⟨n, z, rfl, hz, q⟩ := h
  refine q_asg ev_c fun H1 e1 => ?_
  refine q_asg ev_c fun H2 e2 => ?_
  refine q_asgL (el_lst ea_nil (by decide)) fun p H3 hp e3 h3 => ?_
  refine q_asg (v := .int (n / 3)) (by walk_at "ev") fun H4 e4 => ?_
  have x2 : Ex H H2 := e1.trans e2
  refine q_forR1 (n := (z : Int)) (ea_cons (ev_var rfl) ea_nil) ⟨by omega, by omega⟩
    (fun i σ H' => ∃ y6, σ = [some (.int n), some (.int (z : Int)), some (.str (SX.S signsL)), some (.str (SX.S fewL)), some (.ref p), some (.int (lawTS n i).2), y6] ∧ Ex H2 H' ∧ H' p = some (.lst ((lawT n i).map fun c => V.str ⟨#[c]⟩)))
    (fun H5 e5 => ⟨none, rfl, (e3.trans e4).trans e5, e5 _ _ (e4 _ _ h3)⟩) (fun i σ H5 hi hw => ?_) (fun σ H5 hw => ?_)
  · obtain ⟨y6, rfl, e5, h5⟩ := hw
    have hlen : (((lawT n i).map fun c => V.str ⟨#[c]⟩)).length < 100000 := by
      rw [List.length_map, lawT_len]
      omega
    refine s_if (b := decide (V.int (n % 3) = V.int 0)) (by walk_at "et") (fun hb H6 e6 => ?_) (fun hb H6 e6 => ?_)
    · have hb' : n % 3 = 0 := V.int.inj (of_decide_eq_true hb)
      have hx := sign_at (r := (lawTS n i).2) signs_len (by decide)
      refine q_app (v := .str ⟨#[signsL.getD ((lawTS n i).2 % 94).toNat 0]⟩) (e6 _ _ h5) (ev_var rfl) ?_ hlen fun H7 e7 => ?_
      · refine ev_op (ev_var rfl) (y := .int ((lawTS n i).2 % 94)) (by walk_at "ev") (rv_ixS (by decide +kernel) ?_)
        exact pick (m := 94) signs_len (by decide)
      refine s_asg (v := .int ((lawTS n (i + 1)).2)) ?_ fun H8 e8 => ?_
      · refine ev_is (v := .int ((lawTS n i).2 / 94 + 7 * (i : Int))) (by walk_at "ev") ?_
        rw [lawTS, if_pos hb']
      · refine ⟨_, rfl, (Ex.mut ((e5.trans e6).trans e7) (fresh_back (Ex.refl _) hp)).trans e8, ?_⟩
        refine e8 _ _ ?_
        rw [upd_same]
        unfold lawT
        rw [lawTS, if_pos hb', List.map_append]
        rfl
    · have hb' : ¬ n % 3 = 0 := fun e => of_decide_eq_false hb (by rw [e])
      have hx := sign_at (r := (lawTS n i).2) few_len (by decide)
      refine q_app (v := .str ⟨#[fewL.getD ((lawTS n i).2 % 10).toNat 0]⟩) (e6 _ _ h5) (ev_var rfl) ?_ hlen fun H7 e7 => ?_
      · refine ev_op (ev_var rfl) (y := .int ((lawTS n i).2 % 10)) (by walk_at "ev") (rv_ixS (by decide +kernel) ?_)
        exact pick (m := 10) few_len (by decide)
      refine s_asg (v := .int ((lawTS n (i + 1)).2)) ?_ fun H8 e8 => ?_
      · refine ev_is (v := .int ((lawTS n i).2 / 10 + 7 * (i : Int))) (by walk_at "ev") ?_
        rw [lawTS, if_neg hb']
      · refine ⟨_, rfl, (Ex.mut ((e5.trans e6).trans e7) (fresh_back (Ex.refl _) hp)).trans e8, ?_⟩
        refine e8 _ _ ?_
        rw [upd_same]
        unfold lawT
        rw [lawTS, if_neg hb', List.map_append]
        rfl
  · obtain ⟨y6, rfl, e5, h5⟩ := hw
    have ez : ((z : Int)).toNat = z := by omega
    rw [ez] at h5
    have hl : ((lawT n z).map fun c => V.str ⟨#[c]⟩) = ((lawT n z).map fun c => (⟨#[c]⟩ : Str)).map V.str := by
      rw [List.map_map]
      rfl
    refine ⟨⟨_, rfl⟩, _, rfl, SX.S [], p, (lawT n z).map fun c => (⟨#[c]⟩ : Str), rfl, rfl, .inl (sq_of ?_), ?_, ?_⟩
    · rw [← hl]
      exact h5
    · have e9 : ((lawT n z).map fun c => (⟨#[c]⟩ : Str)).map (·.length) = List.replicate z 1 := by
        rw [List.map_map, List.eq_replicate_iff]
        refine ⟨by rw [List.length_map, lawT_len], fun b hb => ?_⟩
        obtain ⟨c, _, rfl⟩ := List.mem_map.mp hb
        rfl
      rw [e9, List.sum_replicate_nat, List.length_map, lawT_len]
      show z * 1 + z * 0 ≤ _
      omega
    · rw [join_ones]
      exact q _ (x2.trans e5)
theorem ec_text {σ : L2.St} {H : Hp} {ta tb : TE} {E : XK} {n m : Int} (ha : Ev ta σ H (.int n)) (hb : Ev tb σ H (.int m)) (h0 : 0 ≤ m) (h1 : m ≤ 1000) : Ev (tCall (sp__law_text K) [] E (tCons ta (tCons tb tNil))) σ H (.str (SX.S (lawT n m.toNat))) :=
  ev_call (ea_cons ha (ea_cons hb ea_nil)) fun H1 e Q q E => ⟨n, m.toNat, by rw [Int.toNat_of_nonneg h0]; rfl, by omega, q⟩
theorem ok__law_value (D : Dn K mg "_law_value" s__law_value ["number"]) (c__law_text : C8.Cal P w K mg base 1 "_law_text" (sp__law_text K) []) (z_int : mg "int" = none) :
    C8.Cal P w K mg base 2 "_law_value" (sp__law_value K) [] := by
  refine cal_of D sc__law_value (fun vs H Q E h => ?_) (fun f cdv A outer s H vs Q E hr h => ?_)
  · obtain ⟨_, rfl, _⟩ := h
    rfl
  refine ⟨_, (pss_cons (ps_set (i := 1) sc__law_value.nd rfl (.inl rfl) (pe_op op_fdiv (pe_callTy call_int1 (by rfl) z_int (by decide +kernel) (pa_cons (pv 0) pa_nil)) pe_int))
    (pss_cons (ps_set (i := 2) sc__law_value.nd rfl (.inl rfl) (pe_op op_mod (pe_callTy call_int1 (by rfl) z_int (by decide +kernel) (pa_cons (pv 0) pa_nil)) pe_int))
    (pss_cons (ps_if (pt_cmpR op_eq (pv 2) pe_int (nomark _))
      (pss_one (ps_ret pe_non))
      pss_nil)
    (pss_cons (ps_if (pt_cmpR op_eq (pv 2) pe_int (nomark _))
      (pss_one (ps_ret (pe_cmpR op_eq (pe_op op_mod (pv 1) pe_int) pe_int (nomark _))))
      pss_nil)
    (pss_cons (ps_if (pt_cmpR op_eq (pv 2) pe_int (nomark _))
      (pss_one (ps_ret (pe_op op_sub (pe_op op_mod (pe_callTy call_int1 (by rfl) z_int (by decide +kernel) (pa_cons (pv 1) pa_nil)) pe_int) pe_int)))
      pss_nil)
    (pss_cons (ps_if (pt_cmpR op_eq (pv 2) pe_int (nomark _))
      (pss_one (ps_ret (pe_op op_sub (pe_op op_mod (pe_callTy call_int1 (by rfl) z_int (by decide +kernel) (pa_cons (pv 1) pa_nil)) pe_int) pe_int)))
      pss_nil)
    (pss_cons (ps_if (pt_cmpR op_eq (pv 2) pe_int (nomark _))
      (pss_one (ps_ret (pe_op op_sub (pe_op op_mod (pe_callTy call_int1 (by rfl) z_int (by decide +kernel) (pa_cons (pv 1) pa_nil)) pe_int) pe_int)))
      pss_nil)
    (pss_cons (ps_if (pt_cmpR op_eq (pv 2) pe_int (nomark _))
      (pss_one (ps_ret (pe_op op_sub (pe_op op_mod (pe_callTy call_int1 (by rfl) z_int (by decide +kernel) (pa_cons (pv 1) pa_nil)) pe_int) pe_int)))
      pss_nil)
    (pss_one (ps_ret (C8.pe_c c__law_text hr (by decide) (by rfl) (pa_cons (pe_op op_fdiv (pv 1) pe_int) (pa_cons (pe_op op_mod (pe_callTy call_int1 (by rfl) z_int (by decide +kernel) (pa_cons (pv 1) pa_nil)) pe_int) pa_nil))))))))))))), ?_⟩
  obtain ⟨n, rfl, q⟩ := h
  refine q_asg (v := .int (n / 8)) (by walk_at "ev") fun H1 e1 => ?_
  refine q_asg (v := .int (n % 8)) (by walk_at "ev") fun H2 e2 => ?_
  have x2 : Ex H H2 := e1.trans e2
  refine q_when (b := decide (V.int (n % 8) = V.int 0)) (by walk_at "et") (fun hb H3 e3 => s_ret (v := lawV n) ?_ fun H4 e4 => q H4 ((x2.trans e3).trans e4)) (fun hb H3 e3 => ?_)
  · refine ev_is ev_c ?_
    unfold lawV
    rw [if_pos (V.int.inj (of_decide_eq_true hb))]
  have n0 : ¬ n % 8 = 0 := fun e => of_decide_eq_false hb (by rw [e])
  refine q_when (b := decide (V.int (n % 8) = V.int 1)) (by walk_at "et") (fun hb H4 e4 => s_ret (v := lawV n) ?_ fun H5 e5 => q H5 (((x2.trans e3).trans e4).trans e5)) (fun hb H4 e4 => ?_)
  · refine ev_is (v := .bl (decide (V.int (n / 8 % 2) = V.int 0))) (by walk_at "ev") ?_
    unfold lawV
    rw [if_neg n0, if_pos (V.int.inj (of_decide_eq_true hb)), dec_int]
    congr 1
  have n1 : ¬ n % 8 = 1 := fun e => of_decide_eq_false hb (by rw [e])
  refine q_when (b := decide (V.int (n % 8) = V.int 2)) (by walk_at "et") (fun hb H5 e5 => s_ret (v := lawV n) ?_ fun H6 e6 => q H6 ((((x2.trans e3).trans e4).trans e5).trans e6)) (fun hb H5 e5 => ?_)
  · refine ev_is (v := .int (n / 8 % 3 - 1)) (by walk_at "ev") ?_
    unfold lawV
    rw [if_neg n0, if_neg n1, if_pos (V.int.inj (of_decide_eq_true hb))]
  have n2 : ¬ n % 8 = 2 := fun e => of_decide_eq_false hb (by rw [e])
  refine q_when (b := decide (V.int (n % 8) = V.int 3)) (by walk_at "et") (fun hb H6 e6 => s_ret (v := lawV n) ?_ fun H7 e7 => q H7 (((((x2.trans e3).trans e4).trans e5).trans e6).trans e7)) (fun hb H6 e6 => ?_)
  · refine ev_is (v := .int (n / 8 % 2000000000000001 - 1000000000000000)) (by walk_at "ev") ?_
    unfold lawV
    rw [if_neg n0, if_neg n1, if_neg n2, if_pos (V.int.inj (of_decide_eq_true hb))]
  have n3 : ¬ n % 8 = 3 := fun e => of_decide_eq_false hb (by rw [e])
  refine q_when (b := decide (V.int (n % 8) = V.int 4)) (by walk_at "et") (fun hb H7 e7 => s_ret (v := lawV n) ?_ fun H8 e8 => q H8 ((((((x2.trans e3).trans e4).trans e5).trans e6).trans e7).trans e8)) (fun hb H7 e7 => ?_)
  · refine ev_is (v := .int (n / 8 % 3652059 - 719162)) (by walk_at "ev") ?_
    unfold lawV
    rw [if_neg n0, if_neg n1, if_neg n2, if_neg n3, if_pos (V.int.inj (of_decide_eq_true hb))]
  have n4 : ¬ n % 8 = 4 := fun e => of_decide_eq_false hb (by rw [e])
  refine q_when (b := decide (V.int (n % 8) = V.int 5)) (by walk_at "et") (fun hb H8 e8 => s_ret (v := lawV n) ?_ fun H9 e9 => q H9 (((((((x2.trans e3).trans e4).trans e5).trans e6).trans e7).trans e8).trans e9)) (fun hb H8 e8 => ?_)
  · refine ev_is (v := .int (n / 8 % 40 - 20)) (by walk_at "ev") ?_
    unfold lawV
    rw [if_neg n0, if_neg n1, if_neg n2, if_neg n3, if_neg n4, if_pos (V.int.inj (of_decide_eq_true hb))]
  have n5 : ¬ n % 8 = 5 := fun e => of_decide_eq_false hb (by rw [e])
  refine s_ret (v := lawV n) ?_ fun H9 e9 => q H9 (((((((x2.trans e3).trans e4).trans e5).trans e6).trans e7).trans e8).trans e9)
  refine ev_is (ec_text (n := n / 8 / 13) (m := n / 8 % 13) (by walk_at "ev") (by walk_at "ev") (by omega) (by omega)) ?_
  unfold lawV
  rw [if_neg n0, if_neg n1, if_neg n2, if_neg n3, if_neg n4, if_neg n5]
theorem ec_value {σ : L2.St} {H : Hp} {ta : TE} {E : XK} {n : Int} (ha : Ev ta σ H (.int n)) : Ev (tCall (sp__law_value K) [] E (tCons ta tNil)) σ H (lawV n) :=
  ev_call (ea_cons ha ea_nil) fun H1 e Q q E => ⟨n, rfl, q⟩
end

/-! ### the three tables -/
def neg3 (x : V) : V := if x = .bl true then .bl false else if x = .bl false then .bl true else .non
def and3 (x y : V) : V := if x = .bl false ∨ y = .bl false then .bl false else if x = .bl true ∧ y = .bl true then .bl true else .non
def or3 (x y : V) : V := if x = .bl true ∨ y = .bl true then .bl true else if x = .bl false ∧ y = .bl false then .bl false else .non
def truth (x : V) : Int := if x = .bl true then 2 else if x = .bl false then 0 else 1
def told (x : V) (d : Int) : Bool := if d = 2 then decide (x = .bl true) else if d = 0 then decide (x = .bl false) else decide (x = .non)
theorem told_neg (x : V) : told (neg3 x) (2 - truth x) = true := by
  unfold neg3 truth told
  split
  · rfl
  split <;> rfl
theorem told_and (x y : V) : told (and3 x y) (if truth y < truth x then truth y else truth x) = true := by
  unfold and3 truth
  by_cases a : x = .bl true
  · subst a
    by_cases b : y = .bl true
    · subst b; rfl
    by_cases c : y = .bl false
    · subst c; rfl
    · simp [b, c, told]
  by_cases a' : x = .bl false
  · subst a'
    by_cases b : y = .bl true
    · subst b; rfl
    by_cases c : y = .bl false
    · subst c; rfl
    · simp [b, c, told]
  · by_cases b : y = .bl true
    · subst b; simp [a, a', told]
    by_cases c : y = .bl false
    · subst c; simp [a, a', told]
    · simp [a, a', b, c, told]
theorem told_or (x y : V) : told (or3 x y) (if truth y > truth x then truth y else truth x) = true := by
  unfold or3 truth
  by_cases a : x = .bl true
  · subst a
    by_cases b : y = .bl true
    · subst b; rfl
    by_cases c : y = .bl false
    · subst c; rfl
    · simp [b, c, told]
  by_cases a' : x = .bl false
  · subst a'
    by_cases b : y = .bl true
    · subst b; rfl
    by_cases c : y = .bl false
    · subst c; rfl
    · simp [b, c, told]
  · by_cases b : y = .bl true
    · subst b; simp [a, a', told]
    by_cases c : y = .bl false
    · subst c; simp [a, a', told]
    · simp [a, a', b, c, told]
def sp_negated (K : PySem.W.Frag) : Sp := fun vs H Q _ => ∃ x : V, vs = [x] ∧ ∀ H', Ex H H' → Q (neg3 x) H'
def sp_both (K : PySem.W.Frag) : Sp := fun vs H Q _ => ∃ x y : V, vs = [x, y] ∧ ∀ H', Ex H H' → Q (and3 x y) H'
def sp_either (K : PySem.W.Frag) : Sp := fun vs H Q _ => ∃ x y : V, vs = [x, y] ∧ ∀ H', Ex H H' → Q (or3 x y) H'
def sp__law_truth (K : PySem.W.Frag) : Sp := fun vs H Q _ => ∃ x : V, vs = [x] ∧ ∀ H', Ex H H' → Q (.int (truth x)) H'
def sp__law_told (K : PySem.W.Frag) : Sp := fun vs H Q _ => ∃ (x : V) (d : Int), vs = [x, .int d] ∧ ∀ H', Ex H H' → Q (.bl (told x d)) H'
def sp_law (K : PySem.W.Frag) : Sp := fun vs H Q _ => ∃ (a : Addr) (ns : List Int), vs = [.ref a] ∧ SqL K H a (ns.map V.int) ∧ ns.length ≤ 63 ∧ ∀ H', Q (.bl true) H'
theorem sp_law_of {K : PySem.W.Frag} {H : Hp} {a : Addr} {ns : List Int} (hl : ns.length ≤ 63) (hS : SqL K H a (ns.map V.int)) : sp_law K [.ref a] H (fun v _ => v = .bl true) fun _ _ _ => False :=
  ⟨a, ns, rfl, hS, hl, fun _ => rfl⟩
section
variable {P : Program} {w : World} {K : PySem.W.Frag} {mg : Str → Option Value} {base : Heap}
theorem ok_negated (D : Dn K mg "negated" s_negated ["value"]) :
    C8.Cal P w K mg base 1 "negated" (sp_negated K) [] := by
  refine cal_of D sc_negated (fun vs H Q E h => ?_) (fun f cdv A outer s H vs Q E hr h => ?_)
  · obtain ⟨_, rfl, _⟩ := h
    rfl
  refine ⟨_, (pss_cons (ps_if (pt_cmpR op_isTF (pv 0) pe_bl (nomark _))
      (pss_one (ps_ret pe_bl))
      pss_nil)
    (pss_cons (ps_if (pt_cmpR op_isTF (pv 0) pe_bl (nomark _))
      (pss_one (ps_ret pe_bl))
      pss_nil)
    (pss_one (ps_ret pe_non)))), ?_⟩
  obtain ⟨x, rfl, q⟩ := h
  refine q_when (b := decide (x = .bl true)) (by walk_at "et") (fun hb H1 e1 => s_ret (v := neg3 x) ?_ fun H2 e2 => q _ (e1.trans e2)) fun hb H1 e1 => ?_
  · refine ev_is ev_c ?_
    unfold neg3
    rw [if_pos (of_decide_eq_true hb)]
  refine q_when (b := decide (x = .bl false)) (by walk_at "et") (fun hc H2 e2 => s_ret (v := neg3 x) ?_ fun H3 e3 => q _ ((e1.trans e2).trans e3)) fun hc H2 e2 => s_ret (v := neg3 x) ?_ fun H3 e3 => q _ ((e1.trans e2).trans e3)
  · refine ev_is ev_c ?_
    unfold neg3
    rw [if_neg (of_decide_eq_false hb), if_pos (of_decide_eq_true hc)]
  · refine ev_is ev_c ?_
    unfold neg3
    rw [if_neg (of_decide_eq_false hb), if_neg (of_decide_eq_false hc)]
theorem ok_both (D : Dn K mg "both" s_both ["first", "second"]) :
    C8.Cal P w K mg base 1 "both" (sp_both K) [] := by
  refine cal_of D sc_both (fun vs H Q E h => ?_) (fun f cdv A outer s H vs Q E hr h => ?_)
  · obtain ⟨_, _, rfl, _⟩ := h
    rfl
  refine ⟨_, (pss_cons (ps_if (PW.pt (pw_or (pt_cmpR op_isTF (pv 0) pe_bl (nomark _)) (pw_or1 (pt_cmpR op_isTF (pv 1) pe_bl (nomark _)))))
      (pss_one (ps_ret pe_bl))
      pss_nil)
    (pss_cons (ps_if (PW.pt (pw_and (pt_cmpR op_isTF (pv 0) pe_bl (nomark _)) (pw_and1 (pt_cmpR op_isTF (pv 1) pe_bl (nomark _)))))
      (pss_one (ps_ret pe_bl))
      pss_nil)
    (pss_one (ps_ret pe_non)))), ?_⟩
  obtain ⟨x, y, rfl, q⟩ := h
  refine q_when (b := decide (x = .bl false) || decide (y = .bl false)) (by walk_at "et") (fun hb H1 e1 => s_ret (v := and3 x y) ?_ fun H2 e2 => q _ (e1.trans e2)) fun hb H1 e1 => ?_
  · refine ev_is ev_c ?_
    unfold and3
    rw [if_pos (by rw [Bool.or_eq_true, decide_eq_true_eq, decide_eq_true_eq] at hb; exact hb)]
  have nb : ¬ (x = .bl false ∨ y = .bl false) := by
    intro z
    rw [Bool.or_eq_false_iff, decide_eq_false_iff_not, decide_eq_false_iff_not] at hb
    exact z.elim hb.1 hb.2
  refine q_when (b := decide (x = .bl true) && decide (y = .bl true)) (by walk_at "et") (fun hc H2 e2 => s_ret (v := and3 x y) ?_ fun H3 e3 => q _ ((e1.trans e2).trans e3)) fun hc H2 e2 => s_ret (v := and3 x y) ?_ fun H3 e3 => q _ ((e1.trans e2).trans e3)
  · refine ev_is ev_c ?_
    unfold and3
    rw [if_neg nb, if_pos (by rw [Bool.and_eq_true, decide_eq_true_eq, decide_eq_true_eq] at hc; exact hc)]
  · refine ev_is ev_c ?_
    unfold and3
    rw [if_neg nb, if_neg (fun z => by rw [decide_eq_true z.1, decide_eq_true z.2] at hc; cases hc)]
theorem ok_either (D : Dn K mg "either" s_either ["first", "second"]) :
    C8.Cal P w K mg base 1 "either" (sp_either K) [] := by
  refine cal_of D sc_either (fun vs H Q E h => ?_) (fun f cdv A outer s H vs Q E hr h => ?_)
  · obtain ⟨_, _, rfl, _⟩ := h
    rfl
  refine ⟨_, (pss_cons (ps_if (PW.pt (pw_or (pt_cmpR op_isTF (pv 0) pe_bl (nomark _)) (pw_or1 (pt_cmpR op_isTF (pv 1) pe_bl (nomark _)))))
      (pss_one (ps_ret pe_bl))
      pss_nil)
    (pss_cons (ps_if (PW.pt (pw_and (pt_cmpR op_isTF (pv 0) pe_bl (nomark _)) (pw_and1 (pt_cmpR op_isTF (pv 1) pe_bl (nomark _)))))
      (pss_one (ps_ret pe_bl))
      pss_nil)
    (pss_one (ps_ret pe_non)))), ?_⟩
  obtain ⟨x, y, rfl, q⟩ := h
  refine q_when (b := decide (x = .bl true) || decide (y = .bl true)) (by walk_at "et") (fun hb H1 e1 => s_ret (v := or3 x y) ?_ fun H2 e2 => q _ (e1.trans e2)) fun hb H1 e1 => ?_
  · refine ev_is ev_c ?_
    unfold or3
    rw [if_pos (by rw [Bool.or_eq_true, decide_eq_true_eq, decide_eq_true_eq] at hb; exact hb)]
  have nb : ¬ (x = .bl true ∨ y = .bl true) := by
    intro z
    rw [Bool.or_eq_false_iff, decide_eq_false_iff_not, decide_eq_false_iff_not] at hb
    exact z.elim hb.1 hb.2
  refine q_when (b := decide (x = .bl false) && decide (y = .bl false)) (by walk_at "et") (fun hc H2 e2 => s_ret (v := or3 x y) ?_ fun H3 e3 => q _ ((e1.trans e2).trans e3)) fun hc H2 e2 => s_ret (v := or3 x y) ?_ fun H3 e3 => q _ ((e1.trans e2).trans e3)
  · refine ev_is ev_c ?_
    unfold or3
    rw [if_neg nb, if_pos (by rw [Bool.and_eq_true, decide_eq_true_eq, decide_eq_true_eq] at hc; exact hc)]
  · refine ev_is ev_c ?_
    unfold or3
    rw [if_neg nb, if_neg (fun z => by rw [decide_eq_true z.1, decide_eq_true z.2] at hc; cases hc)]
theorem ok__law_truth (D : Dn K mg "_law_truth" s__law_truth ["value"]) :
    C8.Cal P w K mg base 1 "_law_truth" (sp__law_truth K) [] := by
  refine cal_of D sc__law_truth (fun vs H Q E h => ?_) (fun f cdv A outer s H vs Q E hr h => ?_)
  · obtain ⟨_, rfl, _⟩ := h
    rfl
  refine ⟨_, (pss_cons (ps_if (pt_cmpR op_isTF (pv 0) pe_bl (nomark _))
      (pss_one (ps_ret pe_int))
      pss_nil)
    (pss_cons (ps_if (pt_cmpR op_isTF (pv 0) pe_bl (nomark _))
      (pss_one (ps_ret pe_int))
      pss_nil)
    (pss_one (ps_ret pe_int)))), ?_⟩
  obtain ⟨x, rfl, q⟩ := h
  refine q_when (b := decide (x = .bl true)) (by walk_at "et") (fun hb H1 e1 => s_ret (v := .int (truth x)) ?_ fun H2 e2 => q _ (e1.trans e2)) fun hb H1 e1 => ?_
  · refine ev_is ev_c ?_
    unfold truth
    rw [if_pos (of_decide_eq_true hb)]
  refine q_when (b := decide (x = .bl false)) (by walk_at "et") (fun hc H2 e2 => s_ret (v := .int (truth x)) ?_ fun H3 e3 => q _ ((e1.trans e2).trans e3)) fun hc H2 e2 => s_ret (v := .int (truth x)) ?_ fun H3 e3 => q _ ((e1.trans e2).trans e3)
  · refine ev_is ev_c ?_
    unfold truth
    rw [if_neg (of_decide_eq_false hb), if_pos (of_decide_eq_true hc)]
  · refine ev_is ev_c ?_
    unfold truth
    rw [if_neg (of_decide_eq_false hb), if_neg (of_decide_eq_false hc)]
theorem ok__law_told (D : Dn K mg "_law_told" s__law_told ["value", "due"]) :
    C8.Cal P w K mg base 1 "_law_told" (sp__law_told K) [] := by
  refine cal_of D sc__law_told (fun vs H Q E h => ?_) (fun f cdv A outer s H vs Q E hr h => ?_)
  · obtain ⟨_, _, rfl, _⟩ := h
    rfl
  refine ⟨_, (pss_cons (ps_if (pt_cmpR op_eq (pv 1) pe_int (nomark _))
      (pss_one (ps_ret (pe_cmpR op_isTF (pv 0) pe_bl (nomark _))))
      pss_nil)
    (pss_cons (ps_if (pt_cmpR op_eq (pv 1) pe_int (nomark _))
      (pss_one (ps_ret (pe_cmpR op_isTF (pv 0) pe_bl (nomark _))))
      pss_nil)
    (pss_one (ps_ret (pe_cmpR op_isN (pv 0) pe_non (nomark _)))))), ?_⟩
  obtain ⟨x, d, rfl, q⟩ := h
  refine q_when (b := decide (V.int d = V.int 2)) (by walk_at "et") (fun hb H1 e1 => s_ret (v := .bl (told x d)) ?_ fun H2 e2 => q _ (e1.trans e2)) fun hb H1 e1 => ?_
  · refine ev_is (v := .bl (decide (x = .bl true))) (by walk_at "ev") ?_
    unfold told
    rw [if_pos (V.int.inj (of_decide_eq_true hb))]
  have n2 : ¬ d = 2 := fun e => of_decide_eq_false hb (by rw [e])
  refine q_when (b := decide (V.int d = V.int 0)) (by walk_at "et") (fun hc H2 e2 => s_ret (v := .bl (told x d)) ?_ fun H3 e3 => q _ ((e1.trans e2).trans e3)) fun hc H2 e2 => s_ret (v := .bl (told x d)) ?_ fun H3 e3 => q _ ((e1.trans e2).trans e3)
  · refine ev_is (v := .bl (decide (x = .bl false))) (by walk_at "ev") ?_
    unfold told
    rw [if_neg n2, if_pos (V.int.inj (of_decide_eq_true hc))]
  · refine ev_is (v := .bl (decide (x = .non))) (by walk_at "ev") ?_
    unfold told
    rw [if_neg n2, if_neg fun e => of_decide_eq_false hc (by rw [e])]
variable {σ : L2.St} {H : Hp} {ta tb : TE} {E : XK} {x y : V} {d : Int}
theorem ec_negated (ha : Ev ta σ H x) : Ev (tCall (sp_negated K) [] E (tCons ta tNil)) σ H (neg3 x) := ev_call (ea_cons ha ea_nil) fun H1 e Q q E => ⟨x, rfl, q⟩
theorem ec_both (ha : Ev ta σ H x) (hb : Ev tb σ H y) : Ev (tCall (sp_both K) [] E (tCons ta (tCons tb tNil))) σ H (and3 x y) := ev_call (ea_cons ha (ea_cons hb ea_nil)) fun H1 e Q q E => ⟨x, y, rfl, q⟩
theorem ec_either (ha : Ev ta σ H x) (hb : Ev tb σ H y) : Ev (tCall (sp_either K) [] E (tCons ta (tCons tb tNil))) σ H (or3 x y) := ev_call (ea_cons ha (ea_cons hb ea_nil)) fun H1 e Q q E => ⟨x, y, rfl, q⟩
theorem ec_truth (ha : Ev ta σ H x) : Ev (tCall (sp__law_truth K) [] E (tCons ta tNil)) σ H (.int (truth x)) := ev_call (ea_cons ha ea_nil) fun H1 e Q q E => ⟨x, rfl, q⟩
theorem ec_told (ha : Ev ta σ H x) (hb : Ev tb σ H (.int d)) : Ev (tCall (sp__law_told K) [] E (tCons ta (tCons tb tNil))) σ H (.bl (told x d)) := ev_call (ea_cons ha (ea_cons hb ea_nil)) fun H1 e Q q E => ⟨x, d, rfl, q⟩
theorem ok_law {f : Addr} {fd : FuncData} (D : C8.Def K mg "law" s_law f fd) (c__law_numbers : C8.Cal P w K mg base 1 "_law_numbers" (sp__law_numbers K) []) (c__law_told : C8.Cal P w K mg base 1 "_law_told" (sp__law_told K) []) (c__law_truth : C8.Cal P w K mg base 1 "_law_truth" (sp__law_truth K) []) (c__law_value : C8.Cal P w K mg base 2 "_law_value" (sp__law_value K) []) (c_both : C8.Cal P w K mg base 1 "both" (sp_both K) []) (c_either : C8.Cal P w K mg base 1 "either" (sp_either K) []) (c_negated : C8.Cal P w K mg base 1 "negated" (sp_negated K) []) (z_max : mg "max" = none) (z_min : mg "min" = none) :
    FnOk P w K mg base C8.CX0 3 f fd ["script"] (sp_law K) := by
  refine C8.fn0 D.fn sc_law (fun vs H Q E h => ?_) (fun cdv A outer s H vs Q E hr h => ?_)
  · obtain ⟨_, _, rfl, _⟩ := h
    rfl
  refine ⟨_, (pss_cons (ps_set (i := 1) sc_law.nd rfl (.inl rfl) (C8.pe_c c__law_numbers hr (by decide) (by rfl) (pa_cons (pv 0) (pa_cons pe_int pa_nil))))
    (pss_cons (ps_set (i := 2) sc_law.nd rfl (.inl rfl) (pe_lst (pa_cons pe_bl (pa_cons pe_bl (pa_cons pe_non (pa_cons (C8.pe_c c__law_value hr (by decide) (by rfl) (pa_cons (pe_ix ix_list (pv 1) pe_int (fun _ _ => rfl)) pa_nil)) (pa_cons (C8.pe_c c__law_value hr (by decide) (by rfl) (pa_cons (pe_ix ix_list (pv 1) pe_int (fun _ _ => rfl)) pa_nil)) pa_nil)))))))
    (pss_cons (ps_for PassesOwn.never rfl (pi_list (pv 2)) (pg_name (i := 3) sc_law.nd rfl (.inl rfl))
      (pss_cons (ps_if (pt_not (pt_val (C8.pe_c c__law_told hr (by decide) (by rfl) (pa_cons (C8.pe_c c_negated hr (by decide) (by rfl) (pa_cons (pv 3) pa_nil)) (pa_cons (pe_op op_sub pe_int (C8.pe_c c__law_truth hr (by decide) (by rfl) (pa_cons (pv 3) pa_nil))) pa_nil)))))
      (pss_one (ps_ret pe_bl))
      pss_nil)
    (pss_one (ps_for PassesOwn.never rfl (pi_list (pv 2)) (pg_name (i := 4) sc_law.nd rfl (.inl rfl))
      (pss_cons (ps_if (pt_not (pt_val (C8.pe_c c__law_told hr (by decide) (by rfl) (pa_cons (C8.pe_c c_both hr (by decide) (by rfl) (pa_cons (pv 3) (pa_cons (pv 4) pa_nil))) (pa_cons (pe_callB (call_min2 rfl) (by rfl) z_min (by decide +kernel) (pa_cons (C8.pe_c c__law_truth hr (by decide) (by rfl) (pa_cons (pv 3) pa_nil)) (pa_cons (C8.pe_c c__law_truth hr (by decide) (by rfl) (pa_cons (pv 4) pa_nil)) pa_nil))) pa_nil)))))
      (pss_one (ps_ret pe_bl))
      pss_nil)
    (pss_one (ps_if (pt_not (pt_val (C8.pe_c c__law_told hr (by decide) (by rfl) (pa_cons (C8.pe_c c_either hr (by decide) (by rfl) (pa_cons (pv 3) (pa_cons (pv 4) pa_nil))) (pa_cons (pe_callB (call_max2 rfl) (by rfl) z_max (by decide +kernel) (pa_cons (C8.pe_c c__law_truth hr (by decide) (by rfl) (pa_cons (pv 3) pa_nil)) (pa_cons (C8.pe_c c__law_truth hr (by decide) (by rfl) (pa_cons (pv 4) pa_nil)) pa_nil))) pa_nil)))))
      (pss_one (ps_ret pe_bl))
      pss_nil)))))))
    (pss_one (ps_ret pe_bl))))), ?_⟩
  obtain ⟨a, ns, rfl, hS, h63, q⟩ := h
  refine q_asgL (xs := (lawN ns 2).map V.int) (el_call (ea_cons (ev_var rfl) (ea_cons ev_c ea_nil)) fun H1 e Q q E => ⟨a, ns, 2, rfl, ex_l e hS, h63, by decide, q⟩) fun p1 H1 hp1 e1 h1 => ?_
  have i0 := lawN_at (ns := ns) (c := 2) (i := 0) (by decide)
  have i1 := lawN_at (ns := ns) (c := 2) (i := 1) (by decide)
  refine q_asgL (xs := [.bl true, .bl false, .non, lawV (cellN ns 0), lawV (cellN ns 1)]) (el_lst (ea_cons ev_c (ea_cons ev_c (ea_cons ev_c (ea_cons (ec_value (ev_op (ev_var rfl) ev_c (rv_ixL (sq_of h1) i0))) (ea_cons (ec_value (ev_op (ev_var rfl) ev_c (rv_ixL (sq_of h1) i1))) ea_nil))))) (by show 5 ≤ 100000; decide)) fun p2 H2 hp2 e2 h2 => ?_
  generalize hvs : [.bl true, .bl false, .non, lawV (cellN ns 0), lawV (cellN ns 1)] = vs at h2
  refine q_forLn (ev_var rfl) (sq_of h2) (fun i σ H' => ∃ y3 y4, σ = [some (.ref a), some (.ref p1), some (.ref p2), y3, y4] ∧ Ex H2 H') (fun H3 e3 => ⟨none, none, rfl, e3⟩)
    (fun i σ H3 _ hw => ?_) (fun i x σ H3 hx hw => ?_) (fun σ H3 hw => ?_)
  · obtain ⟨y3, y4, rfl, e3⟩ := hw
    exact sq_of (e3 _ _ h2)
  · obtain ⟨y3, y4, rfl, e3⟩ := hw
    refine q_when (b := !true) (et_not (et_B (ev_is (ec_told (ec_negated (ev_var rfl)) (ev_op ev_c (ec_truth (ev_var rfl)) rv_I0)) (by rw [told_neg])))) (fun hb => nomatch hb) fun _ H4 e4 => ?_
    refine s_forLn (ev_var rfl) (sq_of (e4 _ _ (e3 _ _ h2))) (fun i σ H' => ∃ y4, σ = [some (.ref a), some (.ref p1), some (.ref p2), some x, y4] ∧ Ex H2 H') (fun H5 e5 => ⟨y4, rfl, (e3.trans e4).trans e5⟩)
      (fun i σ H5 _ hw => ?_) (fun i y σ H5 hy hw => ?_) (fun σ H5 hw => ?_)
    · obtain ⟨y4, rfl, e5⟩ := hw
      exact sq_of (e5 _ _ h2)
    · obtain ⟨y4, rfl, e5⟩ := hw
      refine q_when (b := !true) (et_not (et_B (ev_is (ec_told (ec_both (ev_var rfl) (ev_var rfl)) (ev_min2 (ec_truth (ev_var rfl)) (ec_truth (ev_var rfl)))) (by rw [told_and])))) (fun hb => nomatch hb) fun _ H6 e6 => ?_
      refine s_when (b := !true) (et_not (et_B (ev_is (ec_told (ec_either (ev_var rfl) (ev_var rfl)) (ev_max2 (ec_truth (ev_var rfl)) (ec_truth (ev_var rfl)))) (by rw [told_or])))) (fun hb => nomatch hb) fun _ H7 e7 => ?_
      exact ⟨_, rfl, (e5.trans e6).trans e7⟩
    · obtain ⟨y4, rfl, e5⟩ := hw
      exact ⟨_, _, rfl, e5⟩
  · obtain ⟨y3, y4, rfl, e3⟩ := hw
    exact s_ret ev_c fun H4 _ => q H4
end
theorem all_mk {P : Program} {w : World} {K : PySem.W.Frag} {h : Heap} {mg : Str → Option Value} {fa : Addr} (X : K.In h) (G : h.Ns mainGlobals mg) (hfa : mg "law" = some (.ref fa))
    {f0 : Addr} {od0 an0 : Option Addr} {sl0 : Array (Option Value)} {oc0 kV0 dc0 pm0 cd0 ct0 : Value} (a0 : PySem.W.nsIn K mainGlobals "negated" = some (some (.ref f0))) (l0 : K.lookup f0 = some ⟨oc0, od0, .func (PySem.W.fnOf "negated" "negated" (C8.fnArgs s_negated) (C8.fnBody s_negated) (C8.fnScope s_negated) .none kV0 dc0 pm0 an0 cd0 ct0), sl0⟩) (b0 : PySem.W.codeIn K cd0 "negated" = true) (k0 : PySem.W.keepIn K (.ref f0) = true)
    {f1 : Addr} {od1 an1 : Option Addr} {sl1 : Array (Option Value)} {oc1 kV1 dc1 pm1 cd1 ct1 : Value} (a1 : PySem.W.nsIn K mainGlobals "both" = some (some (.ref f1))) (l1 : K.lookup f1 = some ⟨oc1, od1, .func (PySem.W.fnOf "both" "both" (C8.fnArgs s_both) (C8.fnBody s_both) (C8.fnScope s_both) .none kV1 dc1 pm1 an1 cd1 ct1), sl1⟩) (b1 : PySem.W.codeIn K cd1 "both" = true) (k1 : PySem.W.keepIn K (.ref f1) = true)
    {f2 : Addr} {od2 an2 : Option Addr} {sl2 : Array (Option Value)} {oc2 kV2 dc2 pm2 cd2 ct2 : Value} (a2 : PySem.W.nsIn K mainGlobals "either" = some (some (.ref f2))) (l2 : K.lookup f2 = some ⟨oc2, od2, .func (PySem.W.fnOf "either" "either" (C8.fnArgs s_either) (C8.fnBody s_either) (C8.fnScope s_either) .none kV2 dc2 pm2 an2 cd2 ct2), sl2⟩) (b2 : PySem.W.codeIn K cd2 "either" = true) (k2 : PySem.W.keepIn K (.ref f2) = true)
    {f3 : Addr} {od3 an3 : Option Addr} {sl3 : Array (Option Value)} {oc3 kV3 dc3 pm3 cd3 ct3 : Value} (a3 : PySem.W.nsIn K mainGlobals "_law_numbers" = some (some (.ref f3))) (l3 : K.lookup f3 = some ⟨oc3, od3, .func (PySem.W.fnOf "_law_numbers" "_law_numbers" (C8.fnArgs s__law_numbers) (C8.fnBody s__law_numbers) (C8.fnScope s__law_numbers) .none kV3 dc3 pm3 an3 cd3 ct3), sl3⟩) (b3 : PySem.W.codeIn K cd3 "_law_numbers" = true) (k3 : PySem.W.keepIn K (.ref f3) = true)
    {f4 : Addr} {od4 an4 : Option Addr} {sl4 : Array (Option Value)} {oc4 kV4 dc4 pm4 cd4 ct4 : Value} (a4 : PySem.W.nsIn K mainGlobals "_law_text" = some (some (.ref f4))) (l4 : K.lookup f4 = some ⟨oc4, od4, .func (PySem.W.fnOf "_law_text" "_law_text" (C8.fnArgs s__law_text) (C8.fnBody s__law_text) (C8.fnScope s__law_text) .none kV4 dc4 pm4 an4 cd4 ct4), sl4⟩) (b4 : PySem.W.codeIn K cd4 "_law_text" = true) (k4 : PySem.W.keepIn K (.ref f4) = true)
    {f5 : Addr} {od5 an5 : Option Addr} {sl5 : Array (Option Value)} {oc5 kV5 dc5 pm5 cd5 ct5 : Value} (a5 : PySem.W.nsIn K mainGlobals "_law_value" = some (some (.ref f5))) (l5 : K.lookup f5 = some ⟨oc5, od5, .func (PySem.W.fnOf "_law_value" "_law_value" (C8.fnArgs s__law_value) (C8.fnBody s__law_value) (C8.fnScope s__law_value) .none kV5 dc5 pm5 an5 cd5 ct5), sl5⟩) (b5 : PySem.W.codeIn K cd5 "_law_value" = true) (k5 : PySem.W.keepIn K (.ref f5) = true)
    {f6 : Addr} {od6 an6 : Option Addr} {sl6 : Array (Option Value)} {oc6 kV6 dc6 pm6 cd6 ct6 : Value} (a6 : PySem.W.nsIn K mainGlobals "_law_truth" = some (some (.ref f6))) (l6 : K.lookup f6 = some ⟨oc6, od6, .func (PySem.W.fnOf "_law_truth" "_law_truth" (C8.fnArgs s__law_truth) (C8.fnBody s__law_truth) (C8.fnScope s__law_truth) .none kV6 dc6 pm6 an6 cd6 ct6), sl6⟩) (b6 : PySem.W.codeIn K cd6 "_law_truth" = true) (k6 : PySem.W.keepIn K (.ref f6) = true)
    {f7 : Addr} {od7 an7 : Option Addr} {sl7 : Array (Option Value)} {oc7 kV7 dc7 pm7 cd7 ct7 : Value} (a7 : PySem.W.nsIn K mainGlobals "_law_told" = some (some (.ref f7))) (l7 : K.lookup f7 = some ⟨oc7, od7, .func (PySem.W.fnOf "_law_told" "_law_told" (C8.fnArgs s__law_told) (C8.fnBody s__law_told) (C8.fnScope s__law_told) .none kV7 dc7 pm7 an7 cd7 ct7), sl7⟩) (b7 : PySem.W.codeIn K cd7 "_law_told" = true) (k7 : PySem.W.keepIn K (.ref f7) = true)
    {f8 : Addr} {od8 an8 : Option Addr} {sl8 : Array (Option Value)} {oc8 kV8 dc8 pm8 cd8 ct8 : Value} (a8 : PySem.W.nsIn K mainGlobals "law" = some (some (.ref f8))) (l8 : K.lookup f8 = some ⟨oc8, od8, .func (PySem.W.fnOf "law" "law" (C8.fnArgs s_law) (C8.fnBody s_law) (C8.fnScope s_law) .none kV8 dc8 pm8 an8 cd8 ct8), sl8⟩) (b8 : PySem.W.codeIn K cd8 "law" = true) (k8 : PySem.W.keepIn K (.ref f8) = true)
    (z_int : PySem.W.nsIn K mainGlobals "int" = some none)
    (z_len : PySem.W.nsIn K mainGlobals "len" = some none)
    (z_max : PySem.W.nsIn K mainGlobals "max" = some none)
    (z_min : PySem.W.nsIn K mainGlobals "min" = some none)
    (z_range : PySem.W.nsIn K mainGlobals "range" = some none)
    : ∃ fd : FuncData, (∀ (s : Shared) (v : Value), BindsTo s fd ⟨[v], []⟩ [("script", v)]) ∧ ∀ base : Heap, K.In base → base.Ns mainGlobals mg → FnOk P w K mg base C8.CX0 3 fa fd ["script"] (sp_law K) := by
  have D_negated : Dn K mg "negated" s_negated ["value"] := dn_mk l0 b0 k0 (PySem.W.mg_of X G a0) (fun _ _ _ _ _ _ us hl => match us, hl with | [_], _ => rfl)
  have D_both : Dn K mg "both" s_both ["first", "second"] := dn_mk l1 b1 k1 (PySem.W.mg_of X G a1) (fun _ _ _ _ _ _ us hl => match us, hl with | [_, _], _ => rfl)
  have D_either : Dn K mg "either" s_either ["first", "second"] := dn_mk l2 b2 k2 (PySem.W.mg_of X G a2) (fun _ _ _ _ _ _ us hl => match us, hl with | [_, _], _ => rfl)
  have D__law_numbers : Dn K mg "_law_numbers" s__law_numbers ["script", "count"] := dn_mk l3 b3 k3 (PySem.W.mg_of X G a3) (fun _ _ _ _ _ _ us hl => match us, hl with | [_, _], _ => rfl)
  have D__law_text : Dn K mg "_law_text" s__law_text ["number", "size"] := dn_mk l4 b4 k4 (PySem.W.mg_of X G a4) (fun _ _ _ _ _ _ us hl => match us, hl with | [_, _], _ => rfl)
  have D__law_value : Dn K mg "_law_value" s__law_value ["number"] := dn_mk l5 b5 k5 (PySem.W.mg_of X G a5) (fun _ _ _ _ _ _ us hl => match us, hl with | [_], _ => rfl)
  have D__law_truth : Dn K mg "_law_truth" s__law_truth ["value"] := dn_mk l6 b6 k6 (PySem.W.mg_of X G a6) (fun _ _ _ _ _ _ us hl => match us, hl with | [_], _ => rfl)
  have D__law_told : Dn K mg "_law_told" s__law_told ["value", "due"] := dn_mk l7 b7 k7 (PySem.W.mg_of X G a7) (fun _ _ _ _ _ _ us hl => match us, hl with | [_, _], _ => rfl)
  have y_int : mg "int" = none := PySem.W.mg_none_of X G z_int
  have y_len : mg "len" = none := PySem.W.mg_none_of X G z_len
  have y_max : mg "max" = none := PySem.W.mg_none_of X G z_max
  have y_min : mg "min" = none := PySem.W.mg_none_of X G z_min
  have y_range : mg "range" = none := PySem.W.mg_none_of X G z_range
  have e := hfa.symm.trans (PySem.W.mg_of X G a8)
  cases e
  have D_law := def_mk (x := "law") (st := s_law) l8 b8 k8 hfa
  refine ⟨PySem.W.fnOf "law" "law" (C8.fnArgs s_law) (C8.fnBody s_law) (C8.fnScope s_law) .none kV8 dc8 pm8 an8 cd8 ct8, fun s v => .of_eq rfl, fun base _ _ => ?_⟩
  have c_negated := ok_negated (P := P) (w := w) (base := base) D_negated
  have c_both := ok_both (P := P) (w := w) (base := base) D_both
  have c_either := ok_either (P := P) (w := w) (base := base) D_either
  have c__law_numbers := ok__law_numbers (P := P) (w := w) (base := base) D__law_numbers y_int y_len y_range
  have c__law_text := ok__law_text (P := P) (w := w) (base := base) D__law_text y_int y_range
  have c__law_value := ok__law_value (P := P) (w := w) (base := base) D__law_value c__law_text y_int
  have c__law_truth := ok__law_truth (P := P) (w := w) (base := base) D__law_truth
  have c__law_told := ok__law_told (P := P) (w := w) (base := base) D__law_told
  exact ok_law (P := P) (w := w) (base := base) D_law c__law_numbers c__law_told c__law_truth c__law_value c_both c_either c_negated y_max y_min
end My
open PySem PySem.W PyProof.Rows
set_option maxHeartbeats 0 in
theorem PySem.Challenge.cw_stylobate_k02_three_valued_logic_holds : PySem.Challenge.rw_stylobate_k02_three_valued_logic.Holds := by
  w_on; o_law; k_head; (case hw => w_witness2)
  k_fill
  refine L2.walk_of (l := PySem.Challenge.rw_stylobate_k02_three_valued_logic) (n := 63) (k := 3) (x := "script") (CX := fun _ => C8.CX0) (sp := fun w => My.sp_law _) rfl (by decide) rfl ⟨rfl, by decide, by decide⟩ (fun w h Y => PySem.W.kIn_of Y) ?F (fun _ _ a ns hl _ hS => My.sp_law_of hl hS) (fun _ _ _ _ _ h => h)
  case F =>
    intro w mg fa h KX G hmg
    refine' My.all_mk KX G hmg ?a0 ?l0 ?b0 ?k0 ?a1 ?l1 ?b1 ?k1 ?a2 ?l2 ?b2 ?k2 ?a3 ?l3 ?b3 ?k3 ?a4 ?l4 ?b4 ?k4 ?a5 ?l5 ?b5 ?k5 ?a6 ?l6 ?b6 ?k6 ?a7 ?l7 ?b7 ?k7 ?a8 ?l8 ?b8 ?k8 ?z_int ?z_len ?z_max ?z_min ?z_range
    (case a0 => k_is); (case l0 => k_is); (case b0 => k_is); (case k0 => k_is); (case a1 => k_is); (case l1 => k_is); (case b1 => k_is); (case k1 => k_is); (case a2 => k_is); (case l2 => k_is); (case b2 => k_is); (case k2 => k_is); (case a3 => k_is); (case l3 => k_is); (case b3 => k_is); (case k3 => k_is); (case a4 => k_is); (case l4 => k_is); (case b4 => k_is); (case k4 => k_is); (case a5 => k_is); (case l5 => k_is); (case b5 => k_is); (case k5 => k_is); (case a6 => k_is); (case l6 => k_is); (case b6 => k_is); (case k6 => k_is); (case a7 => k_is); (case l7 => k_is); (case b7 => k_is); (case k7 => k_is); (case a8 => k_is); (case l8 => k_is); (case b8 => k_is); (case k8 => k_is); (case z_int => k_is); (case z_len => k_is); (case z_max => k_is); (case z_min => k_is); (case z_range => k_is)

