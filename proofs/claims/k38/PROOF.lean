import PyProof.Rows.All
import Wide.All
import OpenK.AllK
import Wide.FinOn
import HandS.ForMost
import HandS.IsInst
import HandS.More
import HandS.CallLocal
import HandS.Codes
import HandS.Wide
import HandS.TupLe
import HandS.TupAny
import HandS.Star
import HandS.Walk
import HandS.Defaults
import KE.KStateDown
import HandS.Head0
import HandS.Head1
import HandS.Head2
import HandS.HeadEnd
import HandS.HeadHook1
import HandS.HeadHook2
import HandS.HeadHook3
import PySem.Challenge.RW_asifone_k38_names_of_a_job
set_option Elab.async false
set_option linter.all false
set_option maxRecDepth 100000
set_option maxHeartbeats 4000000




















namespace My
open PySem PySem.Spec PyProof.Rows L2
def topS (i : Nat) : Stmt := PySem.Challenge.pw_asifone_k38_names_of_a_job.main.body.getD i (.Pass ⟨0, 0, 0, 0⟩)
abbrev s_is_word : Stmt := topS 8
abbrev s_is_multiple : Stmt := topS 10
abbrev s_is_inside : Stmt := topS 11
abbrev s_length_of : Stmt := topS 12
abbrev s__names_exist : Stmt := topS 13
abbrev s__of_inputs : Stmt := topS 14
abbrev s__of_targets : Stmt := topS 15
abbrev s__of_lin : Stmt := topS 16
abbrev s__of_bias : Stmt := topS 17
abbrev s__of_embed : Stmt := topS 18
abbrev s__of_mat : Stmt := topS 19
abbrev s__of_lower : Stmt := topS 20
abbrev s__of_pair : Stmt := topS 21
abbrev s__of_scale : Stmt := topS 22
abbrev s__of_shift : Stmt := topS 23
abbrev s__of_relu : Stmt := topS 24
abbrev s__of_drop : Stmt := topS 25
abbrev s__of_sum : Stmt := topS 26
abbrev s__of_join : Stmt := topS 27
abbrev s__of_take : Stmt := topS 28
abbrev s_Parameter___init__ : Stmt := inClass (topS 32) 0
abbrev s_Net___init__ : Stmt := inClass (topS 33) 0
abbrev s_operands : Stmt := topS 34
abbrev s_row_length : Stmt := topS 35
abbrev s_sides : Stmt := topS 36
abbrev s__lengths : Stmt := topS 37
abbrev s_pre_count : Stmt := topS 39
abbrev s_bac_count : Stmt := topS 40
abbrev s_is_name : Stmt := topS 42
abbrev s__is_cell : Stmt := topS 43
abbrev s__is_element : Stmt := topS 44
abbrev s__is_pre : Stmt := topS 45
abbrev s__is_inc : Stmt := topS 46
abbrev s__is_bac : Stmt := topS 47
abbrev s__is_grd : Stmt := topS 48
abbrev s__is_los : Stmt := topS 49
abbrev s_Job___init__ : Stmt := inClass (topS 52) 0
abbrev s__law_cell : Stmt := topS 54
abbrev s__law_row : Stmt := topS 55
abbrev s__law_draw : Stmt := topS 56
abbrev s__law_wrap : Stmt := topS 57
abbrev s__law_word : Stmt := topS 58
abbrev s__law_operands : Stmt := topS 59
abbrev s__law_fill : Stmt := topS 60
abbrev s__law_try : Stmt := topS 61
abbrev s__law_length : Stmt := topS 62
abbrev s__law_small_net : Stmt := topS 63
abbrev s__law_job : Stmt := topS 64
abbrev s__law_built : Stmt := topS 65
abbrev s__law_sum_size : Stmt := topS 66
abbrev s__law_back_size : Stmt := topS 67
abbrev s__law_range : Stmt := topS 68
abbrev s__law_cell_name : Stmt := topS 69
abbrev s__law_name : Stmt := topS 70
abbrev s__law_any_name : Stmt := topS 71
abbrev s__law_valid_cell : Stmt := topS 72
abbrev s__law_valid : Stmt := topS 73
abbrev s__law_kinds : Stmt := topS 74
abbrev s__law_near : Stmt := topS 75
abbrev s_law : Stmt := topS 76
theorem sc_is_word : FnScope ["n"] ["n"] (defScope s_is_word) := ⟨rfl, rfl, rfl, by decide +kernel, rfl, by decide +kernel, by decide +kernel⟩
theorem sc_is_multiple : FnScope ["n", "c"] ["n", "c"] (defScope s_is_multiple) := ⟨rfl, rfl, rfl, by decide +kernel, rfl, by decide +kernel, by decide +kernel⟩
theorem sc_is_inside : FnScope ["lo", "n", "length"] ["lo", "n", "length"] (defScope s_is_inside) := ⟨rfl, rfl, rfl, by decide +kernel, rfl, by decide +kernel, by decide +kernel⟩
theorem sc_length_of : FnScope ["net", "known", "node", "rule"] ["net", "known", "node"] (defScope s_length_of) := ⟨rfl, rfl, rfl, by decide +kernel, rfl, by decide +kernel, by decide +kernel⟩
theorem sc__names_exist : FnScope ["net", "known", "node", "kind", "at"] ["net", "known", "node"] (defScope s__names_exist) := ⟨rfl, rfl, rfl, by decide +kernel, rfl, by decide +kernel, by decide +kernel⟩
theorem sc__of_inputs : FnScope ["net", "known", "node"] ["net", "known", "node"] (defScope s__of_inputs) := ⟨rfl, rfl, rfl, by decide +kernel, rfl, by decide +kernel, by decide +kernel⟩
theorem sc__of_targets : FnScope ["net", "known", "node"] ["net", "known", "node"] (defScope s__of_targets) := ⟨rfl, rfl, rfl, by decide +kernel, rfl, by decide +kernel, by decide +kernel⟩
theorem sc__of_lin : FnScope ["net", "known", "node", "_", "p", "a", "parameter"] ["net", "known", "node"] (defScope s__of_lin) := ⟨rfl, rfl, rfl, by decide +kernel, rfl, by decide +kernel, by decide +kernel⟩
theorem sc__of_bias : FnScope ["net", "known", "node", "_", "p", "a", "parameter"] ["net", "known", "node"] (defScope s__of_bias) := ⟨rfl, rfl, rfl, by decide +kernel, rfl, by decide +kernel, by decide +kernel⟩
theorem sc__of_embed : FnScope ["net", "known", "node", "_", "p", "lo", "n"] ["net", "known", "node"] (defScope s__of_embed) := ⟨rfl, rfl, rfl, by decide +kernel, rfl, by decide +kernel, by decide +kernel⟩
theorem sc__of_mat : FnScope ["net", "known", "node", "_", "k", "a", "b"] ["net", "known", "node"] (defScope s__of_mat) := ⟨rfl, rfl, rfl, by decide +kernel, rfl, by decide +kernel, by decide +kernel⟩
theorem sc__of_lower : FnScope ["net", "known", "node", "_", "c", "a"] ["net", "known", "node"] (defScope s__of_lower) := ⟨rfl, rfl, rfl, by decide +kernel, rfl, by decide +kernel, by decide +kernel⟩
theorem sc__of_pair : FnScope ["net", "known", "node", "_", "a", "b"] ["net", "known", "node"] (defScope s__of_pair) := ⟨rfl, rfl, rfl, by decide +kernel, rfl, by decide +kernel, by decide +kernel⟩
theorem sc__of_scale : FnScope ["net", "known", "node", "_", "w", "a"] ["net", "known", "node"] (defScope s__of_scale) := ⟨rfl, rfl, rfl, by decide +kernel, rfl, by decide +kernel, by decide +kernel⟩
theorem sc__of_shift : FnScope ["net", "known", "node", "_", "k", "a"] ["net", "known", "node"] (defScope s__of_shift) := ⟨rfl, rfl, rfl, by decide +kernel, rfl, by decide +kernel, by decide +kernel⟩
theorem sc__of_relu : FnScope ["net", "known", "node"] ["net", "known", "node"] (defScope s__of_relu) := ⟨rfl, rfl, rfl, by decide +kernel, rfl, by decide +kernel, by decide +kernel⟩
theorem sc__of_drop : FnScope ["net", "known", "node", "_", "m", "a"] ["net", "known", "node"] (defScope s__of_drop) := ⟨rfl, rfl, rfl, by decide +kernel, rfl, by decide +kernel, by decide +kernel⟩
theorem sc__of_sum : FnScope ["net", "known", "node"] ["net", "known", "node"] (defScope s__of_sum) := ⟨rfl, rfl, rfl, by decide +kernel, rfl, by decide +kernel, by decide +kernel⟩
theorem sc__of_join : FnScope ["net", "known", "node", "_", "a", "b"] ["net", "known", "node"] (defScope s__of_join) := ⟨rfl, rfl, rfl, by decide +kernel, rfl, by decide +kernel, by decide +kernel⟩
theorem sc__of_take : FnScope ["net", "known", "node", "_", "lo", "n", "a"] ["net", "known", "node"] (defScope s__of_take) := ⟨rfl, rfl, rfl, by decide +kernel, rfl, by decide +kernel, by decide +kernel⟩
theorem sc_Parameter___init__ : FnScope ["self", "rows", "cols", "fill"] ["self", "rows", "cols", "fill"] (defScope s_Parameter___init__) := ⟨rfl, rfl, rfl, by decide +kernel, rfl, by decide +kernel, by decide +kernel⟩
theorem sc_Net___init__ : FnScope ["self", "inputs", "targets", "parameters", "nodes"] ["self", "inputs", "targets", "parameters", "nodes"] (defScope s_Net___init__) := ⟨rfl, rfl, rfl, by decide +kernel, rfl, by decide +kernel, by decide +kernel⟩
theorem sc_operands : FnScope ["node", "at"] ["node"] (defScope s_operands) := ⟨rfl, rfl, rfl, by decide +kernel, rfl, by decide +kernel, by decide +kernel⟩
theorem sc_row_length : FnScope ["net", "v", "node", "kind"] ["net", "v"] (defScope s_row_length) := ⟨rfl, rfl, rfl, by decide +kernel, rfl, by decide +kernel, by decide +kernel⟩
theorem sc_sides : FnScope ["net", "v", "node", "a", "terms"] ["net", "v"] (defScope s_sides) := ⟨rfl, rfl, rfl, by decide +kernel, rfl, by decide +kernel, by decide +kernel⟩
theorem sc__lengths : FnScope ["net", "known", "node", "length"] ["net"] (defScope s__lengths) := ⟨rfl, rfl, rfl, by decide +kernel, rfl, by decide +kernel, by decide +kernel⟩
theorem sc_pre_count : FnScope ["net", "v", "node"] ["net", "v"] (defScope s_pre_count) := ⟨rfl, rfl, rfl, by decide +kernel, rfl, by decide +kernel, by decide +kernel⟩
theorem sc_bac_count : FnScope ["net", "u", "s", "many", "_", "length"] ["net", "u", "s"] (defScope s_bac_count) := ⟨rfl, rfl, rfl, by decide +kernel, rfl, by decide +kernel, by decide +kernel⟩
theorem sc_is_name : FnScope ["job", "name", "rule", "numbers"] ["job", "name"] (defScope s_is_name) := ⟨rfl, rfl, rfl, by decide +kernel, rfl, by decide +kernel, by decide +kernel⟩
theorem sc__is_cell : FnScope ["job", "p", "i", "j", "parameter"] ["job", "p", "i", "j"] (defScope s__is_cell) := ⟨rfl, rfl, rfl, by decide +kernel, rfl, by decide +kernel, by decide +kernel⟩
theorem sc__is_element : FnScope ["job", "t", "v", "j"] ["job", "t", "v", "j"] (defScope s__is_element) := ⟨rfl, rfl, rfl, by decide +kernel, rfl, by decide +kernel, by decide +kernel⟩
theorem sc__is_pre : FnScope ["job", "t", "v", "j", "lo", "hi"] ["job", "t", "v", "j", "lo", "hi"] (defScope s__is_pre) := ⟨rfl, rfl, rfl, by decide +kernel, rfl, by decide +kernel, by decide +kernel⟩
theorem sc__is_inc : FnScope ["job", "t", "v", "j", "u"] ["job", "t", "v", "j", "u"] (defScope s__is_inc) := ⟨rfl, rfl, rfl, by decide +kernel, rfl, by decide +kernel, by decide +kernel⟩
theorem sc__is_bac : FnScope ["job", "t", "u", "s", "i", "lo", "hi", "given"] ["job", "t", "u", "s", "i", "lo", "hi"] (defScope s__is_bac) := ⟨rfl, rfl, rfl, by decide +kernel, rfl, by decide +kernel, by decide +kernel⟩
theorem sc__is_grd : FnScope ["job", "p", "i", "j", "lo", "hi"] ["job", "p", "i", "j", "lo", "hi"] (defScope s__is_grd) := ⟨rfl, rfl, rfl, by decide +kernel, rfl, by decide +kernel, by decide +kernel⟩
theorem sc__is_los : FnScope ["job", "lo", "hi"] ["job", "lo", "hi"] (defScope s__is_los) := ⟨rfl, rfl, rfl, by decide +kernel, rfl, by decide +kernel, by decide +kernel⟩
theorem sc_Job___init__ : FnScope ["self", "net", "seed", "batch", "factor", "point", "rates", "data", "given", "wanted"] ["self", "net", "seed", "batch", "factor", "point", "rates", "data"] (defScope s_Job___init__) := ⟨rfl, rfl, rfl, by decide +kernel, rfl, by decide +kernel, by decide +kernel⟩
theorem sc__law_cell : FnScope ["script", "k"] ["script", "k"] (defScope s__law_cell) := ⟨rfl, rfl, rfl, by decide +kernel, rfl, by decide +kernel, by decide +kernel⟩
theorem sc__law_row : FnScope ["script", "first", "last", "row", "k", "cell", "turn"] ["script", "first", "last"] (defScope s__law_row) := ⟨rfl, rfl, rfl, by decide +kernel, rfl, by decide +kernel, by decide +kernel⟩
theorem sc__law_draw : FnScope ["box", "many", "at"] ["box", "many"] (defScope s__law_draw) := ⟨rfl, rfl, rfl, by decide +kernel, rfl, by decide +kernel, by decide +kernel⟩
theorem sc__law_wrap : FnScope ["n"] ["n"] (defScope s__law_wrap) := ⟨rfl, rfl, rfl, by decide +kernel, rfl, by decide +kernel, by decide +kernel⟩
theorem sc__law_word : FnScope ["box", "kind", "n", "turn"] ["box"] (defScope s__law_word) := ⟨rfl, rfl, rfl, by decide +kernel, rfl, by decide +kernel, by decide +kernel⟩
theorem sc__law_operands : FnScope ["node"] ["node"] (defScope s__law_operands) := ⟨rfl, rfl, rfl, by decide +kernel, rfl, by decide +kernel, by decide +kernel⟩
theorem sc__law_fill : FnScope ["box"] ["box"] (defScope s__law_fill) := ⟨rfl, rfl, rfl, by decide +kernel, rfl, by decide +kernel, by decide +kernel⟩
theorem sc__law_try : FnScope ["box", "net", "kinds", "kind", "a", "b", "k", "p"] ["box", "net"] (defScope s__law_try) := ⟨rfl, rfl, rfl, by decide +kernel, rfl, by decide +kernel, by decide +kernel⟩
theorem sc__law_length : FnScope ["net", "node", "kind", "length", "row", "other", "even"] ["net", "node"] (defScope s__law_length) := ⟨rfl, rfl, rfl, by decide +kernel, rfl, by decide +kernel, by decide +kernel⟩
theorem sc__law_small_net : FnScope ["box", "most", "side", "net", "k", "done", "turn", "node", "length"] ["box", "most"] (defScope s__law_small_net) := ⟨rfl, rfl, rfl, by decide +kernel, rfl, by decide +kernel, by decide +kernel⟩
theorem sc__law_job : FnScope ["box", "most", "net", "data", "k", "inputs", "rates", "j"] ["box", "most"] (defScope s__law_job) := ⟨rfl, rfl, rfl, by decide +kernel, rfl, by decide +kernel, by decide +kernel⟩
theorem sc__law_built : FnScope ["job", "net", "parameters", "data", "row", "pair"] ["job"] (defScope s__law_built) := ⟨rfl, rfl, rfl, by decide +kernel, rfl, by decide +kernel, by decide +kernel⟩
theorem sc__law_sum_size : FnScope ["net", "v", "node"] ["net", "v"] (defScope s__law_sum_size) := ⟨rfl, rfl, rfl, by decide +kernel, rfl, by decide +kernel, by decide +kernel⟩
theorem sc__law_back_size : FnScope ["net", "u", "s", "node"] ["net", "u", "s"] (defScope s__law_back_size) := ⟨rfl, rfl, rfl, by decide +kernel, rfl, by decide +kernel, by decide +kernel⟩
theorem sc__law_range : FnScope ["box", "most", "low"] ["box", "most"] (defScope s__law_range) := ⟨rfl, rfl, rfl, by decide +kernel, rfl, by decide +kernel, by decide +kernel⟩
theorem sc__law_cell_name : FnScope ["box", "job", "kind", "n", "p", "row"] ["box", "job", "kind", "n"] (defScope s__law_cell_name) := ⟨rfl, rfl, rfl, by decide +kernel, rfl, by decide +kernel, by decide +kernel⟩
theorem sc__law_name : FnScope ["box", "job", "kind", "n", "net", "t", "v", "name", "ends", "u", "sums", "backs", "s", "a"] ["box", "job", "kind", "n"] (defScope s__law_name) := ⟨rfl, rfl, rfl, by decide +kernel, rfl, by decide +kernel, by decide +kernel⟩
theorem sc__law_any_name : FnScope ["box", "job", "most", "kinds"] ["box", "job", "most"] (defScope s__law_any_name) := ⟨rfl, rfl, rfl, by decide +kernel, rfl, by decide +kernel, by decide +kernel⟩
theorem sc__law_valid_cell : FnScope ["job", "name", "row"] ["job", "name"] (defScope s__law_valid_cell) := ⟨rfl, rfl, rfl, by decide +kernel, rfl, by decide +kernel, by decide +kernel⟩
theorem sc__law_valid : FnScope ["job", "name", "net", "sizes", "kind", "ins"] ["job", "name"] (defScope s__law_valid) := ⟨rfl, rfl, rfl, by decide +kernel, rfl, by decide +kernel, by decide +kernel⟩
theorem sc__law_kinds : FnScope [] [] (defScope s__law_kinds) := ⟨rfl, rfl, rfl, by decide +kernel, rfl, by decide +kernel, by decide +kernel⟩
theorem sc__law_near : FnScope ["box", "name", "at", "number"] ["box", "name"] (defScope s__law_near) := ⟨rfl, rfl, rfl, by decide +kernel, rfl, by decide +kernel, by decide +kernel⟩
theorem sc_law : FnScope ["script", "box", "job", "built", "names", "k", "name", "told"] ["script"] (defScope s_law) := ⟨rfl, rfl, rfl, by decide +kernel, rfl, by decide +kernel, by decide +kernel⟩
/-! ### steps of a reading: one name looked up, one value seen -/
local macro_rules | `(tactic| walk_at "st") => `(tactic| first
  | refine ⟨_, rfl, ?_⟩
  | refine ⟨_, _, rfl, rfl, ?_⟩
  | refine ⟨rfl, ?_⟩
  | refine ⟨Or.inl ⟨by decide, by decide⟩, ?_⟩
  | refine ⟨Or.inr ⟨by decide, by decide⟩, ?_⟩
  | refine ⟨(by decide : (0 : Int) < _), ?_⟩
  | refine ⟨(by decide : (0 : Int) ≤ _), ?_⟩
  | refine ⟨_, _, (rfl : (_ : List V) = _), ?_⟩
  | refine ⟨_, _, _, (rfl : (_ : List V) = _), ?_⟩
  | refine ⟨⟨by decide, by decide⟩, ?_⟩
  | refine ⟨⟨by decide, by decide, by decide⟩, ?_⟩
  | refine Or.inl ⟨_, rfl, ?_⟩
  | refine Or.inr ⟨_, rfl, ?_⟩)
local macro_rules | `(tactic| walk_at "go") => `(tactic| repeat walk_at "st")


theorem iteD {c A B : Prop} [Decidable c] (hc : c) (h : A) : if decide c = true then A else B := by
  rw [decide_eq_true hc]
  exact iteT h
theorem iteNN {c A B : Prop} [Decidable c] (hc : ¬ c) (h : A) : if (!decide c) = true then A else B := by
  rw [decide_eq_false hc]
  exact iteT h
theorem iteDN {c A B : Prop} [Decidable c] (hc : ¬ c) (h : B) : if decide c = true then A else B := by
  rw [decide_eq_false hc]
  exact iteF h
/-! ### rules with the written part named (a comprehension's element stands over another context) -/
section
variable {X : Cx} {K : PySem.W.Frag}
def rLenK (K : PySem.W.Frag) : List V → Hp → VK → Prop := fun xs H Q => ∃ p ys, xs = [.ref p] ∧ (SqL K H p ys ∨ SqT K H p ys) ∧ Q (.int ys.length) H
theorem pe_fld_at {e : PySem.Expr} {f : Str} {pos : Pos} {ta : TE} (h : X.K = K) (he : PE X e ta) (hb : attributeBase e f X.env (eval e X.env) = eval e X.env) : PE X (.Attribute e f pos) (tFld K ta f) := by subst h; exact pe_fld he hb
theorem len_at (h : X.K = K) : CallR X (.builtin "len") (rLenK K) := by subst h; exact call_len_seq
theorem list_at (h : X.K = K) : CallR X (.type "list") (fun xs H Q => ∃ p ys, xs = [.ref p] ∧ (SqL K H p ys ∨ SqT K H p ys) ∧ ∀ l : Addr, H l = none → Q (.ref l) (upd H l (.lst ys))) := by subst h; exact call_list_of
theorem pil_at {l tg : PySem.Expr} {tl : TE} (h : X.K = K) (hl : PE X l tl) : PI X tg l (iList K tl) := by subst h; exact pi_list hl
theorem pit_at {l tg : PySem.Expr} {tl : TE} (h : X.K = K) (hl : PE X l tl) : PI X tg l (iTup K tl) := by subst h; exact pi_tup hl
theorem catT_at (h : X.K = K) : OpR X (binaryOp .Add) (rCatT K) := by subst h; exact op_catT
theorem slt_at (h : X.K = K) : SlR X (rSlT K) := by subst h; exact sl_tup
theorem sla_at (h : X.K = K) : SlR X (rSlA K) := by subst h; exact sl_tupA
theorem sll_at (h : X.K = K) : SlR X (rSlL K) := by subst h; exact sl_list
theorem all_at (h : X.K = K) (hc : X.calm = true := by rfl) : CallR X (.builtin "all") (rAll K) := by subst h; exact cr_all hc
theorem any_at (h : X.K = K) (hc : X.calm = true := by rfl) : CallR X (.builtin "any") (rAny K) := by subst h; exact cr_any hc
theorem sum_at (h : X.K = K) (hc : X.calm = true := by rfl) : CallR X (.builtin "sum") (rSum K) := by subst h; exact cr_sum hc
theorem max_at (h : X.K = K) (hc : X.calm = true := by rfl) : CallR X (.builtin "max") (rMax K) := by subst h; exact cr_max hc
theorem ixl_at (h : X.K = K) : IxR X (rIxL K) := by subst h; exact ix_list
theorem ixt_at (h : X.K = K) : IxR X (rIxT K) := by subst h; exact ix_tup
end
/-! ### heaps: all is as it was but the object at b -/
def But (b : Addr) (H H' : Hp) : Prop := ∀ c o, c ≠ b → H c = some o → H' c = some o
theorem But.refl (b : Addr) (H : Hp) : But b H H := fun _ _ _ h => h
theorem But.trans {b : Addr} {H H1 H2 : Hp} (x : But b H H1) (y : But b H1 H2) : But b H H2 := fun c o n h => y c o n (x c o n h)
theorem But.of {b : Addr} {H H' : Hp} (e : Same H H') : But b H H' := fun c o _ h => e c o h
theorem same_new {H : Hp} {p : Addr} (h : H p = none) (o : HO) : Same H (upd H p o) := fun b u q => by rw [upd_ne (ne_of_none q h)]; exact q
theorem new_facts {H H' : Hp} {p : Addr} {o : HO} (e : upd H p o = H') (np : H p = none) : Same H H' ∧ H' p = some o := by
  subst e
  exact ⟨same_new np o, upd_same⟩
theorem same_mut {H H' : Hp} {o : Addr} {u : HO} (e : Same H H') (no : H o = none) : Same H (upd H' o u) := fun b x h => by rw [upd_ne (ne_of_none h no)]; exact e _ _ h
theorem map_more {H : Hp} {o : Addr} (rs : List Int) (x : Int) : (upd H o (.lst (rs.map V.int ++ [V.int x]))) o = some (.lst ((rs ++ [x]).map V.int)) := by
  rw [upd_same, List.map_append]
  rfl
theorem small {n : Nat} (h : n ≤ 100000) : n ≤ sizeLine := Nat.le_trans h (by decide)
theorem smaller {n : Nat} (h : n < 100000) : n < sizeLine := Nat.lt_of_lt_of_le h (by decide)

/-! ### the box that numbers are drawn from: a list of a row and a place -/
structure Box (H : Hp) (b r : Addr) (rs : List Int) : Prop where
  ex : ∃ at' : Int, 0 ≤ at' ∧ H b = some (.lst [.ref r, .int at'])
  row : H r = some (.lst (rs.map V.int))
theorem Box.ne {H : Hp} {b r : Addr} {rs : List Int} (B : Box H b r rs) : r ≠ b := fun e => by
  obtain ⟨z, _, h⟩ := B.ex
  have q := B.row
  rw [e, h] at q
  cases rs with
  | nil => cases q
  | cons x t => cases q
theorem Box.far {H : Hp} {b r l : Addr} {rs ns : List Int} (B : Box H b r rs) (h : H l = some (.lst (ns.map V.int))) : l ≠ b := fun e => by
  obtain ⟨z, _, hb⟩ := B.ex
  rw [e, hb] at h
  cases ns with
  | nil => cases h
  | cons x t => cases h
theorem Box.farS {K : PySem.W.Frag} {H H' : Hp} {b r a : Addr} {rs ns : List Int} (B : Box H b r rs) (e : But b H H') (h : SqL K H a (ns.map V.int)) : SqL K H' a (ns.map V.int) := by
  rcases h with (h | ⟨o, h⟩) | h
  · exact .inl (.inl (e _ _ (B.far h) h))
  · refine .inl (.inr ⟨o, e _ _ (fun z => ?_) h⟩)
    obtain ⟨_, _, hb⟩ := B.ex
    rw [z, hb] at h
    cases h
  · exact .inr h
theorem Box.same {H H' : Hp} {b r : Addr} {rs : List Int} (B : Box H b r rs) (e : Same H H') : Box H' b r rs := by
  obtain ⟨z, h0, h⟩ := B.ex
  exact ⟨⟨z, h0, e _ _ h⟩, e _ _ B.row⟩

theorem But.mut {b l : Addr} {H H' : Hp} {o : HO} (e : But b H H') (h : H l = none) : But b H (upd H' l o) := fun c x n hc => by
  rw [upd_ne (ne_of_none hc h)]
  exact e c x n hc
theorem But.mut' {l : Addr} {H H' : Hp} {o : HO} (e : But l H H') (_ : H l = none) : But l H (upd H' l o) := fun c x n hc => by
  rw [upd_ne n]
  exact e c x n hc
theorem Box.mut {b r l : Addr} {H H' : Hp} {rs : List Int} {o : HO} (B : Box H' b r rs) (B0 : Box H b r rs) (h : H l = none) : Box (upd H' l o) b r rs := by
  obtain ⟨z, h0, hb⟩ := B.ex
  obtain ⟨_, _, hb0⟩ := B0.ex
  exact ⟨⟨z, h0, by rw [upd_ne (ne_of_none hb0 h)]; exact hb⟩, by rw [upd_ne (ne_of_none B0.row h)]; exact B.row⟩
theorem map_get {ns : List Int} {i : Nat} {x : V} (h : (ns.map V.int)[i]? = some x) : ∃ n, x = .int n ∧ ns[i]? = some n := by
  rw [List.getElem?_map] at h
  cases e : ns[i]? with
  | none => rw [e] at h; cases h
  | some n => rw [e] at h; exact ⟨n, (Option.some.inj h).symm, rfl⟩
/-! ### lists of ints compared -/
theorem dp_ints {K : PySem.W.Frag} {H : Hp} : ∀ ns : List Int, DpAll K H (ns.map V.int) (ns.map PyData.int)
  | [] => .nil
  | n :: r => .cons (.int n) (dp_ints r)
theorem can_ints : ∀ ns : List Int, PyData.canLayAll0 (ns.map PyData.int) = true
  | [] => rfl
  | n :: r => by
    show (PyData.canLay0 (.int n) && PyData.canLayAll0 (r.map PyData.int)) = true
    rw [can_ints r]
    rfl
theorem shaped_ns (ns : List Int) : SeqAt.shaped (.list (ns.map PyData.int)) = true := PySem.W.shaped_ints ns
theorem eqv_ns (ns : List Int) : PyData.eqv (.list (ns.map PyData.int)) (.list (ns.map PyData.int)) = true := PySem.SeqAt.eqv_refl _ (can_ints ns)
theorem shaped_tup (m n : Int) : SeqAt.shaped (.tuple ([m, n].map PyData.int)) = true := by
  simp [SeqAt.shaped, PyData.canLay0, PyData.canLayAll0, PyData.depth, PyData.depthAll]
theorem eqv_tup (m n : Int) : PyData.eqv (.tuple ([m, n].map PyData.int)) (.tuple ([m, n].map PyData.int)) = true := PySem.SeqAt.eqv_refl _ (can_ints [m, n])
theorem eq_ints {K : PySem.W.Frag} {H : Hp} {p q : Addr} {ns : List Int} {Q : VK} (hp : SqL K H p (ns.map V.int)) (hq : SqL K H q (ns.map V.int)) (k : Q (.bl true) H) : rEqD K (.ref p) (.ref q) H Q :=
  ⟨_, _, .lst hp (dp_ints ns), .lst hq (dp_ints ns), shaped_ns ns, shaped_ns ns, by rw [eqv_ns]; exact k⟩
theorem ne_ints {K : PySem.W.Frag} {H : Hp} {p q : Addr} {ns : List Int} {Q : VK} (hp : SqL K H p (ns.map V.int)) (hq : SqL K H q (ns.map V.int)) (k : Q (.bl false) H) : rNeD K (.ref p) (.ref q) H Q :=
  ⟨_, _, .lst hp (dp_ints ns), .lst hq (dp_ints ns), shaped_ns ns, shaped_ns ns, by rw [eqv_ns]; exact k⟩

theorem eq_pair {K : PySem.W.Frag} {H : Hp} {p q : Addr} {m n : Int} {Q : VK} (hp : SqT K H p [.int m, .int n]) (hq : SqT K H q [.int m, .int n]) (k : Q (.bl true) H) : rEqD K (.ref p) (.ref q) H Q :=
  ⟨_, _, .tup hp (dp_ints [m, n]), .tup hq (dp_ints [m, n]), shaped_tup m n, shaped_tup m n, by rw [eqv_tup]; exact k⟩
theorem ne_pair {K : PySem.W.Frag} {H : Hp} {p q : Addr} {m n : Int} {Q : VK} (hp : SqT K H p [.int m, .int n]) (hq : SqT K H q [.int m, .int n]) (k : Q (.bl false) H) : rNeD K (.ref p) (.ref q) H Q :=
  ⟨_, _, .tup hp (dp_ints [m, n]), .tup hq (dp_ints [m, n]), shaped_tup m n, shaped_tup m n, by rw [eqv_tup]; exact k⟩

/-! ### the numbers of words -/
def wr (n : Int) : Int := (n + 2147483648) % 4294967296 - 2147483648
theorem wr_lo (n : Int) : -2147483648 ≤ wr n := by unfold wr; omega
theorem wr_hi (n : Int) : wr n ≤ 2147483647 := by unfold wr; omega
theorem wr_same {n : Int} (h : -2147483648 ≤ n) (h2 : n ≤ 2147483647) : wr n = n := by unfold wr; omega

/-! ### promises -/
def spCell (K : PySem.W.Frag) : Sp := fun vs H Q _ => ∃ (a : Addr) (ns : List Int) (k : Int), vs = [.ref a, .int k] ∧ SqL K H a (ns.map V.int) ∧ 0 ≤ k ∧ ∀ n : Int, Q (.int n) H
def spRow (K : PySem.W.Frag) : Sp := fun vs H Q _ => ∃ (a : Addr) (ns : List Int) (i j : Int), vs = [.ref a, .int i, .int j] ∧ SqL K H a (ns.map V.int) ∧ 0 ≤ i ∧ i ≤ j ∧ j ≤ 100 ∧
  ∀ (p : Addr) (rs : List Int) (H' : Hp), H p = none → Same H H' → H' p = some (.lst (rs.map V.int)) → Q (.ref p) H'
def spDraw : Sp := fun vs H Q _ => ∃ (b r : Addr) (rs : List Int) (many : Int), vs = [.ref b, .int many] ∧ Box H b r rs ∧ 0 < many ∧
  ∀ (v : Int) (H' : Hp), 0 ≤ v → v < many → Box H' b r rs → But b H H' → Q (.int v) H'
def spWrap : Sp := fun vs H Q _ => ∃ n : Int, vs = [.int n] ∧ Q (.int (wr n)) H
def spWord : Sp := fun vs H Q _ => ∃ (b r : Addr) (rs : List Int), vs = [.ref b] ∧ Box H b r rs ∧
  ∀ (v : Int) (H' : Hp), -2147483648 ≤ v → v ≤ 2147483647 → Box H' b r rs → But b H H' → Q (.int v) H'
def spIsInt : Sp := fun vs H Q _ => ∃ n : Int, vs = [.int n] ∧ Q (.bl true) H
def spLaw (K : PySem.W.Frag) : Sp := fun vs H Q _ => ∃ (a : Addr) (ns : List Int), vs = [.ref a] ∧ SqL K H a (ns.map V.int) ∧ ns.length ≤ 63 ∧ ∀ H', Q (.bl true) H'
/-- a def of the text that keeps a promise, with all that a caller asks -/
structure Def (P : Program) (w : World) (K : PySem.W.Frag) (mg : Str → Option Value) (base : Heap) (k : Nat) (x : Str) (ps : List Str) (sp : Sp) : Prop where
  ex : ∃ (f : Addr) (fd : FuncData), FnOk P w K mg base CX0 k f fd ps sp ∧ Binds K fd ps [] ∧ mg x = some (.ref f) ∧ PySem.W.keepIn K (.ref f) = true
/-- a method of a class of the text; its __init__ -/
structure MDef (P : Program) (w : World) (K : PySem.W.Frag) (mg : Str → Option Value) (base : Heap) (k : Nat) (C : Addr) (m : Str) (ps : List Str) (sp : Sp) : Prop where
  ex : ∃ (f : Addr) (fd : FuncData), FnOk P w K mg base CX0 k f fd ps sp ∧ Binds K fd ps [] ∧ Meth K C m f
structure IDef (P : Program) (w : World) (K : PySem.W.Frag) (mg : Str → Option Value) (base : Heap) (k : Nat) (C : Addr) (ps : List Str) (sp : Sp) : Prop where
  ex : ∃ (f : Addr) (fd : FuncData), FnOk P w K mg base CX0 k f fd ps sp ∧ Binds K fd ps [] ∧ Mk K C f
structure Cs where
  Parameter : Addr
  Net : Addr
  Job : Addr
  OPERAND_PLACES : Addr
  WITH_PARAMETER : Addr
  LENGTHS : Addr
  OWN_ROWS : Addr
  RULES : Addr
  fn__of_inputs : Addr
  fn__of_targets : Addr
  fn__of_lin : Addr
  fn__of_bias : Addr
  fn__of_embed : Addr
  fn__of_mat : Addr
  fn__of_lower : Addr
  fn__of_pair : Addr
  fn__of_scale : Addr
  fn__of_shift : Addr
  fn__of_relu : Addr
  fn__of_drop : Addr
  fn__of_sum : Addr
  fn__of_join : Addr
  fn__of_take : Addr
  fn__is_cell : Addr
  fn__is_element : Addr
  fn__is_pre : Addr
  fn__is_inc : Addr
  fn__is_bac : Addr
  fn__is_grd : Addr
  fn__is_los : Addr
/-- a tuple of the top -/
def KTup (K : PySem.W.Frag) (t : Addr) (xs : List V) : Prop := ∃ (o : Obj) (its : Array Value) (n : Nat), K.lookup t = some o ∧ o.cls = .type "tuple" ∧ o.data = .seq its n ∧ its.size ≤ sizeLine ∧ Vals xs its.toList
theorem KTup.sq {K : PySem.W.Frag} {t : Addr} {xs : List V} (h : KTup K t xs) (H : Hp) : SqT K H t xs := .inr h
structure Txt (K : PySem.W.Frag) (mg : Str → Option Value) (cs : Cs) (w : World) : Prop where
  z_abs : mg "abs" = none
  z_all : mg "all" = none
  z_bool : mg "bool" = none
  z_int : mg "int" = none
  z_isinstance : mg "isinstance" = none
  z_len : mg "len" = none
  z_list : mg "list" = none
  z_range : mg "range" = none
  g_MOST_SHIFT : ∃ t, mg "MOST_SHIFT" = some (.int (31) t)
  g_LEAST_DIVISOR : ∃ t, mg "LEAST_DIVISOR" = some (.int (2) t)
  g_GREATEST_NUMBER : ∃ t, mg "GREATEST_NUMBER" = some (.int (4294967295) t)
  g_LEAST : ∃ t, mg "LEAST" = some (.int (-2147483648) t)
  g_GREATEST : ∃ t, mg "GREATEST" = some (.int (2147483647) t)
  g_OPERAND_PLACES : mg "OPERAND_PLACES" = some (.ref cs.OPERAND_PLACES)
  d_OPERAND_PLACES : ∃ es n, KDict K w cs.OPERAND_PLACES es n
  e_OPERAND_PLACES_input : ∃ t, PySem.W.nsIn K cs.OPERAND_PLACES "input" = some (some (.ref t)) ∧ KTup K t []
  e_OPERAND_PLACES_target : ∃ t, PySem.W.nsIn K cs.OPERAND_PLACES "target" = some (some (.ref t)) ∧ KTup K t []
  e_OPERAND_PLACES_lin : ∃ t, PySem.W.nsIn K cs.OPERAND_PLACES "lin" = some (some (.ref t)) ∧ KTup K t [.int (2)]
  e_OPERAND_PLACES_bias : ∃ t, PySem.W.nsIn K cs.OPERAND_PLACES "bias" = some (some (.ref t)) ∧ KTup K t [.int (2)]
  e_OPERAND_PLACES_embed : ∃ t, PySem.W.nsIn K cs.OPERAND_PLACES "embed" = some (some (.ref t)) ∧ KTup K t []
  e_OPERAND_PLACES_mat : ∃ t, PySem.W.nsIn K cs.OPERAND_PLACES "mat" = some (some (.ref t)) ∧ KTup K t [.int (2), .int (3)]
  e_OPERAND_PLACES_matT : ∃ t, PySem.W.nsIn K cs.OPERAND_PLACES "matT" = some (some (.ref t)) ∧ KTup K t [.int (2), .int (3)]
  e_OPERAND_PLACES_lower : ∃ t, PySem.W.nsIn K cs.OPERAND_PLACES "lower" = some (some (.ref t)) ∧ KTup K t [.int (2)]
  e_OPERAND_PLACES_add : ∃ t, PySem.W.nsIn K cs.OPERAND_PLACES "add" = some (some (.ref t)) ∧ KTup K t [.int (1), .int (2)]
  e_OPERAND_PLACES_sub : ∃ t, PySem.W.nsIn K cs.OPERAND_PLACES "sub" = some (some (.ref t)) ∧ KTup K t [.int (1), .int (2)]
  e_OPERAND_PLACES_mul : ∃ t, PySem.W.nsIn K cs.OPERAND_PLACES "mul" = some (some (.ref t)) ∧ KTup K t [.int (1), .int (2)]
  e_OPERAND_PLACES_scale : ∃ t, PySem.W.nsIn K cs.OPERAND_PLACES "scale" = some (some (.ref t)) ∧ KTup K t [.int (2)]
  e_OPERAND_PLACES_shift : ∃ t, PySem.W.nsIn K cs.OPERAND_PLACES "shift" = some (some (.ref t)) ∧ KTup K t [.int (2)]
  e_OPERAND_PLACES_relu : ∃ t, PySem.W.nsIn K cs.OPERAND_PLACES "relu" = some (some (.ref t)) ∧ KTup K t [.int (1)]
  e_OPERAND_PLACES_drop : ∃ t, PySem.W.nsIn K cs.OPERAND_PLACES "drop" = some (some (.ref t)) ∧ KTup K t [.int (2)]
  e_OPERAND_PLACES_sum : ∃ t, PySem.W.nsIn K cs.OPERAND_PLACES "sum" = some (some (.ref t)) ∧ KTup K t [.int (1)]
  e_OPERAND_PLACES_join : ∃ t, PySem.W.nsIn K cs.OPERAND_PLACES "join" = some (some (.ref t)) ∧ KTup K t [.int (1), .int (2)]
  e_OPERAND_PLACES_take : ∃ t, PySem.W.nsIn K cs.OPERAND_PLACES "take" = some (some (.ref t)) ∧ KTup K t [.int (3)]
  g_WITH_PARAMETER : mg "WITH_PARAMETER" = some (.ref cs.WITH_PARAMETER)
  t_WITH_PARAMETER : KTup K cs.WITH_PARAMETER [.str "lin", .str "bias", .str "embed"]
  g_LENGTHS : mg "LENGTHS" = some (.ref cs.LENGTHS)
  d_LENGTHS : ∃ es n, KDict K w cs.LENGTHS es n
  e_LENGTHS_input : PySem.W.nsIn K cs.LENGTHS "input" = some (some (.ref cs.fn__of_inputs))
  e_LENGTHS_target : PySem.W.nsIn K cs.LENGTHS "target" = some (some (.ref cs.fn__of_targets))
  e_LENGTHS_lin : PySem.W.nsIn K cs.LENGTHS "lin" = some (some (.ref cs.fn__of_lin))
  e_LENGTHS_bias : PySem.W.nsIn K cs.LENGTHS "bias" = some (some (.ref cs.fn__of_bias))
  e_LENGTHS_embed : PySem.W.nsIn K cs.LENGTHS "embed" = some (some (.ref cs.fn__of_embed))
  e_LENGTHS_mat : PySem.W.nsIn K cs.LENGTHS "mat" = some (some (.ref cs.fn__of_mat))
  e_LENGTHS_matT : PySem.W.nsIn K cs.LENGTHS "matT" = some (some (.ref cs.fn__of_mat))
  e_LENGTHS_lower : PySem.W.nsIn K cs.LENGTHS "lower" = some (some (.ref cs.fn__of_lower))
  e_LENGTHS_add : PySem.W.nsIn K cs.LENGTHS "add" = some (some (.ref cs.fn__of_pair))
  e_LENGTHS_sub : PySem.W.nsIn K cs.LENGTHS "sub" = some (some (.ref cs.fn__of_pair))
  e_LENGTHS_mul : PySem.W.nsIn K cs.LENGTHS "mul" = some (some (.ref cs.fn__of_pair))
  e_LENGTHS_scale : PySem.W.nsIn K cs.LENGTHS "scale" = some (some (.ref cs.fn__of_scale))
  e_LENGTHS_shift : PySem.W.nsIn K cs.LENGTHS "shift" = some (some (.ref cs.fn__of_shift))
  e_LENGTHS_relu : PySem.W.nsIn K cs.LENGTHS "relu" = some (some (.ref cs.fn__of_relu))
  e_LENGTHS_drop : PySem.W.nsIn K cs.LENGTHS "drop" = some (some (.ref cs.fn__of_drop))
  e_LENGTHS_sum : PySem.W.nsIn K cs.LENGTHS "sum" = some (some (.ref cs.fn__of_sum))
  e_LENGTHS_join : PySem.W.nsIn K cs.LENGTHS "join" = some (some (.ref cs.fn__of_join))
  e_LENGTHS_take : PySem.W.nsIn K cs.LENGTHS "take" = some (some (.ref cs.fn__of_take))
  g_OWN_ROWS : mg "OWN_ROWS" = some (.ref cs.OWN_ROWS)
  t_OWN_ROWS : KTup K cs.OWN_ROWS [.str "input", .str "target", .str "sum", .str "join", .str "take"]
  g_RULES : mg "RULES" = some (.ref cs.RULES)
  d_RULES : ∃ es n, KDict K w cs.RULES es n
  e_RULES_par : PySem.W.nsIn K cs.RULES "par" = some (some (.ref cs.fn__is_cell))
  e_RULES_mom : PySem.W.nsIn K cs.RULES "mom" = some (some (.ref cs.fn__is_cell))
  e_RULES_val : PySem.W.nsIn K cs.RULES "val" = some (some (.ref cs.fn__is_element))
  e_RULES_pre : PySem.W.nsIn K cs.RULES "pre" = some (some (.ref cs.fn__is_pre))
  e_RULES_inc : PySem.W.nsIn K cs.RULES "inc" = some (some (.ref cs.fn__is_inc))
  e_RULES_bac : PySem.W.nsIn K cs.RULES "bac" = some (some (.ref cs.fn__is_bac))
  e_RULES_grd : PySem.W.nsIn K cs.RULES "grd" = some (some (.ref cs.fn__is_grd))
  e_RULES_los : PySem.W.nsIn K cs.RULES "los" = some (some (.ref cs.fn__is_los))
  f__of_inputs : mg "_of_inputs" = some (.ref cs.fn__of_inputs)
  f__of_targets : mg "_of_targets" = some (.ref cs.fn__of_targets)
  f__of_lin : mg "_of_lin" = some (.ref cs.fn__of_lin)
  f__of_bias : mg "_of_bias" = some (.ref cs.fn__of_bias)
  f__of_embed : mg "_of_embed" = some (.ref cs.fn__of_embed)
  f__of_mat : mg "_of_mat" = some (.ref cs.fn__of_mat)
  f__of_lower : mg "_of_lower" = some (.ref cs.fn__of_lower)
  f__of_pair : mg "_of_pair" = some (.ref cs.fn__of_pair)
  f__of_scale : mg "_of_scale" = some (.ref cs.fn__of_scale)
  f__of_shift : mg "_of_shift" = some (.ref cs.fn__of_shift)
  f__of_relu : mg "_of_relu" = some (.ref cs.fn__of_relu)
  f__of_drop : mg "_of_drop" = some (.ref cs.fn__of_drop)
  f__of_sum : mg "_of_sum" = some (.ref cs.fn__of_sum)
  f__of_join : mg "_of_join" = some (.ref cs.fn__of_join)
  f__of_take : mg "_of_take" = some (.ref cs.fn__of_take)
  f__is_cell : mg "_is_cell" = some (.ref cs.fn__is_cell)
  f__is_element : mg "_is_element" = some (.ref cs.fn__is_element)
  f__is_pre : mg "_is_pre" = some (.ref cs.fn__is_pre)
  f__is_inc : mg "_is_inc" = some (.ref cs.fn__is_inc)
  f__is_bac : mg "_is_bac" = some (.ref cs.fn__is_bac)
  f__is_grd : mg "_is_grd" = some (.ref cs.fn__is_grd)
  f__is_los : mg "_is_los" = some (.ref cs.fn__is_los)
  C_Parameter : Cls K cs.Parameter
  c_Parameter : mg "Parameter" = some (.ref cs.Parameter)
  mk_Parameter : PySem.W.makesIn K cs.Parameter = true ∧ PySem.W.keepIn K (.ref cs.Parameter) = true
  na_Parameter_rows : NoAttr K cs.Parameter "rows"
  na_Parameter_cols : NoAttr K cs.Parameter "cols"
  na_Parameter_fill : NoAttr K cs.Parameter "fill"
  C_Net : Cls K cs.Net
  c_Net : mg "Net" = some (.ref cs.Net)
  mk_Net : PySem.W.makesIn K cs.Net = true ∧ PySem.W.keepIn K (.ref cs.Net) = true
  na_Net_inputs : NoAttr K cs.Net "inputs"
  na_Net_targets : NoAttr K cs.Net "targets"
  na_Net_parameters : NoAttr K cs.Net "parameters"
  na_Net_nodes : NoAttr K cs.Net "nodes"
  na_Net_lengths : NoAttr K cs.Net "lengths"
  C_Job : Cls K cs.Job
  c_Job : mg "Job" = some (.ref cs.Job)
  mk_Job : PySem.W.makesIn K cs.Job = true ∧ PySem.W.keepIn K (.ref cs.Job) = true
  na_Job_net : NoAttr K cs.Job "net"
  na_Job_seed : NoAttr K cs.Job "seed"
  na_Job_batch : NoAttr K cs.Job "batch"
  na_Job_factor : NoAttr K cs.Job "factor"
  na_Job_point : NoAttr K cs.Job "point"
  na_Job_rates : NoAttr K cs.Job "rates"
  na_Job_data : NoAttr K cs.Job "data"

/-! ### a call of a local name that holds one of several defs: the reading says which -/
def tCallD (P : Program) (w : World) (K : PySem.W.Frag) (mg : Str → Option Value) (base : Heap) (k i : Nat) (t : TA) : TE := fun σ H Q => ∃ f sp, σ[i]? = some (some (.ref f)) ∧ Held P w K mg base k f sp ∧ t σ H fun vs H1 => sp vs H1 Q (fun _ _ _ => False)
section
variable {X : Cx} {k i : Nat} {x : Str} {p pos : Pos} {e : PySem.Expr} {es : List PySem.Expr} {t : TA}
theorem pe_callD (hr : Room k X.A) (hN : X.N[i]? = some x) (hv : Vis X.env.scope x) (ha : PA X (e :: es) t)
    (hdb : (x == ("__debug__" : Str)) = false := by decide) (hcd : (x == ("__classdict__" : Str)) = false := by decide)
    (he : starEach (e :: es) X.env = (false, eval e X.env) :: starEach es X.env := by rfl) (hpl : (backTo pos (starEach es X.env)).any (·.1) = false := by rfl) :
    PE X (.Call (.Name x p) (e :: es) [] pos) (tCallD X.prog X.w X.K X.mg X.base k i t) := by
  refine ⟨fun pins s σ H Q I h => ?_⟩
  obtain ⟨f, sp, hs, hS, ht⟩ := h
  obtain ⟨fd, ps, F, hk, hb⟩ := hS.ex
  refine (pe_callL (i := i) (f := f) (sp := sp) (dvs := []) (E := fun _ _ _ => False) F hr hN hv hk hb .nil (fun _ _ _ _ _ _ _ z => z.elim) ha hdb hcd he hpl).run pins s σ H Q I ⟨hs, ?_⟩
  have e0 : (fun (vs : List V) (H1 : Hp) => sp (vs ++ []) H1 Q (fun _ _ _ => False)) = fun vs H1 => sp vs H1 Q (fun _ _ _ => False) := by
    funext vs H1
    rw [List.append_nil]
  show t σ H (fun vs H1 => sp (vs ++ []) H1 Q (fun _ _ _ => False))
  rw [e0]
  exact ht
end

/-! ### nodes, what they require and how long they are: the mathematics -/
inductive Nd where
  | input | target
  | lin (p a : Int) | bias (p a : Int) | embed (p lo n : Int)
  | mat (k a b : Int) | matT (k a b : Int) | lower (c a : Int)
  | add (a b : Int) | sub (a b : Int) | mul (a b : Int)
  | scale (w a : Int) | shift (k a : Int) | relu (a : Int) | drop (m a : Int) | sum (a : Int)
  | join (a b : Int) | take (lo n a : Int)
def Nd.kind : Nd → Str
  | .input => "input" | .target => "target" | .lin .. => "lin" | .bias .. => "bias" | .embed .. => "embed" | .mat .. => "mat" | .matT .. => "matT" | .lower .. => "lower"
  | .add .. => "add" | .sub .. => "sub" | .mul .. => "mul" | .scale .. => "scale" | .shift .. => "shift" | .relu .. => "relu" | .drop .. => "drop" | .sum .. => "sum" | .join .. => "join" | .take .. => "take"
def Nd.nums : Nd → List Int
  | .input => [] | .target => [] | .lin p a => [p, a] | .bias p a => [p, a] | .embed p lo n => [p, lo, n] | .mat k a b => [k, a, b] | .matT k a b => [k, a, b] | .lower c a => [c, a]
  | .add a b => [a, b] | .sub a b => [a, b] | .mul a b => [a, b] | .scale w a => [w, a] | .shift k a => [k, a] | .relu a => [a] | .drop m a => [m, a] | .sum a => [a] | .join a b => [a, b] | .take lo n a => [lo, n, a]
/-- the node as a tuple -/
def Nd.enc (d : Nd) : List V := .str d.kind :: d.nums.map V.int
/-- its operands, and where they stand -/
def Nd.ops : Nd → List Int
  | .input => [] | .target => [] | .lin _ a => [a] | .bias _ a => [a] | .embed .. => [] | .mat _ a b => [a, b] | .matT _ a b => [a, b] | .lower _ a => [a]
  | .add a b => [a, b] | .sub a b => [a, b] | .mul a b => [a, b] | .scale _ a => [a] | .shift _ a => [a] | .relu a => [a] | .drop _ a => [a] | .sum a => [a] | .join a b => [a, b] | .take _ _ a => [a]
def Nd.places : Nd → List Int
  | .input => [] | .target => [] | .lin .. => [2] | .bias .. => [2] | .embed .. => [] | .mat .. => [2, 3] | .matT .. => [2, 3] | .lower .. => [2]
  | .add .. => [1, 2] | .sub .. => [1, 2] | .mul .. => [1, 2] | .scale .. => [2] | .shift .. => [2] | .relu .. => [1] | .drop .. => [2] | .sum .. => [1] | .join .. => [1, 2] | .take .. => [3]
theorem Nd.place_op (d : Nd) : ∀ (i : Nat) (z : Int), d.places[i]? = some z → ∃ o, d.ops[i]? = some o ∧ atI d.enc z = some (.int o) := by
  intro i z h
  cases d <;> rcases i with _ | _ | i <;> first | (cases h; done) | (injection h with h; subst h; exact ⟨_, rfl, rfl⟩) | (exfalso; simp [Nd.places] at h)
theorem Nd.len_ops (d : Nd) : d.ops.length = d.places.length := by cases d <;> rfl
/-- its parameter -/
def Nd.par : Nd → Option Int
  | .lin p _ => some p | .bias p _ => some p | .embed p .. => some p
  | _ => none
def inR (i : Int) (n : Nat) : Prop := 0 ≤ i ∧ i < (n : Int)
instance (i : Int) (n : Nat) : Decidable (inR i n) := by unfold inR; infer_instance
/-- names of operands and of the parameter that exist -/
def parIn (o : Option Int) (np : Nat) : Prop := match o with
  | none => True
  | some p => inR p np
instance (o : Option Int) (np : Nat) : Decidable (parIn o np) := by unfold parIn; cases o <;> infer_instance
def Nd.fits (d : Nd) (np nk : Nat) : Prop := parIn d.par np ∧ ∀ o ∈ d.ops, inR o nk
instance (d : Nd) (np nk : Nat) : Decidable (d.fits np nk) := by unfold Nd.fits; infer_instance
def lget (ls : List Int) (a : Int) : Int := ls.getD a.toNat 0
def pget (ps : List (Int × Int)) (p : Int) : Int × Int := ps.getD p.toNat (0, 0)
def mult (n c : Int) : Prop := 0 < c ∧ n % c = 0
instance (n c : Int) : Decidable (mult n c) := by unfold mult; infer_instance
def inside (lo n l : Int) : Prop := 1 ≤ n ∧ 0 ≤ lo ∧ lo + n ≤ l
instance (lo n l : Int) : Decidable (inside lo n l) := by unfold inside; infer_instance
def Nd.len (ni nt : Int) (ps : List (Int × Int)) (ls : List Int) : Nd → Option Int
  | .input => some ni
  | .target => some nt
  | .lin p a => if mult (lget ls a) (pget ps p).1 then some (lget ls a / (pget ps p).1 * (pget ps p).2) else none
  | .bias p a => if (pget ps p).1 = 1 ∧ mult (lget ls a) (pget ps p).2 then some (lget ls a) else none
  | .embed p lo n => if inside lo n ni then some (n * (pget ps p).2) else none
  | .mat k a b => if mult (lget ls a) k ∧ mult (lget ls b) k then some (lget ls a / k * (lget ls b / k)) else none
  | .matT k a b => if mult (lget ls a) k ∧ mult (lget ls b) k then some (lget ls a / k * (lget ls b / k)) else none
  | .lower c a => if mult (lget ls a) c then some (lget ls a) else none
  | .add a b => if lget ls a = lget ls b then some (lget ls a) else none
  | .sub a b => if lget ls a = lget ls b then some (lget ls a) else none
  | .mul a b => if lget ls a = lget ls b then some (lget ls a) else none
  | .scale w a => if -2147483648 ≤ w ∧ w ≤ 2147483647 then some (lget ls a) else none
  | .shift k a => if 0 ≤ k ∧ k ≤ 31 then some (lget ls a) else none
  | .relu a => some (lget ls a)
  | .drop m a => if 2 ≤ m ∧ m ≤ 4294967295 then some (lget ls a) else none
  | .sum _ => some 1
  | .join a b => some (lget ls a + lget ls b)
  | .take lo n a => if inside lo n (lget ls a) then some n else none
def optV : Option Int → V
  | none => .non
  | some n => .int n
def spIsIntO : Sp := fun vs H Q _ => ∃ x : Option Int, vs = [optV x] ∧ Q (.bl x.isSome) H
def Nd.lenOf (ni nt : Int) (ps : List (Int × Int)) (ls : List Int) (d : Nd) : Option Int := if d.fits ps.length ls.length then d.len ni nt ps ls else none

/-! ### objects of the text that hold networks -/
inductive All2 {α β : Type} (R : α → β → Prop) : List α → List β → Prop
  | nil : All2 R [] []
  | cons {a : α} {b : β} {as : List α} {bs : List β} : R a b → All2 R as bs → All2 R (a :: as) (b :: bs)
theorem All2.length {α β : Type} {R : α → β → Prop} {as : List α} {bs : List β} (h : All2 R as bs) : as.length = bs.length := by
  induction h with
  | nil => rfl
  | cons _ _ ih => rw [List.length_cons, List.length_cons, ih]
theorem All2.get {α β : Type} {R : α → β → Prop} {as : List α} {bs : List β} (h : All2 R as bs) : ∀ {i : Nat} {b : β}, bs[i]? = some b → ∃ a, as[i]? = some a ∧ R a b := by
  induction h with
  | nil => intro i b e; cases e
  | cons r _ ih =>
    intro i b e
    cases i with
    | zero => cases e; exact ⟨_, rfl, r⟩
    | succ i => exact ih e
theorem All2.mono {α β : Type} {R S : α → β → Prop} {as : List α} {bs : List β} (f : ∀ a b, R a b → S a b) (h : All2 R as bs) : All2 S as bs := by
  induction h with
  | nil => exact .nil
  | cons r _ ih => exact .cons (f _ _ r) ih
theorem All2.snoc {α β : Type} {R : α → β → Prop} {as : List α} {bs : List β} {a : α} {b : β} (h : All2 R as bs) (r : R a b) : All2 R (as ++ [a]) (bs ++ [b]) := by
  induction h with
  | nil => exact .cons r .nil
  | cons r' _ ih => exact .cons r' ih

/-- a Parameter of these sides -/
def ParV (cs : Cs) (H : Hp) (a : Addr) (rc : Int × Int) : Prop := ∃ dx fs, H a = some (.ins cs.Parameter dx fs) ∧ fs.lookup ("rows" : Str) = some (.int rc.1) ∧ fs.lookup ("cols" : Str) = some (.int rc.2)
/-- a Net with these lengths of samples and these parameters -/
structure NetV (cs : Cs) (H : Hp) (q : Addr) (ni nt : Int) (ps : List (Int × Int)) : Prop where
  ex : ∃ dx fs P pr, H q = some (.ins cs.Net dx fs) ∧ fs.lookup ("inputs" : Str) = some (.int ni) ∧ fs.lookup ("targets" : Str) = some (.int nt) ∧ fs.lookup ("parameters" : Str) = some (.ref P) ∧
    H P = some (.lst (pr.map V.ref)) ∧ All2 (ParV cs H) pr ps
theorem ParV.same {cs : Cs} {H H' : Hp} {a : Addr} {rc : Int × Int} (e : Same H H') (h : ParV cs H a rc) : ParV cs H' a rc := by
  obtain ⟨dx, fs, h1, h2⟩ := h
  exact ⟨dx, fs, e _ _ h1, h2⟩
theorem NetV.same {cs : Cs} {H H' : Hp} {q : Addr} {ni nt : Int} {ps : List (Int × Int)} (e : Same H H') (h : NetV cs H q ni nt ps) : NetV cs H' q ni nt ps := by
  obtain ⟨dx, fs, P, pr, h1, h2, h3, h4, h5, h6⟩ := h.ex
  exact ⟨dx, fs, P, pr, e _ _ h1, h2, h3, h4, e _ _ h5, h6.mono fun _ _ r => r.same e⟩
/-- an item of a list of ints at an index that is in it -/
theorem at_ints {ls : List Int} {a : Int} (h : inR a ls.length) : atI (ls.map V.int) a = some (.int (lget ls a)) := by
  obtain ⟨h0, h1⟩ := h
  have hk : a.toNat < ls.length := by omega
  have ek : a = ((a.toNat : Nat) : Int) := by omega
  have z : atI (ls.map V.int) ((a.toNat : Nat) : Int) = some (.int ls[a.toNat]) := atI_nat (by rw [List.getElem?_map, List.getElem?_eq_getElem hk] <;> rfl)
  rw [← ek] at z
  rw [z]
  unfold lget
  rw [List.getD_eq_getElem?_getD, List.getElem?_eq_getElem hk]
  rfl
theorem at_pars {cs : Cs} {H : Hp} {pr : List Addr} {ps : List (Int × Int)} {p : Int} (h : All2 (ParV cs H) pr ps) (hp : inR p ps.length) : ∃ a, atI (pr.map V.ref) p = some (.ref a) ∧ ParV cs H a (pget ps p) := by
  obtain ⟨h0, h1⟩ := hp
  have hk : p.toNat < ps.length := by omega
  have ek : p = ((p.toNat : Nat) : Int) := by omega
  have g : ps[p.toNat]? = some (pget ps p) := by
    unfold pget
    rw [List.getD_eq_getElem?_getD, List.getElem?_eq_getElem hk]
    rfl
  obtain ⟨a, ea, r⟩ := h.get g
  refine ⟨a, ?_, r⟩
  have z : atI (pr.map V.ref) ((p.toNat : Nat) : Int) = some (.ref a) := atI_nat (by rw [List.getElem?_map, ea] <;> rfl)
  rwa [← ek] at z
def sides (pms : List (Int × Int × Str × Int)) : List (Int × Int) := pms.map fun m => (m.1, m.2.1)
theorem sides_len (pms : List (Int × Int × Str × Int)) : (sides pms).length = pms.length := List.length_map _
theorem sides_app (a b : List (Int × Int × Str × Int)) : sides (a ++ b) = sides a ++ sides b := List.map_append
/-- promises -/
def spMult : Sp := fun vs H Q _ => ∃ n c : Int, vs = [.int n, .int c] ∧ Q (.bl (decide (mult n c))) H
def spInside : Sp := fun vs H Q _ => ∃ lo n l : Int, vs = [.int lo, .int n, .int l] ∧ Q (.bl (decide (inside lo n l))) H
def spIsWord : Sp := fun vs H Q _ => ∃ n : Int, vs = [.int n] ∧ Q (.bl (decide (-2147483648 ≤ n ∧ n ≤ 2147483647))) H
def Nd.tame : Nd → Prop
  | .mat k _ _ => k < 1000000
  | .matT k _ _ => k < 1000000
  | _ => True
/-- far more than any length -/
@[irreducible] def capE : Nat := 8192
theorem capE_eq : capE = 8192 := by unfold capE; rfl
@[irreducible] def cap : Nat := 2 ^ capE
theorem cap_eq : cap = 2 ^ capE := by unfold cap; rfl
theorem cap_of {i : Int} {b : Nat} (h : i.natAbs < 2 ^ b) (hb : b ≤ 8192) : i.natAbs < cap := by
  rw [cap_eq]
  exact Nat.lt_of_lt_of_le h (Nat.pow_le_pow_right (by decide) (by rw [capE_eq]; exact hb))
theorem cap_small {i : Int} (h0 : -1000000 ≤ i) (h1 : i ≤ 1000000) : i.natAbs < cap := cap_of (b := 20) (Nat.lt_of_le_of_lt (show i.natAbs ≤ 1000000 by omega) (by decide)) (by decide)
theorem cap_mul {i j : Int} (hi : i.natAbs < cap) (hj : j.natAbs < cap) : L2.CMulW i j := by
  rw [cap_eq] at hi hj
  exact wide_mul hi hj (by rw [capE_eq]; decide) (by rw [capE_eq]; decide) (by rw [capE_eq]; decide)
structure Tame (ps : List (Int × Int)) (ls : List Int) : Prop where
  par : ∀ rc ∈ ps, 0 ≤ rc.1 ∧ rc.1 < 1000 ∧ 0 ≤ rc.2 ∧ rc.2 < 1000
  len : ∀ l ∈ ls, 0 ≤ l ∧ l.natAbs < cap
theorem lget_mem {ls : List Int} {a : Int} (h : inR a ls.length) : lget ls a ∈ ls := by
  obtain ⟨h0, h1⟩ := h
  have hk : a.toNat < ls.length := by omega
  unfold lget
  rw [List.getD_eq_getElem?_getD, List.getElem?_eq_getElem hk]
  exact List.getElem_mem hk
theorem pget_mem {ps : List (Int × Int)} {p : Int} (h : inR p ps.length) : pget ps p ∈ ps := by
  obtain ⟨h0, h1⟩ := h
  have hk : p.toNat < ps.length := by omega
  unfold pget
  rw [List.getD_eq_getElem?_getD, List.getElem?_eq_getElem hk]
  exact List.getElem_mem hk
theorem ediv_bd {l k : Int} (h0 : 0 ≤ l) (h1 : l.natAbs < cap) (hk : 0 < k) : 0 ≤ l / k ∧ (l / k).natAbs < cap := by
  have a := Int.ediv_nonneg h0 (Int.le_of_lt hk)
  have b := Int.ediv_le_self k h0
  exact ⟨a, by omega⟩
def spRule (K : PySem.W.Frag) (cs : Cs) (fam : Nd → Prop) : Sp := fun vs H Q _ => ∃ (q l a : Addr) (ni nt : Int) (ps : List (Int × Int)) (ls : List Int) (d : Nd), vs = [.ref q, .ref l, .ref a] ∧ fam d ∧ NetV cs H q ni nt ps ∧ SqL K H l (ls.map V.int) ∧ SqT K H a d.enc ∧
  d.fits ps.length ls.length ∧ Tame ps ls ∧ d.tame ∧ Q (optV (d.len ni nt ps ls)) H
def spNames (K : PySem.W.Frag) (cs : Cs) : Sp := fun vs H Q _ => ∃ (q l a : Addr) (ni nt : Int) (ps : List (Int × Int)) (ls : List Int) (d : Nd), vs = [.ref q, .ref l, .ref a] ∧ NetV cs H q ni nt ps ∧ SqL K H l (ls.map V.int) ∧ SqT K H a d.enc ∧
  ∀ H', Same H H' → Q (.bl (decide (d.fits ps.length ls.length))) H'
def spLength (K : PySem.W.Frag) (cs : Cs) : Sp := fun vs H Q _ => ∃ (q l a : Addr) (ni nt : Int) (ps : List (Int × Int)) (ls : List Int) (d : Nd), vs = [.ref q, .ref l, .ref a] ∧ NetV cs H q ni nt ps ∧ SqL K H l (ls.map V.int) ∧ SqT K H a d.enc ∧ Tame ps ls ∧ d.tame ∧
  ∀ H', Same H H' → Q (optV (d.lenOf ni nt ps ls)) H'
theorem Same.seqT {K : PySem.W.Frag} {H H' : Hp} {a : Addr} {xs : List V} (e : Same H H') (h : SqT K H a xs) : SqT K H' a xs := by
  rcases h with (h | ⟨o, h⟩) | h
  · exact .inl (.inl (e _ _ h))
  · exact .inl (.inr ⟨o, e _ _ h⟩)
  · exact .inr h
theorem all_dec {α : Type} (p : α → Prop) [DecidablePred p] : ∀ xs : List α, (xs.all fun x => decide (p x)) = decide (∀ x ∈ xs, p x)
  | [] => by simp
  | x :: r => by
    rw [List.all_cons, all_dec p r]
    simp [List.forall_mem_cons]
theorem But.seqL {K : PySem.W.Frag} {D : Addr} {H H' : Hp} {a : Addr} {xs : List V} (e : But D H H') (n : H D = none) (h : SqL K H a xs) : SqL K H' a xs := by
  rcases h with (h | ⟨o, h⟩) | h
  · exact .inl (.inl (e _ _ (ne_of_none h n) h))
  · exact .inl (.inr ⟨o, e _ _ (ne_of_none h n) h⟩)
  · exact .inr h
theorem But.seqT {K : PySem.W.Frag} {D : Addr} {H H' : Hp} {a : Addr} {xs : List V} (e : But D H H') (n : H D = none) (h : SqT K H a xs) : SqT K H' a xs := by
  rcases h with (h | ⟨o, h⟩) | h
  · exact .inl (.inl (e _ _ (ne_of_none h n) h))
  · exact .inl (.inr ⟨o, e _ _ (ne_of_none h n) h⟩)
  · exact .inr h
theorem But.same {D : Addr} {H H' : Hp} (e : But D H H') (n : H D = none) : Same H H' := fun c o h => e c o (ne_of_none h n) h
/-- the lengths up to the first node that has none -/
def lensFrom (ni nt : Int) (ps : List (Int × Int)) : List Int → List Nd → List Int
  | ks, [] => ks
  | ks, d :: r => match d.lenOf ni nt ps ks with
    | none => ks
    | some n => lensFrom ni nt ps (ks ++ [n]) r
theorem lensFrom_pre (ni nt : Int) (ps : List (Int × Int)) : ∀ (nds : List Nd) (ks : List Int), ∃ r, lensFrom ni nt ps ks nds = ks ++ r
  | [], ks => ⟨[], (List.append_nil ks).symm⟩
  | d :: t, ks => by
    unfold lensFrom
    cases d.lenOf ni nt ps ks with
    | none => exact ⟨[], (List.append_nil ks).symm⟩
    | some n =>
      obtain ⟨r, e⟩ := lensFrom_pre ni nt ps t (ks ++ [n])
      exact ⟨[n] ++ r, by show lensFrom ni nt ps (ks ++ [n]) t = _; rw [e, List.append_assoc]⟩
theorem lensFrom_len (ni nt : Int) (ps : List (Int × Int)) : ∀ (nds : List Nd) (ks : List Int), (lensFrom ni nt ps ks nds).length ≤ ks.length + nds.length
  | [], ks => Nat.le_refl _
  | d :: t, ks => by
    unfold lensFrom
    cases d.lenOf ni nt ps ks with
    | none => exact Nat.le_add_right _ _
    | some n =>
      have e := lensFrom_len ni nt ps t (ks ++ [n])
      rw [List.length_append, List.length_singleton] at e
      show (lensFrom ni nt ps (ks ++ [n]) t).length ≤ _
      rw [List.length_cons]
      omega
def NdV (K : PySem.W.Frag) (H : Hp) (a : Addr) (d : Nd) : Prop := SqT K H a d.enc
structure NetN (K : PySem.W.Frag) (cs : Cs) (H : Hp) (q : Addr) (nds : List Nd) : Prop where
  ex : ∃ dx fs N nr, H q = some (.ins cs.Net dx fs) ∧ fs.lookup ("nodes" : Str) = some (.ref N) ∧ H N = some (.lst (nr.map V.ref)) ∧ All2 (NdV K H) nr nds
structure NetL (cs : Cs) (H : Hp) (q : Addr) (ls : List Int) : Prop where
  ex : ∃ dx fs L, H q = some (.ins cs.Net dx fs) ∧ fs.lookup ("lengths" : Str) = some (.ref L) ∧ H L = some (.lst (ls.map V.int))
theorem NetN.same {K : PySem.W.Frag} {cs : Cs} {H H' : Hp} {q : Addr} {nds : List Nd} (e : Same H H') (h : NetN K cs H q nds) : NetN K cs H' q nds := by
  obtain ⟨dx, fs, N, nr, h1, h2, h3, h4⟩ := h.ex
  exact ⟨dx, fs, N, nr, e _ _ h1, h2, e _ _ h3, h4.mono fun _ _ r => Same.seqT e r⟩
theorem NetL.same {cs : Cs} {H H' : Hp} {q : Addr} {ls : List Int} (e : Same H H') (h : NetL cs H q ls) : NetL cs H' q ls := by
  obtain ⟨dx, fs, L, h1, h2, h3⟩ := h.ex
  exact ⟨dx, fs, L, e _ _ h1, h2, e _ _ h3⟩
/-- all numbers of a network within what the machine's products bear -/
structure NetOk (ni nt : Int) (ps : List (Int × Int)) (nds : List Nd) : Prop where
  par : ∀ rc ∈ ps, 0 ≤ rc.1 ∧ rc.1 < 1000 ∧ 0 ≤ rc.2 ∧ rc.2 < 1000
  len : ∀ l ∈ lensFrom ni nt ps [] nds, 0 ≤ l ∧ l.natAbs < cap
  nod : ∀ d ∈ nds, d.tame
  few : nds.length ≤ 1000
def spLengths (K : PySem.W.Frag) (cs : Cs) : Sp := fun vs H Q _ => ∃ (q : Addr) (ni nt : Int) (ps : List (Int × Int)) (nds : List Nd), vs = [.ref q] ∧ NetV cs H q ni nt ps ∧ NetN K cs H q nds ∧ NetOk ni nt ps nds ∧
  ∀ (p : Addr) (H' : Hp), H p = none → Same H H' → H' p = some (.lst ((lensFrom ni nt ps [] nds).map V.int)) → Q (.ref p) H'
def spParInit (cs : Cs) : Sp := fun vs H Q _ => ∃ (x dx : Addr) (r c : Int) (fill : V), vs = [.ref x, .int r, .int c, fill] ∧ H x = some (.ins cs.Parameter dx []) ∧
  ∀ H' fs, But x H H' → H' x = some (.ins cs.Parameter dx fs) → fs.lookup ("rows" : Str) = some (.int r) → fs.lookup ("cols" : Str) = some (.int c) → fs.lookup ("fill" : Str) = some fill → Q .non H'
/-- a Parameter with its fill -/
def ParP (cs : Cs) (H : Hp) (a : Addr) (m : Int × Int × Str × Int) : Prop := ∃ dx fs f, H a = some (.ins cs.Parameter dx fs) ∧ fs.lookup ("rows" : Str) = some (.int m.1) ∧ fs.lookup ("cols" : Str) = some (.int m.2.1) ∧ fs.lookup ("fill" : Str) = some (.ref f) ∧ H f = some (.tup [.str m.2.2.1, .int m.2.2.2])
theorem ParP.v {cs : Cs} {H : Hp} {a : Addr} {m : Int × Int × Str × Int} (h : ParP cs H a m) : ParV cs H a (m.1, m.2.1) := by
  obtain ⟨dx, fs, f, h1, h2, h3, _⟩ := h
  exact ⟨dx, fs, h1, h2, h3⟩
theorem ParP.same {cs : Cs} {H H' : Hp} {a : Addr} {m : Int × Int × Str × Int} (e : Same H H') (h : ParP cs H a m) : ParP cs H' a m := by
  obtain ⟨dx, fs, f, h1, h2, h3, h4, h5⟩ := h
  exact ⟨dx, fs, f, e _ _ h1, h2, h3, h4, e _ _ h5⟩
theorem ParP.but {cs : Cs} {x C dx : Addr} {H H' : Hp} {a : Addr} {m : Int × Int × Str × Int} (e : But x H H') (hx : H x = some (.ins C dx [])) (h : ParP cs H a m) : ParP cs H' a m := by
  obtain ⟨dy, fs, f, h1, h2, h3, h4, h5⟩ := h
  refine ⟨dy, fs, f, e _ _ (fun z => ?_) h1, h2, h3, h4, e _ _ (fun z => ?_) h5⟩
  · rw [z, hx] at h1
    cases h1
    cases h2
  · rw [z, hx] at h5
    cases h5
theorem all_sides {cs : Cs} {H : Hp} {pr : List Addr} {pms : List (Int × Int × Str × Int)} (h : All2 (ParP cs H) pr pms) : All2 (ParV cs H) pr (sides pms) := by
  induction h with
  | nil => exact .nil
  | cons r _ ih => exact .cons r.v ih
structure NetF (K : PySem.W.Frag) (cs : Cs) (H : Hp) (q : Addr) (ni nt : Int) (pms : List (Int × Int × Str × Int)) (nds : List Nd) : Prop where
  ex : ∃ dx fs PP NN pr nr, H q = some (.ins cs.Net dx fs) ∧ fs.lookup ("inputs" : Str) = some (.int ni) ∧ fs.lookup ("targets" : Str) = some (.int nt) ∧ fs.lookup ("parameters" : Str) = some (.ref PP) ∧ fs.lookup ("nodes" : Str) = some (.ref NN) ∧
    H PP = some (.lst (pr.map V.ref)) ∧ All2 (ParP cs H) pr pms ∧ H NN = some (.lst (nr.map V.ref)) ∧ All2 (NdV K H) nr nds
theorem NetF.v {K : PySem.W.Frag} {cs : Cs} {H : Hp} {q : Addr} {ni nt : Int} {pms : List (Int × Int × Str × Int)} {nds : List Nd} (h : NetF K cs H q ni nt pms nds) : NetV cs H q ni nt (sides pms) := by
  obtain ⟨dx, fs, PP, NN, pr, nr, h1, h2, h3, h4, h5, h6, h7, h8, h9⟩ := h.ex
  exact ⟨dx, fs, PP, pr, h1, h2, h3, h4, h6, all_sides h7⟩
theorem NetF.n {K : PySem.W.Frag} {cs : Cs} {H : Hp} {q : Addr} {ni nt : Int} {pms : List (Int × Int × Str × Int)} {nds : List Nd} (h : NetF K cs H q ni nt pms nds) : NetN K cs H q nds := by
  obtain ⟨dx, fs, PP, NN, pr, nr, h1, h2, h3, h4, h5, h6, h7, h8, h9⟩ := h.ex
  exact ⟨dx, fs, NN, nr, h1, h5, h8, h9⟩
theorem NetF.same {K : PySem.W.Frag} {cs : Cs} {H H' : Hp} {q : Addr} {ni nt : Int} {pms : List (Int × Int × Str × Int)} {nds : List Nd} (e : Same H H') (h : NetF K cs H q ni nt pms nds) : NetF K cs H' q ni nt pms nds := by
  obtain ⟨dx, fs, PP, NN, pr, nr, h1, h2, h3, h4, h5, h6, h7, h8, h9⟩ := h.ex
  exact ⟨dx, fs, PP, NN, pr, nr, e _ _ h1, h2, h3, h4, h5, e _ _ h6, h7.mono fun _ _ r => r.same e, e _ _ h8, h9.mono fun _ _ r => Same.seqT e r⟩
def spNetInit (K : PySem.W.Frag) (cs : Cs) : Sp := fun vs H Q _ => ∃ (x dx PP NN : Addr) (ni nt : Int) (pms : List (Int × Int × Str × Int)) (nds : List Nd) (pr nr : List Addr), vs = [.ref x, .int ni, .int nt, .ref PP, .ref NN] ∧ H x = some (.ins cs.Net dx []) ∧
  SqL K H PP (pr.map V.ref) ∧ All2 (ParP cs H) pr pms ∧ SqL K H NN (nr.map V.ref) ∧ All2 (NdV K H) nr nds ∧ NetOk ni nt (sides pms) nds ∧
  ∀ H', But x H H' → NetF K cs H' x ni nt pms nds → NetL cs H' x (lensFrom ni nt (sides pms) [] nds) → Q .non H'
theorem put_le {f : Str} {v : V} {fs : List (Str × V)} {n : Nat} (h : fs.length ≤ n) : (putF f v fs).length ≤ n + 1 := by
  have := length_putF f v fs
  omega
theorem put_lt {fs : List (Str × V)} {n : Nat} (h : fs.length ≤ n) (hn : n < 1000 := by decide) : fs.length < 1000 := Nat.lt_of_le_of_lt h hn
theorem put_no : ([] : List (Str × V)).length ≤ 0 := Nat.le_refl 0
theorem But.seqI {K : PySem.W.Frag} {x a C dx : Addr} {fs : List (Str × V)} {H H' : Hp} {xs : List V} (e : But x H H') (hx : H x = some (.ins C dx fs)) (h : SqL K H a xs) : SqL K H' a xs := by
  rcases h with (h | ⟨o, h⟩) | h
  · exact .inl (.inl (e _ _ (ne_of h hx (by intro z; cases z)) h))
  · exact .inl (.inr ⟨o, e _ _ (ne_of h hx (by intro z; cases z)) h⟩)
  · exact .inr h
theorem But.seqTI {K : PySem.W.Frag} {x a C dx : Addr} {fs : List (Str × V)} {H H' : Hp} {xs : List V} (e : But x H H') (hx : H x = some (.ins C dx fs)) (h : SqT K H a xs) : SqT K H' a xs := by
  rcases h with (h | ⟨o, h⟩) | h
  · exact .inl (.inl (e _ _ (ne_of h hx (by intro z; cases z)) h))
  · exact .inl (.inr ⟨o, e _ _ (ne_of h hx (by intro z; cases z)) h⟩)
  · exact .inr h
theorem ParV.but {cs : Cs} {x C dx : Addr} {H H' : Hp} {a : Addr} {rc : Int × Int} (e : But x H H') (hx : H x = some (.ins C dx [])) (h : ParV cs H a rc) : ParV cs H' a rc := by
  obtain ⟨dy, fs, h1, h2, h3⟩ := h
  refine ⟨dy, fs, e _ _ (fun z => ?_) h1, h2, h3⟩
  rw [z, hx] at h1
  cases h1
  cases h2

/-! ### the laws' generator of networks: the state -/
def PmV (H : Hp) (a : Addr) (m : Int × Int × Str × Int) : Prop := ∃ f, H a = some (.tup [.int m.1, .int m.2.1, .ref f]) ∧ H f = some (.tup [.str m.2.2.1, .int m.2.2.2])
def NdT (H : Hp) (a : Addr) (d : Nd) : Prop := H a = some (.tup d.enc)
def PmOk (m : Int × Int × Str × Int) : Prop := 1 ≤ m.1 ∧ m.1 ≤ 6 ∧ 1 ≤ m.2.1 ∧ m.2.1 ≤ 6 ∧ ((m.2.2.1 = "same" ∧ -2147483648 ≤ m.2.2.2 ∧ m.2.2.2 ≤ 2147483647) ∨ (m.2.2.1 = "mixed" ∧ 0 ≤ m.2.2.2 ∧ m.2.2.2 ≤ 31))
/-- all is as it was but what stands at these -/
def Exc (S : List Addr) (H H' : Hp) : Prop := ∀ c o, c ∉ S → H c = some o → H' c = some o
theorem Exc.refl (S : List Addr) (H : Hp) : Exc S H H := fun _ _ _ h => h
theorem Exc.trans {S : List Addr} {H H1 H2 : Hp} (x : Exc S H H1) (y : Exc S H1 H2) : Exc S H H2 := fun c o n h => y c o n (x c o n h)
theorem Exc.of {S : List Addr} {H H' : Hp} (e : Same H H') : Exc S H H' := fun c o _ h => e c o h
theorem Exc.but {S : List Addr} {b : Addr} {H H' : Hp} (e : But b H H') (h : b ∈ S) : Exc S H H' := fun c o n hc => e c o (fun z => n (z ▸ h)) hc
theorem Exc.wide {S S' : List Addr} {H H' : Hp} (e : Exc S H H') (h : ∀ x ∈ S, x ∈ S') : Exc S' H H' := fun c o n hc => e c o (fun z => n (h _ z)) hc
theorem Exc.mut {S : List Addr} {l : Addr} {H H' : Hp} {o : HO} (e : Exc S H H') (h : l ∈ S) : Exc S H (upd H' l o) := fun c x n hc => by
  rw [upd_ne (show c ≠ l from fun z => n (by rw [z]; exact h))]
  exact e c x n hc
structure Dis (b r n PL NL LL : Addr) : Prop where
  bn : b ≠ n
  bp : b ≠ PL
  bd : b ≠ NL
  bl : b ≠ LL
  rp : r ≠ PL
  rd : r ≠ NL
  rl : r ≠ LL
  np : n ≠ PL
  nd : n ≠ NL
  nl : n ≠ LL
  pd : PL ≠ NL
  pl : PL ≠ LL
  dl : NL ≠ LL
structure G (H : Hp) (b r : Addr) (rs : List Int) (n PL NL LL : Addr) (ni nt : Int) (pms : List (Int × Int × Str × Int)) (nds : List Nd) (ls : List Int) : Prop where
  box : Box H b r rs
  net : H n = some (.lst [.int ni, .int nt, .ref PL, .ref NL, .ref LL])
  par : ∃ pr, H PL = some (.lst (pr.map V.ref)) ∧ All2 (PmV H) pr pms
  nod : ∃ nr, H NL = some (.lst (nr.map V.ref)) ∧ All2 (NdT H) nr nds
  len : H LL = some (.lst (ls.map V.int))
  dis : Dis b r n PL NL LL
theorem PmV.exc {S : List Addr} {H H' : Hp} {a : Addr} {m : Int × Int × Str × Int} (e : Exc S H H') (hS : ∀ c ∈ S, ∃ xs, H c = some (.lst xs)) (h : PmV H a m) : PmV H' a m := by
  obtain ⟨f, h1, h2⟩ := h
  refine ⟨f, e _ _ (fun z => ?_) h1, e _ _ (fun z => ?_) h2⟩
  · obtain ⟨xs, y⟩ := hS _ z
    rw [h1] at y
    cases y
  · obtain ⟨xs, y⟩ := hS _ z
    rw [h2] at y
    cases y
theorem NdT.exc {S : List Addr} {H H' : Hp} {a : Addr} {d : Nd} (e : Exc S H H') (hS : ∀ c ∈ S, ∃ xs, H c = some (.lst xs)) (h : NdT H a d) : NdT H' a d := by
  refine e _ _ (fun z => ?_) h
  obtain ⟨xs, y⟩ := hS _ z
  rw [show H a = _ from h] at y
  cases y
section
variable {H H' : Hp} {b r : Addr} {rs : List Int} {n PL NL LL : Addr} {ni nt : Int} {pms : List (Int × Int × Str × Int)} {nds : List Nd} {ls : List Int}
theorem G.blst (g : G H b r rs n PL NL LL ni nt pms nds ls) : ∃ xs, H b = some (.lst xs) := by
  obtain ⟨z, _, h⟩ := g.box.ex
  exact ⟨_, h⟩
/-- behind a draw -/
theorem G.but (g : G H b r rs n PL NL LL ni nt pms nds ls) (B : Box H' b r rs) (e : But b H H') : G H' b r rs n PL NL LL ni nt pms nds ls := by
  have hS : ∀ c ∈ [b], ∃ xs, H c = some (.lst xs) := fun c hc => by
    rw [List.mem_singleton] at hc
    subst hc
    exact g.blst
  have x : Exc [b] H H' := .but e (.head _)
  obtain ⟨pr, p1, p2⟩ := g.par
  obtain ⟨nr, n1, n2⟩ := g.nod
  exact ⟨B, e _ _ g.dis.bn.symm g.net, ⟨pr, e _ _ g.dis.bp.symm p1, p2.mono fun _ _ q => q.exc x hS⟩, ⟨nr, e _ _ g.dis.bd.symm n1, n2.mono fun _ _ q => NdT.exc x hS q⟩, e _ _ g.dis.bl.symm g.len, g.dis⟩
theorem G.same (g : G H b r rs n PL NL LL ni nt pms nds ls) (e : Same H H') : G H' b r rs n PL NL LL ni nt pms nds ls := by
  obtain ⟨pr, p1, p2⟩ := g.par
  obtain ⟨nr, n1, n2⟩ := g.nod
  have x : Exc [] H H' := .of e
  have hS : ∀ c ∈ ([] : List Addr), ∃ xs, H c = some (.lst xs) := fun c hc => by cases hc
  exact ⟨g.box.same e, e _ _ g.net, ⟨pr, e _ _ p1, p2.mono fun _ _ q => q.exc x hS⟩, ⟨nr, e _ _ n1, n2.mono fun _ _ q => NdT.exc x hS q⟩, e _ _ g.len, g.dis⟩
end
section
variable {H H' : Hp} {b r : Addr} {rs : List Int} {n PL NL LL : Addr} {ni nt : Int} {pms : List (Int × Int × Str × Int)} {nds : List Nd} {ls : List Int}
theorem Box.off {o : HO} {l : Addr} (B : Box H b r rs) (hb : b ≠ l) (hr : r ≠ l) : Box (upd H l o) b r rs := by
  obtain ⟨z, h0, h⟩ := B.ex
  exact ⟨⟨z, h0, by rw [upd_ne hb]; exact h⟩, by rw [upd_ne hr]; exact B.row⟩
theorem exc_one (l : Addr) (o : HO) : Exc [l] H (upd H l o) := fun c x nm h => by
  rw [upd_ne (show c ≠ l from fun z => nm (by rw [z]; exact .head _))]
  exact h
theorem one_lst {l : Addr} {xs : List V} (h : H l = some (.lst xs)) : ∀ c ∈ [l], ∃ ys, H c = some (.lst ys) := fun c hc => by
  rw [List.mem_singleton] at hc
  subst hc
  exact ⟨_, h⟩
/-- one more parameter -/
theorem G.addPm (g : G H b r rs n PL NL LL ni nt pms nds ls) {pr : List Addr} {a : Addr} {m : Int × Int × Str × Int} (p1 : H PL = some (.lst (pr.map V.ref))) (p2 : All2 (PmV H) pr pms) (hm : PmV H a m) :
    G (upd H PL (.lst (pr.map V.ref ++ [.ref a]))) b r rs n PL NL LL ni nt (pms ++ [m]) nds ls := by
  have x := exc_one (H := H) PL (.lst (pr.map V.ref ++ [.ref a]))
  have hS := one_lst p1
  obtain ⟨nr, n1, n2⟩ := g.nod
  refine ⟨g.box.off g.dis.bp g.dis.rp, by rw [upd_ne g.dis.np]; exact g.net, ⟨pr ++ [a], by rw [upd_same, List.map_append]; rfl, (p2.mono fun _ _ q => q.exc x hS).snoc (hm.exc x hS)⟩, ⟨nr, by rw [upd_ne g.dis.pd.symm]; exact n1, n2.mono fun _ _ q => NdT.exc x hS q⟩, by rw [upd_ne g.dis.pl.symm]; exact g.len, g.dis⟩
end
/-! what is good: a node behind nodes of known lengths, a network -/
def Good (ni nt : Int) (pms : List (Int × Int × Str × Int)) (ls : List Int) (d : Nd) (len : Int) : Prop := d.lenOf ni nt (sides pms) ls = some len ∧ 1 ≤ len ∧ len ≤ 12 ∧ d.tame
structure Built (ni nt : Int) (pms : List (Int × Int × Str × Int)) (nds : List Nd) (ls : List Int) : Prop where
  ni1 : 1 ≤ ni
  ni3 : ni ≤ 3
  nt1 : 1 ≤ nt
  nt2 : nt ≤ 2
  pok : ∀ m ∈ pms, PmOk m
  few : pms.length ≤ 4
  len : lensFrom ni nt (sides pms) [] nds = ls
  all : ls.length = nds.length
  bnd : ∀ l ∈ ls, 1 ≤ l ∧ l ≤ 12
  tam : ∀ d ∈ nds, d.tame
theorem pget_app {ps more : List (Int × Int)} {p : Int} (h : inR p ps.length) : pget (ps ++ more) p = pget ps p := by
  obtain ⟨h0, h1⟩ := h
  unfold pget
  rw [List.getD_eq_getElem?_getD, List.getD_eq_getElem?_getD, List.getElem?_append_left (by omega)]
theorem parIn_app {o : Option Int} {np m : Nat} (h : parIn o np) : parIn o (np + m) := by
  cases o with
  | none => exact True.intro
  | some p => exact ⟨h.1, by have := h.2; omega⟩
theorem len_app (ni nt : Int) (ps more : List (Int × Int)) (ls : List Int) (d : Nd) (h : parIn d.par ps.length) : d.len ni nt (ps ++ more) ls = d.len ni nt ps ls := by
  cases d with
  | lin p a => simp only [Nd.len]; rw [pget_app h]
  | bias p a => simp only [Nd.len]; rw [pget_app h]
  | embed p lo n => simp only [Nd.len]; rw [pget_app h]
  | _ => rfl
theorem lenOf_app {ni nt : Int} {ps more : List (Int × Int)} {ls : List Int} {d : Nd} {n : Int} (h : d.lenOf ni nt ps ls = some n) : d.lenOf ni nt (ps ++ more) ls = some n := by
  unfold Nd.lenOf at h ⊢
  by_cases hf : d.fits ps.length ls.length
  · rw [if_pos hf] at h
    rw [if_pos ⟨by rw [List.length_append]; exact parIn_app hf.1, hf.2⟩, len_app ni nt ps more ls d hf.1]
    exact h
  · rw [if_neg hf] at h
    cases h
theorem lensFrom_app {ni nt : Int} {ps more : List (Int × Int)} : ∀ (nds : List Nd) (ks : List Int), (lensFrom ni nt ps ks nds).length = ks.length + nds.length → lensFrom ni nt (ps ++ more) ks nds = lensFrom ni nt ps ks nds
  | [], ks, _ => rfl
  | d :: t, ks, h => by
    unfold lensFrom at h ⊢
    cases e : d.lenOf ni nt ps ks with
    | none =>
      rw [e] at h
      rw [List.length_cons] at h
      exact absurd h (by show ¬ ks.length = _; omega)
    | some n =>
      rw [e] at h
      rw [lenOf_app e]
      refine lensFrom_app t (ks ++ [n]) ?_
      rw [show (match some n with | none => ks | some n => lensFrom ni nt ps (ks ++ [n]) t) = lensFrom ni nt ps (ks ++ [n]) t from rfl] at h
      rw [h, List.length_append, List.length_singleton, List.length_cons]
      omega
theorem lensFrom_snoc {ni nt : Int} {ps : List (Int × Int)} {d : Nd} {n : Int} : ∀ (nds : List Nd) (ks : List Int), (lensFrom ni nt ps ks nds).length = ks.length + nds.length → d.lenOf ni nt ps (lensFrom ni nt ps ks nds) = some n →
    lensFrom ni nt ps ks (nds ++ [d]) = lensFrom ni nt ps ks nds ++ [n]
  | [], ks, _, e => by
    show (match d.lenOf ni nt ps ks with | none => ks | some n => lensFrom ni nt ps (ks ++ [n]) []) = _
    rw [show d.lenOf ni nt ps ks = some n from e]
    rfl
  | c :: t, ks, h, e => by
    rw [List.cons_append]
    unfold lensFrom at h e ⊢
    cases z : c.lenOf ni nt ps ks with
    | none =>
      rw [z, List.length_cons] at h
      exact absurd h (by show ¬ ks.length = _; omega)
    | some m =>
      rw [z] at h e
      refine lensFrom_snoc t (ks ++ [m]) ?_ e
      rw [show (match some m with | none => ks | some n => lensFrom ni nt ps (ks ++ [n]) t) = lensFrom ni nt ps (ks ++ [m]) t from rfl] at h
      rw [h, List.length_append, List.length_singleton, List.length_cons]
      omega
theorem Built.grow {ni nt : Int} {pms : List (Int × Int × Str × Int)} {nds : List Nd} {ls : List Int} {m : Int × Int × Str × Int} (u : Built ni nt pms nds ls) (hm : PmOk m) (h4 : pms.length < 4) : Built ni nt (pms ++ [m]) nds ls := by
  refine ⟨u.ni1, u.ni3, u.nt1, u.nt2, fun x hx => ?_, by rw [List.length_append, List.length_singleton]; omega, ?_, u.all, u.bnd, u.tam⟩
  · rcases List.mem_append.mp hx with z | z
    · exact u.pok x z
    · rw [List.mem_singleton] at z
      rw [z]
      exact hm
  · rw [sides_app, lensFrom_app nds [] (by rw [u.len, u.all]; simp)]
    exact u.len
theorem Built.snoc {ni nt : Int} {pms : List (Int × Int × Str × Int)} {nds : List Nd} {ls : List Int} {d : Nd} {len : Int} (u : Built ni nt pms nds ls) (g : Good ni nt pms ls d len) : Built ni nt pms (nds ++ [d]) (ls ++ [len]) := by
  refine ⟨u.ni1, u.ni3, u.nt1, u.nt2, u.pok, u.few, ?_, by rw [List.length_append, List.length_append, u.all]; rfl, fun x hx => ?_, fun x hx => ?_⟩
  · rw [lensFrom_snoc nds [] (by rw [u.len, u.all]; simp) (by rw [u.len]; exact g.1), u.len]
  · rcases List.mem_append.mp hx with z | z
    · exact u.bnd x z
    · rw [List.mem_singleton] at z
      rw [z]
      exact ⟨g.2.1, g.2.2.1⟩
  · rcases List.mem_append.mp hx with z | z
    · exact u.tam x z
    · rw [List.mem_singleton] at z
      rw [z]
      exact g.2.2.2
/-! promises -/
def spDivisors : Sp := fun vs H Q _ => ∃ n most : Int, vs = [.int n, .int most] ∧ 1 ≤ most ∧ most ≤ 12 ∧
  ∀ (p : Addr) (ds : List Int) (H' : Hp), H p = none → Same H H' → H' p = some (.lst (ds.map V.int)) → (∀ d ∈ ds, 1 ≤ d ∧ d ≤ most ∧ n % d = 0) → 0 < ds.length → Q (.ref p) H'
def spParam : Sp := fun vs H Q _ => ∃ (b r : Addr) (rs : List Int) (n PL NL LL : Addr) (ni nt : Int) (pms : List (Int × Int × Str × Int)) (nds : List Nd) (ls : List Int) (rows cols : Int), vs = [.ref b, .ref n, .int rows, .int cols] ∧
  G H b r rs n PL NL LL ni nt pms nds ls ∧ Built ni nt pms nds ls ∧ 1 ≤ rows ∧ rows ≤ 6 ∧ 1 ≤ cols ∧ cols ≤ 6 ∧
  ∀ (p : Int) (more : List (Int × Int × Str × Int)) (H' : Hp), G H' b r rs n PL NL LL ni nt (pms ++ more) nds ls → Built ni nt (pms ++ more) nds ls → Exc [b, PL] H H' →
    (p < 0 ∨ (inR p (pms ++ more).length ∧ pget (sides (pms ++ more)) p = (rows, cols))) → Q (.int p) H'
/-- what a maker of nodes hands back: None, or a pair of a node and its length -/
def Found (H : Hp) (ni nt : Int) (pms : List (Int × Int × Str × Int)) (ls : List Int) (v : V) : Prop := ∃ (t a : Addr) (d : Nd) (len : Int), v = .ref t ∧ H t = some (.tup [.ref a, .int len]) ∧ H a = some (.tup d.enc) ∧ Good ni nt pms ls d len
def spMake (extra : List Int → List V → Prop) : Sp := fun vs H Q _ => ∃ (b r : Addr) (rs : List Int) (n PL NL LL : Addr) (ni nt : Int) (pms : List (Int × Int × Str × Int)) (nds : List Nd) (ls : List Int) (us : List V), vs = .ref b :: .ref n :: us ∧ extra ls us ∧
  G H b r rs n PL NL LL ni nt pms nds ls ∧ Built ni nt pms nds ls ∧ ls.length ≤ 1000 ∧
  ∀ (v : V) (more : List (Int × Int × Str × Int)) (H' : Hp), G H' b r rs n PL NL LL ni nt (pms ++ more) nds ls → Built ni nt (pms ++ more) nds ls → Exc [b, PL] H H' → (v = .non ∨ Found H' ni nt (pms ++ more) ls v) → Q v H'
theorem G.at {H : Hp} {b r : Addr} {rs : List Int} {n PL NL LL : Addr} {ni nt : Int} {pms : List (Int × Int × Str × Int)} {nds : List Nd} {ls : List Int} {p : Int} (g : G H b r rs n PL NL LL ni nt pms nds ls) (hp : inR p pms.length) :
    ∃ (pr : List Addr) (a f : Addr) (m : Int × Int × Str × Int), H PL = some (.lst (pr.map V.ref)) ∧ atI (pr.map V.ref) p = some (.ref a) ∧ H a = some (.tup [.int (pget (sides pms) p).1, .int (pget (sides pms) p).2, .ref f]) ∧ H f = some (.tup [.str m.2.2.1, .int m.2.2.2]) ∧ pms[p.toNat]? = some m := by
  obtain ⟨pr, p1, p2⟩ := g.par
  obtain ⟨h0, h1⟩ := hp
  have hk : p.toNat < pms.length := by omega
  have ek : p = ((p.toNat : Nat) : Int) := by omega
  have em : pms[p.toNat]? = some pms[p.toNat] := List.getElem?_eq_getElem hk
  obtain ⟨a, ea, f, m1, m2⟩ := p2.get em
  have eg : pget (sides pms) p = (pms[p.toNat].1, pms[p.toNat].2.1) := by
    unfold pget sides
    rw [List.getD_eq_getElem?_getD, List.getElem?_map, em]
    rfl
  refine ⟨pr, a, f, pms[p.toNat], p1, ?_, by rw [eg]; exact m1, m2, em⟩
  have z : atI (pr.map V.ref) ((p.toNat : Nat) : Int) = some (.ref a) := atI_nat (by rw [List.getElem?_map, ea] <;> rfl)
  rwa [← ek] at z
theorem good_of {ni nt : Int} {pms : List (Int × Int × Str × Int)} {ls : List Int} {d : Nd} {len : Int} (hp : parIn d.par pms.length) (ho : ∀ o ∈ d.ops, inR o ls.length) (hl : d.len ni nt (sides pms) ls = some len) (h1 : 1 ≤ len) (h2 : len ≤ 12) (ht : d.tame) : Good ni nt pms ls d len :=
  ⟨by unfold Nd.lenOf; rw [if_pos ⟨by rw [sides_len]; exact hp, ho⟩]; exact hl, h1, h2, ht⟩
def allKinds : List Str := ["input", "target", "lin", "bias", "embed", "mat", "matT", "lower", "add", "sub", "mul", "scale", "shift", "relu", "drop", "sum", "join", "take"]
def spNode (K : PySem.W.Frag) : Sp := fun vs H Q _ => ∃ (b r : Addr) (rs : List Int) (n PL NL LL : Addr) (ni nt : Int) (pms : List (Int × Int × Str × Int)) (nds : List Nd) (ls : List Int) (ks : Addr) (kl : List Str), vs = [.ref b, .ref n, .ref ks] ∧
  SqL K H ks (kl.map V.str) ∧ (∀ k ∈ kl, k ∈ allKinds) ∧ 0 < kl.length ∧ G H b r rs n PL NL LL ni nt pms nds ls ∧ Built ni nt pms nds ls ∧ ls.length ≤ 1000 ∧
  ∀ (v : V) (more : List (Int × Int × Str × Int)) (H' : Hp), G H' b r rs n PL NL LL ni nt (pms ++ more) nds ls → Built ni nt (pms ++ more) nds ls → Exc [b, PL] H H' → Found H' ni nt (pms ++ more) ls v → Q v H'
theorem at_strs {kl : List Str} {i : Int} (h : inR i kl.length) : ∃ k, k ∈ kl ∧ atI (kl.map V.str) i = some (.str k) := by
  obtain ⟨h0, h1⟩ := h
  have hk : i.toNat < kl.length := by omega
  have ek : i = ((i.toNat : Nat) : Int) := by omega
  refine ⟨kl[i.toNat], List.getElem_mem hk, ?_⟩
  have z : atI (kl.map V.str) ((i.toNat : Nat) : Int) = some (.str kl[i.toNat]) := atI_nat (by rw [List.getElem?_map, List.getElem?_eq_getElem hk] <;> rfl)
  rwa [← ek] at z
section
variable {H H' : Hp} {b r : Addr} {rs : List Int} {n PL NL LL : Addr} {ni nt : Int} {pms : List (Int × Int × Str × Int)} {nds : List Nd} {ls : List Int}
theorem G.addNd (g : G H b r rs n PL NL LL ni nt pms nds ls) {nr : List Addr} {a : Addr} {d : Nd} (n1 : H NL = some (.lst (nr.map V.ref))) (n2 : All2 (NdT H) nr nds) (hd : NdT H a d) :
    G (upd H NL (.lst (nr.map V.ref ++ [.ref a]))) b r rs n PL NL LL ni nt pms (nds ++ [d]) ls := by
  have x := exc_one (H := H) NL (.lst (nr.map V.ref ++ [.ref a]))
  have hS := one_lst n1
  obtain ⟨pr, p1, p2⟩ := g.par
  exact ⟨g.box.off g.dis.bd g.dis.rd, by rw [upd_ne g.dis.nd]; exact g.net, ⟨pr, by rw [upd_ne g.dis.pd]; exact p1, p2.mono fun _ _ q => q.exc x hS⟩, ⟨nr ++ [a], by rw [upd_same, List.map_append]; rfl, (n2.mono fun _ _ q => NdT.exc x hS q).snoc (NdT.exc x hS hd)⟩,
    by rw [upd_ne g.dis.dl.symm]; exact g.len, g.dis⟩
theorem G.addLen (g : G H b r rs n PL NL LL ni nt pms nds ls) (z : Int) : G (upd H LL (.lst (ls.map V.int ++ [.int z]))) b r rs n PL NL LL ni nt pms nds (ls ++ [z]) := by
  have x := exc_one (H := H) LL (.lst (ls.map V.int ++ [.int z]))
  have hS := one_lst g.len
  obtain ⟨pr, p1, p2⟩ := g.par
  obtain ⟨nr, n1, n2⟩ := g.nod
  exact ⟨g.box.off g.dis.bl g.dis.rl, by rw [upd_ne g.dis.nl]; exact g.net, ⟨pr, by rw [upd_ne g.dis.pl]; exact p1, p2.mono fun _ _ q => q.exc x hS⟩, ⟨nr, by rw [upd_ne g.dis.dl]; exact n1, n2.mono fun _ _ q => NdT.exc x hS q⟩, map_more _ _, g.dis⟩
theorem Exc.fresh {H1 H2 : Hp} {S : List Addr} (x : Exc [b] H H1) (y : Exc S H1 H2) (h : ∀ c ∈ S, c = b ∨ H c = none) : Exc [b] H H2 := fun c o nc hc => by
  refine y c o (fun z => ?_) (x c o nc hc)
  rcases h c z with e | e
  · exact nc (by rw [e]; exact .head _)
  · rw [hc] at e; cases e
theorem Box.strs {K : PySem.W.Frag} {ks : Addr} {kl : List Str} (B : Box H b r rs) (h : SqL K H ks (kl.map V.str)) (hn : 0 < kl.length) (e : Exc [b] H H') : SqL K H' ks (kl.map V.str) := by
  obtain ⟨z0, _, hb⟩ := B.ex
  rcases h with (h | ⟨o, h⟩) | h
  · refine .inl (.inl (e _ _ (fun z => ?_) h))
    rw [List.mem_singleton] at z
    rw [z, hb] at h
    cases kl with
    | nil => cases hn
    | cons k t => cases h
  · refine .inl (.inr ⟨o, e _ _ (fun z => ?_) h⟩)
    rw [List.mem_singleton] at z
    rw [z, hb] at h
    cases h
  · exact .inr h
end
def spNet (K : PySem.W.Frag) : Sp := fun vs H Q _ => ∃ (b r : Addr) (rs : List Int) (ks : Addr) (kl : List Str) (most : Int), vs = [.ref b, .ref ks, .int most] ∧ Box H b r rs ∧ SqL K H ks (kl.map V.str) ∧ (∀ k ∈ kl, k ∈ allKinds) ∧ 0 < kl.length ∧ 1 ≤ most ∧ most ≤ 100 ∧
  ∀ (n PL NL LL : Addr) (ni nt : Int) (pms : List (Int × Int × Str × Int)) (nds : List Nd) (ls : List Int) (H' : Hp), G H' b r rs n PL NL LL ni nt pms nds ls → Built ni nt pms nds ls → (∃ l0, ls = l0 ++ [1]) → (nds.length : Int) ≤ most + 1 → Exc [b] H H' → H n = none → H PL = none → H NL = none → H LL = none → Q (.ref n) H'

section
variable {P : Program} {w : World} {K : PySem.W.Frag} {mg : Str → Option Value} {cs : Cs} {base : Heap} {f : Addr} {fd : FuncData}
theorem ok_is_multiple (F : Fun K "is_multiple" "is_multiple" s_is_multiple f fd) (T : Txt K mg cs w)  :
    FnOk P w K mg base CX0 1 f fd ["n", "c"] (spMult) := by
  refine F.ok sc_is_multiple (fun vs H Q E h => ?_) (fun cdv A outer s H vs Q E hr h => ?_)
  · obtain ⟨n, c, rfl, q⟩ := h
    rfl
  obtain ⟨n, c, rfl, q⟩ := h
  have hu := hr.units
  refine ⟨_, pss_one (ps_ret (pe_and (pe_cmpR op_gt (pv 1) pe_int (nomark _)) (pe_one (pe_cmpR op_eq (pe_op op_mod (pv 0) (pv 1)) pe_int (nomark _))))), ?_⟩
  walk_at "go"
  refine ite2 (fun h => ?_) (fun h => ?_)
  · have h' : 0 < c := of_decide_eq_true h
    walk_at "go"
    refine ⟨h', ?_⟩
    walk_at "go"
    have e : decide (V.int (n % c) = V.int 0) = decide (mult n c) := decide_eq_decide.mpr ⟨fun z => ⟨h', V.int.inj z⟩, fun z => congrArg V.int z.2⟩
    show Q (.bl (decide (V.int (n % c) = V.int 0))) H
    rw [e]
    exact q
  · have e : decide (mult n c) = false := decide_eq_false fun z => h (decide_eq_true z.1)
    rw [e] at q
    exact q
theorem ok_is_inside (F : Fun K "is_inside" "is_inside" s_is_inside f fd) (T : Txt K mg cs w)  :
    FnOk P w K mg base CX0 1 f fd ["lo", "n", "length"] (spInside) := by
  refine F.ok sc_is_inside (fun vs H Q E h => ?_) (fun cdv A outer s H vs Q E hr h => ?_)
  · obtain ⟨lo, n, l, rfl, q⟩ := h
    rfl
  obtain ⟨lo, n, l, rfl, q⟩ := h
  have hu := hr.units
  refine ⟨_, pss_one (ps_ret (pe_and (pe_cmpR op_ge (pv 1) pe_int (nomark _)) (pe_and (pe_cmpR op_ge (pv 0) pe_int (nomark _)) (pe_one (pe_cmpR op_le (pe_op op_add (pv 0) (pv 1)) (pv 2) (nomark _)))))), ?_⟩
  walk_at "go"
  refine ite2 (fun h => ?_) (fun h => ?_)
  · have h' : 1 ≤ n := of_decide_eq_true h
    walk_at "go"
    refine ite2 (fun h2 => ?_) (fun h2 => ?_)
    · have h2' : 0 ≤ lo := of_decide_eq_true h2
      walk_at "go"
      have e : decide (lo + n ≤ l) = decide (inside lo n l) := decide_eq_decide.mpr ⟨fun z => ⟨h', h2', z⟩, fun z => z.2.2⟩
      show Q (.bl (decide (lo + n ≤ l))) H
      rw [e]
      exact q
    · have e : decide (inside lo n l) = false := decide_eq_false fun z => h2 (decide_eq_true z.2.1)
      rw [e] at q
      exact q
  · have e : decide (inside lo n l) = false := decide_eq_false fun z => h (decide_eq_true z.1)
    rw [e] at q
    exact q
theorem ok_is_word (F : Fun K "is_word" "is_word" s_is_word f fd) (T : Txt K mg cs w)  :
    FnOk P w K mg base CX0 1 f fd ["n"] (spIsWord) := by
  obtain ⟨_, g_LEAST⟩ := T.g_LEAST
  obtain ⟨_, g_GREATEST⟩ := T.g_GREATEST
  refine F.ok sc_is_word (fun vs H Q E h => ?_) (fun cdv A outer s H vs Q E hr h => ?_)
  · obtain ⟨n, rfl, q⟩ := h
    rfl
  obtain ⟨n, rfl, q⟩ := h
  have hu := hr.units
  refine ⟨_, pss_one (ps_ret (pe_chain op_le op_le (pe_glob (v := .int (-2147483648)) rfl g_LEAST ⟨_, rfl⟩) (pv 0) (pe_glob (v := .int (2147483647)) rfl g_GREATEST ⟨_, rfl⟩))), ?_⟩
  walk_at "go"
  refine ite2 (fun h => ?_) (fun h => ?_)
  · have h' : -2147483648 ≤ n := of_decide_eq_true h
    walk_at "go"
    have e : decide (n ≤ 2147483647) = decide (-2147483648 ≤ n ∧ n ≤ 2147483647) := decide_eq_decide.mpr ⟨fun z => ⟨h', z⟩, fun z => z.2⟩
    show Q (.bl (decide (n ≤ 2147483647))) H
    rw [e]
    exact q
  · have e : decide (-2147483648 ≤ n ∧ n ≤ 2147483647) = false := decide_eq_false fun z => h (decide_eq_true z.1)
    rw [e] at q
    exact q
theorem ok__of_inputs (F : Fun K "_of_inputs" "_of_inputs" s__of_inputs f fd) (T : Txt K mg cs w)  :
    FnOk P w K mg base CX0 1 f fd ["net", "known", "node"] (spRule K cs (· = .input)) := by
  refine F.ok sc__of_inputs (fun vs H Q E h => ?_) (fun cdv A outer s H vs Q E hr h => ?_)
  · obtain ⟨qn, l, a, ni, nt, ps, ls, d, rfl, hd, N, hL, hA, hf, tm, td, q⟩ := h
    rfl
  obtain ⟨qn, l, a, ni, nt, ps, ls, d, rfl, hd, N, hL, hA, hf, tm, td, q⟩ := h
  have hu := hr.units
  refine ⟨_, pss_one (ps_ret (pe_fld_at (K := K) rfl (pv 0) rfl)), ?_⟩
  obtain ⟨dx, fs, PP, pr, n1, n2, n3, n4, n5, n6⟩ := N.ex
  subst hd
  exact ⟨_, rfl, qn, _, dx, fs, _, rfl, n1, T.C_Net, T.na_Net_inputs, n2, q⟩
theorem ok__of_targets (F : Fun K "_of_targets" "_of_targets" s__of_targets f fd) (T : Txt K mg cs w)  :
    FnOk P w K mg base CX0 1 f fd ["net", "known", "node"] (spRule K cs (· = .target)) := by
  refine F.ok sc__of_targets (fun vs H Q E h => ?_) (fun cdv A outer s H vs Q E hr h => ?_)
  · obtain ⟨qn, l, a, ni, nt, ps, ls, d, rfl, hd, N, hL, hA, hf, tm, td, q⟩ := h
    rfl
  obtain ⟨qn, l, a, ni, nt, ps, ls, d, rfl, hd, N, hL, hA, hf, tm, td, q⟩ := h
  have hu := hr.units
  refine ⟨_, pss_one (ps_ret (pe_fld_at (K := K) rfl (pv 0) rfl)), ?_⟩
  obtain ⟨dx, fs, PP, pr, n1, n2, n3, n4, n5, n6⟩ := N.ex
  subst hd
  exact ⟨_, rfl, qn, _, dx, fs, _, rfl, n1, T.C_Net, T.na_Net_targets, n3, q⟩
theorem ok__of_lin (F : Fun K "_of_lin" "_of_lin" s__of_lin f fd) (T : Txt K mg cs w) (d_is_multiple : Def P w K mg base 1 "is_multiple" ["n", "c"] (spMult)) :
    FnOk P w K mg base CX0 2 f fd ["net", "known", "node"] (spRule K cs fun d => ∃ p a, d = .lin p a) := by
  obtain ⟨f0, fd0, G_is_multiple, b_is_multiple, g_is_multiple, k_is_multiple⟩ := d_is_multiple.ex
  refine F.ok sc__of_lin (fun vs H Q E h => ?_) (fun cdv A outer s H vs Q E hr h => ?_)
  · obtain ⟨qn, l, a, ni, nt, ps, ls, d, rfl, hd, N, hL, hA, hf, tm, td, q⟩ := h
    rfl
  obtain ⟨qn, l, a, ni, nt, ps, ls, d, rfl, hd, N, hL, hA, hf, tm, td, q⟩ := h
  have hu := hr.units
  refine ⟨_, pss_cons (ps_asg (pv 2) (pg_tup rfl (pgs_cons (pg_name (i := 3) sc__of_lin.nd rfl (.inl rfl)) (pgs_cons (pg_name (i := 4) sc__of_lin.nd rfl (.inl rfl)) (pgs_cons (pg_name (i := 5) sc__of_lin.nd rfl (.inl rfl)) pgs_nil)))))
 (pss_cons (ps_set (i := 6) sc__of_lin.nd rfl (.inl rfl) (pe_ix (ixl_at (K := K) rfl) (pe_fld_at (K := K) rfl (pv 0) rfl) (pv 4) (fun _ _ => rfl)))
 (pss_cons (ps_if (pt_not (pt_val (pe_call G_is_multiple hr rfl g_is_multiple k_is_multiple b_is_multiple .nil pass0 (pa_cons (pe_ix (ixl_at (K := K) rfl) (pv 1) (pv 5) (fun _ _ => rfl)) (pa_cons (pe_fld_at (K := K) rfl (pv 6) rfl) pa_nil))))) (pss_one (ps_ret pe_non)) pss_nil)
 (pss_one (ps_ret (pe_op op_mul (pe_op op_fdiv (pe_ix (ixl_at (K := K) rfl) (pv 1) (pv 5) (fun _ _ => rfl)) (pe_fld_at (K := K) rfl (pv 6) rfl)) (pe_fld_at (K := K) rfl (pv 6) rfl)))))), ?_⟩
  obtain ⟨dx, fs, PP, pr, n1, n2, n3, n4, n5, n6⟩ := N.ex
  obtain ⟨p, o, rfl⟩ := hd
  have hp : inR p ps.length := hf.1
  have ho : inR o ls.length := hf.2 o (.head _)
  obtain ⟨b, eb, dy, gs, p1, p2, p3⟩ := at_pars n6 hp
  obtain ⟨r0, r1, c0, c1⟩ := tm.par _ (pget_mem hp)
  refine ⟨_, rfl, a, _, rfl, hA, rfl, _, _, rfl, _, _, rfl, _, _, rfl, rfl, ?_⟩
  refine ⟨_, rfl, qn, _, dx, fs, _, rfl, n1, T.C_Net, T.na_Net_parameters, n4, _, rfl, PP, _, _, _, rfl, rfl, SqL.of n5, eb, ?_⟩
  refine ⟨_, rfl, _, rfl, l, _, _, _, rfl, rfl, hL, at_ints ho, ?_⟩
  refine ⟨_, rfl, b, _, dy, gs, _, rfl, p1, T.C_Parameter, T.na_Parameter_rows, p2, ?_⟩
  walk_at "go"
  by_cases hm : mult (lget ls o) (pget ps p).1
  · have e : Nd.len ni nt ps ls (.lin p o) = some (lget ls o / (pget ps p).1 * (pget ps p).2) := if_pos hm
    rw [e] at q
    refine iteNS hm ?_
    refine ⟨_, rfl, _, rfl, l, _, _, _, rfl, rfl, hL, at_ints ho, ?_⟩
    refine ⟨_, rfl, b, _, dy, gs, _, rfl, p1, T.C_Parameter, T.na_Parameter_rows, p2, _, _, rfl, rfl, ⟨hm.1, by omega⟩, ?_⟩
    refine ⟨_, rfl, b, _, dy, gs, _, rfl, p1, T.C_Parameter, T.na_Parameter_cols, p3, _, _, rfl, rfl, .inr ⟨by omega, by omega⟩, ?_⟩
    exact q
  · have e : Nd.len ni nt ps ls (.lin p o) = none := if_neg hm
    rw [e] at q
    refine iteNN hm ?_
    exact q
theorem ok__of_bias (F : Fun K "_of_bias" "_of_bias" s__of_bias f fd) (T : Txt K mg cs w) (d_is_multiple : Def P w K mg base 1 "is_multiple" ["n", "c"] (spMult)) :
    FnOk P w K mg base CX0 2 f fd ["net", "known", "node"] (spRule K cs fun d => ∃ p a, d = .bias p a) := by
  obtain ⟨f0, fd0, G_is_multiple, b_is_multiple, g_is_multiple, k_is_multiple⟩ := d_is_multiple.ex
  refine F.ok sc__of_bias (fun vs H Q E h => ?_) (fun cdv A outer s H vs Q E hr h => ?_)
  · obtain ⟨qn, l, a, ni, nt, ps, ls, d, rfl, hd, N, hL, hA, hf, tm, td, q⟩ := h
    rfl
  obtain ⟨qn, l, a, ni, nt, ps, ls, d, rfl, hd, N, hL, hA, hf, tm, td, q⟩ := h
  have hu := hr.units
  refine ⟨_, pss_cons (ps_asg (pv 2) (pg_tup rfl (pgs_cons (pg_name (i := 3) sc__of_bias.nd rfl (.inl rfl)) (pgs_cons (pg_name (i := 4) sc__of_bias.nd rfl (.inl rfl)) (pgs_cons (pg_name (i := 5) sc__of_bias.nd rfl (.inl rfl)) pgs_nil)))))
 (pss_cons (ps_set (i := 6) sc__of_bias.nd rfl (.inl rfl) (pe_ix (ixl_at (K := K) rfl) (pe_fld_at (K := K) rfl (pv 0) rfl) (pv 4) (fun _ _ => rfl)))
 (pss_cons (ps_if (PW.pt (pw_or (pt_cmpR op_ne (pe_fld_at (K := K) rfl (pv 6) rfl) pe_int (nomark _)) (pw_or1 (pt_not (pt_val (pe_call G_is_multiple hr rfl g_is_multiple k_is_multiple b_is_multiple .nil pass0 (pa_cons (pe_ix (ixl_at (K := K) rfl) (pv 1) (pv 5) (fun _ _ => rfl)) (pa_cons (pe_fld_at (K := K) rfl (pv 6) rfl) pa_nil)))))))) (pss_one (ps_ret pe_non)) pss_nil)
 (pss_one (ps_ret (pe_ix (ixl_at (K := K) rfl) (pv 1) (pv 5) (fun _ _ => rfl)))))), ?_⟩
  obtain ⟨dx, fs, PP, pr, n1, n2, n3, n4, n5, n6⟩ := N.ex
  obtain ⟨p, o, rfl⟩ := hd
  have hp : inR p ps.length := hf.1
  have ho : inR o ls.length := hf.2 o (.head _)
  obtain ⟨b, eb, dy, gs, p1, p2, p3⟩ := at_pars n6 hp
  refine ⟨_, rfl, a, _, rfl, hA, rfl, _, _, rfl, _, _, rfl, _, _, rfl, rfl, ?_⟩
  refine ⟨_, rfl, qn, _, dx, fs, _, rfl, n1, T.C_Net, T.na_Net_parameters, n4, _, rfl, PP, _, _, _, rfl, rfl, SqL.of n5, eb, ?_⟩
  refine ⟨_, rfl, b, _, dy, gs, _, rfl, p1, T.C_Parameter, T.na_Parameter_rows, p2, ?_⟩
  walk_at "go"
  by_cases h1 : (pget ps p).1 = 1
  · refine iteNS (congrArg V.int h1) ?_
    refine ⟨_, rfl, _, rfl, l, _, _, _, rfl, rfl, hL, at_ints ho, ?_⟩
    refine ⟨_, rfl, b, _, dy, gs, _, rfl, p1, T.C_Parameter, T.na_Parameter_cols, p3, ?_⟩
    walk_at "go"
    by_cases hm : mult (lget ls o) (pget ps p).2
    · have e : Nd.len ni nt ps ls (.bias p o) = some (lget ls o) := if_pos ⟨h1, hm⟩
      rw [e] at q
      refine iteNS hm ?_
      exact ⟨_, rfl, _, rfl, l, _, _, _, rfl, rfl, hL, at_ints ho, q⟩
    · have e : Nd.len ni nt ps ls (.bias p o) = none := if_neg fun z => hm z.2
      rw [e] at q
      refine iteNN hm ?_
      exact q
  · have e : Nd.len ni nt ps ls (.bias p o) = none := if_neg fun z => h1 z.1
    rw [e] at q
    refine iteNN (fun z => h1 (V.int.inj z)) ?_
    exact q
theorem ok__of_embed (F : Fun K "_of_embed" "_of_embed" s__of_embed f fd) (T : Txt K mg cs w) (d_is_inside : Def P w K mg base 1 "is_inside" ["lo", "n", "length"] (spInside)) :
    FnOk P w K mg base CX0 2 f fd ["net", "known", "node"] (spRule K cs fun d => ∃ p lo n, d = .embed p lo n) := by
  obtain ⟨f0, fd0, G_is_inside, b_is_inside, g_is_inside, k_is_inside⟩ := d_is_inside.ex
  refine F.ok sc__of_embed (fun vs H Q E h => ?_) (fun cdv A outer s H vs Q E hr h => ?_)
  · obtain ⟨qn, l, a, ni, nt, ps, ls, d, rfl, hd, N, hL, hA, hf, tm, td, q⟩ := h
    rfl
  obtain ⟨qn, l, a, ni, nt, ps, ls, d, rfl, hd, N, hL, hA, hf, tm, td, q⟩ := h
  have hu := hr.units
  refine ⟨_, pss_cons (ps_asg (pv 2) (pg_tup rfl (pgs_cons (pg_name (i := 3) sc__of_embed.nd rfl (.inl rfl)) (pgs_cons (pg_name (i := 4) sc__of_embed.nd rfl (.inl rfl)) (pgs_cons (pg_name (i := 5) sc__of_embed.nd rfl (.inl rfl)) (pgs_cons (pg_name (i := 6) sc__of_embed.nd rfl (.inl rfl)) pgs_nil))))))
 (pss_cons (ps_if (pt_not (pt_val (pe_call G_is_inside hr rfl g_is_inside k_is_inside b_is_inside .nil pass0 (pa_cons (pv 5) (pa_cons (pv 6) (pa_cons (pe_fld_at (K := K) rfl (pv 0) rfl) pa_nil)))))) (pss_one (ps_ret pe_non)) pss_nil)
 (pss_one (ps_ret (pe_op op_mul (pv 6) (pe_fld_at (K := K) rfl (pe_ix (ixl_at (K := K) rfl) (pe_fld_at (K := K) rfl (pv 0) rfl) (pv 4) (fun _ _ => rfl)) rfl))))), ?_⟩
  obtain ⟨dx, fs, PP, pr, n1, n2, n3, n4, n5, n6⟩ := N.ex
  obtain ⟨p, lo, n, rfl⟩ := hd
  have hp : inR p ps.length := hf.1
  obtain ⟨b, eb, dy, gs, p1, p2, p3⟩ := at_pars n6 hp
  obtain ⟨r0, r1, c0, c1⟩ := tm.par _ (pget_mem hp)
  refine ⟨_, rfl, a, _, rfl, hA, rfl, _, _, rfl, _, _, rfl, _, _, rfl, _, _, rfl, rfl, ?_⟩
  refine ⟨_, rfl, _, rfl, _, rfl, qn, _, dx, fs, _, rfl, n1, T.C_Net, T.na_Net_inputs, n2, ?_⟩
  walk_at "go"
  by_cases hm : inside lo n ni
  · have e : Nd.len ni nt ps ls (.embed p lo n) = some (n * (pget ps p).2) := if_pos hm
    rw [e] at q
    refine iteNS hm ?_
    refine ⟨_, rfl, _, rfl, qn, _, dx, fs, _, rfl, n1, T.C_Net, T.na_Net_parameters, n4, _, rfl, PP, _, _, _, rfl, rfl, SqL.of n5, eb, ?_⟩
    refine ⟨b, _, dy, gs, _, rfl, p1, T.C_Parameter, T.na_Parameter_cols, p3, _, _, rfl, rfl, .inr ⟨by omega, by omega⟩, ?_⟩
    exact q
  · have e : Nd.len ni nt ps ls (.embed p lo n) = none := if_neg hm
    rw [e] at q
    refine iteNN hm ?_
    exact q
theorem ok__of_mat (F : Fun K "_of_mat" "_of_mat" s__of_mat f fd) (T : Txt K mg cs w) (d_is_multiple : Def P w K mg base 1 "is_multiple" ["n", "c"] (spMult)) :
    FnOk P w K mg base CX0 2 f fd ["net", "known", "node"] (spRule K cs fun d => ∃ k a b, d = .mat k a b ∨ d = .matT k a b) := by
  obtain ⟨f0, fd0, G_is_multiple, b_is_multiple, g_is_multiple, k_is_multiple⟩ := d_is_multiple.ex
  refine F.ok sc__of_mat (fun vs H Q E h => ?_) (fun cdv A outer s H vs Q E hr h => ?_)
  · obtain ⟨qn, l, a, ni, nt, ps, ls, d, rfl, hd, N, hL, hA, hf, tm, td, q⟩ := h
    rfl
  obtain ⟨qn, l, a, ni, nt, ps, ls, d, rfl, hd, N, hL, hA, hf, tm, td, q⟩ := h
  have hu := hr.units
  refine ⟨_, pss_cons (ps_asg (pv 2) (pg_tup rfl (pgs_cons (pg_name (i := 3) sc__of_mat.nd rfl (.inl rfl)) (pgs_cons (pg_name (i := 4) sc__of_mat.nd rfl (.inl rfl)) (pgs_cons (pg_name (i := 5) sc__of_mat.nd rfl (.inl rfl)) (pgs_cons (pg_name (i := 6) sc__of_mat.nd rfl (.inl rfl)) pgs_nil))))))
 (pss_cons (ps_if (PW.pt (pw_or (pt_not (pt_val (pe_call G_is_multiple hr rfl g_is_multiple k_is_multiple b_is_multiple .nil pass0 (pa_cons (pe_ix (ixl_at (K := K) rfl) (pv 1) (pv 5) (fun _ _ => rfl)) (pa_cons (pv 4) pa_nil))))) (pw_or1 (pt_not (pt_val (pe_call G_is_multiple hr rfl g_is_multiple k_is_multiple b_is_multiple .nil pass0 (pa_cons (pe_ix (ixl_at (K := K) rfl) (pv 1) (pv 6) (fun _ _ => rfl)) (pa_cons (pv 4) pa_nil)))))))) (pss_one (ps_ret pe_non)) pss_nil)
 (pss_one (ps_ret (pe_op op_mulW (pe_op op_fdiv (pe_ix (ixl_at (K := K) rfl) (pv 1) (pv 5) (fun _ _ => rfl)) (pv 4)) (pe_op op_fdiv (pe_ix (ixl_at (K := K) rfl) (pv 1) (pv 6) (fun _ _ => rfl)) (pv 4)))))), ?_⟩
  obtain ⟨k, o, u, hd'⟩ := hd
  have hn : d.nums = [k, o, u] := by rcases hd' with rfl | rfl <;> rfl
  have ho : inR o ls.length := by rcases hd' with rfl | rfl <;> exact hf.2 o (.head _)
  have hu' : inR u ls.length := by rcases hd' with rfl | rfl <;> exact hf.2 u (.tail _ (.head _))
  have hk : k < 1000000 := by rcases hd' with rfl | rfl <;> exact td
  have e : d.len ni nt ps ls = (if mult (lget ls o) k ∧ mult (lget ls u) k then some (lget ls o / k * (lget ls u / k)) else none) := by rcases hd' with rfl | rfl <;> rfl
  have hA' : SqT K H a (.str d.kind :: [k, o, u].map V.int) := hn ▸ hA
  obtain ⟨o0, o1⟩ := tm.len _ (lget_mem ho)
  obtain ⟨u0, u1⟩ := tm.len _ (lget_mem hu')
  refine ⟨_, rfl, a, _, rfl, hA', rfl, _, _, rfl, _, _, rfl, _, _, rfl, _, _, rfl, rfl, ?_⟩
  refine ⟨_, rfl, _, rfl, l, _, _, _, rfl, rfl, hL, at_ints ho, ?_⟩
  walk_at "go"
  by_cases h1 : mult (lget ls o) k
  · refine iteNS h1 ?_
    refine ⟨_, rfl, _, rfl, l, _, _, _, rfl, rfl, hL, at_ints hu', ?_⟩
    walk_at "go"
    by_cases h2 : mult (lget ls u) k
    · rw [e, if_pos ⟨h1, h2⟩] at q
      obtain ⟨b0, b1⟩ := ediv_bd o0 o1 h1.1
      refine iteNS h2 ?_
      refine ⟨_, rfl, _, rfl, l, _, _, _, rfl, rfl, hL, at_ints ho, _, rfl, _, _, rfl, rfl, ⟨h1.1, by omega⟩, ?_⟩
      refine ⟨_, rfl, _, rfl, l, _, _, _, rfl, rfl, hL, at_ints hu', _, rfl, _, _, rfl, rfl, ⟨h1.1, by omega⟩, ?_⟩
      refine ⟨_, _, rfl, rfl, cap_mul b1 (ediv_bd u0 u1 h2.1).2, ?_⟩
      exact q
    · rw [e, if_neg fun z => h2 z.2] at q
      refine iteNN h2 ?_
      exact q
  · rw [e, if_neg fun z => h1 z.1] at q
    refine iteNN h1 ?_
    exact q
theorem ok__of_lower (F : Fun K "_of_lower" "_of_lower" s__of_lower f fd) (T : Txt K mg cs w) (d_is_multiple : Def P w K mg base 1 "is_multiple" ["n", "c"] (spMult)) :
    FnOk P w K mg base CX0 2 f fd ["net", "known", "node"] (spRule K cs fun d => ∃ c a, d = .lower c a) := by
  obtain ⟨f0, fd0, G_is_multiple, b_is_multiple, g_is_multiple, k_is_multiple⟩ := d_is_multiple.ex
  refine F.ok sc__of_lower (fun vs H Q E h => ?_) (fun cdv A outer s H vs Q E hr h => ?_)
  · obtain ⟨qn, l, a, ni, nt, ps, ls, d, rfl, hd, N, hL, hA, hf, tm, td, q⟩ := h
    rfl
  obtain ⟨qn, l, a, ni, nt, ps, ls, d, rfl, hd, N, hL, hA, hf, tm, td, q⟩ := h
  have hu := hr.units
  refine ⟨_, pss_cons (ps_asg (pv 2) (pg_tup rfl (pgs_cons (pg_name (i := 3) sc__of_lower.nd rfl (.inl rfl)) (pgs_cons (pg_name (i := 4) sc__of_lower.nd rfl (.inl rfl)) (pgs_cons (pg_name (i := 5) sc__of_lower.nd rfl (.inl rfl)) pgs_nil)))))
 (pss_one (ps_ret (pe_ifExp (pt_val (pe_call G_is_multiple hr rfl g_is_multiple k_is_multiple b_is_multiple .nil pass0 (pa_cons (pe_ix (ixl_at (K := K) rfl) (pv 1) (pv 5) (fun _ _ => rfl)) (pa_cons (pv 4) pa_nil)))) (pe_ix (ixl_at (K := K) rfl) (pv 1) (pv 5) (fun _ _ => rfl)) pe_non))), ?_⟩
  obtain ⟨c, o, rfl⟩ := hd
  have ho : inR o ls.length := hf.2 o (.head _)
  refine ⟨_, rfl, a, _, rfl, hA, rfl, _, _, rfl, _, _, rfl, _, _, rfl, rfl, ?_⟩
  refine ⟨_, rfl, _, rfl, l, _, _, _, rfl, rfl, hL, at_ints ho, ?_⟩
  walk_at "go"
  by_cases hm : mult (lget ls o) c
  · have e : Nd.len ni nt ps ls (.lower c o) = some (lget ls o) := if_pos hm
    rw [e] at q
    refine iteD hm ?_
    exact ⟨_, rfl, _, rfl, l, _, _, _, rfl, rfl, hL, at_ints ho, q⟩
  · have e : Nd.len ni nt ps ls (.lower c o) = none := if_neg hm
    rw [e] at q
    refine iteDN hm ?_
    exact q
theorem ok__of_pair (F : Fun K "_of_pair" "_of_pair" s__of_pair f fd) (T : Txt K mg cs w)  :
    FnOk P w K mg base CX0 1 f fd ["net", "known", "node"] (spRule K cs fun d => ∃ a b, d = .add a b ∨ d = .sub a b ∨ d = .mul a b) := by
  refine F.ok sc__of_pair (fun vs H Q E h => ?_) (fun cdv A outer s H vs Q E hr h => ?_)
  · obtain ⟨qn, l, a, ni, nt, ps, ls, d, rfl, hd, N, hL, hA, hf, tm, td, q⟩ := h
    rfl
  obtain ⟨qn, l, a, ni, nt, ps, ls, d, rfl, hd, N, hL, hA, hf, tm, td, q⟩ := h
  have hu := hr.units
  refine ⟨_, pss_cons (ps_asg (pv 2) (pg_tup rfl (pgs_cons (pg_name (i := 3) sc__of_pair.nd rfl (.inl rfl)) (pgs_cons (pg_name (i := 4) sc__of_pair.nd rfl (.inl rfl)) (pgs_cons (pg_name (i := 5) sc__of_pair.nd rfl (.inl rfl)) pgs_nil)))))
 (pss_one (ps_ret (pe_ifExp (pt_cmpR op_eq (pe_ix (ixl_at (K := K) rfl) (pv 1) (pv 4) (fun _ _ => rfl)) (pe_ix (ixl_at (K := K) rfl) (pv 1) (pv 5) (fun _ _ => rfl)) (nomark _)) (pe_ix (ixl_at (K := K) rfl) (pv 1) (pv 4) (fun _ _ => rfl)) pe_non))), ?_⟩
  obtain ⟨o, u, hd'⟩ := hd
  have hn : d.nums = [o, u] := by rcases hd' with rfl | rfl | rfl <;> rfl
  have ho : inR o ls.length := by rcases hd' with rfl | rfl | rfl <;> exact hf.2 o (.head _)
  have hu' : inR u ls.length := by rcases hd' with rfl | rfl | rfl <;> exact hf.2 u (.tail _ (.head _))
  have e : d.len ni nt ps ls = (if lget ls o = lget ls u then some (lget ls o) else none) := by rcases hd' with rfl | rfl | rfl <;> rfl
  have hA' : SqT K H a (.str d.kind :: [o, u].map V.int) := hn ▸ hA
  refine ⟨_, rfl, a, _, rfl, hA', rfl, _, _, rfl, _, _, rfl, _, _, rfl, rfl, ?_⟩
  refine ⟨_, rfl, _, rfl, l, _, _, _, rfl, rfl, hL, at_ints ho, ?_⟩
  refine ⟨_, rfl, _, rfl, l, _, _, _, rfl, rfl, hL, at_ints hu', ?_⟩
  walk_at "go"
  by_cases hm : lget ls o = lget ls u
  · rw [e, if_pos hm] at q
    refine iteD (congrArg V.int hm) ?_
    exact ⟨_, rfl, _, rfl, l, _, _, _, rfl, rfl, hL, at_ints ho, q⟩
  · rw [e, if_neg hm] at q
    refine iteDN (fun z => hm (V.int.inj z)) ?_
    exact q
theorem ok__of_scale (F : Fun K "_of_scale" "_of_scale" s__of_scale f fd) (T : Txt K mg cs w) (d_is_word : Def P w K mg base 1 "is_word" ["n"] (spIsWord)) :
    FnOk P w K mg base CX0 2 f fd ["net", "known", "node"] (spRule K cs fun d => ∃ w a, d = .scale w a) := by
  obtain ⟨f0, fd0, G_is_word, b_is_word, g_is_word, k_is_word⟩ := d_is_word.ex
  refine F.ok sc__of_scale (fun vs H Q E h => ?_) (fun cdv A outer s H vs Q E hr h => ?_)
  · obtain ⟨qn, l, a, ni, nt, ps, ls, d, rfl, hd, N, hL, hA, hf, tm, td, q⟩ := h
    rfl
  obtain ⟨qn, l, a, ni, nt, ps, ls, d, rfl, hd, N, hL, hA, hf, tm, td, q⟩ := h
  have hu := hr.units
  refine ⟨_, pss_cons (ps_asg (pv 2) (pg_tup rfl (pgs_cons (pg_name (i := 3) sc__of_scale.nd rfl (.inl rfl)) (pgs_cons (pg_name (i := 4) sc__of_scale.nd rfl (.inl rfl)) (pgs_cons (pg_name (i := 5) sc__of_scale.nd rfl (.inl rfl)) pgs_nil)))))
 (pss_one (ps_ret (pe_ifExp (pt_val (pe_call G_is_word hr rfl g_is_word k_is_word b_is_word .nil pass0 (pa_cons (pv 4) pa_nil))) (pe_ix (ixl_at (K := K) rfl) (pv 1) (pv 5) (fun _ _ => rfl)) pe_non))), ?_⟩
  obtain ⟨c, o, rfl⟩ := hd
  have ho : inR o ls.length := hf.2 o (.head _)
  refine ⟨_, rfl, a, _, rfl, hA, rfl, _, _, rfl, _, _, rfl, _, _, rfl, rfl, ?_⟩
  walk_at "go"
  by_cases hm : -2147483648 ≤ c ∧ c ≤ 2147483647
  · have e : Nd.len ni nt ps ls (.scale c o) = some (lget ls o) := if_pos hm
    rw [e] at q
    refine iteD hm ?_
    exact ⟨_, rfl, _, rfl, l, _, _, _, rfl, rfl, hL, at_ints ho, q⟩
  · have e : Nd.len ni nt ps ls (.scale c o) = none := if_neg hm
    rw [e] at q
    refine iteDN hm ?_
    exact q
theorem ok__of_shift (F : Fun K "_of_shift" "_of_shift" s__of_shift f fd) (T : Txt K mg cs w)  :
    FnOk P w K mg base CX0 1 f fd ["net", "known", "node"] (spRule K cs fun d => ∃ k a, d = .shift k a) := by
  obtain ⟨_, g_MOST_SHIFT⟩ := T.g_MOST_SHIFT
  refine F.ok sc__of_shift (fun vs H Q E h => ?_) (fun cdv A outer s H vs Q E hr h => ?_)
  · obtain ⟨qn, l, a, ni, nt, ps, ls, d, rfl, hd, N, hL, hA, hf, tm, td, q⟩ := h
    rfl
  obtain ⟨qn, l, a, ni, nt, ps, ls, d, rfl, hd, N, hL, hA, hf, tm, td, q⟩ := h
  have hu := hr.units
  refine ⟨_, pss_cons (ps_asg (pv 2) (pg_tup rfl (pgs_cons (pg_name (i := 3) sc__of_shift.nd rfl (.inl rfl)) (pgs_cons (pg_name (i := 4) sc__of_shift.nd rfl (.inl rfl)) (pgs_cons (pg_name (i := 5) sc__of_shift.nd rfl (.inl rfl)) pgs_nil)))))
 (pss_one (ps_ret (pe_ifExp (pt_chain op_le op_le pe_int (pv 4) (pe_glob (v := .int (31)) rfl g_MOST_SHIFT ⟨_, rfl⟩)) (pe_ix (ixl_at (K := K) rfl) (pv 1) (pv 5) (fun _ _ => rfl)) pe_non))), ?_⟩
  obtain ⟨c, o, rfl⟩ := hd
  have ho : inR o ls.length := hf.2 o (.head _)
  refine ⟨_, rfl, a, _, rfl, hA, rfl, _, _, rfl, _, _, rfl, _, _, rfl, rfl, ?_⟩
  walk_at "go"
  by_cases h1 : 0 ≤ c
  · refine iteD h1 ?_
    walk_at "go"
    by_cases h2 : c ≤ 31
    · have e : Nd.len ni nt ps ls (.shift c o) = some (lget ls o) := if_pos ⟨h1, h2⟩
      rw [e] at q
      refine iteD h2 ?_
      exact ⟨_, rfl, _, rfl, l, _, _, _, rfl, rfl, hL, at_ints ho, q⟩
    · have e : Nd.len ni nt ps ls (.shift c o) = none := if_neg fun z => h2 z.2
      rw [e] at q
      refine iteDN h2 ?_
      exact q
  · have e : Nd.len ni nt ps ls (.shift c o) = none := if_neg fun z => h1 z.1
    rw [e] at q
    refine iteDN h1 ?_
    walk_at "go"
    exact q
theorem ok__of_relu (F : Fun K "_of_relu" "_of_relu" s__of_relu f fd) (T : Txt K mg cs w)  :
    FnOk P w K mg base CX0 1 f fd ["net", "known", "node"] (spRule K cs fun d => ∃ a, d = .relu a) := by
  refine F.ok sc__of_relu (fun vs H Q E h => ?_) (fun cdv A outer s H vs Q E hr h => ?_)
  · obtain ⟨qn, l, a, ni, nt, ps, ls, d, rfl, hd, N, hL, hA, hf, tm, td, q⟩ := h
    rfl
  obtain ⟨qn, l, a, ni, nt, ps, ls, d, rfl, hd, N, hL, hA, hf, tm, td, q⟩ := h
  have hu := hr.units
  refine ⟨_, pss_one (ps_ret (pe_ix (ixl_at (K := K) rfl) (pv 1) (pe_ix (ixt_at (K := K) rfl) (pv 2) pe_int (fun _ _ => rfl)) (fun _ _ => rfl))), ?_⟩
  obtain ⟨o, rfl⟩ := hd
  have ho : inR o ls.length := hf.2 o (.head _)
  exact ⟨_, rfl, _, rfl, a, _, _, _, rfl, rfl, hA, rfl, l, _, _, _, rfl, rfl, hL, at_ints ho, q⟩
theorem ok__of_drop (F : Fun K "_of_drop" "_of_drop" s__of_drop f fd) (T : Txt K mg cs w)  :
    FnOk P w K mg base CX0 1 f fd ["net", "known", "node"] (spRule K cs fun d => ∃ m a, d = .drop m a) := by
  obtain ⟨_, g_LEAST_DIVISOR⟩ := T.g_LEAST_DIVISOR
  obtain ⟨_, g_GREATEST_NUMBER⟩ := T.g_GREATEST_NUMBER
  refine F.ok sc__of_drop (fun vs H Q E h => ?_) (fun cdv A outer s H vs Q E hr h => ?_)
  · obtain ⟨qn, l, a, ni, nt, ps, ls, d, rfl, hd, N, hL, hA, hf, tm, td, q⟩ := h
    rfl
  obtain ⟨qn, l, a, ni, nt, ps, ls, d, rfl, hd, N, hL, hA, hf, tm, td, q⟩ := h
  have hu := hr.units
  refine ⟨_, pss_cons (ps_asg (pv 2) (pg_tup rfl (pgs_cons (pg_name (i := 3) sc__of_drop.nd rfl (.inl rfl)) (pgs_cons (pg_name (i := 4) sc__of_drop.nd rfl (.inl rfl)) (pgs_cons (pg_name (i := 5) sc__of_drop.nd rfl (.inl rfl)) pgs_nil)))))
 (pss_one (ps_ret (pe_ifExp (pt_chain op_le op_le (pe_glob (v := .int (2)) rfl g_LEAST_DIVISOR ⟨_, rfl⟩) (pv 4) (pe_glob (v := .int (4294967295)) rfl g_GREATEST_NUMBER ⟨_, rfl⟩)) (pe_ix (ixl_at (K := K) rfl) (pv 1) (pv 5) (fun _ _ => rfl)) pe_non))), ?_⟩
  obtain ⟨c, o, rfl⟩ := hd
  have ho : inR o ls.length := hf.2 o (.head _)
  refine ⟨_, rfl, a, _, rfl, hA, rfl, _, _, rfl, _, _, rfl, _, _, rfl, rfl, ?_⟩
  walk_at "go"
  by_cases h1 : 2 ≤ c
  · refine iteD h1 ?_
    walk_at "go"
    by_cases h2 : c ≤ 4294967295
    · have e : Nd.len ni nt ps ls (.drop c o) = some (lget ls o) := if_pos ⟨h1, h2⟩
      rw [e] at q
      refine iteD h2 ?_
      exact ⟨_, rfl, _, rfl, l, _, _, _, rfl, rfl, hL, at_ints ho, q⟩
    · have e : Nd.len ni nt ps ls (.drop c o) = none := if_neg fun z => h2 z.2
      rw [e] at q
      refine iteDN h2 ?_
      exact q
  · have e : Nd.len ni nt ps ls (.drop c o) = none := if_neg fun z => h1 z.1
    rw [e] at q
    refine iteDN h1 ?_
    walk_at "go"
    exact q
theorem ok__of_sum (F : Fun K "_of_sum" "_of_sum" s__of_sum f fd) (T : Txt K mg cs w)  :
    FnOk P w K mg base CX0 1 f fd ["net", "known", "node"] (spRule K cs fun d => ∃ a, d = .sum a) := by
  refine F.ok sc__of_sum (fun vs H Q E h => ?_) (fun cdv A outer s H vs Q E hr h => ?_)
  · obtain ⟨qn, l, a, ni, nt, ps, ls, d, rfl, hd, N, hL, hA, hf, tm, td, q⟩ := h
    rfl
  obtain ⟨qn, l, a, ni, nt, ps, ls, d, rfl, hd, N, hL, hA, hf, tm, td, q⟩ := h
  have hu := hr.units
  refine ⟨_, pss_one (ps_ret pe_int), ?_⟩
  obtain ⟨o, rfl⟩ := hd
  exact q
theorem ok__of_join (F : Fun K "_of_join" "_of_join" s__of_join f fd) (T : Txt K mg cs w)  :
    FnOk P w K mg base CX0 1 f fd ["net", "known", "node"] (spRule K cs fun d => ∃ a b, d = .join a b) := by
  refine F.ok sc__of_join (fun vs H Q E h => ?_) (fun cdv A outer s H vs Q E hr h => ?_)
  · obtain ⟨qn, l, a, ni, nt, ps, ls, d, rfl, hd, N, hL, hA, hf, tm, td, q⟩ := h
    rfl
  obtain ⟨qn, l, a, ni, nt, ps, ls, d, rfl, hd, N, hL, hA, hf, tm, td, q⟩ := h
  have hu := hr.units
  refine ⟨_, pss_cons (ps_asg (pv 2) (pg_tup rfl (pgs_cons (pg_name (i := 3) sc__of_join.nd rfl (.inl rfl)) (pgs_cons (pg_name (i := 4) sc__of_join.nd rfl (.inl rfl)) (pgs_cons (pg_name (i := 5) sc__of_join.nd rfl (.inl rfl)) pgs_nil)))))
 (pss_one (ps_ret (pe_op op_add (pe_ix (ixl_at (K := K) rfl) (pv 1) (pv 4) (fun _ _ => rfl)) (pe_ix (ixl_at (K := K) rfl) (pv 1) (pv 5) (fun _ _ => rfl))))), ?_⟩
  obtain ⟨o, u, rfl⟩ := hd
  have ho : inR o ls.length := hf.2 o (.head _)
  have hu' : inR u ls.length := hf.2 u (.tail _ (.head _))
  refine ⟨_, rfl, a, _, rfl, hA, rfl, _, _, rfl, _, _, rfl, _, _, rfl, rfl, ?_⟩
  exact ⟨_, rfl, _, rfl, l, _, _, _, rfl, rfl, hL, at_ints ho, _, rfl, _, rfl, l, _, _, _, rfl, rfl, hL, at_ints hu', _, _, rfl, rfl, q⟩
theorem ok__of_take (F : Fun K "_of_take" "_of_take" s__of_take f fd) (T : Txt K mg cs w) (d_is_inside : Def P w K mg base 1 "is_inside" ["lo", "n", "length"] (spInside)) :
    FnOk P w K mg base CX0 2 f fd ["net", "known", "node"] (spRule K cs fun d => ∃ lo n a, d = .take lo n a) := by
  obtain ⟨f0, fd0, G_is_inside, b_is_inside, g_is_inside, k_is_inside⟩ := d_is_inside.ex
  refine F.ok sc__of_take (fun vs H Q E h => ?_) (fun cdv A outer s H vs Q E hr h => ?_)
  · obtain ⟨qn, l, a, ni, nt, ps, ls, d, rfl, hd, N, hL, hA, hf, tm, td, q⟩ := h
    rfl
  obtain ⟨qn, l, a, ni, nt, ps, ls, d, rfl, hd, N, hL, hA, hf, tm, td, q⟩ := h
  have hu := hr.units
  refine ⟨_, pss_cons (ps_asg (pv 2) (pg_tup rfl (pgs_cons (pg_name (i := 3) sc__of_take.nd rfl (.inl rfl)) (pgs_cons (pg_name (i := 4) sc__of_take.nd rfl (.inl rfl)) (pgs_cons (pg_name (i := 5) sc__of_take.nd rfl (.inl rfl)) (pgs_cons (pg_name (i := 6) sc__of_take.nd rfl (.inl rfl)) pgs_nil))))))
 (pss_one (ps_ret (pe_ifExp (pt_val (pe_call G_is_inside hr rfl g_is_inside k_is_inside b_is_inside .nil pass0 (pa_cons (pv 4) (pa_cons (pv 5) (pa_cons (pe_ix (ixl_at (K := K) rfl) (pv 1) (pv 6) (fun _ _ => rfl)) pa_nil))))) (pv 5) pe_non))), ?_⟩
  obtain ⟨lo, n, o, rfl⟩ := hd
  have ho : inR o ls.length := hf.2 o (.head _)
  refine ⟨_, rfl, a, _, rfl, hA, rfl, _, _, rfl, _, _, rfl, _, _, rfl, _, _, rfl, rfl, ?_⟩
  refine ⟨_, rfl, _, rfl, _, rfl, _, rfl, l, _, _, _, rfl, rfl, hL, at_ints ho, ?_⟩
  walk_at "go"
  by_cases hm : inside lo n (lget ls o)
  · have e : Nd.len ni nt ps ls (.take lo n o) = some n := if_pos hm
    rw [e] at q
    refine iteD hm ?_
    exact ⟨_, rfl, q⟩
  · have e : Nd.len ni nt ps ls (.take lo n o) = none := if_neg hm
    rw [e] at q
    refine iteDN hm ?_
    exact q
theorem places_of (T : Txt K mg cs w) (d : Nd) : ∃ t, PySem.W.nsIn K cs.OPERAND_PLACES d.kind = some (some (.ref t)) ∧ KTup K t (d.places.map V.int) := match d with
  | .input => T.e_OPERAND_PLACES_input
  | .target => T.e_OPERAND_PLACES_target
  | .lin _ _ => T.e_OPERAND_PLACES_lin
  | .bias _ _ => T.e_OPERAND_PLACES_bias
  | .embed _ _ _ => T.e_OPERAND_PLACES_embed
  | .mat _ _ _ => T.e_OPERAND_PLACES_mat
  | .matT _ _ _ => T.e_OPERAND_PLACES_matT
  | .lower _ _ => T.e_OPERAND_PLACES_lower
  | .add _ _ => T.e_OPERAND_PLACES_add
  | .sub _ _ => T.e_OPERAND_PLACES_sub
  | .mul _ _ => T.e_OPERAND_PLACES_mul
  | .scale _ _ => T.e_OPERAND_PLACES_scale
  | .shift _ _ => T.e_OPERAND_PLACES_shift
  | .relu _ => T.e_OPERAND_PLACES_relu
  | .drop _ _ => T.e_OPERAND_PLACES_drop
  | .sum _ => T.e_OPERAND_PLACES_sum
  | .join _ _ => T.e_OPERAND_PLACES_join
  | .take _ _ _ => T.e_OPERAND_PLACES_take
theorem Nd.at0 (d : Nd) : atI d.enc 0 = some (.str d.kind) := atI_nat (j := 0) rfl
theorem Nd.at1 (d : Nd) {p : Int} (h : d.par = some p) : atI d.enc 1 = some (.int p) := by
  cases d <;> first | (cases h; done) | (injection h with h; subst h; rfl)
theorem Nd.par_in (d : Nd) : inV (.str d.kind) [.str "lin", .str "bias", .str "embed"] = d.par.isSome := match d with
  | .input => (by decide : inV (.str "input") [.str "lin", .str "bias", .str "embed"] = false)
  | .target => (by decide : inV (.str "target") [.str "lin", .str "bias", .str "embed"] = false)
  | .lin _ _ => (by decide : inV (.str "lin") [.str "lin", .str "bias", .str "embed"] = true)
  | .bias _ _ => (by decide : inV (.str "bias") [.str "lin", .str "bias", .str "embed"] = true)
  | .embed _ _ _ => (by decide : inV (.str "embed") [.str "lin", .str "bias", .str "embed"] = true)
  | .mat _ _ _ => (by decide : inV (.str "mat") [.str "lin", .str "bias", .str "embed"] = false)
  | .matT _ _ _ => (by decide : inV (.str "matT") [.str "lin", .str "bias", .str "embed"] = false)
  | .lower _ _ => (by decide : inV (.str "lower") [.str "lin", .str "bias", .str "embed"] = false)
  | .add _ _ => (by decide : inV (.str "add") [.str "lin", .str "bias", .str "embed"] = false)
  | .sub _ _ => (by decide : inV (.str "sub") [.str "lin", .str "bias", .str "embed"] = false)
  | .mul _ _ => (by decide : inV (.str "mul") [.str "lin", .str "bias", .str "embed"] = false)
  | .scale _ _ => (by decide : inV (.str "scale") [.str "lin", .str "bias", .str "embed"] = false)
  | .shift _ _ => (by decide : inV (.str "shift") [.str "lin", .str "bias", .str "embed"] = false)
  | .relu _ => (by decide : inV (.str "relu") [.str "lin", .str "bias", .str "embed"] = false)
  | .drop _ _ => (by decide : inV (.str "drop") [.str "lin", .str "bias", .str "embed"] = false)
  | .sum _ => (by decide : inV (.str "sum") [.str "lin", .str "bias", .str "embed"] = false)
  | .join _ _ => (by decide : inV (.str "join") [.str "lin", .str "bias", .str "embed"] = false)
  | .take _ _ _ => (by decide : inV (.str "take") [.str "lin", .str "bias", .str "embed"] = false)
theorem ok__names_exist (F : Fun K "_names_exist" "_names_exist" s__names_exist f fd) (T : Txt K mg cs w)  :
    FnOk P w K mg base CX0 1 f fd ["net", "known", "node"] (spNames K cs) := by
  obtain ⟨_, _, kd_OPERAND_PLACES⟩ := T.d_OPERAND_PLACES
  refine F.ok sc__names_exist (fun vs H Q E h => ?_) (fun cdv A outer s H vs Q E hr h => ?_)
  · obtain ⟨qn, l, a, ni, nt, ps, ls, d, rfl, N, hL, hA, q⟩ := h
    rfl
  obtain ⟨qn, l, a, ni, nt, ps, ls, d, rfl, N, hL, hA, q⟩ := h
  have hu := hr.units
  refine ⟨_, pss_cons (ps_set (i := 3) sc__names_exist.nd rfl (.inl rfl) (pe_ix (ixt_at (K := K) rfl) (pv 2) pe_int (fun _ _ => rfl)))
 (pss_cons (ps_if (pt_cmpR (op_notIn_kd kd_OPERAND_PLACES) (pv 3) (pe_glob (v := .ref cs.OPERAND_PLACES) rfl T.g_OPERAND_PLACES rfl) (by with_unfolding_all rfl)) (pss_one (ps_ret pe_bl)) pss_nil)
 (pss_cons (ps_if (PW.pt (pw_and (pt_cmpR op_in_seq (pv 3) (pe_glob (v := .ref cs.WITH_PARAMETER) rfl T.g_WITH_PARAMETER rfl) (by with_unfolding_all rfl)) (pw_and1 (pt_not (pt_chain op_le op_lt pe_int (pe_ix (ixt_at (K := K) rfl) (pv 2) pe_int (fun _ _ => rfl)) (pe_callB (len_at (K := K) rfl) (by rfl) T.z_len PySem.boot_len (pa_cons (pe_fld_at (K := K) rfl (pv 0) rfl) pa_nil))))))) (pss_one (ps_ret pe_bl)) pss_nil)
 (pss_one (ps_ret (pe_callB (all_at (K := K) rfl) (by rfl) T.z_all PyProof.Rows.boot_all (pa_cons (pe_lc (own := [("at", 4)]) (g := gName 4) (tt := tYes)  rfl sc__names_exist.nd (pi_tup (pe_ix ix_kdict (pe_glob (v := .ref cs.OPERAND_PLACES) rfl T.g_OPERAND_PLACES rfl) (pv 3) (fun _ _ => rfl))) (blkOk_by (N := ["net", "known", "node", "kind", "at"]) (sc := defScope s__names_exist) (by decide +kernel)) (fun _ _ _ _ _ => (pg_name (i := 4) sc__names_exist.nd rfl (.inl rfl))) (fun _ _ _ _ _ => pts_nil) (fun _ _ _ _ _ => (pe_chain op_le op_lt pe_int (pe_ix (ixt_at (K := K) rfl) (pv 2) (pv 4) (fun _ _ => rfl)) (pe_callB (len_at (K := K) rfl) (by rfl) T.z_len PySem.boot_len (pa_cons (pv 1) pa_nil))))) pa_nil)))))), ?_⟩
  obtain ⟨dx, fs, PP, pr, n1, n2, n3, n4, n5, n6⟩ := N.ex
  obtain ⟨tp, etp, ktp⟩ := places_of T d
  have lp : pr.length = ps.length := n6.length
  refine ⟨_, rfl, a, _, _, _, rfl, rfl, hA, d.at0, ?_⟩
  refine ⟨_, rfl, _, _, rfl, rfl, etp, _, rfl, ?_⟩
  refine ⟨_, rfl, cs.WITH_PARAMETER, _, rfl, .inr (T.t_WITH_PARAMETER.sq H), rfl, rfl, _, rfl, ?_⟩
  have fin : ∀ H', Same H H' → Q (.bl (decide (parIn d.par ps.length) && decide (∀ o ∈ d.ops, inR o ls.length))) H' := fun H' e => by
    have z : decide (d.fits ps.length ls.length) = (decide (parIn d.par ps.length) && decide (∀ o ∈ d.ops, inR o ls.length)) := by
      unfold Nd.fits
      exact Bool.decide_and ..
    rw [← z]
    exact q H' e
  have ep := d.par_in
  rw [if_neg Bool.false_ne_true, ep]
  have lq : (((pr.map V.ref).length : Nat) : Int) = (ps.length : Int) := by rw [List.length_map, lp]
  by_cases hq : parIn d.par ps.length
  · rw [decide_eq_true hq, Bool.true_and] at fin
    (rcases hp : d.par with _ | p) <;> (first
      | (refine iteF ?_)
      | (rw [hp] at hq
         refine iteT ?_
         refine ⟨_, rfl, a, _, _, _, rfl, rfl, hA, d.at1 hp, _, _, rfl, rfl, _, rfl, ?_⟩
         refine iteD hq.1 ?_
         refine ⟨_, rfl, qn, _, dx, fs, _, rfl, n1, T.C_Net, T.na_Net_parameters, n4, PP, _, rfl, .inl (SqL.of n5), _, _, rfl, rfl, _, rfl, ?_⟩
         refine iteNS (show p < (((pr.map V.ref).length : Nat) : Int) by rw [lq]; exact hq.2) ?_)) <;>
    (refine ⟨_, rfl, cs.OPERAND_PLACES, d.kind, .ref tp, rfl, rfl, ⟨_, _, _, kd_OPERAND_PLACES.at_, kd_OPERAND_PLACES.lit, etp, rfl⟩, tp, rfl, ⟨_, ktp.sq H⟩, fun D nD => ?_⟩
     refine lc_tup (xs := d.places.map V.int) (fun (i : Nat) H' => But D H H' ∧ H' D = some (.lst (((d.ops.take i).map fun o => decide (inR o ls.length)).map V.bl))) ⟨.of (same_new nD _), upd_same⟩ (fun i H' _ _ => ktp.sq H') (fun i x H' hx hP => ?_) (fun H' hP => ?_)
     · obtain ⟨eD, hD⟩ := hP
       obtain ⟨z, rfl, hz⟩ := map_get hx
       obtain ⟨o, ho, eo⟩ := d.place_op i z hz
       have hA' : SqT K H' a d.enc := eD.seqT nD hA
       have hL' : SqL K H' l (ls.map V.int) := eD.seqL nD hL
       have push : ∀ bl, bl = decide (inR o ls.length) → ∃ acc, H' D = some (.lst acc) ∧ acc.length < sizeLine ∧ (But D H (upd H' D (.lst (acc ++ [V.bl bl]))) ∧ (upd H' D (.lst (acc ++ [V.bl bl]))) D = some (.lst (((d.ops.take (i + 1)).map fun o => decide (inR o ls.length)).map V.bl))) := fun bl eb => by
         refine ⟨_, hD, ?_, eD.mut' nD, ?_⟩
         · have h1 := d.len_ops
           have h2 : d.places.length ≤ 2 := by cases d <;> simp [Nd.places]
           exact smaller (by rw [List.length_map, List.length_map, List.length_take]; omega)
         · rw [upd_same, List.take_add_one, ho, List.map_append, List.map_append, eb]
           rfl
       refine ⟨rfl, ?_⟩
       refine ⟨_, rfl, _, rfl, a, _, _, _, rfl, rfl, hA', eo, _, _, rfl, rfl, _, rfl, ?_⟩
       refine ite2 (fun c1 => ?_) (fun c1 => ?_)
       · have c1' : 0 ≤ o := of_decide_eq_true c1
         refine ⟨_, rfl, l, _, rfl, .inl hL', _, _, rfl, rfl, ?_⟩
         refine push _ (decide_eq_decide.mpr ⟨fun c2 => ⟨c1', by rw [List.length_map] at c2; exact c2⟩, fun c2 => by rw [List.length_map]; exact c2.2⟩)
       · exact push false (decide_eq_false fun c2 => c1 (decide_eq_true c2.1)).symm
     · obtain ⟨eD, hD⟩ := hP
       have en : d.ops.take (d.places.map V.int).length = d.ops := List.take_of_length_le (by rw [List.length_map, d.len_ops]; exact Nat.le_refl _)
       rw [en] at hD
       refine ⟨D, _, rfl, SqL.of hD, ?_⟩
       have ea : (d.ops.map fun o => decide (inR o ls.length)).all id = decide (∀ o ∈ d.ops, inR o ls.length) := by
         rw [List.all_map]
         exact all_dec _ _
       rw [ea]
       exact fin H' (eD.same nD))
  · rw [decide_eq_false hq, Bool.false_and] at fin
    cases hp : d.par with
    | none => exact absurd (by rw [hp]; exact True.intro) hq
    | some p =>
      rw [hp] at hq
      refine iteT ?_
      refine ⟨_, rfl, a, _, _, _, rfl, rfl, hA, d.at1 hp, _, _, rfl, rfl, _, rfl, ?_⟩
      refine ite2 (fun c1 => ?_) (fun c1 => ?_)
      · refine ⟨_, rfl, qn, _, dx, fs, _, rfl, n1, T.C_Net, T.na_Net_parameters, n4, PP, _, rfl, .inl (SqL.of n5), _, _, rfl, rfl, _, rfl, ?_⟩
        refine iteNN (fun c2 => hq ⟨of_decide_eq_true c1, by rw [← lq]; exact c2⟩) ?_
        exact fin H (.refl H)
      · walk_at "go"
        exact fin H (.refl H)
theorem held_of {k j : Nat} {x : Str} {ps : List Str} {sp : Sp} {f : Addr} (D : Def P w K mg base j x ps sp) (hx : mg x = some (.ref f)) (hj : j ≤ k) : Held P w K mg base k f sp := by
  obtain ⟨f', fd', G, b, g, kp⟩ := D.ex
  rw [hx] at g
  cases g
  exact ⟨fd', ps, G.mono hj, kp, b⟩
theorem rule_of (T : Txt K mg cs w) (d__of_inputs : Def P w K mg base 1 "_of_inputs" ["net", "known", "node"] (spRule K cs (· = .input))) (d__of_targets : Def P w K mg base 1 "_of_targets" ["net", "known", "node"] (spRule K cs (· = .target))) (d__of_lin : Def P w K mg base 2 "_of_lin" ["net", "known", "node"] (spRule K cs fun d => ∃ p a, d = .lin p a)) (d__of_bias : Def P w K mg base 2 "_of_bias" ["net", "known", "node"] (spRule K cs fun d => ∃ p a, d = .bias p a)) (d__of_embed : Def P w K mg base 2 "_of_embed" ["net", "known", "node"] (spRule K cs fun d => ∃ p lo n, d = .embed p lo n)) (d__of_mat : Def P w K mg base 2 "_of_mat" ["net", "known", "node"] (spRule K cs fun d => ∃ k a b, d = .mat k a b ∨ d = .matT k a b)) (d__of_lower : Def P w K mg base 2 "_of_lower" ["net", "known", "node"] (spRule K cs fun d => ∃ c a, d = .lower c a)) (d__of_pair : Def P w K mg base 1 "_of_pair" ["net", "known", "node"] (spRule K cs fun d => ∃ a b, d = .add a b ∨ d = .sub a b ∨ d = .mul a b)) (d__of_scale : Def P w K mg base 2 "_of_scale" ["net", "known", "node"] (spRule K cs fun d => ∃ w a, d = .scale w a)) (d__of_shift : Def P w K mg base 1 "_of_shift" ["net", "known", "node"] (spRule K cs fun d => ∃ k a, d = .shift k a)) (d__of_relu : Def P w K mg base 1 "_of_relu" ["net", "known", "node"] (spRule K cs fun d => ∃ a, d = .relu a)) (d__of_drop : Def P w K mg base 1 "_of_drop" ["net", "known", "node"] (spRule K cs fun d => ∃ m a, d = .drop m a)) (d__of_sum : Def P w K mg base 1 "_of_sum" ["net", "known", "node"] (spRule K cs fun d => ∃ a, d = .sum a)) (d__of_join : Def P w K mg base 1 "_of_join" ["net", "known", "node"] (spRule K cs fun d => ∃ a b, d = .join a b)) (d__of_take : Def P w K mg base 2 "_of_take" ["net", "known", "node"] (spRule K cs fun d => ∃ lo n a, d = .take lo n a)) (d : Nd) : ∃ (f : Addr) (fam : Nd → Prop), PySem.W.nsIn K cs.LENGTHS d.kind = some (some (.ref f)) ∧ fam d ∧ Held P w K mg base 2 f (spRule K cs fam) := match d with
  | .input => ⟨cs.fn__of_inputs, (fun x => x = Nd.input), T.e_LENGTHS_input, rfl, held_of d__of_inputs T.f__of_inputs (by decide)⟩
  | .target => ⟨cs.fn__of_targets, (fun x => x = Nd.target), T.e_LENGTHS_target, rfl, held_of d__of_targets T.f__of_targets (by decide)⟩
  | .lin _ _ => ⟨cs.fn__of_lin, _, T.e_LENGTHS_lin, ⟨_, _, rfl⟩, held_of d__of_lin T.f__of_lin (by decide)⟩
  | .bias _ _ => ⟨cs.fn__of_bias, _, T.e_LENGTHS_bias, ⟨_, _, rfl⟩, held_of d__of_bias T.f__of_bias (by decide)⟩
  | .embed _ _ _ => ⟨cs.fn__of_embed, _, T.e_LENGTHS_embed, ⟨_, _, _, rfl⟩, held_of d__of_embed T.f__of_embed (by decide)⟩
  | .mat _ _ _ => ⟨cs.fn__of_mat, _, T.e_LENGTHS_mat, ⟨_, _, _, .inl rfl⟩, held_of d__of_mat T.f__of_mat (by decide)⟩
  | .matT _ _ _ => ⟨cs.fn__of_mat, _, T.e_LENGTHS_matT, ⟨_, _, _, .inr rfl⟩, held_of d__of_mat T.f__of_mat (by decide)⟩
  | .lower _ _ => ⟨cs.fn__of_lower, _, T.e_LENGTHS_lower, ⟨_, _, rfl⟩, held_of d__of_lower T.f__of_lower (by decide)⟩
  | .add _ _ => ⟨cs.fn__of_pair, _, T.e_LENGTHS_add, ⟨_, _, .inl rfl⟩, held_of d__of_pair T.f__of_pair (by decide)⟩
  | .sub _ _ => ⟨cs.fn__of_pair, _, T.e_LENGTHS_sub, ⟨_, _, .inr (.inl rfl)⟩, held_of d__of_pair T.f__of_pair (by decide)⟩
  | .mul _ _ => ⟨cs.fn__of_pair, _, T.e_LENGTHS_mul, ⟨_, _, .inr (.inr rfl)⟩, held_of d__of_pair T.f__of_pair (by decide)⟩
  | .scale _ _ => ⟨cs.fn__of_scale, _, T.e_LENGTHS_scale, ⟨_, _, rfl⟩, held_of d__of_scale T.f__of_scale (by decide)⟩
  | .shift _ _ => ⟨cs.fn__of_shift, _, T.e_LENGTHS_shift, ⟨_, _, rfl⟩, held_of d__of_shift T.f__of_shift (by decide)⟩
  | .relu _ => ⟨cs.fn__of_relu, _, T.e_LENGTHS_relu, ⟨_, rfl⟩, held_of d__of_relu T.f__of_relu (by decide)⟩
  | .drop _ _ => ⟨cs.fn__of_drop, _, T.e_LENGTHS_drop, ⟨_, _, rfl⟩, held_of d__of_drop T.f__of_drop (by decide)⟩
  | .sum _ => ⟨cs.fn__of_sum, _, T.e_LENGTHS_sum, ⟨_, rfl⟩, held_of d__of_sum T.f__of_sum (by decide)⟩
  | .join _ _ => ⟨cs.fn__of_join, _, T.e_LENGTHS_join, ⟨_, _, rfl⟩, held_of d__of_join T.f__of_join (by decide)⟩
  | .take _ _ _ => ⟨cs.fn__of_take, _, T.e_LENGTHS_take, ⟨_, _, _, rfl⟩, held_of d__of_take T.f__of_take (by decide)⟩
theorem ok_length_of (F : Fun K "length_of" "length_of" s_length_of f fd) (T : Txt K mg cs w) (d__names_exist : Def P w K mg base 1 "_names_exist" ["net", "known", "node"] (spNames K cs)) (d__of_inputs : Def P w K mg base 1 "_of_inputs" ["net", "known", "node"] (spRule K cs (· = .input))) (d__of_targets : Def P w K mg base 1 "_of_targets" ["net", "known", "node"] (spRule K cs (· = .target))) (d__of_lin : Def P w K mg base 2 "_of_lin" ["net", "known", "node"] (spRule K cs fun d => ∃ p a, d = .lin p a)) (d__of_bias : Def P w K mg base 2 "_of_bias" ["net", "known", "node"] (spRule K cs fun d => ∃ p a, d = .bias p a)) (d__of_embed : Def P w K mg base 2 "_of_embed" ["net", "known", "node"] (spRule K cs fun d => ∃ p lo n, d = .embed p lo n)) (d__of_mat : Def P w K mg base 2 "_of_mat" ["net", "known", "node"] (spRule K cs fun d => ∃ k a b, d = .mat k a b ∨ d = .matT k a b)) (d__of_lower : Def P w K mg base 2 "_of_lower" ["net", "known", "node"] (spRule K cs fun d => ∃ c a, d = .lower c a)) (d__of_pair : Def P w K mg base 1 "_of_pair" ["net", "known", "node"] (spRule K cs fun d => ∃ a b, d = .add a b ∨ d = .sub a b ∨ d = .mul a b)) (d__of_scale : Def P w K mg base 2 "_of_scale" ["net", "known", "node"] (spRule K cs fun d => ∃ w a, d = .scale w a)) (d__of_shift : Def P w K mg base 1 "_of_shift" ["net", "known", "node"] (spRule K cs fun d => ∃ k a, d = .shift k a)) (d__of_relu : Def P w K mg base 1 "_of_relu" ["net", "known", "node"] (spRule K cs fun d => ∃ a, d = .relu a)) (d__of_drop : Def P w K mg base 1 "_of_drop" ["net", "known", "node"] (spRule K cs fun d => ∃ m a, d = .drop m a)) (d__of_sum : Def P w K mg base 1 "_of_sum" ["net", "known", "node"] (spRule K cs fun d => ∃ a, d = .sum a)) (d__of_join : Def P w K mg base 1 "_of_join" ["net", "known", "node"] (spRule K cs fun d => ∃ a b, d = .join a b)) (d__of_take : Def P w K mg base 2 "_of_take" ["net", "known", "node"] (spRule K cs fun d => ∃ lo n a, d = .take lo n a)) :
    FnOk P w K mg base CX0 3 f fd ["net", "known", "node"] (spLength K cs) := by
  obtain ⟨f0, fd0, G__names_exist, b__names_exist, g__names_exist, k__names_exist⟩ := d__names_exist.ex
  obtain ⟨f1, fd1, G__of_inputs, b__of_inputs, g__of_inputs, k__of_inputs⟩ := d__of_inputs.ex
  obtain ⟨f2, fd2, G__of_targets, b__of_targets, g__of_targets, k__of_targets⟩ := d__of_targets.ex
  obtain ⟨f3, fd3, G__of_lin, b__of_lin, g__of_lin, k__of_lin⟩ := d__of_lin.ex
  obtain ⟨f4, fd4, G__of_bias, b__of_bias, g__of_bias, k__of_bias⟩ := d__of_bias.ex
  obtain ⟨f5, fd5, G__of_embed, b__of_embed, g__of_embed, k__of_embed⟩ := d__of_embed.ex
  obtain ⟨f6, fd6, G__of_mat, b__of_mat, g__of_mat, k__of_mat⟩ := d__of_mat.ex
  obtain ⟨f7, fd7, G__of_lower, b__of_lower, g__of_lower, k__of_lower⟩ := d__of_lower.ex
  obtain ⟨f8, fd8, G__of_pair, b__of_pair, g__of_pair, k__of_pair⟩ := d__of_pair.ex
  obtain ⟨f9, fd9, G__of_scale, b__of_scale, g__of_scale, k__of_scale⟩ := d__of_scale.ex
  obtain ⟨f10, fd10, G__of_shift, b__of_shift, g__of_shift, k__of_shift⟩ := d__of_shift.ex
  obtain ⟨f11, fd11, G__of_relu, b__of_relu, g__of_relu, k__of_relu⟩ := d__of_relu.ex
  obtain ⟨f12, fd12, G__of_drop, b__of_drop, g__of_drop, k__of_drop⟩ := d__of_drop.ex
  obtain ⟨f13, fd13, G__of_sum, b__of_sum, g__of_sum, k__of_sum⟩ := d__of_sum.ex
  obtain ⟨f14, fd14, G__of_join, b__of_join, g__of_join, k__of_join⟩ := d__of_join.ex
  obtain ⟨f15, fd15, G__of_take, b__of_take, g__of_take, k__of_take⟩ := d__of_take.ex
  obtain ⟨_, _, kd_LENGTHS⟩ := T.d_LENGTHS
  refine F.ok sc_length_of (fun vs H Q E h => ?_) (fun cdv A outer s H vs Q E hr h => ?_)
  · obtain ⟨qn, l, a, ni, nt, ps, ls, d, rfl, N, hL, hA, tm, td, q⟩ := h
    rfl
  obtain ⟨qn, l, a, ni, nt, ps, ls, d, rfl, N, hL, hA, tm, td, q⟩ := h
  have hu := hr.units
  refine ⟨_, pss_cons (ps_if (pt_not (pt_val (pe_call G__names_exist (hr.mono (by decide)) rfl g__names_exist k__names_exist b__names_exist .nil pass0 (pa_cons (pv 0) (pa_cons (pv 1) (pa_cons (pv 2) pa_nil)))))) (pss_one (ps_ret pe_non)) pss_nil)
 (pss_cons (ps_set (i := 3) sc_length_of.nd rfl (.inl rfl) (pe_ix ix_kdict (pe_glob (v := .ref cs.LENGTHS) rfl T.g_LENGTHS rfl) (pe_ix (ixt_at (K := K) rfl) (pv 2) pe_int (fun _ _ => rfl)) (fun _ _ => rfl)))
 (pss_one (ps_ret (pe_callD (k := 2) (i := 3) hr rfl (by first | exact Or.inl rfl | exact Or.inr (Or.inl rfl)) (pa_cons (pv 0) (pa_cons (pv 1) (pa_cons (pv 2) pa_nil))))))), ?_⟩
  obtain ⟨fr, fam, en, hfam, hheld⟩ := rule_of T d__of_inputs d__of_targets d__of_lin d__of_bias d__of_embed d__of_mat d__of_lower d__of_pair d__of_scale d__of_shift d__of_relu d__of_drop d__of_sum d__of_join d__of_take d
  refine ⟨_, rfl, _, rfl, _, rfl, qn, l, a, ni, nt, ps, ls, d, rfl, N, hL, hA, fun H1 e1 => ?_⟩
  walk_at "go"
  by_cases hf : d.fits ps.length ls.length
  · refine iteNS hf ?_
    have ez : d.lenOf ni nt ps ls = d.len ni nt ps ls := if_pos hf
    rw [ez] at q
    refine ⟨_, rfl, a, _, _, _, rfl, rfl, (Same.seqT e1 hA), d.at0, cs.LENGTHS, d.kind, .ref fr, rfl, rfl, ⟨_, _, _, kd_LENGTHS.at_, kd_LENGTHS.lit, en, rfl⟩, ?_⟩
    exact ⟨fr, _, rfl, hheld, _, rfl, _, rfl, _, rfl, qn, l, a, ni, nt, ps, ls, d, rfl, hfam, N.same e1, e1.seq hL, (Same.seqT e1 hA), hf, tm, td, q H1 e1⟩
  · refine iteNN hf ?_
    have ez : d.lenOf ni nt ps ls = none := if_neg hf
    rw [ez] at q
    exact q H1 e1
theorem ok__lengths (F : Fun K "_lengths" "_lengths" s__lengths f fd) (T : Txt K mg cs w) (d_length_of : Def P w K mg base 3 "length_of" ["net", "known", "node"] (spLength K cs)) :
    FnOk P w K mg base CX0 4 f fd ["net"] (spLengths K cs) := by
  obtain ⟨f0, fd0, G_length_of, b_length_of, g_length_of, k_length_of⟩ := d_length_of.ex
  refine F.ok sc__lengths (fun vs H Q E h => ?_) (fun cdv A outer s H vs Q E hr h => ?_)
  · obtain ⟨qn, ni, nt, ps, nds, rfl, N, M, ok, q⟩ := h
    rfl
  obtain ⟨qn, ni, nt, ps, nds, rfl, N, M, ok, q⟩ := h
  have hu := hr.units
  refine ⟨_, pss_cons (ps_set (i := 1) sc__lengths.nd rfl (.inl rfl) (pe_lst pa_nil))
 (pss_cons (ps_for PassesOwn.never rfl (pi_list (pe_fld_at (K := K) rfl (pv 0) rfl)) (pg_name (i := 2) sc__lengths.nd rfl (.inl rfl)) (pss_cons (ps_set (i := 3) sc__lengths.nd rfl (.inl rfl) (pe_call G_length_of hr rfl g_length_of k_length_of b_length_of .nil pass0 (pa_cons (pv 0) (pa_cons (pv 1) (pa_cons (pv 2) pa_nil)))))
 (pss_cons (ps_if (pt_cmpR op_isN (pv 3) pe_non (nomark _)) (pss_one (ps_ret (pv 1))) pss_nil)
 (pss_one (ps_expr (pe_bm PySem.F.plainAttrs_list PySem.F.slot_list_append PySem.F.type_list_append mt_append (pv 1) (pa_cons (pv 3) pa_nil)))))))
 (pss_one (ps_ret (pv 1)))), ?_⟩
  obtain ⟨dx, fs, NN, nr, m1, m2, m3, m4⟩ := M.ex
  have ln : nr.length = nds.length := m4.length
  refine ⟨Nat.zero_le _, fun o no => ?_⟩
  have sm := same_new no (.lst [])
  refine ⟨_, rfl, qn, _, dx, fs, _, rfl, sm _ _ m1, T.C_Net, T.na_Net_nodes, m2, NN, rfl, ⟨_, SqL.of (sm _ _ m3)⟩, ?_⟩
  refine for_list (xs := nr.map V.ref) (fun (t : Nat) σ H' => ∃ (y2 y3 : Option V) (ks : List Int), σ = [some (.ref qn), some (.ref o), y2, y3] ∧ Same H H' ∧ H' o = some (.lst (ks.map V.int)) ∧ lensFrom ni nt ps [] nds = lensFrom ni nt ps ks (nds.drop t) ∧ ks.length ≤ t)
    ⟨none, none, [], rfl, sm, upd_same, rfl, Nat.zero_le _⟩ (fun t σ H' _ hP => ?_) (fun t x σ H' hx hP => ?_) (fun σ H' hP => ?_)
  · obtain ⟨y2, y3, ks, rfl, e, ho, _⟩ := hP
    exact SqL.of (e _ _ m3)
  · obtain ⟨y2, y3, ks, rfl, e, ho, hk, hl⟩ := hP
    have ht : t < nr.length := by
      have := (List.getElem?_eq_some_iff.mp hx).1
      rwa [List.length_map] at this
    have hd : nds[t]? = some nds[t] := List.getElem?_eq_getElem (by omega)
    obtain ⟨a, ea, ra⟩ := m4.get hd
    rw [List.getElem?_map, ea] at hx
    cases hx
    have hdr : nds.drop t = nds[t] :: nds.drop (t + 1) := List.drop_eq_getElem_cons (by omega)
    have hk' := hk
    rw [hdr] at hk
    obtain ⟨rr, er⟩ := lensFrom_pre ni nt ps (nds.drop t) ks
    have tm : Tame ps ks := ⟨ok.par, fun l hl => ok.len l (by rw [hk', er]; exact List.mem_append_left _ hl)⟩
    refine ⟨_, rfl, _, rfl, _, rfl, qn, o, a, ni, nt, ps, ks, nds[t], rfl, N.same e, SqL.of ho, Same.seqT e ra, tm, ok.nod _ (List.getElem_mem _), fun H2 e2 => ?_⟩
    walk_at "go"
    cases hz : (nds[t]).lenOf ni nt ps ks with
    | none =>
      refine iteD rfl ?_
      have hfin : lensFrom ni nt ps [] nds = ks := by
        rw [hk]
        unfold lensFrom
        rw [hz]
      rw [hfin] at q
      exact ⟨_, rfl, q o H2 no (e.trans e2) (e2 _ _ ho)⟩
    | some n =>
      refine iteDN (fun z => by cases z) ?_
      refine ⟨_, rfl, .inl ⟨rfl, _, .inl (.inl (e2 _ _ ho))⟩, _, rfl, o, _, _, rfl, rfl, e2 _ _ ho, smaller (by rw [List.length_map]; have := ok.few; omega), ?_⟩
      refine ⟨_, _, _, rfl, same_mut (e.trans e2) no, map_more _ _, ?_, by rw [List.length_append, List.length_singleton]; omega⟩
      rw [hk]
      show (match (nds[t]).lenOf ni nt ps ks with | none => ks | some n => lensFrom ni nt ps (ks ++ [n]) (nds.drop (t + 1))) = _
      rw [hz]
  · obtain ⟨y2, y3, ks, rfl, e, ho, hk, hl⟩ := hP
    rw [List.length_map, ln, List.drop_length] at hk
    have hfin : lensFrom ni nt ps [] nds = ks := hk
    rw [hfin] at q
    exact ⟨_, rfl, q o H' no e ho⟩
theorem ok_Parameter___init__ (F : Fun K "__init__" "Parameter.__init__" s_Parameter___init__ f fd) (T : Txt K mg cs w)  :
    FnOk P w K mg base CX0 1 f fd ["self", "rows", "cols", "fill"] (spParInit cs) := by
  refine F.ok sc_Parameter___init__ (fun vs H Q E h => ?_) (fun cdv A outer s H vs Q E hr h => ?_)
  · obtain ⟨x, dx, r, c, fill, rfl, hx, q⟩ := h
    rfl
  obtain ⟨x, dx, r, c, fill, rfl, hx, q⟩ := h
  have hu := hr.units
  refine ⟨_, pss_cons (ps_fld (pv 0) (pv 1) rfl)
 (pss_cons (ps_fld (pv 0) (pv 2) rfl)
 (pss_one (ps_fld (pv 0) (pv 3) rfl))), ?_⟩
  refine ⟨_, rfl, _, rfl, x, _, dx, [], rfl, hx, T.C_Parameter, T.na_Parameter_rows, by decide, ?_⟩
  refine ⟨_, rfl, _, rfl, x, _, dx, _, rfl, upd_same, T.C_Parameter, T.na_Parameter_cols, put_lt (put_le put_no), ?_⟩
  refine ⟨_, rfl, _, rfl, x, _, dx, _, rfl, upd_same, T.C_Parameter, T.na_Parameter_fill, put_lt (put_le (put_le put_no)), ?_⟩
  refine q _ _ (fun b o n hb => by rw [upd_ne n, upd_ne n, upd_ne n]; exact hb) upd_same ?_ ?_ ?_
  · rw [lookup_putF, if_neg (by decide), lookup_putF, if_neg (by decide), lookup_putF, if_pos rfl]
  · rw [lookup_putF, if_neg (by decide), lookup_putF, if_pos rfl]
  · rw [lookup_putF, if_pos rfl]
theorem ok_Net___init__ (F : Fun K "__init__" "Net.__init__" s_Net___init__ f fd) (T : Txt K mg cs w) (d__lengths : Def P w K mg base 4 "_lengths" ["net"] (spLengths K cs)) :
    FnOk P w K mg base CX0 5 f fd ["self", "inputs", "targets", "parameters", "nodes"] (spNetInit K cs) := by
  obtain ⟨f0, fd0, G__lengths, b__lengths, g__lengths, k__lengths⟩ := d__lengths.ex
  refine F.ok sc_Net___init__ (fun vs H Q E h => ?_) (fun cdv A outer s H vs Q E hr h => ?_)
  · obtain ⟨x, dx, PP, NN, ni, nt, pms, nds, pr, nr, rfl, hx, hP, aP, hN, aN, ok, q⟩ := h
    rfl
  obtain ⟨x, dx, PP, NN, ni, nt, pms, nds, pr, nr, rfl, hx, hP, aP, hN, aN, ok, q⟩ := h
  have hu := hr.units
  refine ⟨_, pss_cons (ps_fld (pv 0) (pv 1) rfl)
 (pss_cons (ps_fld (pv 0) (pv 2) rfl)
 (pss_cons (ps_fld (pv 0) (pe_callTy (list_at (K := K) rfl) (by rfl) T.z_list PyProof.Rows.boot_list (pa_cons (pv 3) pa_nil)) rfl)
 (pss_cons (ps_fld (pv 0) (pe_callTy (list_at (K := K) rfl) (by rfl) T.z_list PyProof.Rows.boot_list (pa_cons (pv 4) pa_nil)) rfl)
 (pss_one (ps_fld (pv 0) (pe_call G__lengths hr rfl g__lengths k__lengths b__lengths .nil pass0 (pa_cons (pv 0) pa_nil)) rfl))))), ?_⟩
  have kI : ¬ (("inputs" : Str) = "targets") := by decide
  refine ⟨_, rfl, _, rfl, x, _, dx, [], rfl, hx, T.C_Net, T.na_Net_inputs, by decide, ?_⟩
  refine ⟨_, rfl, _, rfl, x, _, dx, _, rfl, upd_same, T.C_Net, T.na_Net_targets, put_lt (put_le put_no), ?_⟩
  -- what has been stored so far; all else is as it was
  have e0 : But x H (upd (upd H x (.ins cs.Net dx (putF "inputs" (.int ni) []))) x (.ins cs.Net dx (putF "targets" (.int nt) (putF "inputs" (.int ni) [])))) := fun b o n hb => by rw [upd_ne n, upd_ne n]; exact hb
  have x0 : (upd (upd H x (.ins cs.Net dx (putF "inputs" (.int ni) []))) x (.ins cs.Net dx (putF "targets" (.int nt) (putF "inputs" (.int ni) [])))) x = some (.ins cs.Net dx (putF "targets" (.int nt) (putF "inputs" (.int ni) []))) := upd_same
  generalize upd (upd H x (.ins cs.Net dx (putF "inputs" (.int ni) []))) x (.ins cs.Net dx (putF "targets" (.int nt) (putF "inputs" (.int ni) []))) = H0 at *
  generalize ef2 : putF "targets" (.int nt) (putF "inputs" (.int ni) []) = fs2 at *
  have l2 : fs2.length ≤ 2 := by rw [← ef2]; exact put_le (put_le put_no)
  have i2 : fs2.lookup ("inputs" : Str) = some (.int ni) := by rw [← ef2, lookup_putF, if_neg (by decide), lookup_putF, if_pos rfl]
  have t2 : fs2.lookup ("targets" : Str) = some (.int nt) := by rw [← ef2, lookup_putF, if_pos rfl]
  -- self.parameters = list(parameters)
  refine ⟨_, rfl, PP, _, rfl, .inl (e0.seqI hx hP), fun L1 n1 => ?_⟩
  have nx1 : x ≠ L1 := ne_of_none x0 n1
  refine ⟨_, rfl, x, _, dx, _, rfl, (by rw [upd_ne nx1]; exact x0), T.C_Net, T.na_Net_parameters, put_lt l2, ?_⟩
  have n1' : H L1 = none := by
    cases z : H L1 with
    | none => rfl
    | some o => rw [e0 _ _ nx1.symm z] at n1; cases n1
  have e1 : But x H (upd (upd H0 L1 (.lst (pr.map V.ref))) x (.ins cs.Net dx (putF "parameters" (.ref L1) fs2))) := fun b o n hb => by rw [upd_ne n, upd_ne (ne_of_none hb n1')]; exact e0 b o n hb
  have x1 : (upd (upd H0 L1 (.lst (pr.map V.ref))) x (.ins cs.Net dx (putF "parameters" (.ref L1) fs2))) x = some (.ins cs.Net dx (putF "parameters" (.ref L1) fs2)) := upd_same
  have p1 : (upd (upd H0 L1 (.lst (pr.map V.ref))) x (.ins cs.Net dx (putF "parameters" (.ref L1) fs2))) L1 = some (.lst (pr.map V.ref)) := by rw [upd_ne nx1.symm, upd_same]
  generalize upd (upd H0 L1 (.lst (pr.map V.ref))) x (.ins cs.Net dx (putF "parameters" (.ref L1) fs2)) = H1 at *
  -- self.nodes = list(nodes)
  refine ⟨_, rfl, NN, _, rfl, .inl (e1.seqI hx hN), fun L2 n2 => ?_⟩
  have nx2 : x ≠ L2 := ne_of_none x1 n2
  have nl2 : L1 ≠ L2 := ne_of_none p1 n2
  refine ⟨_, rfl, x, _, dx, _, rfl, (by rw [upd_ne nx2]; exact x1), T.C_Net, T.na_Net_nodes, put_lt (put_le l2), ?_⟩
  have n2' : H L2 = none := by
    cases z : H L2 with
    | none => rfl
    | some o => rw [e1 _ _ nx2.symm z] at n2; cases n2
  generalize ef4 : putF "nodes" (.ref L2) (putF "parameters" (.ref L1) fs2) = fs4 at *
  have l4 : fs4.length ≤ 4 := by rw [← ef4]; exact put_le (put_le l2)
  have i4 : fs4.lookup ("inputs" : Str) = some (.int ni) := by rw [← ef4, lookup_putF, if_neg (by decide), lookup_putF, if_neg (by decide)]; exact i2
  have t4 : fs4.lookup ("targets" : Str) = some (.int nt) := by rw [← ef4, lookup_putF, if_neg (by decide), lookup_putF, if_neg (by decide)]; exact t2
  have p4 : fs4.lookup ("parameters" : Str) = some (.ref L1) := by rw [← ef4, lookup_putF, if_neg (by decide), lookup_putF, if_pos rfl]
  have m4 : fs4.lookup ("nodes" : Str) = some (.ref L2) := by rw [← ef4, lookup_putF, if_pos rfl]
  have e2 : But x H (upd (upd H1 L2 (.lst (nr.map V.ref))) x (.ins cs.Net dx fs4)) := fun b o n hb => by rw [upd_ne n, upd_ne (ne_of_none hb n2')]; exact e1 b o n hb
  have x2 : (upd (upd H1 L2 (.lst (nr.map V.ref))) x (.ins cs.Net dx fs4)) x = some (.ins cs.Net dx fs4) := upd_same
  have p2 : (upd (upd H1 L2 (.lst (nr.map V.ref))) x (.ins cs.Net dx fs4)) L1 = some (.lst (pr.map V.ref)) := by rw [upd_ne nx1.symm, upd_ne nl2]; exact p1
  have m2 : (upd (upd H1 L2 (.lst (nr.map V.ref))) x (.ins cs.Net dx fs4)) L2 = some (.lst (nr.map V.ref)) := by rw [upd_ne nx2.symm, upd_same]
  generalize upd (upd H1 L2 (.lst (nr.map V.ref))) x (.ins cs.Net dx fs4) = H2 at *
  have aP2 : All2 (ParV cs H2) pr (sides pms) := all_sides (aP.mono fun _ _ r => r.but e2 hx)
  have aN2 : All2 (NdV K H2) nr nds := aN.mono fun _ _ r => e2.seqTI hx r
  -- self.lengths = _lengths(self)
  refine ⟨_, rfl, x, ni, nt, sides pms, nds, rfl, ⟨dx, fs4, L1, pr, x2, i4, t4, p4, p2, aP2⟩, ⟨dx, fs4, L2, nr, x2, m4, m2, aN2⟩, ok, fun L3 H3 n3 e3 h3 => ?_⟩
  have x3 := e3 _ _ x2
  refine ⟨_, rfl, x, _, dx, _, rfl, x3, T.C_Net, T.na_Net_lengths, put_lt l4, ?_⟩
  have nxp : L1 ≠ x := nx1.symm
  have nxm : L2 ≠ x := nx2.symm
  have nx3 : L3 ≠ x := (ne_of_none x2 n3).symm
  have e4 : But x H (upd H3 x (.ins cs.Net dx (putF "lengths" (.ref L3) fs4))) := fun b o n hb => by rw [upd_ne n]; exact e3 _ _ (e2 b o n hb)
  have y4 : (upd H3 x (.ins cs.Net dx (putF "lengths" (.ref L3) fs4))) x = some (.ins cs.Net dx (putF "lengths" (.ref L3) fs4)) := upd_same
  refine q _ e4 ⟨dx, _, L1, L2, pr, nr, y4, ?_, ?_, ?_, ?_, ?_, aP.mono fun _ _ r => r.but e4 hx, ?_, aN.mono fun _ _ r => e4.seqTI hx r⟩ ⟨dx, _, L3, y4, ?_, ?_⟩
  · rw [lookup_putF, if_neg (by decide)]; exact i4
  · rw [lookup_putF, if_neg (by decide)]; exact t4
  · rw [lookup_putF, if_neg (by decide)]; exact p4
  · rw [lookup_putF, if_neg (by decide)]; exact m4
  · rw [upd_ne nxp]; exact e3 _ _ p2
  · rw [upd_ne nxm]; exact e3 _ _ m2
  · rw [lookup_putF, if_pos rfl]
  · rw [upd_ne nx3]; exact h3

end
section
variable {P : Program} {w : World} {K : PySem.W.Frag} {mg : Str → Option Value} {cs : Cs} {base : Heap} {f : Addr} {fd : FuncData}
theorem ok__law_cell (F : Fun K "_law_cell" "_law_cell" s__law_cell f fd) (T : Txt K mg cs w)  :
    FnOk P w K mg base CX0 1 f fd ["script", "k"] (spCell K) := by
  refine F.ok sc__law_cell (fun vs H Q E h => ?_) (fun cdv A outer s H vs Q E hr h => ?_)
  · obtain ⟨a, ns, k, rfl, hS, h0, q⟩ := h
    rfl
  obtain ⟨a, ns, k, rfl, hS, h0, q⟩ := h
  have hu := hr.units
  refine ⟨_, pss_cons (ps_if (pt_cmpR op_lt (pv 1) (pe_callB (len_at (K := K) rfl) (by rfl) T.z_len PySem.boot_len (pa_cons (pv 0) pa_nil)) (nomark _)) (pss_one (ps_ret (pe_ix (ixl_at (K := K) rfl) (pv 0) (pv 1) (fun _ _ => rfl)))) pss_nil)
 (pss_one (ps_ret pe_int)), ?_⟩
  -- k; len(script); the test
  refine ⟨_, rfl, _, rfl, a, _, rfl, .inl hS, _, _, rfl, rfl, _, rfl, ?_⟩
  refine ite2 (fun c => ?_) (fun c => ?_)
  · have c' : k < (((ns.map V.int).length : Nat) : Int) := of_decide_eq_true c
    rw [List.length_map] at c'
    have hk : k.toNat < ns.length := by omega
    have ek : k = ((k.toNat : Nat) : Int) := by omega
    have z : atI (ns.map V.int) ((k.toNat : Nat) : Int) = some (.int ns[k.toNat]) := atI_nat (by rw [List.getElem?_map, List.getElem?_eq_getElem hk] <;> rfl)
    rw [← ek] at z
    exact ⟨_, rfl, _, rfl, a, _, _, _, rfl, rfl, hS, z, q _⟩
  · exact q 0

theorem ok__law_row (F : Fun K "_law_row" "_law_row" s__law_row f fd) (T : Txt K mg cs w) (d__law_cell : Def P w K mg base 1 "_law_cell" ["script", "k"] (spCell K)) :
    FnOk P w K mg base CX0 2 f fd ["script", "first", "last"] (spRow K) := by
  obtain ⟨f0, fd0, G__law_cell, b__law_cell, g__law_cell, k__law_cell⟩ := d__law_cell.ex
  refine F.ok sc__law_row (fun vs H Q E h => ?_) (fun cdv A outer s H vs Q E hr h => ?_)
  · obtain ⟨a, ns, i, j, rfl, hS, h0, h1, h2, q⟩ := h
    rfl
  obtain ⟨a, ns, i, j, rfl, hS, h0, h1, h2, q⟩ := h
  have hu := hr.units
  refine ⟨_, pss_cons (ps_set (i := 3) sc__law_row.nd rfl (.inl rfl) (pe_lst pa_nil))
 (pss_cons (ps_for PassesOwn.never rfl (pi_range2 rfl T.z_range (pa_cons (pv 1) (pa_cons (pv 2) pa_nil))) (pg_name (i := 4) sc__law_row.nd rfl (.inl rfl)) (pss_cons (ps_set (i := 5) sc__law_row.nd rfl (.inl rfl) (pe_call G__law_cell hr rfl g__law_cell k__law_cell b__law_cell .nil pass0 (pa_cons (pv 0) (pa_cons (pv 4) pa_nil))))
 (pss_cons (ps_set (i := 5) sc__law_row.nd rfl (.inl rfl) (pe_op op_add (pe_callB call_abs (by rfl) T.z_abs (by decide +kernel) (pa_cons (pe_op op_mul pe_int (pv 5)) pa_nil)) (pe_callTy call_int1 (by rfl) T.z_int PyProof.Rows.boot_int (pa_cons (pe_cmpR op_lt (pv 5) pe_int (nomark _)) pa_nil))))
 (pss_one (ps_if (pt_cmpR op_gt (pv 5) (pe_op op_pow pe_int pe_int) (nomark _)) (pss_one (ps_for PassesOwn.never rfl (pi_range1 rfl T.z_range (pa_cons pe_int pa_nil)) (pg_name (i := 6) sc__law_row.nd rfl (.inl rfl)) (pss_one (ps_if (pt_cmpR op_gt (pv 5) pe_int (nomark _)) (pss_cons (ps_expr (pe_bm PySem.F.plainAttrs_list PySem.F.slot_list_append PySem.F.type_list_append mt_append (pv 3) (pa_cons (pe_op op_mod (pe_callTy call_int1 (by rfl) T.z_int PyProof.Rows.boot_int (pa_cons (pv 5) pa_nil)) pe_int) pa_nil)))
 (pss_one (ps_set (i := 5) sc__law_row.nd rfl (.inl rfl) (pe_op op_fdiv (pv 5) pe_int)))) pss_nil)))) (pss_one (ps_for PassesOwn.never rfl (pi_range1 rfl T.z_range (pa_cons pe_int pa_nil)) (pg_name (i := 6) sc__law_row.nd rfl (.inl rfl)) (pss_cons (ps_set (i := 5) sc__law_row.nd rfl (.inl rfl) (pe_op op_mod (pe_callTy call_int1 (by rfl) T.z_int PyProof.Rows.boot_int (pa_cons (pe_op op_add (pe_op op_add (pe_op op_mul (pv 5) pe_int) (pe_op op_mul pe_int (pe_op op_add (pv 4) (pv 6)))) pe_int) pa_nil)) pe_int))
 (pss_one (ps_expr (pe_bm PySem.F.plainAttrs_list PySem.F.slot_list_append PySem.F.type_list_append mt_append (pv 3) (pa_cons (pe_op op_mod (pe_callTy call_int1 (by rfl) T.z_int PyProof.Rows.boot_int (pa_cons (pe_op op_fdiv (pv 5) pe_int) pa_nil)) pe_int) pa_nil))))))))))))
 (pss_one (ps_ret (pv 3)))), ?_⟩
  -- row = []
  refine ⟨Nat.zero_le _, fun o no => ?_⟩
  -- for k in range(first, last)
  refine ⟨_, rfl, _, rfl, i, j, rfl, ⟨by omega, by omega, by omega, by omega⟩, ?_⟩
  refine for_range (fun (t : Nat) σ H' => ∃ (y4 y5 y6 : Option V) (rs : List Int), σ = [some (.ref a), some (.int i), some (.int j), some (.ref o), y4, y5, y6] ∧ Same H H' ∧ H' o = some (.lst (rs.map V.int)) ∧ rs.length ≤ 60 * t)
    ⟨none, none, none, [], rfl, same_new no _, upd_same, Nat.zero_le _⟩ (fun t σ H' ht hP => ?_) (fun σ H' hP => ?_)
  · obtain ⟨y4, y5, y6, rs, rfl, sm, ho, hl⟩ := hP
    -- cell = _law_cell(script, k)
    refine ⟨_, rfl, _, rfl, a, ns, i + t, rfl, sm.seq hS, by omega, fun n => ?_⟩
    -- cell = abs(2 * cell) + int(cell < 0)
    walk_at "go"
    refine ite2 (fun c => ?_) (fun c => ?_)
    · -- 60 turns
      refine ⟨60, rfl, by decide, by decide, ?_⟩
      refine for_range (fun (u : Nat) σ H' => ∃ (y6 : Option V) (m : Int) (rs' : List Int), σ = [some (.ref a), some (.int i), some (.int j), some (.ref o), some (.int (i + t)), some (.int m), y6] ∧ Same H H' ∧ H' o = some (.lst (rs'.map V.int)) ∧ rs'.length ≤ 60 * t + u)
        ⟨y6, _, rs, rfl, sm, ho, by omega⟩ (fun u σ H' hu hP => ?_) (fun σ H' hP => ?_)
      · obtain ⟨y6, m, rs', rfl, sm, ho, hl⟩ := hP
        walk_at "go"
        refine ite2 (fun c => ?_) (fun c => ?_)
        · refine ⟨_, rfl, .inl ⟨rfl, _, .inl (.inl ho)⟩, ?_⟩
          walk_at "go"
          refine ⟨o, _, _, rfl, rfl, ho, smaller (by rw [List.length_map]; omega), ?_⟩
          walk_at "go"
          exact ⟨_, _, _, rfl, same_mut sm no, map_more _ _, by rw [List.length_append, List.length_singleton]; omega⟩
        · exact ⟨_, m, rs', rfl, sm, ho, by omega⟩
      · obtain ⟨y6, m, rs', rfl, sm, ho, hl⟩ := hP
        exact ⟨_, _, _, rs', rfl, sm, ho, by omega⟩
    · -- 10 turns
      refine ⟨10, rfl, by decide, by decide, ?_⟩
      refine for_range (fun (u : Nat) σ H' => ∃ (y6 : Option V) (m : Int) (rs' : List Int), σ = [some (.ref a), some (.int i), some (.int j), some (.ref o), some (.int (i + t)), some (.int m), y6] ∧ Same H H' ∧ H' o = some (.lst (rs'.map V.int)) ∧ rs'.length ≤ 60 * t + u)
        ⟨y6, _, rs, rfl, sm, ho, by omega⟩ (fun u σ H' hu hP => ?_) (fun σ H' hP => ?_)
      · obtain ⟨y6, m, rs', rfl, sm, ho, hl⟩ := hP
        walk_at "go"
        refine ⟨.inl ⟨rfl, _, .inl (.inl ho)⟩, ?_⟩
        walk_at "go"
        refine ⟨o, _, _, rfl, rfl, ho, smaller (by rw [List.length_map]; omega), ?_⟩
        exact ⟨_, _, _, rfl, same_mut sm no, map_more _ _, by rw [List.length_append, List.length_singleton]; omega⟩
      · obtain ⟨y6, m, rs', rfl, sm, ho, hl⟩ := hP
        exact ⟨_, _, _, rs', rfl, sm, ho, by omega⟩
  · obtain ⟨y4, y5, y6, rs, rfl, sm, ho, hl⟩ := hP
    exact ⟨_, rfl, q o rs H' no sm ho⟩
theorem ok__law_draw (F : Fun K "_law_draw" "_law_draw" s__law_draw f fd) (T : Txt K mg cs w)  :
    FnOk P w K mg base CX0 1 f fd ["box", "many"] (spDraw) := by
  refine F.ok sc__law_draw (fun vs H Q E h => ?_) (fun cdv A outer s H vs Q E hr h => ?_)
  · obtain ⟨b, r, rs, many, rfl, B, hm, q⟩ := h
    rfl
  obtain ⟨b, r, rs, many, rfl, B, hm, q⟩ := h
  have hu := hr.units
  refine ⟨_, pss_cons (ps_set (i := 2) sc__law_draw.nd rfl (.inl rfl) (pe_ix (ixl_at (K := K) rfl) (pv 0) pe_int (fun _ _ => rfl)))
 (pss_cons (ps_asg (pe_op op_add (pv 2) pe_int) (pg_sub (pv 0) pe_int set_list))
 (pss_cons (ps_if (pt_cmpR op_lt (pv 2) (pe_callB (len_at (K := K) rfl) (by rfl) T.z_len PySem.boot_len (pa_cons (pe_ix (ixl_at (K := K) rfl) (pv 0) pe_int (fun _ _ => rfl)) pa_nil)) (nomark _)) (pss_one (ps_ret (pe_op op_mod (pe_callTy call_int1 (by rfl) T.z_int PyProof.Rows.boot_int (pa_cons (pe_ix (ixl_at (K := K) rfl) (pe_ix (ixl_at (K := K) rfl) (pv 0) pe_int (fun _ _ => rfl)) (pv 2) (fun _ _ => rfl)) pa_nil)) (pv 1)))) pss_nil)
 (pss_one (ps_ret (pe_op op_mod (pe_callTy call_int1 (by rfl) T.z_int PyProof.Rows.boot_int (pa_cons (pe_op op_add (pe_op op_mul (pv 2) pe_int) pe_int) pa_nil)) (pv 1)))))), ?_⟩
  obtain ⟨z, hz, hb⟩ := B.ex
  have hr' := B.row
  -- at = box[1]
  refine ⟨_, rfl, b, _, _, _, rfl, rfl, SqL.of hb, rfl, ?_⟩
  -- box[1] = at + 1
  walk_at "go"
  refine ⟨b, _, _, 1, rfl, rfl, hb, rfl, ?_⟩
  have e : (upd H b (.lst ([V.ref r, V.int z].set 1 (.int (z + 1))))) b = some (.lst [.ref r, .int (z + 1)]) := upd_same
  have er : (upd H b (.lst ([V.ref r, V.int z].set 1 (.int (z + 1))))) r = some (.lst (rs.map V.int)) := by rw [upd_ne B.ne]; exact hr'
  have B' : Box (upd H b (.lst ([V.ref r, V.int z].set 1 (.int (z + 1))))) b r rs := ⟨⟨z + 1, by omega, e⟩, er⟩
  have bt : But b H (upd H b (.lst ([V.ref r, V.int z].set 1 (.int (z + 1))))) := fun c o n h => by rw [upd_ne n]; exact h
  generalize (upd H b (.lst ([V.ref r, V.int z].set 1 (.int (z + 1))))) = H1 at *
  -- if at < len(box[0])
  refine ⟨_, rfl, _, rfl, b, _, _, _, rfl, rfl, SqL.of e, rfl, r, _, rfl, .inl (SqL.of er), _, _, rfl, rfl, _, rfl, ?_⟩
  refine ite2 (fun c => ?_) (fun c => ?_)
  · have c' : z < (((rs.map V.int).length : Nat) : Int) := of_decide_eq_true c
    rw [List.length_map] at c'
    have hk : z.toNat < rs.length := by omega
    have ek : z = ((z.toNat : Nat) : Int) := by omega
    have y : atI (rs.map V.int) ((z.toNat : Nat) : Int) = some (.int rs[z.toNat]) := atI_nat (by rw [List.getElem?_map, List.getElem?_eq_getElem hk] <;> rfl)
    rw [← ek] at y
    refine ⟨_, rfl, b, _, _, _, rfl, rfl, SqL.of e, rfl, _, rfl, r, _, _, _, rfl, rfl, SqL.of er, y, .inl ⟨_, rfl, _, rfl, _, _, rfl, rfl, hm, ?_⟩⟩
    exact q _ _ (Int.emod_nonneg _ (by omega)) (Int.emod_lt_of_pos _ hm) B' bt
  · refine ⟨_, rfl, _, _, rfl, rfl, .inr ⟨by decide, by decide⟩, _, _, rfl, rfl, .inl ⟨_, rfl, _, rfl, _, _, rfl, rfl, hm, ?_⟩⟩
    exact q _ _ (Int.emod_nonneg _ (by omega)) (Int.emod_lt_of_pos _ hm) B' bt
theorem ok__law_wrap (F : Fun K "_law_wrap" "_law_wrap" s__law_wrap f fd) (T : Txt K mg cs w)  :
    FnOk P w K mg base CX0 1 f fd ["n"] (spWrap) := by
  refine F.ok sc__law_wrap (fun vs H Q E h => ?_) (fun cdv A outer s H vs Q E hr h => ?_)
  · obtain ⟨n, rfl, q⟩ := h
    rfl
  obtain ⟨n, rfl, q⟩ := h
  have hu := hr.units
  refine ⟨_, pss_one (ps_ret (pe_op op_sub (pe_op op_mod (pe_callTy call_int1 (by rfl) T.z_int PyProof.Rows.boot_int (pa_cons (pe_op op_add (pv 0) pe_int) pa_nil)) pe_int) pe_int)), ?_⟩
  walk_at "go"
  exact q

theorem ok__law_word (F : Fun K "_law_word" "_law_word" s__law_word f fd) (T : Txt K mg cs w) (d__law_draw : Def P w K mg base 1 "_law_draw" ["box", "many"] (spDraw)) (d__law_wrap : Def P w K mg base 1 "_law_wrap" ["n"] (spWrap)) :
    FnOk P w K mg base CX0 2 f fd ["box"] (spWord) := by
  obtain ⟨f0, fd0, G__law_draw, b__law_draw, g__law_draw, k__law_draw⟩ := d__law_draw.ex
  obtain ⟨f1, fd1, G__law_wrap, b__law_wrap, g__law_wrap, k__law_wrap⟩ := d__law_wrap.ex
  refine F.ok sc__law_word (fun vs H Q E h => ?_) (fun cdv A outer s H vs Q E hr h => ?_)
  · obtain ⟨b, r, rs, rfl, B, q⟩ := h
    rfl
  obtain ⟨b, r, rs, rfl, B, q⟩ := h
  have hu := hr.units
  refine ⟨_, pss_cons (ps_set (i := 1) sc__law_word.nd rfl (.inl rfl) (pe_call G__law_draw hr rfl g__law_draw k__law_draw b__law_draw .nil pass0 (pa_cons (pv 0) (pa_cons pe_int pa_nil))))
 (pss_cons (ps_if (pt_cmpR op_lt (pv 1) pe_int (nomark _)) (pss_one (ps_ret (pe_op op_sub (pe_call G__law_draw hr rfl g__law_draw k__law_draw b__law_draw .nil pass0 (pa_cons (pv 0) (pa_cons pe_int pa_nil))) pe_int))) pss_nil)
 (pss_cons (ps_if (pt_cmpR op_eq (pv 1) pe_int (nomark _)) (pss_one (ps_ret (pe_op op_sub pe_int (pe_call G__law_draw hr rfl g__law_draw k__law_draw b__law_draw .nil pass0 (pa_cons (pv 0) (pa_cons pe_int pa_nil)))))) pss_nil)
 (pss_cons (ps_if (pt_cmpR op_eq (pv 1) pe_int (nomark _)) (pss_one (ps_ret (pe_op op_sub (pe_call G__law_draw hr rfl g__law_draw k__law_draw b__law_draw .nil pass0 (pa_cons (pv 0) (pa_cons pe_int pa_nil))) pe_int))) pss_nil)
 (pss_cons (ps_if (pt_cmpR op_eq (pv 1) pe_int (nomark _)) (pss_one (ps_ret (pe_op op_mul pe_int (pe_op op_sub (pe_call G__law_draw hr rfl g__law_draw k__law_draw b__law_draw .nil pass0 (pa_cons (pv 0) (pa_cons pe_int pa_nil))) pe_int)))) pss_nil)
 (pss_cons (ps_set (i := 2) sc__law_word.nd rfl (.inl rfl) pe_int)
 (pss_cons (ps_for PassesOwn.never rfl (pi_range1 rfl T.z_range (pa_cons pe_int pa_nil)) (pg_name (i := 3) sc__law_word.nd rfl (.inl rfl)) (pss_one (ps_set (i := 2) sc__law_word.nd rfl (.inl rfl) (pe_op op_add (pe_op op_mul (pv 2) pe_int) (pe_call G__law_draw hr rfl g__law_draw k__law_draw b__law_draw .nil pass0 (pa_cons (pv 0) (pa_cons pe_int pa_nil)))))))
 (pss_one (ps_ret (pe_call G__law_wrap hr rfl g__law_wrap k__law_wrap b__law_wrap .nil pass0 (pa_cons (pv 2) pa_nil)))))))))), ?_⟩
  refine ⟨_, rfl, b, r, rs, 7, rfl, B, by decide, fun kind H1 k0 k1 B1 e1 => ?_⟩
  walk_at "go"
  refine ite2 (fun _ => ?_) (fun _ => ?_)
  · refine ⟨_, rfl, b, r, rs, 7, rfl, B1, by decide, fun v H2 v0 v1 B2 e2 => ?_⟩
    walk_at "go"
    exact q _ _ (by omega) (by omega) B2 (e1.trans e2)
  walk_at "go"
  refine ite2 (fun _ => ?_) (fun _ => ?_)
  · refine ⟨_, rfl, b, r, rs, 3, rfl, B1, by decide, fun v H2 v0 v1 B2 e2 => ?_⟩
    walk_at "go"
    exact q _ _ (by omega) (by omega) B2 (e1.trans e2)
  walk_at "go"
  refine ite2 (fun _ => ?_) (fun _ => ?_)
  · refine ⟨_, rfl, b, r, rs, 3, rfl, B1, by decide, fun v H2 v0 v1 B2 e2 => ?_⟩
    walk_at "go"
    exact q _ _ (by omega) (by omega) B2 (e1.trans e2)
  walk_at "go"
  refine ite2 (fun _ => ?_) (fun _ => ?_)
  · refine ⟨_, rfl, b, r, rs, 7, rfl, B1, by decide, fun v H2 v0 v1 B2 e2 => ?_⟩
    walk_at "go"
    exact q _ _ (by omega) (by omega) B2 (e1.trans e2)
  -- n = 0; four turns
  walk_at "go"
  refine ⟨by decide, by decide, ?_⟩
  refine for_range (fun (t : Nat) σ H' => ∃ (y3 : Option V) (n : Int), σ = [some (.ref b), some (.int kind), some (.int n), y3] ∧ Box H' b r rs ∧ But b H1 H') ⟨none, 0, rfl, B1, But.refl b H1⟩ (fun t σ H' ht hP => ?_) (fun σ H' hP => ?_)
  · obtain ⟨y3, n, rfl, B2, e2⟩ := hP
    walk_at "go"
    refine ⟨b, r, rs, 840, rfl, B2, by decide, fun v H3 v0 v1 B3 e3 => ?_⟩
    walk_at "go"
    exact ⟨_, _, rfl, B3, e2.trans e3⟩
  · obtain ⟨y3, n, rfl, B2, e2⟩ := hP
    refine ⟨_, rfl, n, rfl, ?_⟩
    exact q _ _ (wr_lo n) (wr_hi n) B2 (e1.trans e2)
end


/-! ### comprehensions within comprehensions -/
def noE : PySem.Expr := .Name "x" ⟨0, 0, 0, 0⟩
def stE : Stmt → PySem.Expr
  | .Return (some e) _ => e
  | .Assign _ e .. => e
  | .Expr e .. => e
  | .For _ e .. => e
  | .If e .. => e
  | .While e .. => e
  | _ => noE
def stB (i : Nat) : Stmt → Stmt
  | .For _ _ b .. => b.getD i (.Pass ⟨0, 0, 0, 0⟩)
  | .If _ b .. => b.getD i (.Pass ⟨0, 0, 0, 0⟩)
  | .While _ b .. => b.getD i (.Pass ⟨0, 0, 0, 0⟩)
  | s => s
def stO (i : Nat) : Stmt → Stmt
  | .For _ _ _ b .. => b.getD i (.Pass ⟨0, 0, 0, 0⟩)
  | .If _ _ b .. => b.getD i (.Pass ⟨0, 0, 0, 0⟩)
  | .While _ _ b .. => b.getD i (.Pass ⟨0, 0, 0, 0⟩)
  | s => s
def ceA (i : Nat) : PySem.Expr → PySem.Expr
  | .Call _ as .. => as.getD i noE
  | .BoolOp _ as .. => as.getD i noE
  | .List as .. => as.getD i noE
  | .Tuple as .. => as.getD i noE
  | .Compare _ _ as .. => as.getD i noE
  | _ => noE
def ceF : PySem.Expr → PySem.Expr
  | .Call (.Attribute e ..) .. => e
  | _ => noE
def ceL : PySem.Expr → PySem.Expr
  | .BinOp a .. => a
  | .UnaryOp _ a .. => a
  | .Compare a .. => a
  | _ => noE
def ceR : PySem.Expr → PySem.Expr
  | .BinOp _ _ b .. => b
  | _ => noE
def lcElt : PySem.Expr → PySem.Expr
  | .ListComp e _ _ _ => e
  | _ => noE
def lcSc : PySem.Expr → Scope
  | .ListComp _ _ sc _ => sc
  | _ => defScope (.Pass ⟨0, 0, 0, 0⟩)
/-- a comprehension's scope where it stands: what the def's cells hold is held there too -/
def rl (scope encl : Scope) : Scope :=
  { scope with names := scope.names.map fun (n, k) => if (k == .free && encl.kind == .function && encl.names.lookup n == some .cell) then (n, .cell) else (n, k) }
theorem pg_tup_at {X : Cx} {K : PySem.W.Frag} {es : List PySem.Expr} {k : Nat} {t : TGs} {n : Nat} {pos : Pos} (h : X.K = K) (hc : X.calm = true) (hp : PGs X es t)
    (hn : (assignEach es X.env).length = n) (hst : (assignEach es X.env).findIdx? (·.1) = none) : PG X (.Tuple es k pos) (gTup K n t) := by
  subst h
  exact pg_tup hc hp hn hst

/-! ### the law's own rule of lengths -/
def nmsT : List Str → TA
  | [] => tNil
  | k :: r => tCons (tC (.str k)) (nmsT r)
theorem nmsT_run : ∀ (ks : List Str) (σ : L2.St) (H : Hp) (Q : List V → Hp → Prop), Q (ks.map V.str) H → nmsT ks σ H Q
  | [], _, _, _, q => q
  | k :: r, σ, H, Q, q => nmsT_run r σ H (fun xs H2 => Q (.str k :: xs) H2) q
theorem flat_strs : ∀ ks : List Str, (ks.map V.str).all flatV = true
  | [] => rfl
  | k :: r => flat_strs r
theorem in_strs {k : Str} : ∀ {ks : List Str}, inV (.str k) (ks.map V.str) = decide (k ∈ ks)
  | [] => by simp [inV]
  | x :: r => by
    have e := in_strs (k := k) (ks := r)
    unfold inV at e ⊢
    rw [List.map_cons, List.any_cons, e]
    have h : eqV (.str x) (.str k) = decide (k = x) := by
      show (x == k) = _
      by_cases z : k = x
      · subst z; simp
      · rw [decide_eq_false z]; exact beq_eq_false_iff_ne.mpr (Ne.symm z)
    rw [h]
    by_cases z : k = x <;> by_cases y : k ∈ r <;> simp [z, y]
/-- if A in (a tuple of names) -/
theorem if_in {K' : PySem.W.Frag} {k : Str} (ks : List Str) {A : TE} {t u : TS} {D : Ends} {σ : L2.St} {H : Hp}
    (hA : ∀ Q : VK, Q (.str k) H → A σ H Q) (hn : ks.length ≤ sizeLine)
    (y : k ∈ ks → ∀ H', Same H H' → t D σ H') (n : k ∉ ks → ∀ H', Same H H' → u D σ H') :
    tIfS (tTest (tOp (rIn K' false) A (tTup (nmsT ks)))) t u D σ H := by
  refine hA _ ?_
  refine nmsT_run ks _ _ _ ⟨by rw [List.length_map]; exact hn, fun p np => ?_⟩
  refine ⟨p, _, rfl, .inr (SqT.of upd_same), rfl, flat_strs ks, ?_⟩
  refine ⟨_, rfl, ?_⟩
  show if inV (.str k) (ks.map V.str) = true then _ else _
  rw [in_strs]
  by_cases h : k ∈ ks
  · exact iteD h (y h _ (same_new np _))
  · exact iteDN h (n h _ (same_new np _))
/-- if A == a name -/
theorem if_is {k : Str} (x : Str) {A : TE} {t u : TS} {D : Ends} {σ : L2.St} {H : Hp}
    (hA : ∀ Q : VK, Q (.str k) H → A σ H Q) (y : k = x → t D σ H) (n : k ≠ x → u D σ H) :
    tIfS (tTest (tOp rEq A (tC (.str x)))) t u D σ H := by
  refine hA _ ?_
  refine ⟨rfl, _, rfl, ?_⟩
  by_cases h : k = x
  · exact iteD (congrArg V.str h) (y h)
  · exact iteDN (fun z => h (V.str.inj z)) (n h)
theorem Same.none {H H' : Hp} {p : Addr} (e : Same H H') (n : H' p = none) : H p = none := by
  cases h : H p with
  | none => rfl
  | some o => rw [e _ _ h] at n; cases n

theorem none_of {H H' : Hp} {p : Addr} (e : Same H H') (n : H' p = none) : H p = none := by
  cases h : H p with
  | none => rfl
  | some o => rw [e _ _ h] at n; cases n

/-! ### values in depth; _law_same -/
inductive Dt where
  | i (n : Int)
  | b (x : Bool)
  | s (x : Str)
  | n
  | l (xs : List Dt)
  | t (xs : List Dt)
/-- the value v is d, which has fewer than the given number of layers; all its lists and tuples stand at places in S -/
def DV (S : Addr → Prop) (H : Hp) : Nat → V → Dt → Prop
  | 0, _, _ => False
  | _ + 1, v, .i k => v = .int k
  | _ + 1, v, .b x => v = .bl x
  | _ + 1, v, .s x => v = .str x
  | _ + 1, v, .n => v = .non
  | m + 1, v, .l ds => ∃ a vs, v = .ref a ∧ S a ∧ H a = some (.lst vs) ∧ vs.length ≤ 100000 ∧ All2 (DV S H m) vs ds
  | m + 1, v, .t ds => ∃ a vs, v = .ref a ∧ S a ∧ H a = some (.tup vs) ∧ vs.length ≤ 100000 ∧ All2 (DV S H m) vs ds
def anyA : Addr → Prop := fun _ => True
theorem DV.keep {S S' : Addr → Prop} {H H' : Hp} (e : ∀ a o, S a → H a = some o → S' a ∧ H' a = some o) : ∀ {m : Nat} {v : V} {d : Dt}, DV S H m v d → DV S' H' m v d
  | 0, _, _, h => h.elim
  | _ + 1, _, .i _, h => h
  | _ + 1, _, .b _, h => h
  | _ + 1, _, .s _, h => h
  | _ + 1, _, .n, h => h
  | m + 1, _, .l ds, h => by
    obtain ⟨a, vs, h0, h1, h2, h3, h4⟩ := h
    exact ⟨a, vs, h0, (e _ _ h1 h2).1, (e _ _ h1 h2).2, h3, h4.mono fun _ _ r => r.keep e⟩
  | m + 1, _, .t ds, h => by
    obtain ⟨a, vs, h0, h1, h2, h3, h4⟩ := h
    exact ⟨a, vs, h0, (e _ _ h1 h2).1, (e _ _ h1 h2).2, h3, h4.mono fun _ _ r => r.keep e⟩
theorem DV.same {S : Addr → Prop} {H H' : Hp} (e : Same H H') {m : Nat} {v : V} {d : Dt} (h : DV S H m v d) : DV S H' m v d := h.keep fun a o s x => ⟨s, e a o x⟩
theorem DV.any {S : Addr → Prop} {H : Hp} {m : Nat} {v : V} {d : Dt} (h : DV S H m v d) : DV anyA H m v d := h.keep fun _ _ _ x => ⟨trivial, x⟩
theorem DV.but {b : Addr} {H H' : Hp} (e : But b H H') {m : Nat} {v : V} {d : Dt} (h : DV (· ≠ b) H m v d) : DV (· ≠ b) H' m v d := h.keep fun a o s x => ⟨s, e a o s x⟩
theorem DV.more {S : Addr → Prop} {H : Hp} : ∀ {m : Nat} {v : V} {d : Dt}, DV S H m v d → DV S H (m + 1) v d
  | 0, _, _, h => h.elim
  | _ + 1, _, .i _, h => h
  | _ + 1, _, .b _, h => h
  | _ + 1, _, .s _, h => h
  | _ + 1, _, .n, h => h
  | m + 1, _, .l ds, h => by
    obtain ⟨a, vs, h0, h1, h2, h3, h4⟩ := h
    exact ⟨a, vs, h0, h1, h2, h3, h4.mono fun _ _ r => r.more⟩
  | m + 1, _, .t ds, h => by
    obtain ⟨a, vs, h0, h1, h2, h3, h4⟩ := h
    exact ⟨a, vs, h0, h1, h2, h3, h4.mono fun _ _ r => r.more⟩
theorem DV.ints {S : Addr → Prop} {H : Hp} {m : Nat} : ∀ ns : List Int, All2 (DV S H (m + 1)) (ns.map V.int) (ns.map Dt.i)
  | [] => .nil
  | _ :: r => .cons rfl (DV.ints r)
theorem DV.lst {S : Addr → Prop} {H : Hp} {m : Nat} {a : Addr} {ns : List Int} (s : S a) (h : H a = some (.lst (ns.map V.int))) (l : ns.length ≤ 100000) : DV S H (m + 2) (.ref a) (.l (ns.map Dt.i)) :=
  ⟨a, _, rfl, s, h, by rw [List.length_map]; exact l, DV.ints ns⟩
theorem DV.tup {S : Addr → Prop} {H : Hp} {m : Nat} {a : Addr} {ns : List Int} (s : S a) (h : H a = some (.tup (ns.map V.int))) (l : ns.length ≤ 100000) : DV S H (m + 2) (.ref a) (.t (ns.map Dt.i)) :=
  ⟨a, _, rfl, s, h, by rw [List.length_map]; exact l, DV.ints ns⟩
def spSame (n : Nat) : Sp := fun vs H Q _ => ∃ (u v : V) (d : Dt), vs = [u, v] ∧ DV anyA H n u d ∧ DV anyA H n v d ∧ Q (.bl true) H
theorem ixs_at {X : Cx} {K : PySem.W.Frag} (h : X.K = K) : IxR X (rIx K) := by subst h; exact ix_seq

/-! ### jobs -/
def rateD (p : Int × Int) : Dt := .t [.i p.1, .i p.2]
def sampD (p : List Int × List Int) : Dt := .t [.l (p.1.map Dt.i), .l (p.2.map Dt.i)]
def isW (n : Int) : Prop := -2147483648 ≤ n ∧ n ≤ 2147483647
def Off (b D : Addr) : Addr → Prop := fun a => a ≠ b ∧ a ≠ D
theorem DV.ints_eq {S : Addr → Prop} {H : Hp} {m : Nat} : ∀ {vs : List V} {ns : List Int}, All2 (DV S H (m + 1)) vs (ns.map Dt.i) → vs = ns.map V.int
  | [], [], _ => rfl
  | _ :: _, n :: r, .cons h t => by
    have h : _ = V.int n := h
    rw [h, DV.ints_eq t]
    rfl
theorem DV.rate {S : Addr → Prop} {H : Hp} {m : Nat} {v : V} {p : Int × Int} (h : DV S H (m + 2) v (rateD p)) : ∃ t, v = .ref t ∧ S t ∧ H t = some (.tup [.int p.1, .int p.2]) := by
  obtain ⟨t, vs, h0, h1, h2, _, h4⟩ := h
  have e := DV.ints_eq (ns := [p.1, p.2]) h4
  subst e
  exact ⟨t, h0, h1, h2⟩
theorem DV.samp {S : Addr → Prop} {H : Hp} {m : Nat} {v : V} {p : List Int × List Int} (h : DV S H (m + 3) v (sampD p)) : ∃ t g w, v = .ref t ∧ S t ∧ S g ∧ S w ∧ H t = some (.tup [.ref g, .ref w]) ∧ H g = some (.lst (p.1.map V.int)) ∧ H w = some (.lst (p.2.map V.int)) ∧ p.1.length ≤ 100000 ∧ p.2.length ≤ 100000 := by
  obtain ⟨t, vs, h0, h1, h2, _, h4⟩ := h
  cases h4 with
  | cons a h4 =>
    cases h4 with
    | cons c h4 =>
      cases h4
      obtain ⟨g, us, rfl, g1, g2, g3, g4⟩ := a
      obtain ⟨w, ws, rfl, w1, w2, w3, w4⟩ := c
      have e := DV.ints_eq g4
      subst e
      have e := DV.ints_eq w4
      subst e
      rw [List.length_map] at g3 w3
      exact ⟨t, g, w, h0, h1, g1, w1, h2, g2, w2, g3, w3⟩
theorem samp_dv {S : Addr → Prop} {H : Hp} {m : Nat} {t g w : Addr} {p : List Int × List Int} (s1 : S t) (s2 : S g) (s3 : S w) (h1 : H t = some (.tup [.ref g, .ref w])) (h2 : H g = some (.lst (p.1.map V.int))) (h3 : H w = some (.lst (p.2.map V.int))) (l1 : p.1.length ≤ 100000) (l2 : p.2.length ≤ 100000) :
    DV S H (m + 3) (.ref t) (sampD p) := ⟨t, _, rfl, s1, h1, (by show 2 ≤ 100000; decide), .cons (DV.lst s2 h2 l1) (.cons (DV.lst s3 h3 l2) .nil)⟩
/-- one more item of a list that is being made -/
theorem DV.grow {b D : Addr} {H H1 : Hp} {vs : List V} {ds : List Dt} {v : V} {d : Dt} {m : Nat} (e : ∀ c o, Off b D c → H c = some o → H1 c = some o) (h : All2 (DV (Off b D) H m) vs ds) (hv : DV (Off b D) H1 m v d) (o : HO) : All2 (DV (Off b D) (upd H1 D o) m) (vs ++ [v]) (ds ++ [d]) := by
  have k : ∀ c x, Off b D c → H1 c = some x → Off b D c ∧ (upd H1 D o) c = some x := fun c x s h => ⟨s, by rw [upd_ne s.2]; exact h⟩
  exact (h.mono fun _ _ r => (r.keep fun c x s h => ⟨s, e c x s h⟩).keep k).snoc (hv.keep k)
structure JobOk (ni nt : Int) (seed batch factor point : Int) (rates : List (Int × Int)) (data : List (List Int × List Int)) : Prop where
  sd : isW seed
  b1 : 1 ≤ batch
  b3 : batch ≤ 3
  fa : isW factor
  p0 : 0 ≤ point
  p1 : point ≤ 31
  rl : rates.length ≤ 4
  ro : ∀ p ∈ rates, 0 ≤ p.1 ∧ p.1 ≤ 4294967295 ∧ isW p.2
  d1 : 1 ≤ data.length
  d5 : data.length ≤ 5
  dd : ∀ p ∈ data, (p.1.length : Int) = ni ∧ (p.2.length : Int) = nt ∧ (∀ x ∈ p.1, isW x) ∧ ∀ x ∈ p.2, isW x
/-- the law's list of a job -/
structure JobG (H : Hp) (b r : Addr) (rs : List Int) (jb RL DL n PL NL LL : Addr) (ni nt : Int) (pms : List (Int × Int × Str × Int)) (nds : List Nd) (ls : List Int) (seed batch factor point : Int) (rates : List (Int × Int)) (data : List (List Int × List Int)) : Prop where
  g : G H b r rs n PL NL LL ni nt pms nds ls
  nb : jb ≠ b
  jl : H jb = some (.lst [.ref n, .int seed, .int batch, .int factor, .int point, .ref RL, .ref DL])
  rt : DV (· ≠ b) H 3 (.ref RL) (.l (rates.map rateD))
  dt : DV (· ≠ b) H 4 (.ref DL) (.l (data.map sampD))
section
variable {H H' : Hp} {b r : Addr} {rs : List Int} {jb RL DL n PL NL LL : Addr} {ni nt : Int} {pms : List (Int × Int × Str × Int)} {nds : List Nd} {ls : List Int} {seed batch factor point : Int} {rates : List (Int × Int)} {data : List (List Int × List Int)}
theorem JobG.but (j : JobG H b r rs jb RL DL n PL NL LL ni nt pms nds ls seed batch factor point rates data) (B : Box H' b r rs) (e : But b H H') : JobG H' b r rs jb RL DL n PL NL LL ni nt pms nds ls seed batch factor point rates data :=
  ⟨j.g.but B e, j.nb, e _ _ j.nb j.jl, j.rt.but e, j.dt.but e⟩
theorem JobG.same (j : JobG H b r rs jb RL DL n PL NL LL ni nt pms nds ls seed batch factor point rates data) (e : Same H H') : JobG H' b r rs jb RL DL n PL NL LL ni nt pms nds ls seed batch factor point rates data :=
  ⟨j.g.same e, j.nb, e _ _ j.jl, j.rt.same e, j.dt.same e⟩
end
def spSample : Sp := fun vs H Q _ => ∃ (b r n : Addr) (rs : List Int) (ni nt : Int) (x y z : V), vs = [.ref b, .ref n] ∧ Box H b r rs ∧ n ≠ b ∧ H n = some (.lst [.int ni, .int nt, x, y, z]) ∧ 0 ≤ ni ∧ ni ≤ 100 ∧ 0 ≤ nt ∧ nt ≤ 100 ∧
  ∀ (v : V) (p : List Int × List Int) (H' : Hp), Box H' b r rs → But b H H' → DV (fun a => H a = none) H' 3 v (sampD p) → (p.1.length : Int) = ni → (p.2.length : Int) = nt → (∀ x ∈ p.1, isW x) → (∀ x ∈ p.2, isW x) → Q v H'
def spJob (K : PySem.W.Frag) : Sp := fun vs H Q _ => ∃ (b r : Addr) (rs : List Int) (ks : Addr) (kl : List Str) (most : Int), vs = [.ref b, .ref ks, .int most] ∧ Box H b r rs ∧ SqL K H ks (kl.map V.str) ∧ (∀ k ∈ kl, k ∈ allKinds) ∧ 0 < kl.length ∧ 1 ≤ most ∧ most ≤ 100 ∧
  ∀ (jb RL DL n PL NL LL : Addr) (ni nt : Int) (pms : List (Int × Int × Str × Int)) (nds : List Nd) (ls : List Int) (seed batch factor point : Int) (rates : List (Int × Int)) (data : List (List Int × List Int)) (H' : Hp),
    JobG H' b r rs jb RL DL n PL NL LL ni nt pms nds ls seed batch factor point rates data → Built ni nt pms nds ls → (∃ l0, ls = l0 ++ [1]) → (nds.length : Int) ≤ most + 1 → JobOk ni nt seed batch factor point rates data → But b H H' → Q (.ref jb) H'
/-- a Job -/
structure JobO (K : PySem.W.Frag) (cs : Cs) (H : Hp) (q : Addr) (ni nt : Int) (pms : List (Int × Int × Str × Int)) (nds : List Nd) (ls : List Int) (seed batch factor point : Int) (rates : List (Int × Int)) (data : List (List Int × List Int)) : Prop where
  ex : ∃ dx fs x RL DL, H q = some (.ins cs.Job dx fs) ∧ fs.lookup ("net" : Str) = some (.ref x) ∧ fs.lookup ("seed" : Str) = some (.int seed) ∧ fs.lookup ("batch" : Str) = some (.int batch) ∧ fs.lookup ("factor" : Str) = some (.int factor) ∧ fs.lookup ("point" : Str) = some (.int point) ∧
    fs.lookup ("rates" : Str) = some (.ref RL) ∧ fs.lookup ("data" : Str) = some (.ref DL) ∧ NetF K cs H x ni nt pms nds ∧ NetL cs H x ls ∧ DV anyA H 3 (.ref RL) (.l (rates.map rateD)) ∧ DV anyA H 4 (.ref DL) (.l (data.map sampD))
theorem JobO.same {K : PySem.W.Frag} {cs : Cs} {H H' : Hp} {q : Addr} {ni nt : Int} {pms : List (Int × Int × Str × Int)} {nds : List Nd} {ls : List Int} {seed batch factor point : Int} {rates : List (Int × Int)} {data : List (List Int × List Int)}
    (j : JobO K cs H q ni nt pms nds ls seed batch factor point rates data) (e : Same H H') : JobO K cs H' q ni nt pms nds ls seed batch factor point rates data := by
  obtain ⟨dx, fs, x, RL, DL, h1, h2, h3, h4, h5, h6, h7, h8, h9, h10, h11, h12⟩ := j.ex
  exact ⟨dx, fs, x, RL, DL, e _ _ h1, h2, h3, h4, h5, h6, h7, h8, h9.same e, h10.same e, h11.same e, h12.same e⟩
def spJobInit (cs : Cs) : Sp := fun vs H Q _ => ∃ (x dx RL DL : Addr) (net : V) (seed batch factor point : Int) (rates : List (Int × Int)) (data : List (List Int × List Int)), vs = [.ref x, net, .int seed, .int batch, .int factor, .int point, .ref RL, .ref DL] ∧ H x = some (.ins cs.Job dx []) ∧
  DV (· ≠ x) H 3 (.ref RL) (.l (rates.map rateD)) ∧ DV (· ≠ x) H 4 (.ref DL) (.l (data.map sampD)) ∧
  ∀ (H' : Hp) (fs : List (Str × V)) (R' D' : Addr), But x H H' → H' x = some (.ins cs.Job dx fs) → fs.lookup ("net" : Str) = some net → fs.lookup ("seed" : Str) = some (.int seed) → fs.lookup ("batch" : Str) = some (.int batch) → fs.lookup ("factor" : Str) = some (.int factor) → fs.lookup ("point" : Str) = some (.int point) →
    fs.lookup ("rates" : Str) = some (.ref R') → fs.lookup ("data" : Str) = some (.ref D') → DV anyA H' 3 (.ref R') (.l (rates.map rateD)) → DV anyA H' 4 (.ref D') (.l (data.map sampD)) → Q .non H'
def spJobObj (K : PySem.W.Frag) (cs : Cs) : Sp := fun vs H Q _ => ∃ (b r : Addr) (rs : List Int) (jb RL DL n PL NL LL : Addr) (ni nt : Int) (pms : List (Int × Int × Str × Int)) (nds : List Nd) (ls : List Int) (seed batch factor point : Int) (rates : List (Int × Int)) (data : List (List Int × List Int)), vs = [.ref jb] ∧
  JobG H b r rs jb RL DL n PL NL LL ni nt pms nds ls seed batch factor point rates data ∧ NetOk ni nt (sides pms) nds ∧ pms.length ≤ 1000 ∧ lensFrom ni nt (sides pms) [] nds = ls ∧
  ∀ (q : Addr) (H' : Hp), Same H H' → JobO K cs H' q ni nt pms nds ls seed batch factor point rates data → Q (.ref q) H'
theorem Built.ok {ni nt : Int} {pms : List (Int × Int × Str × Int)} {nds : List Nd} {ls : List Int} (u : Built ni nt pms nds ls) (few : nds.length ≤ 1000) : NetOk ni nt (sides pms) nds := by
  refine ⟨fun rc h => ?_, fun l hl => ?_, u.tam, few⟩
  · unfold sides at h
    obtain ⟨m, hm, rfl⟩ := List.mem_map.mp h
    obtain ⟨r1, r2, c1, c2, _⟩ := u.pok m hm
    exact ⟨by show 0 ≤ m.1; omega, by show m.1 < 1000; omega, by show 0 ≤ m.2.1; omega, by show m.2.1 < 1000; omega⟩
  · rw [u.len] at hl
    have := u.bnd l hl
    exact ⟨by omega, cap_small (by omega) (by omega)⟩
theorem fresh_but {b c : Addr} {o : HO} {H H1 : Hp} (e : But b H H1) (hb : H1 b = some o) (hc : H1 c = none) : H c = none := by
  cases z : H c with
  | none => rfl
  | some u =>
    by_cases h : c = b
    · rw [h, hb] at hc; cases hc
    · rw [e _ _ h z] at hc; cases hc
theorem Box.lst {H : Hp} {b r : Addr} {rs : List Int} (B : Box H b r rs) : ∃ xs, H b = some (.lst xs) := by
  obtain ⟨z, _, h⟩ := B.ex
  exact ⟨_, h⟩
theorem all_snoc {xs : List Int} {v : Int} (h : ∀ x ∈ xs, isW x) (hv : isW v) : ∀ x ∈ xs ++ [v], isW x := fun x hx => by
  rcases List.mem_append.mp hx with z | z
  · exact h x z
  · rw [List.mem_singleton.mp z]; exact hv

/-! ### the laws' small jobs: their generator -/
def FillOk (kd : Str) (w : Int) : Prop := (kd = "same" ∧ -2147483648 ≤ w ∧ w ≤ 2147483647) ∨ (kd = "mixed" ∧ 0 ≤ w ∧ w ≤ 31)
def spFill : Sp := fun vs H Q _ => ∃ (b r : Addr) (rs : List Int), vs = [.ref b] ∧ Box H b r rs ∧ ∀ (f : Addr) (kd : Str) (w : Int) (H' : Hp), Box H' b r rs → But b H H' → H f = none → H' f = some (.tup [.str kd, .int w]) → FillOk kd w → Q (.ref f) H'
def Nd.nice : Nd → Prop
  | .scale w _ => -2147483648 ≤ w ∧ w ≤ 2147483647
  | .shift k _ => 0 ≤ k ∧ k ≤ 31
  | .drop m _ => 2 ≤ m ∧ m ≤ 4294967295
  | .lower c _ => 1 ≤ c ∧ c ≤ 3
  | .mat k _ _ => 1 ≤ k ∧ k ≤ 3
  | .matT k _ _ => 1 ≤ k ∧ k ≤ 3
  | .embed _ lo n => 0 ≤ lo ∧ 1 ≤ n ∧ n ≤ 3
  | .take lo n _ => 0 ≤ lo ∧ 1 ≤ n ∧ n ≤ 3
  | _ => True
theorem Nd.nice_tame {d : Nd} (h : d.nice) : d.tame := by
  cases d <;> first | exact True.intro | (show _ < _; have := h.2; omega)
def spTry : Sp := fun vs H Q _ => ∃ (b r : Addr) (rs : List Int) (n PL NL LL : Addr) (ni nt : Int) (pms : List (Int × Int × Str × Int)) (nds : List Nd) (ls : List Int), vs = [.ref b, .ref n] ∧ G H b r rs n PL NL LL ni nt pms nds ls ∧ Built ni nt pms nds ls ∧ 1 ≤ nds.length ∧ nds.length ≤ 1000 ∧ 1 ≤ pms.length ∧
  ∀ (t : Addr) (d : Nd) (H' : Hp), G H' b r rs n PL NL LL ni nt pms nds ls → But b H H' → H' t = some (.tup d.enc) → d.fits pms.length ls.length → d.nice → Q (.ref t) H'
def spLLen : Sp := fun vs H Q _ => ∃ (b r : Addr) (rs : List Int) (n PL NL LL a : Addr) (ni nt : Int) (pms : List (Int × Int × Str × Int)) (nds : List Nd) (ls : List Int) (d : Nd), vs = [.ref n, .ref a] ∧ G H b r rs n PL NL LL ni nt pms nds ls ∧ Built ni nt pms nds ls ∧ H a = some (.tup d.enc) ∧ d.fits pms.length ls.length ∧ d.nice ∧
  ∀ (l : Int) (H' : Hp), Same H H' → (1 ≤ l → d.len ni nt (sides pms) ls = some l) → Q (.int l) H'
theorem flag {x : Int} {c : Prop} [Decidable c] {o : Option Int} (h : c → o = some x) : 1 ≤ x * (if decide c = true then 1 else 0) → o = some (x * (if decide c = true then 1 else 0)) := by
  by_cases z : c
  · rw [if_pos (decide_eq_true z), Int.mul_one]; exact fun _ => h z
  · rw [if_neg (by rw [decide_eq_false z]; decide), Int.mul_zero]; omega
theorem flagF {x : Int} {o : Option Int} : 1 ≤ x * (if false = true then 1 else 0) → o = some (x * (if false = true then 1 else 0)) := by
  rw [if_neg (by decide), Int.mul_zero]; omega
theorem bd64 {x : Int} (h0 : 0 ≤ x) (h1 : x ≤ 1000000) : -(2 ^ 64) < x ∧ x < 2 ^ 64 := ⟨by omega, by omega⟩
theorem flag64 (k : Bool) : -(2 ^ 64) < (if k = true then (1 : Int) else 0) ∧ (if k = true then (1 : Int) else 0) < 2 ^ 64 := by cases k <;> decide
def spSNet : Sp := fun vs H Q _ => ∃ (b r : Addr) (rs : List Int) (most : Int), vs = [.ref b, .int most] ∧ Box H b r rs ∧ 0 ≤ most ∧ most ≤ 100 ∧
  ∀ (n PL NL LL : Addr) (ni nt : Int) (pms : List (Int × Int × Str × Int)) (nds : List Nd) (ls : List Int) (H' : Hp), G H' b r rs n PL NL LL ni nt pms nds ls → Built ni nt pms nds ls → (∃ l0, ls = l0 ++ [1]) → (nds.length : Int) ≤ most + 2 → 1 ≤ pms.length ∧ pms.length ≤ 3 ∧ (∀ m ∈ pms, m.1 ≤ 3 ∧ m.2.1 ≤ 3) → (∃ r, nds = .input :: r) → Exc [b] H H' → H n = none → H PL = none → H NL = none → H LL = none → Q (.ref n) H'
/-- 0 < x <= 12 -/
theorem chain01 {x : Int} {H : Hp} {Q : VK} {σ : L2.St} (q : Q (.bl (decide (1 ≤ x ∧ x ≤ 12))) H) :
    rI0 (fun i j => .bl (decide (i < j))) (.int 0) (.int x) H fun z H3 => ∃ k, z = .bl k ∧ (if k = true then tC (.int 12) σ H3 fun w' H4 => rI0 (fun i j => .bl (decide (i ≤ j))) (.int x) w' H4 Q else Q (.bl false) H3) := by
  refine ⟨_, _, rfl, rfl, _, rfl, ?_⟩
  by_cases h : 0 < x
  · refine iteD h ?_
    refine ⟨_, _, rfl, rfl, ?_⟩
    have e : decide (1 ≤ x ∧ x ≤ 12) = decide (x ≤ 12) := decide_eq_decide.mpr ⟨fun z => z.2, fun z => ⟨by omega, z⟩⟩
    rw [e] at q
    exact q
  · refine iteDN h ?_
    have e : decide (1 ≤ x ∧ x ≤ 12) = false := decide_eq_false fun z => h (by omega)
    rw [e] at q
    exact q
theorem Nd.nice.tame' {d : Nd} (h : d.nice) : d.tame := Nd.nice_tame h
structure Small (most : Int) (pms : List (Int × Int × Str × Int)) (nds : List Nd) (rates : List (Int × Int)) (data : List (List Int × List Int)) : Prop where
  p1 : 1 ≤ pms.length
  p3 : pms.length ≤ 3
  sd : ∀ m ∈ pms, m.1 ≤ 3 ∧ m.2.1 ≤ 3
  few : (nds.length : Int) ≤ most + 2
  inp : ∃ r, nds = .input :: r
  rt : rates.length ≤ 2
  dt : data.length ≤ 4
def spSJob : Sp := fun vs H Q _ => ∃ (b r : Addr) (rs : List Int) (most : Int), vs = [.ref b, .int most] ∧ Box H b r rs ∧ 0 ≤ most ∧ most ≤ 100 ∧
  ∀ (jb RL DL n PL NL LL : Addr) (ni nt : Int) (pms : List (Int × Int × Str × Int)) (nds : List Nd) (ls : List Int) (seed batch factor point : Int) (rates : List (Int × Int)) (data : List (List Int × List Int)) (H' : Hp),
    JobG H' b r rs jb RL DL n PL NL LL ni nt pms nds ls seed batch factor point rates data → Built ni nt pms nds ls → Small most pms nds rates data → (∃ l0, ls = l0 ++ [1]) → JobOk ni nt seed batch factor point rates data → But b H H' → Q (.ref jb) H'
def spBuilt (K : PySem.W.Frag) (cs : Cs) : Sp := fun vs H Q _ => ∃ (b r : Addr) (rs : List Int) (jb RL DL n PL NL LL : Addr) (ni nt : Int) (pms : List (Int × Int × Str × Int)) (nds : List Nd) (ls : List Int) (seed batch factor point : Int) (rates : List (Int × Int)) (data : List (List Int × List Int)), vs = [.ref jb] ∧
  JobG H b r rs jb RL DL n PL NL LL ni nt pms nds ls seed batch factor point rates data ∧ NetOk ni nt (sides pms) nds ∧ pms.length ≤ 1000 ∧ lensFrom ni nt (sides pms) [] nds = ls ∧
  ∀ (q : Addr) (H' : Hp), Same H H' → JobO K cs H' q ni nt pms nds ls seed batch factor point rates data → Q (.ref q) H'

section
variable {P : Program} {w : World} {K : PySem.W.Frag} {mg : Str → Option Value} {cs : Cs} {base : Heap} {f : Addr} {fd : FuncData}
theorem ok__law_fill (F : Fun K "_law_fill" "_law_fill" s__law_fill f fd) (T : Txt K mg cs w) (d__law_draw : Def P w K mg base 1 "_law_draw" ["box", "many"] (spDraw)) (d__law_word : Def P w K mg base 2 "_law_word" ["box"] (spWord)) :
    FnOk P w K mg base CX0 3 f fd ["box"] (spFill) := by
  obtain ⟨f0, fd0, G__law_draw, b__law_draw, g__law_draw, k__law_draw⟩ := d__law_draw.ex
  obtain ⟨f1, fd1, G__law_word, b__law_word, g__law_word, k__law_word⟩ := d__law_word.ex
  refine F.ok sc__law_fill (fun vs H Q E h => ?_) (fun cdv A outer s H vs Q E hr h => ?_)
  · obtain ⟨b, r, rs, rfl, B, q⟩ := h
    rfl
  obtain ⟨b, r, rs, rfl, B, q⟩ := h
  have hu := hr.units
  refine ⟨_, pss_cons (ps_if (pt_cmpR op_eq (pe_call G__law_draw (hr.mono (by decide)) rfl g__law_draw k__law_draw b__law_draw .nil pass0 (pa_cons (pv 0) (pa_cons pe_int pa_nil))) pe_int (nomark _)) (pss_one (ps_ret (pe_tup (pa_cons pe_str (pa_cons (pe_call G__law_word hr rfl g__law_word k__law_word b__law_word .nil pass0 (pa_cons (pv 0) pa_nil)) pa_nil))))) pss_nil)
 (pss_one (ps_ret (pe_tup (pa_cons pe_str (pa_cons (pe_ix (ixl_at (K := K) rfl) (pe_lst (pa_cons pe_int (pa_cons pe_int (pa_cons pe_int (pa_cons pe_int (pa_cons pe_int pa_nil)))))) (pe_call G__law_draw (hr.mono (by decide)) rfl g__law_draw k__law_draw b__law_draw .nil pass0 (pa_cons (pv 0) (pa_cons pe_int pa_nil))) (fun _ _ => rfl)) pa_nil))))), ?_⟩
  refine ⟨_, rfl, b, r, rs, 2, rfl, B, by decide, fun v H1 v0 v1 B1 e1 => ⟨rfl, _, rfl, ?_⟩⟩
  refine ite2 (fun c => ?_) (fun c => ?_)
  · refine ⟨_, rfl, b, r, rs, rfl, B1, fun w H2 w0 w1 B2 e2 => ⟨by show 2 ≤ sizeLine; decide, fun f nf => ?_⟩⟩
    generalize eqH : upd H2 f _ = H3
    obtain ⟨s3, h3⟩ := new_facts eqH nf
    obtain ⟨bx, hb⟩ := B2.lst
    exact q f "same" w H3 (B2.same s3) ((e1.trans e2).trans (.of s3)) (fresh_but (e1.trans e2) hb nf) h3 (.inl ⟨rfl, w0, w1⟩)
  · refine ⟨by show 5 ≤ sizeLine; decide, fun l nl => ?_⟩
    generalize eqH : upd H1 l _ = H2
    obtain ⟨s2, h2⟩ := new_facts eqH nl
    obtain ⟨bx, hb⟩ := B1.lst
    refine ⟨_, rfl, b, r, rs, 5, rfl, B1.same s2, by decide, fun i H3 i0 i5 B3 e3 => ?_⟩
    have hi : inR i ([0, 8, 16, 28, 31] : List Int).length := ⟨i0, by show i < 5; omega⟩
    have hm := lget_mem hi
    have hs : 0 ≤ lget [0, 8, 16, 28, 31] i ∧ lget [0, 8, 16, 28, 31] i ≤ 31 := by
      generalize lget [0, 8, 16, 28, 31] i = z at *
      simp at hm
      omega
    have lb : l ≠ b := (ne_of_none hb nl).symm
    refine ⟨l, _, _, _, rfl, rfl, SqL.of (e3 _ _ lb h2), at_ints hi, by show 2 ≤ sizeLine; decide, fun f nf => ?_⟩
    generalize lget [0, 8, 16, 28, 31] i = w at *
    generalize eqH : upd H3 f _ = H4
    obtain ⟨s4, h4⟩ := new_facts eqH nf
    obtain ⟨bx3, hb3⟩ := B3.lst
    have e13 := (e1.trans (.of s2)).trans e3
    exact q f "mixed" w H4 (B3.same s4) (e13.trans (.of s4)) (fresh_but e13 hb3 nf) h4 (.inr ⟨rfl, hs⟩)
theorem ok__law_try (F : Fun K "_law_try" "_law_try" s__law_try f fd) (T : Txt K mg cs w) (d__law_draw : Def P w K mg base 1 "_law_draw" ["box", "many"] (spDraw)) (d__law_word : Def P w K mg base 2 "_law_word" ["box"] (spWord)) :
    FnOk P w K mg base CX0 3 f fd ["box", "net"] (spTry) := by
  obtain ⟨f0, fd0, G__law_draw, b__law_draw, g__law_draw, k__law_draw⟩ := d__law_draw.ex
  obtain ⟨f1, fd1, G__law_word, b__law_word, g__law_word, k__law_word⟩ := d__law_word.ex
  refine F.ok sc__law_try (fun vs H Q E h => ?_) (fun cdv A outer s H vs Q E hr h => ?_)
  · obtain ⟨b, r, rs, n, PL, NL, LL, ni, nt, pms, nds, ls, rfl, g, u, n1k, n9k, p1k, q⟩ := h
    rfl
  obtain ⟨b, r, rs, n, PL, NL, LL, ni, nt, pms, nds, ls, rfl, g, u, n1k, n9k, p1k, q⟩ := h
  have hu := hr.units
  refine ⟨_, pss_cons (ps_set (i := 2) sc__law_try.nd rfl (.inl rfl) (pe_lst (pa_cons pe_str (pa_cons pe_str (pa_cons pe_str (pa_cons pe_str (pa_cons pe_str (pa_cons pe_str (pa_cons pe_str (pa_cons pe_str (pa_cons pe_str (pa_cons pe_str (pa_cons pe_str (pa_cons pe_str (pa_cons pe_str (pa_cons pe_str (pa_cons pe_str (pa_cons pe_str (pa_cons pe_str (pa_cons pe_str (pa_cons pe_str (pa_cons pe_str (pa_cons pe_str pa_nil)))))))))))))))))))))))
 (pss_cons (ps_set (i := 3) sc__law_try.nd rfl (.inl rfl) (pe_ix (ixl_at (K := K) rfl) (pv 2) (pe_call G__law_draw (hr.mono (by decide)) rfl g__law_draw k__law_draw b__law_draw .nil pass0 (pa_cons (pv 0) (pa_cons (pe_callB (len_at (K := K) rfl) (by rfl) T.z_len PySem.boot_len (pa_cons (pv 2) pa_nil)) pa_nil))) (fun _ _ => rfl)))
 (pss_cons (ps_set (i := 4) sc__law_try.nd rfl (.inl rfl) (pe_op op_sub (pe_op op_sub (pe_callB (len_at (K := K) rfl) (by rfl) T.z_len PySem.boot_len (pa_cons (pe_ix (ixl_at (K := K) rfl) (pv 1) pe_int (fun _ _ => rfl)) pa_nil)) pe_int) (pe_callTy call_int1 (by rfl) T.z_int PyProof.Rows.boot_int (pa_cons (pe_op op_mul (pe_call G__law_draw (hr.mono (by decide)) rfl g__law_draw k__law_draw b__law_draw .nil pass0 (pa_cons (pv 0) (pa_cons (pe_callB (len_at (K := K) rfl) (by rfl) T.z_len PySem.boot_len (pa_cons (pe_ix (ixl_at (K := K) rfl) (pv 1) pe_int (fun _ _ => rfl)) pa_nil)) pa_nil))) (pe_call G__law_draw (hr.mono (by decide)) rfl g__law_draw k__law_draw b__law_draw .nil pass0 (pa_cons (pv 0) (pa_cons pe_int pa_nil)))) pa_nil))))
 (pss_cons (ps_set (i := 5) sc__law_try.nd rfl (.inl rfl) (pe_call G__law_draw (hr.mono (by decide)) rfl g__law_draw k__law_draw b__law_draw .nil pass0 (pa_cons (pv 0) (pa_cons (pe_callB (len_at (K := K) rfl) (by rfl) T.z_len PySem.boot_len (pa_cons (pe_ix (ixl_at (K := K) rfl) (pv 1) pe_int (fun _ _ => rfl)) pa_nil)) pa_nil))))
 (pss_cons (ps_set (i := 6) sc__law_try.nd rfl (.inl rfl) (pe_op op_add pe_int (pe_call G__law_draw (hr.mono (by decide)) rfl g__law_draw k__law_draw b__law_draw .nil pass0 (pa_cons (pv 0) (pa_cons pe_int pa_nil)))))
 (pss_cons (ps_set (i := 7) sc__law_try.nd rfl (.inl rfl) (pe_call G__law_draw (hr.mono (by decide)) rfl g__law_draw k__law_draw b__law_draw .nil pass0 (pa_cons (pv 0) (pa_cons (pe_callB (len_at (K := K) rfl) (by rfl) T.z_len PySem.boot_len (pa_cons (pe_ix (ixl_at (K := K) rfl) (pv 1) pe_int (fun _ _ => rfl)) pa_nil)) pa_nil))))
 (pss_cons (ps_if (pt_cmpR op_in_seq (pv 3) (pe_tup (pa_cons pe_str (pa_cons pe_str pa_nil))) (by with_unfolding_all rfl)) (pss_one (ps_ret (pe_tup (pa_cons (pv 3) (pa_cons (pv 7) (pa_cons (pv 4) pa_nil)))))) pss_nil)
 (pss_cons (ps_if (pt_cmpR op_eq (pv 3) pe_str (nomark _)) (pss_one (ps_ret (pe_tup (pa_cons (pv 3) (pa_cons (pv 7) (pa_cons (pe_call G__law_draw (hr.mono (by decide)) rfl g__law_draw k__law_draw b__law_draw .nil pass0 (pa_cons (pv 0) (pa_cons (pe_ix (ixl_at (K := K) rfl) (pv 1) pe_int (fun _ _ => rfl)) pa_nil))) (pa_cons (pv 6) pa_nil))))))) pss_nil)
 (pss_cons (ps_if (pt_cmpR op_in_seq (pv 3) (pe_tup (pa_cons pe_str (pa_cons pe_str pa_nil))) (by with_unfolding_all rfl)) (pss_one (ps_ret (pe_tup (pa_cons (pv 3) (pa_cons (pv 6) (pa_cons (pv 4) (pa_cons (pv 5) pa_nil))))))) pss_nil)
 (pss_cons (ps_if (pt_cmpR op_eq (pv 3) pe_str (nomark _)) (pss_one (ps_ret (pe_tup (pa_cons (pv 3) (pa_cons (pv 6) (pa_cons (pv 4) pa_nil)))))) pss_nil)
 (pss_cons (ps_if (pt_cmpR op_in_seq (pv 3) (pe_tup (pa_cons pe_str (pa_cons pe_str (pa_cons pe_str (pa_cons pe_str pa_nil))))) (by with_unfolding_all rfl)) (pss_one (ps_ret (pe_tup (pa_cons (pv 3) (pa_cons (pv 4) (pa_cons (pv 5) pa_nil)))))) pss_nil)
 (pss_cons (ps_if (pt_cmpR op_eq (pv 3) pe_str (nomark _)) (pss_one (ps_ret (pe_tup (pa_cons (pv 3) (pa_cons (pe_call G__law_word hr rfl g__law_word k__law_word b__law_word .nil pass0 (pa_cons (pv 0) pa_nil)) (pa_cons (pv 4) pa_nil)))))) pss_nil)
 (pss_cons (ps_if (pt_cmpR op_eq (pv 3) pe_str (nomark _)) (pss_one (ps_ret (pe_tup (pa_cons (pv 3) (pa_cons (pe_ix (ixl_at (K := K) rfl) (pe_lst (pa_cons pe_int (pa_cons pe_int (pa_cons pe_int (pa_cons pe_int (pa_cons pe_int (pa_cons pe_int pa_nil))))))) (pe_call G__law_draw (hr.mono (by decide)) rfl g__law_draw k__law_draw b__law_draw .nil pass0 (pa_cons (pv 0) (pa_cons pe_int pa_nil))) (fun _ _ => rfl)) (pa_cons (pv 4) pa_nil)))))) pss_nil)
 (pss_cons (ps_if (pt_cmpR op_eq (pv 3) pe_str (nomark _)) (pss_one (ps_ret (pe_tup (pa_cons (pv 3) (pa_cons (pe_op op_add pe_int (pe_call G__law_draw (hr.mono (by decide)) rfl g__law_draw k__law_draw b__law_draw .nil pass0 (pa_cons (pv 0) (pa_cons pe_int pa_nil)))) (pa_cons (pv 4) pa_nil)))))) pss_nil)
 (pss_cons (ps_if (pt_cmpR op_in_seq (pv 3) (pe_tup (pa_cons pe_str (pa_cons pe_str pa_nil))) (by with_unfolding_all rfl)) (pss_one (ps_ret (pe_tup (pa_cons (pv 3) (pa_cons (pv 4) pa_nil))))) pss_nil)
 (pss_cons (ps_if (pt_cmpR op_eq (pv 3) pe_str (nomark _)) (pss_one (ps_ret (pe_tup (pa_cons (pv 3) (pa_cons (pe_call G__law_draw (hr.mono (by decide)) rfl g__law_draw k__law_draw b__law_draw .nil pass0 (pa_cons (pv 0) (pa_cons (pe_ix (ixl_at (K := K) rfl) (pe_ix (ixl_at (K := K) rfl) (pv 1) pe_int (fun _ _ => rfl)) (pv 4) (fun _ _ => rfl)) pa_nil))) (pa_cons (pv 6) (pa_cons (pv 4) pa_nil))))))) pss_nil)
 (pss_one (ps_ret (pe_tup (pa_cons (pv 3) pa_nil))))))))))))))))))), ?_⟩
  have ul := u.all
  obtain ⟨nr, n01, n02⟩ := g.nod
  have lnr : (((nr.map V.ref).length : Nat) : Int) = (nds.length : Int) := by rw [List.length_map, n02.length]
  refine ⟨by show 21 ≤ sizeLine; decide, fun kn nk => ?_⟩
  generalize eqH : upd H kn _ = H0
  obtain ⟨s0, hk⟩ := new_facts eqH nk
  clear eqH
  have hk : H0 kn = some (.lst ((["lin", "lin", "lin", "bias", "embed", "mat", "matT", "lower", "add", "sub", "mul", "mul", "scale", "shift", "relu", "drop", "sum", "join", "take", "target", "input"] : List Str).map V.str)) := hk
  have kall : ∀ k ∈ (["lin", "lin", "lin", "bias", "embed", "mat", "matT", "lower", "add", "sub", "mul", "mul", "scale", "shift", "relu", "drop", "sum", "join", "take", "target", "input"] : List Str), k ∈ allKinds := by decide
  have klen : (["lin", "lin", "lin", "bias", "embed", "mat", "matT", "lower", "add", "sub", "mul", "mul", "scale", "shift", "relu", "drop", "sum", "join", "take", "target", "input"] : List Str).length = 21 := rfl
  generalize (["lin", "lin", "lin", "bias", "embed", "mat", "matT", "lower", "add", "sub", "mul", "mul", "scale", "shift", "relu", "drop", "sum", "join", "take", "target", "input"] : List Str) = kl at *
  have g0 := g.same s0
  obtain ⟨bx0, hb0⟩ := g.blst
  have nbk : kn ≠ b := (ne_of_none hb0 nk).symm
  refine ⟨_, rfl, _, rfl, _, rfl, kn, _, rfl, .inl (SqL.of hk), b, r, rs, _, rfl, g0.box, (by rw [List.length_map, klen]; decide), fun v0 H1 v00 v01 B1 e1 => ?_⟩
  rw [List.length_map] at v01
  have g1 := g0.but B1 e1
  obtain ⟨kd, hkd, ekd⟩ := at_strs (kl := kl) ⟨v00, v01⟩
  have hkd := kall kd hkd
  refine ⟨kn, _, _, _, rfl, rfl, SqL.of (e1 _ _ nbk hk), ekd, ?_⟩
  have nl1 := g1.nod
  obtain ⟨nr1, n11, n12⟩ := g1.nod
  have l1 : (((nr1.map V.ref).length : Nat) : Int) = (nds.length : Int) := by rw [List.length_map, n12.length]
  refine ⟨_, rfl, n, _, _, _, rfl, rfl, SqL.of g1.net, rfl, NL, _, rfl, .inl (SqL.of n11), _, _, rfl, rfl, _, rfl, _, rfl, n, _, _, _, rfl, rfl, SqL.of g1.net, rfl, NL, _, rfl, .inl (SqL.of n11), b, r, rs, _, rfl, g1.box, (by omega), fun va H2 a0 a1 B2 e2 => ?_⟩
  have g2 := g1.but B2 e2
  refine ⟨_, rfl, b, r, rs, 2, rfl, B2, by decide, fun vz H3 z0 z1 B3 e3 => ?_⟩
  have g3 := g2.but B3 e3
  refine ⟨_, _, rfl, rfl, .inr ⟨by omega, by omega⟩, .inl ⟨_, rfl, _, _, rfl, rfl, ?_⟩⟩
  rw [l1] at a1 ⊢
  have ha : 0 ≤ (nds.length : Int) - 1 - va * vz ∧ (nds.length : Int) - 1 - va * vz < (nds.length : Int) := by
    rcases (show vz = 0 ∨ vz = 1 by omega) with rfl | rfl
    · rw [Int.mul_zero]; omega
    · rw [Int.mul_one]; omega
  dsimp only
  generalize (nds.length : Int) - 1 - va * vz = oa at *
  obtain ⟨nr3, n31, n32⟩ := g3.nod
  have l3 : (((nr3.map V.ref).length : Nat) : Int) = (nds.length : Int) := by rw [List.length_map, n32.length]
  refine ⟨_, rfl, _, rfl, n, _, _, _, rfl, rfl, SqL.of g3.net, rfl, NL, _, rfl, .inl (SqL.of n31), b, r, rs, _, rfl, g3.box, (by omega), fun ob H4 b0 b1 B4 e4 => ?_⟩
  have g4 := g3.but B4 e4
  rw [l3] at b1
  refine ⟨_, rfl, b, r, rs, 3, rfl, B4, by decide, fun vk H5 k0 k1 B5 e5 => ⟨_, _, rfl, rfl, ?_⟩⟩
  have g5 := g4.but B5 e5
  dsimp only
  obtain ⟨k, hkk⟩ : ∃ k, k = 1 + vk := ⟨_, rfl⟩
  rw [← hkk]
  obtain ⟨pr5, p51, p52⟩ := g5.par
  have lp : (((pr5.map V.ref).length : Nat) : Int) = (pms.length : Int) := by rw [List.length_map, p52.length]
  refine ⟨_, rfl, _, rfl, n, _, _, _, rfl, rfl, SqL.of g5.net, rfl, PL, _, rfl, .inl (SqL.of p51), b, r, rs, _, rfl, g5.box, (by omega), fun p H6 p0 p1 B6 e6 => ?_⟩
  rw [lp] at p1
  have g6 := g5.but B6 e6
  have b6 : But b H H6 := ((((((But.of s0).trans e1).trans e2).trans e3).trans e4).trans e5).trans e6
  clear n11 n12 n31 n32 p51 p52 nl1
  have ra : inR oa ls.length := ⟨ha.1, by omega⟩
  have rb : inR ob ls.length := ⟨b0, by omega⟩
  have rp : inR p pms.length := ⟨p0, p1⟩
  have k13 : 1 ≤ k ∧ k ≤ 3 := by omega
  have i0 : ∀ {H' : Hp} (Q' : VK), Q' (.str kd) H' → tVar 3 [some (.ref b), some (.ref n), some (.ref kn), some (.str kd), some (.int oa), some (.int ob), some (.int k), some (.int p)] H' Q' := fun Q' q' => ⟨_, rfl, q'⟩
  have fin : ∀ (H' : Hp) (t : Addr) (d : Nd) (xs : List V), But b H H' → G H' b r rs n PL NL LL ni nt pms nds ls → H' t = none → xs = d.enc → d.fits pms.length ls.length → d.nice → Q (.ref t) (upd H' t (.tup xs)) := fun H' t d xs e g' nt ex w z => q t d _ (g'.same (same_new nt _)) (e.trans (.of (same_new nt _))) (by rw [← ex]; exact upd_same) w z
  have o1 : ∀ x ∈ [oa], inR x ls.length := fun x hx => by rw [List.mem_singleton.mp hx]; exact ra
  have o2 : ∀ x ∈ [oa, ob], inR x ls.length := fun x hx => by
    rcases List.mem_cons.mp hx with h | h
    · rw [h]; exact ra
    · rw [List.mem_singleton.mp h]; exact rb
  have o0 : ∀ x ∈ ([] : List Int), inR x ls.length := fun x hx => by cases hx
  refine if_in ["lin", "bias"] i0 (by decide) (fun h H7 t7 => ?_) (fun n7 H7 t7 => ?_)
  · have sc := t7
    have gc := g6.same sc
    have bc := b6.trans (.of sc)
    simp only [List.mem_cons, List.not_mem_nil, or_false] at h
    rcases h with rfl | rfl
    · exact ⟨_, rfl, _, rfl, _, rfl, by show 3 ≤ sizeLine; decide, fun t nt => fin _ _ (.lin p oa) _ bc gc nt rfl ⟨rp, o1⟩ True.intro⟩
    · exact ⟨_, rfl, _, rfl, _, rfl, by show 3 ≤ sizeLine; decide, fun t nt => fin _ _ (.bias p oa) _ bc gc nt rfl ⟨rp, o1⟩ True.intro⟩
  have s7 := t7
  refine if_is "embed" i0 (fun h => ?_) (fun m8 => ?_)
  · subst h
    have gc := g6.same s7
    have bc := b6.trans (.of s7)
    refine ⟨_, rfl, _, rfl, _, rfl, _, rfl, n, _, _, _, rfl, rfl, SqL.of gc.net, rfl, b, r, rs, _, rfl, gc.box, (by have := u.ni1; omega), fun w H' w0 w1 Bw ew => ?_⟩
    exact ⟨_, rfl, by show 4 ≤ sizeLine; decide, fun t nt => fin _ _ (.embed p w k) _ (bc.trans ew) (gc.but Bw ew) nt rfl ⟨rp, o0⟩ ⟨w0, k13⟩⟩
  refine if_in ["mat", "matT"] i0 (by decide) (fun h H9 t9 => ?_) (fun n9 H9 t9 => ?_)
  · have sc := s7.trans t9
    have gc := g6.same sc
    have bc := b6.trans (.of sc)
    simp only [List.mem_cons, List.not_mem_nil, or_false] at h
    rcases h with rfl | rfl
    · exact ⟨_, rfl, _, rfl, _, rfl, _, rfl, by show 4 ≤ sizeLine; decide, fun t nt => fin _ _ (.mat k oa ob) _ bc gc nt rfl ⟨True.intro, o2⟩ k13⟩
    · exact ⟨_, rfl, _, rfl, _, rfl, _, rfl, by show 4 ≤ sizeLine; decide, fun t nt => fin _ _ (.matT k oa ob) _ bc gc nt rfl ⟨True.intro, o2⟩ k13⟩
  have s9 := s7.trans t9
  refine if_is "lower" i0 (fun h => ?_) (fun m10 => ?_)
  · subst h
    have gc := g6.same s9
    have bc := b6.trans (.of s9)
    exact ⟨_, rfl, _, rfl, _, rfl, by show 3 ≤ sizeLine; decide, fun t nt => fin _ _ (.lower k oa) _ bc gc nt rfl ⟨True.intro, o1⟩ k13⟩
  refine if_in ["add", "sub", "mul", "join"] i0 (by decide) (fun h H11 t11 => ?_) (fun n11 H11 t11 => ?_)
  · have sc := s9.trans t11
    have gc := g6.same sc
    have bc := b6.trans (.of sc)
    simp only [List.mem_cons, List.not_mem_nil, or_false] at h
    rcases h with rfl | rfl | rfl | rfl
    · exact ⟨_, rfl, _, rfl, _, rfl, by show 3 ≤ sizeLine; decide, fun t nt => fin _ _ (.add oa ob) _ bc gc nt rfl ⟨True.intro, o2⟩ True.intro⟩
    · exact ⟨_, rfl, _, rfl, _, rfl, by show 3 ≤ sizeLine; decide, fun t nt => fin _ _ (.sub oa ob) _ bc gc nt rfl ⟨True.intro, o2⟩ True.intro⟩
    · exact ⟨_, rfl, _, rfl, _, rfl, by show 3 ≤ sizeLine; decide, fun t nt => fin _ _ (.mul oa ob) _ bc gc nt rfl ⟨True.intro, o2⟩ True.intro⟩
    · exact ⟨_, rfl, _, rfl, _, rfl, by show 3 ≤ sizeLine; decide, fun t nt => fin _ _ (.join oa ob) _ bc gc nt rfl ⟨True.intro, o2⟩ True.intro⟩
  have s11 := s9.trans t11
  refine if_is "scale" i0 (fun h => ?_) (fun m12 => ?_)
  · subst h
    have gc := g6.same s11
    have bc := b6.trans (.of s11)
    refine ⟨_, rfl, _, rfl, b, r, rs, rfl, gc.box, fun w H' w0 w1 Bw ew => ?_⟩
    exact ⟨_, rfl, by show 3 ≤ sizeLine; decide, fun t nt => fin _ _ (.scale w oa) _ (bc.trans ew) (gc.but Bw ew) nt rfl ⟨True.intro, o1⟩ ⟨w0, w1⟩⟩
  refine if_is "shift" i0 (fun h => ?_) (fun m13 => ?_)
  · subst h
    have gc := g6.same s11
    have bc := b6.trans (.of s11)
    refine ⟨_, rfl, by show 6 ≤ sizeLine; decide, fun l nl => ?_⟩
    obtain ⟨bxc, hbc⟩ := gc.blst
    have lb : l ≠ b := (ne_of_none hbc nl).symm
    have sl := same_new nl (.lst (([0, 1, 2, 5, 16, 31] : List Int).map V.int))
    refine ⟨_, rfl, b, r, rs, 6, rfl, (gc.same sl).box, by decide, fun i H' i0' i6 Bw ew => ?_⟩
    have hi : inR i ([0, 1, 2, 5, 16, 31] : List Int).length := ⟨i0', by show i < 6; omega⟩
    have hm := lget_mem hi
    have hs : 0 ≤ lget [0, 1, 2, 5, 16, 31] i ∧ lget [0, 1, 2, 5, 16, 31] i ≤ 31 := by
      generalize lget [0, 1, 2, 5, 16, 31] i = z at *
      simp at hm
      omega
    refine ⟨l, _, _, _, rfl, rfl, SqL.of (ew _ _ lb upd_same), at_ints hi, _, rfl, by show 3 ≤ sizeLine; decide, fun t nt => ?_⟩
    exact fin _ _ (.shift (lget [0, 1, 2, 5, 16, 31] i) oa) _ ((bc.trans (.of sl)).trans ew) ((gc.same sl).but Bw ew) nt rfl ⟨True.intro, o1⟩ hs
  refine if_is "drop" i0 (fun h => ?_) (fun m14 => ?_)
  · subst h
    have gc := g6.same s11
    have bc := b6.trans (.of s11)
    refine ⟨_, rfl, _, rfl, b, r, rs, 3, rfl, gc.box, by decide, fun w H' w0 w1 Bw ew => ?_⟩
    exact ⟨_, _, rfl, rfl, _, rfl, by show 3 ≤ sizeLine; decide, fun t nt => fin _ _ (.drop (2 + w) oa) _ (bc.trans ew) (gc.but Bw ew) nt rfl ⟨True.intro, o1⟩ ⟨by omega, by omega⟩⟩
  refine if_in ["relu", "sum"] i0 (by decide) (fun h H15 t15 => ?_) (fun n15 H15 t15 => ?_)
  · have sc := s11.trans t15
    have gc := g6.same sc
    have bc := b6.trans (.of sc)
    simp only [List.mem_cons, List.not_mem_nil, or_false] at h
    rcases h with rfl | rfl
    · exact ⟨_, rfl, _, rfl, by show 2 ≤ sizeLine; decide, fun t nt => fin _ _ (.relu oa) _ bc gc nt rfl ⟨True.intro, o1⟩ True.intro⟩
    · exact ⟨_, rfl, _, rfl, by show 2 ≤ sizeLine; decide, fun t nt => fin _ _ (.sum oa) _ bc gc nt rfl ⟨True.intro, o1⟩ True.intro⟩
  have s15 := s11.trans t15
  refine if_is "take" i0 (fun h => ?_) (fun m16 => ?_)
  · subst h
    have gc := g6.same s15
    have bc := b6.trans (.of s15)
    refine ⟨_, rfl, _, rfl, _, rfl, n, _, _, _, rfl, rfl, SqL.of gc.net, rfl, _, rfl, LL, _, _, _, rfl, rfl, SqL.of gc.len, at_ints ra, b, r, rs, _, rfl, gc.box, (by have := u.bnd _ (lget_mem ra); omega), fun w H' w0 w1 Bw ew => ?_⟩
    exact ⟨_, rfl, _, rfl, by show 4 ≤ sizeLine; decide, fun t nt => fin _ _ (.take w k oa) _ (bc.trans ew) (gc.but Bw ew) nt rfl ⟨True.intro, o1⟩ ⟨w0, k13⟩⟩
  have gc := g6.same s15
  have bc := b6.trans (.of s15)
  have hl : kd = "target" ∨ kd = "input" := by
    simp only [allKinds, List.mem_cons, List.not_mem_nil, or_false] at hkd
    (rcases hkd with h | h | h | h | h | h | h | h | h | h | h | h | h | h | h | h | h | h) <;> first
      | exact .inl h
      | exact .inr h
      | exact absurd h m8
      | exact absurd h m10
      | exact absurd h m12
      | exact absurd h m13
      | exact absurd h m14
      | exact absurd h m16
      | (exfalso; subst h; first | exact n7 (by decide) | exact n9 (by decide) | exact n11 (by decide) | exact n15 (by decide))
  rcases hl with rfl | rfl
  · exact ⟨_, rfl, by show 1 ≤ sizeLine; decide, fun t nt => fin _ _ .target _ bc gc nt rfl ⟨True.intro, o0⟩ True.intro⟩
  · exact ⟨_, rfl, by show 1 ≤ sizeLine; decide, fun t nt => fin _ _ .input _ bc gc nt rfl ⟨True.intro, o0⟩ True.intro⟩

end

section
variable {P : Program} {w : World} {K : PySem.W.Frag} {mg : Str → Option Value} {cs : Cs} {base : Heap} {f : Addr} {fd : FuncData}
theorem ok__law_length (F : Fun K "_law_length" "_law_length" s__law_length f fd) (T : Txt K mg cs w)  :
    FnOk P w K mg base CX0 1 f fd ["net", "node"] (spLLen) := by
  refine F.ok sc__law_length (fun vs H Q E h => ?_) (fun cdv A outer s H vs Q E hr h => ?_)
  · obtain ⟨b, r, rs, n, PL, NL, LL, a, ni, nt, pms, nds, ls, d, rfl, g0, u, ht0, fit, nc, q⟩ := h
    rfl
  obtain ⟨b, r, rs, n, PL, NL, LL, a, ni, nt, pms, nds, ls, d, rfl, g0, u, ht0, fit, nc, q⟩ := h
  have hu := hr.units
  refine ⟨_, pss_cons (ps_set (i := 2) sc__law_length.nd rfl (.inl rfl) (pe_ix (ixt_at (K := K) rfl) (pv 1) pe_int (fun _ _ => rfl)))
 (pss_cons (ps_if (pt_cmpR op_in_seq (pv 2) (pe_tup (pa_cons pe_str (pa_cons pe_str pa_nil))) (by with_unfolding_all rfl)) (pss_one (ps_ret (pe_ix (ixl_at (K := K) rfl) (pv 0) (pe_callTy call_int1 (by rfl) T.z_int PyProof.Rows.boot_int (pa_cons (pe_cmpR op_eq (pv 2) pe_str (nomark _)) pa_nil)) (fun _ _ => rfl)))) pss_nil)
 (pss_cons (ps_if (pt_cmpR op_eq (pv 2) pe_str (nomark _)) (pss_one (ps_ret (pe_op op_mul (pe_op op_mul (pe_ix (ixt_at (K := K) rfl) (pv 1) pe_int (fun _ _ => rfl)) (pe_ix (ixt_at (K := K) rfl) (pe_ix (ixl_at (K := K) rfl) (pe_ix (ixl_at (K := K) rfl) (pv 0) pe_int (fun _ _ => rfl)) (pe_ix (ixt_at (K := K) rfl) (pv 1) pe_int (fun _ _ => rfl)) (fun _ _ => rfl)) pe_int (fun _ _ => rfl))) (pe_callTy call_int1 (by rfl) T.z_int PyProof.Rows.boot_int (pa_cons (pe_cmpR op_le (pe_op op_add (pe_ix (ixt_at (K := K) rfl) (pv 1) pe_int (fun _ _ => rfl)) (pe_ix (ixt_at (K := K) rfl) (pv 1) pe_int (fun _ _ => rfl))) (pe_ix (ixl_at (K := K) rfl) (pv 0) pe_int (fun _ _ => rfl)) (nomark _)) pa_nil))))) pss_nil)
 (pss_cons (ps_if (pt_cmpR op_in_seq (pv 2) (pe_tup (pa_cons pe_str (pa_cons pe_str pa_nil))) (by with_unfolding_all rfl)) (pss_cons (ps_if (pt_cmpR op_eq (pv 2) pe_str (nomark _)) (pss_one (ps_ret pe_int)) pss_nil)
 (pss_one (ps_ret (pe_ix (ixl_at (K := K) rfl) (pe_ix (ixl_at (K := K) rfl) (pv 0) pe_int (fun _ _ => rfl)) (pe_ix (ixt_at (K := K) rfl) (pv 1) pe_int (fun _ _ => rfl)) (fun _ _ => rfl))))) pss_nil)
 (pss_cons (ps_if (pt_cmpR op_in_seq (pv 2) (pe_tup (pa_cons pe_str (pa_cons pe_str (pa_cons pe_str pa_nil)))) (by with_unfolding_all rfl)) (pss_one (ps_ret (pe_op op_mul (pe_ix (ixl_at (K := K) rfl) (pe_ix (ixl_at (K := K) rfl) (pv 0) pe_int (fun _ _ => rfl)) (pe_ix (ixt_at (K := K) rfl) (pv 1) pe_int (fun _ _ => rfl)) (fun _ _ => rfl)) (pe_callTy call_int1 (by rfl) T.z_int PyProof.Rows.boot_int (pa_cons (pe_cmpR op_eq (pe_ix (ixl_at (K := K) rfl) (pe_ix (ixl_at (K := K) rfl) (pv 0) pe_int (fun _ _ => rfl)) (pe_ix (ixt_at (K := K) rfl) (pv 1) pe_int (fun _ _ => rfl)) (fun _ _ => rfl)) (pe_ix (ixl_at (K := K) rfl) (pe_ix (ixl_at (K := K) rfl) (pv 0) pe_int (fun _ _ => rfl)) (pe_ix (ixt_at (K := K) rfl) (pv 1) pe_int (fun _ _ => rfl)) (fun _ _ => rfl)) (nomark _)) pa_nil))))) pss_nil)
 (pss_cons (ps_if (pt_cmpR op_eq (pv 2) pe_str (nomark _)) (pss_one (ps_ret (pe_op op_add (pe_ix (ixl_at (K := K) rfl) (pe_ix (ixl_at (K := K) rfl) (pv 0) pe_int (fun _ _ => rfl)) (pe_ix (ixt_at (K := K) rfl) (pv 1) pe_int (fun _ _ => rfl)) (fun _ _ => rfl)) (pe_ix (ixl_at (K := K) rfl) (pe_ix (ixl_at (K := K) rfl) (pv 0) pe_int (fun _ _ => rfl)) (pe_ix (ixt_at (K := K) rfl) (pv 1) pe_int (fun _ _ => rfl)) (fun _ _ => rfl))))) pss_nil)
 (pss_cons (ps_if (pt_cmpR op_eq (pv 2) pe_str (nomark _)) (pss_one (ps_ret (pe_op op_mul (pe_ix (ixt_at (K := K) rfl) (pv 1) pe_int (fun _ _ => rfl)) (pe_callTy call_int1 (by rfl) T.z_int PyProof.Rows.boot_int (pa_cons (pe_cmpR op_le (pe_op op_add (pe_ix (ixt_at (K := K) rfl) (pv 1) pe_int (fun _ _ => rfl)) (pe_ix (ixt_at (K := K) rfl) (pv 1) pe_int (fun _ _ => rfl))) (pe_ix (ixl_at (K := K) rfl) (pe_ix (ixl_at (K := K) rfl) (pv 0) pe_int (fun _ _ => rfl)) (pe_ix (ixt_at (K := K) rfl) (pv 1) pe_int (fun _ _ => rfl)) (fun _ _ => rfl)) (nomark _)) pa_nil))))) pss_nil)
 (pss_cons (ps_set (i := 3) sc__law_length.nd rfl (.inl rfl) (pe_ix (ixl_at (K := K) rfl) (pe_ix (ixl_at (K := K) rfl) (pv 0) pe_int (fun _ _ => rfl)) (pe_ix (ixt_at (K := K) rfl) (pv 1) pe_int (fun _ _ => rfl)) (fun _ _ => rfl)))
 (pss_cons (ps_if (pt_cmpR op_eq (pv 2) pe_str (nomark _)) (pss_cons (ps_set (i := 4) sc__law_length.nd rfl (.inl rfl) (pe_ix (ixl_at (K := K) rfl) (pe_ix (ixl_at (K := K) rfl) (pv 0) pe_int (fun _ _ => rfl)) (pe_ix (ixt_at (K := K) rfl) (pv 1) pe_int (fun _ _ => rfl)) (fun _ _ => rfl)))
 (pss_one (ps_ret (pe_op op_mul (pe_op op_mul (pe_op op_fdiv (pv 3) (pe_ix (ixt_at (K := K) rfl) (pv 4) pe_int (fun _ _ => rfl))) (pe_ix (ixt_at (K := K) rfl) (pv 4) pe_int (fun _ _ => rfl))) (pe_callTy call_int1 (by rfl) T.z_int PyProof.Rows.boot_int (pa_cons (pe_cmpR op_eq (pe_op op_mod (pe_callTy call_int1 (by rfl) T.z_int PyProof.Rows.boot_int (pa_cons (pv 3) pa_nil)) (pe_ix (ixt_at (K := K) rfl) (pv 4) pe_int (fun _ _ => rfl))) pe_int (nomark _)) pa_nil)))))) pss_nil)
 (pss_cons (ps_if (pt_cmpR op_eq (pv 2) pe_str (nomark _)) (pss_cons (ps_set (i := 4) sc__law_length.nd rfl (.inl rfl) (pe_ix (ixl_at (K := K) rfl) (pe_ix (ixl_at (K := K) rfl) (pv 0) pe_int (fun _ _ => rfl)) (pe_ix (ixt_at (K := K) rfl) (pv 1) pe_int (fun _ _ => rfl)) (fun _ _ => rfl)))
 (pss_one (ps_ret (pe_op op_mul (pv 3) (pe_callTy call_int1 (by rfl) T.z_int PyProof.Rows.boot_int (pa_cons (pe_and (pe_cmpR op_eq (pe_ix (ixt_at (K := K) rfl) (pv 4) pe_int (fun _ _ => rfl)) pe_int (nomark _)) (pe_one (pe_cmpR op_eq (pe_op op_mod (pe_callTy call_int1 (by rfl) T.z_int PyProof.Rows.boot_int (pa_cons (pv 3) pa_nil)) (pe_ix (ixt_at (K := K) rfl) (pv 4) pe_int (fun _ _ => rfl))) pe_int (nomark _)))) pa_nil)))))) pss_nil)
 (pss_cons (ps_if (pt_cmpR op_in_seq (pv 2) (pe_tup (pa_cons pe_str (pa_cons pe_str pa_nil))) (by with_unfolding_all rfl)) (pss_cons (ps_set (i := 5) sc__law_length.nd rfl (.inl rfl) (pe_ix (ixl_at (K := K) rfl) (pe_ix (ixl_at (K := K) rfl) (pv 0) pe_int (fun _ _ => rfl)) (pe_ix (ixt_at (K := K) rfl) (pv 1) pe_int (fun _ _ => rfl)) (fun _ _ => rfl)))
 (pss_cons (ps_set (i := 6) sc__law_length.nd rfl (.inl rfl) (pe_and (pe_cmpR op_eq (pe_op op_mod (pe_callTy call_int1 (by rfl) T.z_int PyProof.Rows.boot_int (pa_cons (pv 3) pa_nil)) (pe_ix (ixt_at (K := K) rfl) (pv 1) pe_int (fun _ _ => rfl))) pe_int (nomark _)) (pe_one (pe_cmpR op_eq (pe_op op_mod (pe_callTy call_int1 (by rfl) T.z_int PyProof.Rows.boot_int (pa_cons (pv 5) pa_nil)) (pe_ix (ixt_at (K := K) rfl) (pv 1) pe_int (fun _ _ => rfl))) pe_int (nomark _)))))
 (pss_one (ps_ret (pe_op op_mul (pe_op op_mul (pe_op op_fdiv (pv 3) (pe_ix (ixt_at (K := K) rfl) (pv 1) pe_int (fun _ _ => rfl))) (pe_op op_fdiv (pv 5) (pe_ix (ixt_at (K := K) rfl) (pv 1) pe_int (fun _ _ => rfl)))) (pe_callTy call_int1 (by rfl) T.z_int PyProof.Rows.boot_int (pa_cons (pv 6) pa_nil))))))) pss_nil)
 (pss_cons (ps_if (pt_cmpR op_eq (pv 2) pe_str (nomark _)) (pss_one (ps_ret (pe_op op_mul (pv 3) (pe_callTy call_int1 (by rfl) T.z_int PyProof.Rows.boot_int (pa_cons (pe_cmpR op_eq (pe_op op_mod (pe_callTy call_int1 (by rfl) T.z_int PyProof.Rows.boot_int (pa_cons (pv 3) pa_nil)) (pe_ix (ixt_at (K := K) rfl) (pv 1) pe_int (fun _ _ => rfl))) pe_int (nomark _)) pa_nil))))) pss_nil)
 (pss_one (ps_ret (pv 3)))))))))))))), ?_⟩
  have ul := u.all
  have k0 : atI d.enc 0 = some (.str d.kind) := atI_nat (show d.enc[(0 : Nat)]? = some (.str d.kind) from rfl)
  refine ⟨_, rfl, a, _, _, _, rfl, rfl, SqT.of ht0, k0, ?_⟩
  have i0 : ∀ {o4 o5 o6 o7 : Option V} {H' : Hp} (Q' : VK), Q' (.str d.kind) H' → tVar 2 [some (.ref n), some (.ref a), some (.str d.kind), o4, o5, o6, o7] H' Q' := fun Q' q' => ⟨_, rfl, q'⟩
  have bnd : ∀ {o : Int}, inR o ls.length → 1 ≤ lget ls o ∧ lget ls o ≤ 12 := fun h => u.bnd _ (lget_mem h)
  have par : ∀ {p : Int}, inR p pms.length → ∃ m ∈ pms, pget (sides pms) p = (m.1, m.2.1) ∧ PmOk m := fun {p} h => by
    obtain ⟨pr, pa, pf, m, _, _, _, _, em⟩ := g0.at h
    refine ⟨m, List.mem_of_getElem? em, ?_, u.pok m (List.mem_of_getElem? em)⟩
    unfold pget sides
    rw [List.getD_eq_getElem?_getD, List.getElem?_map, em]
    rfl
  refine if_in ["input", "target"] i0 (by decide) (fun h H1 t1 => ?_) (fun n1 H1 t1 => ?_)
  · have sc := t1
    have g := g0.same sc
    have ht := sc _ _ ht0
    rcases (show (d = .input) ∨ (d = .target) from by
      cases d <;> first | exact (.inl rfl) | exact (.inr rfl) | (exfalso; revert h; dsimp only [Nd.kind]; decide)) with rfl | rfl
    · refine ⟨_, rfl, _, rfl, rfl, .inr ⟨_, rfl, n, _, _, _, rfl, rfl, SqL.of g.net, rfl, q _ _ sc fun _ => rfl⟩⟩
    · refine ⟨_, rfl, _, rfl, rfl, .inr ⟨_, rfl, n, _, _, _, rfl, rfl, SqL.of g.net, rfl, q _ _ sc fun _ => rfl⟩⟩
  have s1 := t1
  refine if_is "embed" i0 (fun h => ?_) (fun m2 => ?_)
  · have sc := s1
    have g := g0.same sc
    have ht := sc _ _ ht0
    obtain ⟨p, lo, m, rfl⟩ : ∃ p lo m, d = .embed p lo m := by cases d <;> first | exact ⟨_, _, _, rfl⟩ | (exfalso; revert h; dsimp only [Nd.kind]; decide)
    obtain ⟨pr, pa, pf, mm, p1, ep, h4, h5, em⟩ := g.at fit.1
    obtain ⟨_, _, e1, ok⟩ := par fit.1
    have c1 : (pget (sides pms) p).2 ≤ 6 ∧ 1 ≤ (pget (sides pms) p).2 := by rw [e1]; exact ⟨ok.2.2.2.1, ok.2.2.1⟩
    refine ⟨_, rfl, a, _, _, _, rfl, rfl, SqT.of ht, rfl, _, rfl, n, _, _, _, rfl, rfl, SqL.of g.net, rfl, _, rfl, a, _, _, _, rfl, rfl, SqT.of ht, rfl, PL, _, _, _, rfl, rfl, SqL.of p1, ep, pa, _, _, _, rfl, rfl, SqT.of h4, rfl, _, _, rfl, rfl, .inl ⟨by have := nc.2.1; omega, by have := nc.2.2; omega⟩, _, rfl, a, _, _, _, rfl, rfl, SqT.of ht, rfl, _, rfl, a, _, _, _, rfl, rfl, SqT.of ht, rfl, _, _, rfl, rfl, _, rfl, n, _, _, _, rfl, rfl, SqL.of g.net, rfl, _, _, rfl, rfl, .inr ⟨_, rfl, _, _, rfl, rfl, .inr (flag64 _), ?_⟩⟩
    exact q _ _ sc (flag fun z => if_pos ⟨nc.2.1, nc.1, z⟩)
  have s2 := s1
  refine if_in ["relu", "sum"] i0 (by decide) (fun h H3 t3 => ?_) (fun n3 H3 t3 => ?_)
  · have sc := s2.trans t3
    have g := g0.same sc
    have ht := sc _ _ ht0
    rcases (show (∃ x, d = .relu x) ∨ (∃ x, d = .sum x) from by
      cases d <;> first | exact (.inl ⟨_, rfl⟩) | exact (.inr ⟨_, rfl⟩) | (exfalso; revert h; dsimp only [Nd.kind]; decide)) with ⟨x, rfl⟩ | ⟨x, rfl⟩
    · refine if_is "sum" i0 (fun h => ?_) (fun _ => ?_)
      · exfalso; revert h; dsimp only [Nd.kind]; decide
      exact ⟨_, rfl, n, _, _, _, rfl, rfl, SqL.of g.net, rfl, _, rfl, a, _, _, _, rfl, rfl, SqT.of ht, rfl, LL, _, _, _, rfl, rfl, SqL.of g.len, at_ints (fit.2 x (.head _)), q _ _ sc fun _ => rfl⟩
    · refine if_is "sum" i0 (fun _ => ?_) (fun h => ?_)
      · exact q _ _ sc fun _ => rfl
      exfalso; revert h; dsimp only [Nd.kind]; decide
  have s3 := s2.trans t3
  refine if_in ["add", "sub", "mul"] i0 (by decide) (fun h H4 t4 => ?_) (fun n4 H4 t4 => ?_)
  · have sc := s3.trans t4
    have g := g0.same sc
    have ht := sc _ _ ht0
    rcases (show (∃ x y, d = .add x y) ∨ (∃ x y, d = .sub x y) ∨ (∃ x y, d = .mul x y) from by
      cases d <;> first | exact (.inl ⟨_, _, rfl⟩) | exact (.inr (.inl ⟨_, _, rfl⟩)) | exact (.inr (.inr ⟨_, _, rfl⟩)) | (exfalso; revert h; dsimp only [Nd.kind]; decide)) with ⟨x, y, rfl⟩ | ⟨x, y, rfl⟩ | ⟨x, y, rfl⟩
    · have rx := fit.2 x (.head _)
      have ry := fit.2 y (.tail _ (.head _))
      refine ⟨_, rfl, n, _, _, _, rfl, rfl, SqL.of g.net, rfl, _, rfl, a, _, _, _, rfl, rfl, SqT.of ht, rfl, LL, _, _, _, rfl, rfl, SqL.of g.len, at_ints rx, _, rfl, n, _, _, _, rfl, rfl, SqL.of g.net, rfl, _, rfl, a, _, _, _, rfl, rfl, SqT.of ht, rfl, LL, _, _, _, rfl, rfl, SqL.of g.len, at_ints rx, _, rfl, n, _, _, _, rfl, rfl, SqL.of g.net, rfl, _, rfl, a, _, _, _, rfl, rfl, SqT.of ht, rfl, LL, _, _, _, rfl, rfl, SqL.of g.len, at_ints ry, rfl, .inr ⟨_, rfl, _, _, rfl, rfl, .inr (flag64 _), ?_⟩⟩
      exact q _ _ sc (flag fun z => if_pos (V.int.inj z))
    · have rx := fit.2 x (.head _)
      have ry := fit.2 y (.tail _ (.head _))
      refine ⟨_, rfl, n, _, _, _, rfl, rfl, SqL.of g.net, rfl, _, rfl, a, _, _, _, rfl, rfl, SqT.of ht, rfl, LL, _, _, _, rfl, rfl, SqL.of g.len, at_ints rx, _, rfl, n, _, _, _, rfl, rfl, SqL.of g.net, rfl, _, rfl, a, _, _, _, rfl, rfl, SqT.of ht, rfl, LL, _, _, _, rfl, rfl, SqL.of g.len, at_ints rx, _, rfl, n, _, _, _, rfl, rfl, SqL.of g.net, rfl, _, rfl, a, _, _, _, rfl, rfl, SqT.of ht, rfl, LL, _, _, _, rfl, rfl, SqL.of g.len, at_ints ry, rfl, .inr ⟨_, rfl, _, _, rfl, rfl, .inr (flag64 _), ?_⟩⟩
      exact q _ _ sc (flag fun z => if_pos (V.int.inj z))
    · have rx := fit.2 x (.head _)
      have ry := fit.2 y (.tail _ (.head _))
      refine ⟨_, rfl, n, _, _, _, rfl, rfl, SqL.of g.net, rfl, _, rfl, a, _, _, _, rfl, rfl, SqT.of ht, rfl, LL, _, _, _, rfl, rfl, SqL.of g.len, at_ints rx, _, rfl, n, _, _, _, rfl, rfl, SqL.of g.net, rfl, _, rfl, a, _, _, _, rfl, rfl, SqT.of ht, rfl, LL, _, _, _, rfl, rfl, SqL.of g.len, at_ints rx, _, rfl, n, _, _, _, rfl, rfl, SqL.of g.net, rfl, _, rfl, a, _, _, _, rfl, rfl, SqT.of ht, rfl, LL, _, _, _, rfl, rfl, SqL.of g.len, at_ints ry, rfl, .inr ⟨_, rfl, _, _, rfl, rfl, .inr (flag64 _), ?_⟩⟩
      exact q _ _ sc (flag fun z => if_pos (V.int.inj z))
  have s4 := s3.trans t4
  refine if_is "join" i0 (fun h => ?_) (fun m5 => ?_)
  · have sc := s4
    have g := g0.same sc
    have ht := sc _ _ ht0
    obtain ⟨x, y, rfl⟩ : ∃ x y, d = .join x y := by cases d <;> first | exact ⟨_, _, rfl⟩ | (exfalso; revert h; dsimp only [Nd.kind]; decide)
    exact ⟨_, rfl, n, _, _, _, rfl, rfl, SqL.of g.net, rfl, _, rfl, a, _, _, _, rfl, rfl, SqT.of ht, rfl, LL, _, _, _, rfl, rfl, SqL.of g.len, at_ints (fit.2 x (.head _)), _, rfl, n, _, _, _, rfl, rfl, SqL.of g.net, rfl, _, rfl, a, _, _, _, rfl, rfl, SqT.of ht, rfl, LL, _, _, _, rfl, rfl, SqL.of g.len, at_ints (fit.2 y (.tail _ (.head _))), _, _, rfl, rfl, q _ _ sc fun _ => rfl⟩
  have s5 := s4
  refine if_is "take" i0 (fun h => ?_) (fun m6 => ?_)
  · have sc := s5
    have g := g0.same sc
    have ht := sc _ _ ht0
    obtain ⟨lo, m, x, rfl⟩ : ∃ lo m x, d = .take lo m x := by cases d <;> first | exact ⟨_, _, _, rfl⟩ | (exfalso; revert h; dsimp only [Nd.kind]; decide)
    refine ⟨_, rfl, a, _, _, _, rfl, rfl, SqT.of ht, rfl, _, rfl, a, _, _, _, rfl, rfl, SqT.of ht, rfl, _, rfl, a, _, _, _, rfl, rfl, SqT.of ht, rfl, _, _, rfl, rfl, _, rfl, n, _, _, _, rfl, rfl, SqL.of g.net, rfl, _, rfl, a, _, _, _, rfl, rfl, SqT.of ht, rfl, LL, _, _, _, rfl, rfl, SqL.of g.len, at_ints (fit.2 x (.head _)), _, _, rfl, rfl, .inr ⟨_, rfl, _, _, rfl, rfl, .inr (flag64 _), ?_⟩⟩
    exact q _ _ sc (flag fun z => if_pos ⟨nc.2.1, nc.1, z⟩)
  have s6 := s5
  obtain ⟨x, hx, ha2⟩ : ∃ x, x ∈ d.ops ∧ atI d.enc 2 = some (.int x) := by
    cases d <;> first | exact ⟨_, .head _, rfl⟩ | (exfalso; first | exact m2 rfl | exact m5 rfl | exact m6 rfl | (revert n1; dsimp only [Nd.kind]; decide) | (revert n3; dsimp only [Nd.kind]; decide) | (revert n4; dsimp only [Nd.kind]; decide))
  have rx := fit.2 x hx
  have hb := bnd rx
  have g := g0.same s6
  have ht := s6 _ _ ht0
  refine ⟨_, rfl, n, _, _, _, rfl, rfl, SqL.of g.net, rfl, _, rfl, a, _, _, _, rfl, rfl, SqT.of ht, ha2, LL, _, _, _, rfl, rfl, SqL.of g.len, at_ints rx, ?_⟩
  refine if_is "lin" i0 (fun h => ?_) (fun m7 => ?_)
  · have sc := s6
    have g := g0.same sc
    have ht := sc _ _ ht0
    obtain ⟨p, y, rfl⟩ : ∃ p y, d = .lin p y := by cases d <;> first | exact ⟨_, _, rfl⟩ | (exfalso; revert h; dsimp only [Nd.kind]; decide)
    obtain ⟨pr, pa, pf, mm, p1, ep, h4, h5, em⟩ := g.at fit.1
    obtain ⟨_, _, e1, ok⟩ := par fit.1
    have c1 : 1 ≤ (pget (sides pms) p).1 ∧ (pget (sides pms) p).1 ≤ 6 ∧ 1 ≤ (pget (sides pms) p).2 ∧ (pget (sides pms) p).2 ≤ 6 := by rw [e1]; exact ⟨ok.1, ok.2.1, ok.2.2.1, ok.2.2.2.1⟩
    obtain rfl : y = x := V.int.inj (Option.some.inj ha2)
    refine ⟨_, rfl, n, _, _, _, rfl, rfl, SqL.of g.net, rfl, _, rfl, a, _, _, _, rfl, rfl, SqT.of ht, rfl, PL, _, _, _, rfl, rfl, SqL.of p1, ep, ?_⟩
    have db : 0 ≤ lget ls y / (pget (sides pms) p).1 ∧ lget ls y / (pget (sides pms) p).1 ≤ 12 := ⟨Int.ediv_nonneg (by omega) (by omega), Int.le_trans (Int.ediv_le_self _ (by omega)) hb.2⟩
    refine ⟨_, rfl, _, rfl, pa, _, _, _, rfl, rfl, SqT.of h4, rfl, _, _, rfl, rfl, ⟨by omega, by omega⟩, _, rfl, pa, _, _, _, rfl, rfl, SqT.of h4, rfl, _, _, rfl, rfl, .inl ⟨by omega, by omega⟩, _, rfl, .inl ⟨_, rfl, _, rfl, pa, _, _, _, rfl, rfl, SqT.of h4, rfl, _, _, rfl, rfl, by show (0 : Int) < (pget (sides pms) p).1; omega, rfl, .inr ⟨_, rfl, _, _, rfl, rfl, .inr (flag64 _), ?_⟩⟩⟩
    exact q _ _ sc (flag fun z => if_pos ⟨by omega, V.int.inj z⟩)
  have s7 := s6
  refine if_is "bias" i0 (fun h => ?_) (fun m8 => ?_)
  · have sc := s7
    have g := g0.same sc
    have ht := sc _ _ ht0
    obtain ⟨p, y, rfl⟩ : ∃ p y, d = .bias p y := by cases d <;> first | exact ⟨_, _, rfl⟩ | (exfalso; revert h; dsimp only [Nd.kind]; decide)
    obtain ⟨pr, pa, pf, mm, p1, ep, h4, h5, em⟩ := g.at fit.1
    obtain ⟨_, _, e1, ok⟩ := par fit.1
    have c1 : 1 ≤ (pget (sides pms) p).1 ∧ (pget (sides pms) p).1 ≤ 6 ∧ 1 ≤ (pget (sides pms) p).2 ∧ (pget (sides pms) p).2 ≤ 6 := by rw [e1]; exact ⟨ok.1, ok.2.1, ok.2.2.1, ok.2.2.2.1⟩
    obtain rfl : y = x := V.int.inj (Option.some.inj ha2)
    refine ⟨_, rfl, n, _, _, _, rfl, rfl, SqL.of g.net, rfl, _, rfl, a, _, _, _, rfl, rfl, SqT.of ht, rfl, PL, _, _, _, rfl, rfl, SqL.of p1, ep, ?_⟩
    refine ⟨_, rfl, _, rfl, pa, _, _, _, rfl, rfl, SqT.of h4, rfl, rfl, _, rfl, ?_⟩
    by_cases c : (pget (sides pms) p).1 = 1
    · refine iteD (congrArg V.int c) ?_
      refine ⟨_, rfl, .inl ⟨_, rfl, _, rfl, pa, _, _, _, rfl, rfl, SqT.of h4, rfl, _, _, rfl, rfl, by show (0 : Int) < (pget (sides pms) p).2; omega, rfl, .inr ⟨_, rfl, _, _, rfl, rfl, .inr (flag64 _), ?_⟩⟩⟩
      exact q _ _ sc (flag fun z => if_pos ⟨c, by omega, V.int.inj z⟩)
    · refine iteDN (fun z => c (V.int.inj z)) ?_
      exact .inr ⟨false, rfl, _, _, rfl, rfl, .inr (flag64 _), q _ _ sc flagF⟩
  have s8 := s7
  refine if_in ["mat", "matT"] i0 (by decide) (fun h H9 t9 => ?_) (fun n9 H9 t9 => ?_)
  · have sc := s8.trans t9
    have g := g0.same sc
    have ht := sc _ _ ht0
    rcases (show (∃ c y z0, d = .mat c y z0) ∨ (∃ c y z0, d = .matT c y z0) from by
      cases d <;> first | exact (.inl ⟨_, _, _, rfl⟩) | exact (.inr ⟨_, _, _, rfl⟩) | (exfalso; revert h; dsimp only [Nd.kind]; decide)) with ⟨c, y, z0, rfl⟩ | ⟨c, y, z0, rfl⟩
    · obtain rfl : y = x := V.int.inj (Option.some.inj ha2)
      have rz := fit.2 z0 (.tail _ (.head _))
      have hb2 := bnd rz
      refine ⟨_, rfl, n, _, _, _, rfl, rfl, SqL.of g.net, rfl, _, rfl, a, _, _, _, rfl, rfl, SqT.of ht, rfl, LL, _, _, _, rfl, rfl, SqL.of g.len, at_ints rz, ?_⟩
      have kp : 0 < c := by have := nc.1; omega
      have d1 : 0 ≤ lget ls y / c ∧ lget ls y / c ≤ 12 := ⟨Int.ediv_nonneg (by omega) (by omega), Int.le_trans (Int.ediv_le_self _ (by omega)) hb.2⟩
      have d2 : 0 ≤ lget ls z0 / c ∧ lget ls z0 / c ≤ 12 := ⟨Int.ediv_nonneg (by omega) (by omega), Int.le_trans (Int.ediv_le_self _ (by omega)) hb2.2⟩
      refine ⟨_, rfl, .inl ⟨_, rfl, _, rfl, a, _, _, _, rfl, rfl, SqT.of ht, rfl, _, _, rfl, rfl, kp, rfl, _, rfl, ?_⟩⟩
      by_cases c1 : lget ls y % c = 0
      · refine iteD (congrArg V.int c1) ?_
        refine ⟨_, rfl, .inl ⟨_, rfl, _, rfl, a, _, _, _, rfl, rfl, SqT.of ht, rfl, _, _, rfl, rfl, kp, rfl, ?_⟩⟩
        refine ⟨_, rfl, _, rfl, a, _, _, _, rfl, rfl, SqT.of ht, rfl, _, _, rfl, rfl, ⟨kp, by have := nc.2; omega⟩, _, rfl, _, rfl, a, _, _, _, rfl, rfl, SqT.of ht, rfl, _, _, rfl, rfl, ⟨kp, by have := nc.2; omega⟩, _, _, rfl, rfl, .inl ⟨by omega, by omega⟩, _, rfl, .inr ⟨_, rfl, _, _, rfl, rfl, .inr (flag64 _), ?_⟩⟩
        exact q _ _ sc (flag fun z => if_pos ⟨⟨kp, c1⟩, kp, V.int.inj z⟩)
      · refine iteDN (fun z => c1 (V.int.inj z)) ?_
        refine ⟨_, rfl, _, rfl, a, _, _, _, rfl, rfl, SqT.of ht, rfl, _, _, rfl, rfl, ⟨kp, by have := nc.2; omega⟩, _, rfl, _, rfl, a, _, _, _, rfl, rfl, SqT.of ht, rfl, _, _, rfl, rfl, ⟨kp, by have := nc.2; omega⟩, _, _, rfl, rfl, .inl ⟨by omega, by omega⟩, _, rfl, .inr ⟨false, rfl, _, _, rfl, rfl, .inr (flag64 _), q _ _ sc flagF⟩⟩
    · obtain rfl : y = x := V.int.inj (Option.some.inj ha2)
      have rz := fit.2 z0 (.tail _ (.head _))
      have hb2 := bnd rz
      refine ⟨_, rfl, n, _, _, _, rfl, rfl, SqL.of g.net, rfl, _, rfl, a, _, _, _, rfl, rfl, SqT.of ht, rfl, LL, _, _, _, rfl, rfl, SqL.of g.len, at_ints rz, ?_⟩
      have kp : 0 < c := by have := nc.1; omega
      have d1 : 0 ≤ lget ls y / c ∧ lget ls y / c ≤ 12 := ⟨Int.ediv_nonneg (by omega) (by omega), Int.le_trans (Int.ediv_le_self _ (by omega)) hb.2⟩
      have d2 : 0 ≤ lget ls z0 / c ∧ lget ls z0 / c ≤ 12 := ⟨Int.ediv_nonneg (by omega) (by omega), Int.le_trans (Int.ediv_le_self _ (by omega)) hb2.2⟩
      refine ⟨_, rfl, .inl ⟨_, rfl, _, rfl, a, _, _, _, rfl, rfl, SqT.of ht, rfl, _, _, rfl, rfl, kp, rfl, _, rfl, ?_⟩⟩
      by_cases c1 : lget ls y % c = 0
      · refine iteD (congrArg V.int c1) ?_
        refine ⟨_, rfl, .inl ⟨_, rfl, _, rfl, a, _, _, _, rfl, rfl, SqT.of ht, rfl, _, _, rfl, rfl, kp, rfl, ?_⟩⟩
        refine ⟨_, rfl, _, rfl, a, _, _, _, rfl, rfl, SqT.of ht, rfl, _, _, rfl, rfl, ⟨kp, by have := nc.2; omega⟩, _, rfl, _, rfl, a, _, _, _, rfl, rfl, SqT.of ht, rfl, _, _, rfl, rfl, ⟨kp, by have := nc.2; omega⟩, _, _, rfl, rfl, .inl ⟨by omega, by omega⟩, _, rfl, .inr ⟨_, rfl, _, _, rfl, rfl, .inr (flag64 _), ?_⟩⟩
        exact q _ _ sc (flag fun z => if_pos ⟨⟨kp, c1⟩, kp, V.int.inj z⟩)
      · refine iteDN (fun z => c1 (V.int.inj z)) ?_
        refine ⟨_, rfl, _, rfl, a, _, _, _, rfl, rfl, SqT.of ht, rfl, _, _, rfl, rfl, ⟨kp, by have := nc.2; omega⟩, _, rfl, _, rfl, a, _, _, _, rfl, rfl, SqT.of ht, rfl, _, _, rfl, rfl, ⟨kp, by have := nc.2; omega⟩, _, _, rfl, rfl, .inl ⟨by omega, by omega⟩, _, rfl, .inr ⟨false, rfl, _, _, rfl, rfl, .inr (flag64 _), q _ _ sc flagF⟩⟩
  have s9 := s8.trans t9
  refine if_is "lower" i0 (fun h => ?_) (fun m10 => ?_)
  · have sc := s9
    have g := g0.same sc
    have ht := sc _ _ ht0
    obtain ⟨c, y, rfl⟩ : ∃ c y, d = .lower c y := by cases d <;> first | exact ⟨_, _, rfl⟩ | (exfalso; revert h; dsimp only [Nd.kind]; decide)
    obtain rfl : y = x := V.int.inj (Option.some.inj ha2)
    have kp : 0 < c := by have := nc.1; omega
    refine ⟨_, rfl, _, rfl, .inl ⟨_, rfl, _, rfl, a, _, _, _, rfl, rfl, SqT.of ht, rfl, _, _, rfl, rfl, kp, rfl, .inr ⟨_, rfl, _, _, rfl, rfl, .inr (flag64 _), ?_⟩⟩⟩
    exact q _ _ sc (flag fun z => if_pos ⟨kp, V.int.inj z⟩)
  have s10 := s9
  refine ⟨_, rfl, q _ _ s10 fun _ => ?_⟩
  cases d <;> first
    | (exfalso; first | exact m2 rfl | exact m5 rfl | exact m6 rfl | exact m7 rfl | exact m8 rfl | exact m10 rfl | (revert n1; dsimp only [Nd.kind]; decide) | (revert n3; dsimp only [Nd.kind]; decide) | (revert n4; dsimp only [Nd.kind]; decide) | (revert n9; dsimp only [Nd.kind]; decide))
    | (obtain rfl := V.int.inj (Option.some.inj ha2); exact if_pos nc)

end

section
variable {P : Program} {w : World} {K : PySem.W.Frag} {mg : Str → Option Value} {cs : Cs} {base : Heap} {f : Addr} {fd : FuncData}
theorem ok__law_small_net (F : Fun K "_law_small_net" "_law_small_net" s__law_small_net f fd) (T : Txt K mg cs w) (d__law_draw : Def P w K mg base 1 "_law_draw" ["box", "many"] (spDraw)) (d__law_fill : Def P w K mg base 3 "_law_fill" ["box"] (spFill)) (d__law_try : Def P w K mg base 3 "_law_try" ["box", "net"] (spTry)) (d__law_length : Def P w K mg base 1 "_law_length" ["net", "node"] (spLLen)) :
    FnOk P w K mg base CX0 4 f fd ["box", "most"] (spSNet) := by
  obtain ⟨f0, fd0, G__law_draw, b__law_draw, g__law_draw, k__law_draw⟩ := d__law_draw.ex
  obtain ⟨f1, fd1, G__law_fill, b__law_fill, g__law_fill, k__law_fill⟩ := d__law_fill.ex
  obtain ⟨f2, fd2, G__law_try, b__law_try, g__law_try, k__law_try⟩ := d__law_try.ex
  obtain ⟨f3, fd3, G__law_length, b__law_length, g__law_length, k__law_length⟩ := d__law_length.ex
  refine F.ok sc__law_small_net (fun vs H Q E h => ?_) (fun cdv A outer s H vs Q E hr h => ?_)
  · obtain ⟨b, r, rs, most, rfl, B, mo0, mo9, q⟩ := h
    rfl
  obtain ⟨b, r, rs, most, rfl, B, mo0, mo9, q⟩ := h
  have hu := hr.units
  refine ⟨_, pss_cons (ps_set (i := 2) sc__law_small_net.nd rfl (.inl rfl) (pe_op op_add pe_int (pe_callTy call_int1 (by rfl) T.z_int PyProof.Rows.boot_int (pa_cons (pe_cmpR op_gt (pv 1) pe_int (nomark _)) pa_nil))))
 (pss_cons (ps_set (i := 3) sc__law_small_net.nd rfl (.inl rfl) (pe_lst (pa_cons (pe_op op_add pe_int (pe_call G__law_draw (hr.mono (by decide)) rfl g__law_draw k__law_draw b__law_draw .nil pass0 (pa_cons (pv 0) (pa_cons pe_int pa_nil)))) (pa_cons (pe_op op_add pe_int (pe_call G__law_draw (hr.mono (by decide)) rfl g__law_draw k__law_draw b__law_draw .nil pass0 (pa_cons (pv 0) (pa_cons pe_int pa_nil)))) (pa_cons (pe_lst pa_nil) (pa_cons (pe_lst pa_nil) (pa_cons (pe_lst pa_nil) pa_nil)))))))
 (pss_cons (ps_for PassesOwn.never rfl (pi_range1 rfl T.z_range (pa_cons (pe_op op_add pe_int (pe_call G__law_draw (hr.mono (by decide)) rfl g__law_draw k__law_draw b__law_draw .nil pass0 (pa_cons (pv 0) (pa_cons (pv 2) pa_nil)))) pa_nil)) (pg_name (i := 4) sc__law_small_net.nd rfl (.inl rfl)) (pss_one (ps_expr (pe_bm PySem.F.plainAttrs_list PySem.F.slot_list_append PySem.F.type_list_append mt_append (pe_ix (ixl_at (K := K) rfl) (pv 3) pe_int (fun _ _ => rfl)) (pa_cons (pe_tup (pa_cons (pe_op op_add pe_int (pe_call G__law_draw (hr.mono (by decide)) rfl g__law_draw k__law_draw b__law_draw .nil pass0 (pa_cons (pv 0) (pa_cons (pv 2) pa_nil)))) (pa_cons (pe_op op_add pe_int (pe_call G__law_draw (hr.mono (by decide)) rfl g__law_draw k__law_draw b__law_draw .nil pass0 (pa_cons (pv 0) (pa_cons (pv 2) pa_nil)))) (pa_cons (pe_call G__law_fill hr rfl g__law_fill k__law_fill b__law_fill .nil pass0 (pa_cons (pv 0) pa_nil)) pa_nil)))) pa_nil)))))
 (pss_cons (ps_expr (pe_bm PySem.F.plainAttrs_list PySem.F.slot_list_append PySem.F.type_list_append mt_append (pe_ix (ixl_at (K := K) rfl) (pv 3) pe_int (fun _ _ => rfl)) (pa_cons (pe_tup (pa_cons pe_str pa_nil)) pa_nil)))
 (pss_cons (ps_expr (pe_bm PySem.F.plainAttrs_list PySem.F.slot_list_append PySem.F.type_list_append mt_append (pe_ix (ixl_at (K := K) rfl) (pv 3) pe_int (fun _ _ => rfl)) (pa_cons (pe_ix (ixl_at (K := K) rfl) (pv 3) pe_int (fun _ _ => rfl)) pa_nil)))
 (pss_cons (ps_for PassesOwn.never rfl (pi_range1 rfl T.z_range (pa_cons (pe_call G__law_draw (hr.mono (by decide)) rfl g__law_draw k__law_draw b__law_draw .nil pass0 (pa_cons (pv 0) (pa_cons (pe_op op_add (pv 1) pe_int) pa_nil))) pa_nil)) (pg_name (i := 4) sc__law_small_net.nd rfl (.inl rfl)) (pss_cons (ps_set (i := 5) sc__law_small_net.nd rfl (.inl rfl) pe_bl)
 (pss_one (ps_for PassesOwn.never rfl (pi_range1 rfl T.z_range (pa_cons pe_int pa_nil)) (pg_name (i := 6) sc__law_small_net.nd rfl (.inl rfl)) (pss_cons (ps_set (i := 7) sc__law_small_net.nd rfl (.inl rfl) (pe_call G__law_try hr rfl g__law_try k__law_try b__law_try .nil pass0 (pa_cons (pv 0) (pa_cons (pv 3) pa_nil))))
 (pss_cons (ps_set (i := 8) sc__law_small_net.nd rfl (.inl rfl) (pe_call G__law_length (hr.mono (by decide)) rfl g__law_length k__law_length b__law_length .nil pass0 (pa_cons (pv 3) (pa_cons (pv 7) pa_nil))))
 (pss_one (ps_if (PW.pt (pw_and (pt_not (pt_val (pv 5))) (pw_and1 (pt_chain op_lt op_le pe_int (pv 8) pe_int)))) (pss_cons (ps_expr (pe_bm PySem.F.plainAttrs_list PySem.F.slot_list_append PySem.F.type_list_append mt_append (pe_ix (ixl_at (K := K) rfl) (pv 3) pe_int (fun _ _ => rfl)) (pa_cons (pv 7) pa_nil)))
 (pss_cons (ps_expr (pe_bm PySem.F.plainAttrs_list PySem.F.slot_list_append PySem.F.type_list_append mt_append (pe_ix (ixl_at (K := K) rfl) (pv 3) pe_int (fun _ _ => rfl)) (pa_cons (pv 8) pa_nil)))
 (pss_one (ps_set (i := 5) sc__law_small_net.nd rfl (.inl rfl) pe_bl)))) pss_nil))))))))
 (pss_cons (ps_if (pt_cmpR op_ne (pe_ix (ixl_at (K := K) rfl) (pe_ix (ixl_at (K := K) rfl) (pv 3) pe_int (fun _ _ => rfl)) (pe_un un_neg pe_int) (fun _ _ => rfl)) pe_int (nomark _)) (pss_cons (ps_expr (pe_bm PySem.F.plainAttrs_list PySem.F.slot_list_append PySem.F.type_list_append mt_append (pe_ix (ixl_at (K := K) rfl) (pv 3) pe_int (fun _ _ => rfl)) (pa_cons (pe_tup (pa_cons pe_str (pa_cons (pe_op op_sub (pe_callB (len_at (K := K) rfl) (by rfl) T.z_len PySem.boot_len (pa_cons (pe_ix (ixl_at (K := K) rfl) (pv 3) pe_int (fun _ _ => rfl)) pa_nil)) pe_int) pa_nil))) pa_nil)))
 (pss_one (ps_expr (pe_bm PySem.F.plainAttrs_list PySem.F.slot_list_append PySem.F.type_list_append mt_append (pe_ix (ixl_at (K := K) rfl) (pv 3) pe_int (fun _ _ => rfl)) (pa_cons pe_int pa_nil))))) pss_nil)
 (pss_one (ps_ret (pv 3))))))))), ?_⟩
  refine ⟨_, rfl, _, _, rfl, rfl, .inr ⟨_, rfl, _, _, rfl, rfl, ?_⟩⟩
  have hsd : (2 : Int) ≤ 2 + (if decide (3 < most) = true then 1 else 0) ∧ 2 + (if decide (3 < most) = true then 1 else 0) ≤ (3 : Int) := by split <;> omega
  dsimp only
  generalize (2 : Int) + (if decide (3 < most) = true then 1 else 0) = side at *
  refine ⟨_, rfl, b, r, rs, 3, rfl, B, by decide, fun v1 H1 v10 v11 B1 e1 => ?_⟩
  refine ⟨_, _, rfl, rfl, _, rfl, b, r, rs, 2, rfl, B1, by decide, fun v2 H2 v20 v21 B2 e2 => ?_⟩
  refine ⟨_, _, rfl, rfl, Nat.zero_le _, fun PL nP => ⟨Nat.zero_le _, fun NL nN => ⟨Nat.zero_le _, fun LL nL => ⟨by show 5 ≤ sizeLine; decide, fun n nn => ?_⟩⟩⟩⟩
  have x2 : Exc [b] H H2 := .but (e1.trans e2) (.head _)
  have new : ∀ c, H2 c = none → H c = none := fun c h => by
    cases z : H c with
    | none => rfl
    | some o =>
      by_cases hcb : c = b
      · obtain ⟨_, _, hb⟩ := B2.ex
        rw [hcb, hb] at h
        cases h
      · rw [x2 c o (fun w => hcb (List.mem_singleton.mp w)) z] at h
        cases h
  obtain ⟨zb, zb0, hb2⟩ := B2.ex
  have hP : PL ≠ NL := ne_of_none upd_same nN
  have nN2 : H2 NL = none := by rw [upd_ne hP.symm] at nN; exact nN
  have hN : NL ≠ LL := ne_of_none upd_same nL
  have hP2 : PL ≠ LL := ne_of_none (show (upd (upd H2 PL (.lst [])) NL (.lst [])) PL = some (.lst []) by rw [upd_ne hP]; exact upd_same) nL
  have nL2 : H2 LL = none := by rw [upd_ne hN.symm, upd_ne hP2.symm] at nL; exact nL
  have hL : LL ≠ n := ne_of_none upd_same nn
  have hN2 : NL ≠ n := ne_of_none (show (upd (upd (upd H2 PL (.lst [])) NL (.lst [])) LL (.lst [])) NL = some (.lst []) by rw [upd_ne hN]; exact upd_same) nn
  have hP3 : PL ≠ n := ne_of_none (show (upd (upd (upd H2 PL (.lst [])) NL (.lst [])) LL (.lst [])) PL = some (.lst []) by rw [upd_ne hP2, upd_ne hP]; exact upd_same) nn
  have nn2 : H2 n = none := by rw [upd_ne hL.symm, upd_ne hN2.symm, upd_ne hP3.symm] at nn; exact nn
  have bP : b ≠ PL := ne_of_none hb2 nP
  have bN : b ≠ NL := ne_of_none hb2 nN2
  have bL : b ≠ LL := ne_of_none hb2 nL2
  have bn : b ≠ n := ne_of_none hb2 nn2
  have rP : r ≠ PL := ne_of_none B2.row nP
  have rN : r ≠ NL := ne_of_none B2.row nN2
  have rL : r ≠ LL := ne_of_none B2.row nL2
  have s1 := same_new nP (.lst [])
  have s2 := same_new nN (.lst [])
  have s3 := same_new nL (.lst [])
  have s4 := same_new nn (.lst [.int (1 + v1), .int (1 + v2), .ref PL, .ref NL, .ref LL])
  have g0 : G (upd (upd (upd (upd H2 PL (.lst [])) NL (.lst [])) LL (.lst [])) n (.lst [.int (1 + v1), .int (1 + v2), .ref PL, .ref NL, .ref LL])) b r rs n PL NL LL (1 + v1) (1 + v2) [] [] [] :=
    ⟨B2.same (((s1.trans s2).trans s3).trans s4), upd_same, ⟨[], s4 _ _ (s3 _ _ (s2 _ _ upd_same)), .nil⟩, ⟨[], s4 _ _ (s3 _ _ upd_same), .nil⟩, s4 _ _ upd_same, ⟨bn, bP, bN, bL, rP, rN, rL, hP3.symm, hN2.symm, hL.symm, hP, hP2, hN⟩⟩
  have x0 : Exc [b] H (upd (upd (upd (upd H2 PL (.lst [])) NL (.lst [])) LL (.lst [])) n (.lst [.int (1 + v1), .int (1 + v2), .ref PL, .ref NL, .ref LL])) := x2.trans (.of (((s1.trans s2).trans s3).trans s4))
  generalize upd (upd (upd (upd H2 PL (.lst [])) NL (.lst [])) LL (.lst [])) n (.lst [.int (1 + v1), .int (1 + v2), .ref PL, .ref NL, .ref LL]) = H3 at *
  have u0 : Built (1 + v1) (1 + v2) [] [] [] := ⟨by omega, by omega, by omega, by omega, (fun m h => by cases h), Nat.zero_le _, rfl, rfl, (fun l h => by cases h), (fun d h => by cases h)⟩
  have inb : ∀ {H5 : Hp} {c : Addr} {o : HO}, Exc [b] H H5 → H c = none → Exc [b] H (upd H5 c o) := fun x h => x.fresh (exc_one _ _) fun c hc => by rw [List.mem_singleton.mp hc]; exact .inr h
  -- the parameters
  refine ⟨_, rfl, _, rfl, b, r, rs, side, rfl, g0.box, by omega, fun w1 H4 w10 w11 B4 e4 => ?_⟩
  refine ⟨_, _, rfl, rfl, 1 + w1, rfl, by omega, by omega, ?_⟩
  refine for_range (fun (t : Nat) σ H' => ∃ (y4 : Option V) (pms : List (Int × Int × Str × Int)), σ = [some (.ref b), some (.int most), some (.int side), some (.ref n), y4, none, none, none, none] ∧ G H' b r rs n PL NL LL (1 + v1) (1 + v2) pms [] [] ∧ Built (1 + v1) (1 + v2) pms [] [] ∧ pms.length = t ∧ (∀ m ∈ pms, m.1 ≤ 3 ∧ m.2.1 ≤ 3) ∧ Exc [b] H H')
    ⟨none, [], rfl, g0.but B4 e4, u0, rfl, (fun m h => by cases h), x0.trans (.but e4 (.head _))⟩ (fun t σ H' ht hP => ?_) (fun σ H' hP => ?_)
  · obtain ⟨y4, pms, rfl, g, u, hl, sd3, x⟩ := hP
    obtain ⟨pr, p1, p2⟩ := g.par
    refine ⟨_, rfl, n, _, _, _, rfl, rfl, SqL.of g.net, rfl, .inl ⟨rfl, _, .inl (.inl p1)⟩, ?_⟩
    refine ⟨_, rfl, _, rfl, b, r, rs, side, rfl, g.box, by omega, fun ro H5 ro0 ro1 B5 e5 => ⟨_, _, rfl, rfl, ?_⟩⟩
    refine ⟨_, rfl, _, rfl, b, r, rs, side, rfl, B5, by omega, fun co H6 co0 co1 B6 e6 => ⟨_, _, rfl, rfl, ?_⟩⟩
    refine ⟨_, rfl, b, r, rs, rfl, B6, fun f kd w H7 B7 e7 nf hf fo => ?_⟩
    have g7 := ((g.but B5 e5).but B6 e6).but B7 e7
    refine ⟨by show 3 ≤ sizeLine; decide, fun pt npt => ?_⟩
    generalize eqH : upd H7 pt _ = H8
    obtain ⟨s8, h8⟩ := new_facts eqH npt
    have g8 := g7.same s8
    obtain ⟨pr8, p81, p82⟩ := g8.par
    have epr : H8 PL = some (.lst (pr.map V.ref)) := s8 _ _ (e7 _ _ g.dis.bp.symm (e6 _ _ g.dis.bp.symm (e5 _ _ g.dis.bp.symm p1)))
    have epr2 : pr8 = pr := by
      rw [p81] at epr
      exact (List.map_inj_right (f := V.ref) fun a b h => V.ref.inj h).mp (HO.lst.inj (Option.some.inj epr))
    subst epr2
    refine ⟨PL, _, _, rfl, rfl, p81, smaller (by rw [List.length_map, p82.length]; omega), ?_⟩
    have pok : PmOk (1 + ro, 1 + co, kd, w) := ⟨by show 1 ≤ 1 + ro; omega, by show 1 + ro ≤ 6; omega, by show 1 ≤ 1 + co; omega, by show 1 + co ≤ 6; omega, fo⟩
    refine ⟨_, _, rfl, g8.addPm p81 p82 ⟨f, h8, s8 _ _ hf⟩, u.grow pok (by omega), by rw [List.length_append, hl]; rfl, fun m hm => ?_, inb (((x.trans (.but e5 (.head _))).trans (.but e6 (.head _))).trans (.but e7 (.head _)) |>.trans (.of s8)) (new _ nP)⟩
    rcases List.mem_append.mp hm with h | h
    · exact sd3 m h
    · rw [List.mem_singleton.mp h]; exact ⟨by show 1 + ro ≤ 3; omega, by show 1 + co ≤ 3; omega⟩
  obtain ⟨y4, pms, rfl, g, u, hl, sd3, x⟩ := hP
  have lpm : 1 ≤ pms.length ∧ pms.length ≤ 3 := by omega
  -- the input
  obtain ⟨nr, n1, n2⟩ := g.nod
  refine ⟨_, rfl, n, _, _, _, rfl, rfl, SqL.of g.net, rfl, .inl ⟨rfl, _, .inl (.inl n1)⟩, by show 1 ≤ sizeLine; decide, fun it nit => ?_⟩
  generalize eqH : upd H' it _ = H5
  obtain ⟨s5, h5⟩ := new_facts eqH nit
  clear eqH
  have g5 := g.same s5
  have n15 := s5 _ _ n1
  refine ⟨NL, _, _, rfl, rfl, n15, smaller (by rw [List.length_map, n2.length]; decide), ?_⟩
  have g6 := g5.addNd n15 (n2.mono fun _ _ w => NdT.exc (Exc.of (S := []) s5) (fun c hc => by cases hc) w) (d := .input) h5
  have x6 := inb (x.trans (.of s5)) (new _ nN2) (o := .lst (nr.map V.ref ++ [.ref it]))
  generalize upd H5 NL (.lst (nr.map V.ref ++ [.ref it])) = H6 at *
  refine ⟨_, rfl, n, _, _, _, rfl, rfl, SqL.of g6.net, rfl, .inl ⟨rfl, _, .inl (.inl g6.len)⟩, _, rfl, n, _, _, _, rfl, rfl, SqL.of g6.net, rfl, LL, _, _, rfl, rfl, g6.len, (by show 0 < sizeLine; decide), ?_⟩
  have g7 := g6.addLen (1 + v1)
  have u7 := u.snoc (d := .input) (len := 1 + v1) (good_of True.intro (fun o h => by cases h) rfl (by omega) (by omega) True.intro)
  have x7 := inb x6 (new _ nL2) (o := .lst (([] : List Int).map V.int ++ [.int (1 + v1)]))
  generalize upd H6 LL (.lst (([] : List Int).map V.int ++ [.int (1 + v1)])) = H7 at *
  -- the nodes
  refine ⟨_, rfl, _, rfl, _, _, rfl, rfl, b, r, rs, most + 1, rfl, g7.box, by omega, fun w2 H8 w20 w21 B8 e8 => ?_⟩
  refine ⟨w2, rfl, by omega, by omega, ?_⟩
  refine for_range (fun (t : Nat) σ H' => ∃ (y4 y5 y6 y7 y8 : Option V) (nds : List Nd) (ls : List Int), σ = [some (.ref b), some (.int most), some (.int side), some (.ref n), y4, y5, y6, y7, y8] ∧ G H' b r rs n PL NL LL (1 + v1) (1 + v2) pms nds ls ∧ Built (1 + v1) (1 + v2) pms nds ls ∧ 1 ≤ nds.length ∧ nds.length ≤ 1 + t ∧ (∃ r, nds = .input :: r) ∧ Exc [b] H H')
    ⟨_, none, none, none, none, [.input], [1 + v1], rfl, g7.but B8 e8, u7, Nat.le_refl _, Nat.le_refl _, ⟨_, rfl⟩, x7.trans (.but e8 (.head _))⟩ (fun t σ H' ht hP => ?_) (fun σ H' hP => ?_)
  · obtain ⟨y4, y5, y6, y7, y8, nds, ls, rfl, g, u, l1, l2, hin, x⟩ := hP
    refine ⟨3, rfl, by decide, by decide, ?_⟩
    refine for_range (fun (s : Nat) σ H' => ∃ (y6 y7 y8 : Option V) (done : Bool) (nds : List Nd) (ls : List Int), σ = [some (.ref b), some (.int most), some (.int side), some (.ref n), some (.int (0 + (t : Int))), some (.bl done), y6, y7, y8] ∧ G H' b r rs n PL NL LL (1 + v1) (1 + v2) pms nds ls ∧ Built (1 + v1) (1 + v2) pms nds ls ∧ 1 ≤ nds.length ∧ nds.length ≤ (if done then 2 else 1) + t ∧ (∃ r, nds = .input :: r) ∧ Exc [b] H H')
      ⟨y6, y7, y8, false, nds, ls, rfl, g, u, l1, l2, hin, x⟩ (fun s σ H' hs hP => ?_) (fun σ H' hP => ?_)
    · obtain ⟨y6, y7, y8, done, nds, ls, rfl, g, u, l1, l2, hin, x⟩ := hP
      have l2' : nds.length ≤ 2 + t := Nat.le_trans l2 (by split <;> omega)
      refine ⟨_, rfl, _, rfl, b, r, rs, n, PL, NL, LL, _, _, pms, nds, ls, rfl, g, u, l1, by omega, lpm.1, fun nt d H9 g9 e9 hnt fit nc => ?_⟩
      refine ⟨_, rfl, _, rfl, b, r, rs, n, PL, NL, LL, nt, _, _, pms, nds, ls, d, rfl, g9, u, hnt, fit, nc, fun len H10 s10 hlen => ?_⟩
      have g10 := g9.same s10
      have x10 := (x.trans (.but e9 (.head _))).trans (.of s10)
      refine ⟨_, rfl, done, rfl, ?_⟩
      cases done with
      | true => exact iteF ⟨_, _, _, true, nds, ls, rfl, g10, u, l1, l2, hin, x10⟩
      | false =>
        refine iteT ?_
        refine ⟨_, rfl, chain01 ⟨_, rfl, ?_⟩⟩
        by_cases c : 1 ≤ len ∧ len ≤ 12
        · refine iteD c ?_
          obtain ⟨nr, n1, n2⟩ := g10.nod
          have gd : Good (1 + v1) (1 + v2) pms ls d len := ⟨by unfold Nd.lenOf; rw [if_pos (by rw [sides_len]; exact fit)]; exact hlen c.1, c.1, c.2, nc.tame'⟩
          refine ⟨_, rfl, n, _, _, _, rfl, rfl, SqL.of g10.net, rfl, .inl ⟨rfl, _, .inl (.inl n1)⟩, _, rfl, NL, _, _, rfl, rfl, n1, smaller (by rw [List.length_map, n2.length]; omega), ?_⟩
          have g11 := g10.addNd n1 n2 (s10 _ _ hnt)
          have x11 := inb x10 (new _ nN2) (o := .lst (nr.map V.ref ++ [.ref nt]))
          generalize upd H10 NL (.lst (nr.map V.ref ++ [.ref nt])) = H11 at *
          refine ⟨_, rfl, n, _, _, _, rfl, rfl, SqL.of g11.net, rfl, .inl ⟨rfl, _, .inl (.inl g11.len)⟩, _, rfl, LL, _, _, rfl, rfl, g11.len, smaller (by rw [List.length_map]; have := u.all; omega), ?_⟩
          obtain ⟨rr, hr⟩ := hin
          have l2 : nds.length ≤ 1 + t := l2
          exact ⟨_, _, _, true, _, _, rfl, g11.addLen len, u.snoc gd, by rw [List.length_append]; omega, by rw [List.length_append]; show nds.length + 1 ≤ 2 + t; omega, ⟨rr ++ [d], by rw [hr]; rfl⟩, inb x11 (new _ nL2)⟩
        · exact iteDN c ⟨_, _, _, false, nds, ls, rfl, g10, u, l1, l2, hin, x10⟩
    · obtain ⟨y6, y7, y8, done, nds, ls, rfl, g, u, l1, l2, hin, x⟩ := hP
      have l2' : nds.length ≤ 2 + t := Nat.le_trans l2 (by split <;> omega)
      exact ⟨_, _, _, _, _, nds, ls, rfl, g, u, l1, by omega, hin, x⟩
  · obtain ⟨y4, y5, y6, y7, y8, nds, ls, rfl, g, u, l1, l2, hin, x⟩ := hP
    have ul := u.all
    have hne : ls ≠ [] := fun z => by rw [z] at ul; have : nds.length = 0 := ul.symm; omega
    obtain ⟨l0, z, rfl⟩ : ∃ l0 z, ls = l0 ++ [z] := ⟨ls.dropLast, ls.getLast hne, (List.dropLast_concat_getLast hne).symm⟩
    have al : atI ((l0 ++ [z]).map V.int) (-1) = some (.int z) := by
      rw [List.map_append]
      exact atI_last _ _
    obtain ⟨nr, n1, n2⟩ := g.nod
    have ln : nr.length = nds.length := n2.length
    refine ⟨_, rfl, n, _, _, _, rfl, rfl, SqL.of g.net, rfl, 1, rfl, LL, _, _, _, rfl, rfl, SqL.of g.len, al, rfl, _, rfl, ?_⟩
    by_cases hz : z = 1
    · refine iteNS (congrArg V.int hz) ?_
      exact ⟨_, rfl, q n PL NL LL _ _ pms nds _ H' g u ⟨l0, by rw [hz]⟩ (by omega) ⟨lpm.1, lpm.2, sd3⟩ hin x (new _ nn2) (new _ nP) (new _ nN2) (new _ nL2)⟩
    · refine iteNN (fun w => hz (V.int.inj w)) ?_
      refine ⟨_, rfl, n, _, _, _, rfl, rfl, SqL.of g.net, rfl, .inl ⟨rfl, _, .inl (.inl n1)⟩, ?_⟩
      refine ⟨_, rfl, n, _, _, _, rfl, rfl, SqL.of g.net, rfl, NL, _, rfl, .inl (SqL.of n1), _, _, rfl, rfl, by show 2 ≤ sizeLine; decide, fun t1 nt1 => ?_⟩
      have ea : (((nr.map V.ref).length : Nat) : Int) - 1 = (nds.length : Int) - 1 := by rw [List.length_map, ln]
      have s5 := same_new nt1 (.tup [.str "sum", .int ((((nr.map V.ref).length : Nat) : Int) - 1)])
      have g5 := g.same s5
      have gd : Good (1 + v1) (1 + v2) pms (l0 ++ [z]) (.sum ((((nr.map V.ref).length : Nat) : Int) - 1)) 1 := good_of True.intro (fun o ho => by rw [List.mem_singleton.mp ho]; exact ⟨by rw [ea]; omega, by rw [ea]; omega⟩) rfl (by decide) (by decide) True.intro
      have h5 : NdT (upd H' t1 (.tup [.str "sum", .int ((((nr.map V.ref).length : Nat) : Int) - 1)])) t1 (.sum ((((nr.map V.ref).length : Nat) : Int) - 1)) := upd_same
      have x5 : Exc [b] H (upd H' t1 (.tup [.str "sum", .int ((((nr.map V.ref).length : Nat) : Int) - 1)])) := x.trans (.of s5)
      have n15 := s5 _ _ n1
      have n25 : All2 (NdT (upd H' t1 (.tup [.str "sum", .int ((((nr.map V.ref).length : Nat) : Int) - 1)]))) nr nds := n2.mono fun _ _ w => s5 _ _ w
      generalize upd H' t1 (.tup [.str "sum", .int ((((nr.map V.ref).length : Nat) : Int) - 1)]) = H5 at *
      refine ⟨NL, _, _, rfl, rfl, n15, smaller (by rw [List.length_map]; omega), ?_⟩
      have g6 := g5.addNd n15 n25 h5
      have x7 : Exc [b] H (upd H5 NL (.lst (nr.map V.ref ++ [.ref t1]))) := x5.fresh (exc_one NL _) fun c hc => by rw [List.mem_singleton.mp hc]; exact .inr (new _ nN2)
      generalize upd H5 NL (.lst (nr.map V.ref ++ [.ref t1])) = H6 at *
      refine ⟨_, rfl, n, _, _, _, rfl, rfl, SqL.of g6.net, rfl, .inl ⟨rfl, _, .inl (.inl g6.len)⟩, LL, _, _, rfl, rfl, g6.len, smaller (by rw [List.length_map]; omega), ?_⟩
      have x8 : Exc [b] H (upd H6 LL (.lst ((l0 ++ [z]).map V.int ++ [.int 1]))) := x7.fresh (exc_one LL _) fun c hc => by rw [List.mem_singleton.mp hc]; exact .inr (new _ nL2)
      exact ⟨_, rfl, q n PL NL LL _ _ pms _ _ _ (g6.addLen 1) (u.snoc gd) ⟨_, rfl⟩ (by rw [List.length_append, List.length_singleton]; omega) ⟨lpm.1, lpm.2, sd3⟩ (by obtain ⟨rr, hr⟩ := hin; exact ⟨rr ++ [_], by rw [hr]; rfl⟩) x8 (new _ nn2) (new _ nP) (new _ nN2) (new _ nL2)⟩

end

section
variable {P : Program} {w : World} {K : PySem.W.Frag} {mg : Str → Option Value} {cs : Cs} {base : Heap} {f : Addr} {fd : FuncData}
theorem ok__law_job (F : Fun K "_law_job" "_law_job" s__law_job f fd) (T : Txt K mg cs w) (d__law_small_net : Def P w K mg base 4 "_law_small_net" ["box", "most"] (spSNet)) (d__law_draw : Def P w K mg base 1 "_law_draw" ["box", "many"] (spDraw)) (d__law_word : Def P w K mg base 2 "_law_word" ["box"] (spWord)) :
    FnOk P w K mg base CX0 5 f fd ["box", "most"] (spSJob) := by
  obtain ⟨f0, fd0, G__law_small_net, b__law_small_net, g__law_small_net, k__law_small_net⟩ := d__law_small_net.ex
  obtain ⟨f1, fd1, G__law_draw, b__law_draw, g__law_draw, k__law_draw⟩ := d__law_draw.ex
  obtain ⟨f2, fd2, G__law_word, b__law_word, g__law_word, k__law_word⟩ := d__law_word.ex
  refine F.ok sc__law_job (fun vs H Q E h => ?_) (fun cdv A outer s H vs Q E hr h => ?_)
  · obtain ⟨b, r, rs, most, rfl, B, m0, m9, q⟩ := h
    rfl
  obtain ⟨b, r, rs, most, rfl, B, m0, m9, q⟩ := h
  have hu := hr.units
  refine ⟨_, pss_cons (ps_set (i := 2) sc__law_job.nd rfl (.inl rfl) (pe_call G__law_small_net hr rfl g__law_small_net k__law_small_net b__law_small_net .nil pass0 (pa_cons (pv 0) (pa_cons (pv 1) pa_nil))))
 (pss_cons (ps_set (i := 3) sc__law_job.nd rfl (.inl rfl) (pe_lst pa_nil))
 (pss_cons (ps_for PassesOwn.never rfl (pi_range1 rfl T.z_range (pa_cons (pe_op op_add pe_int (pe_call G__law_draw (hr.mono (by decide)) rfl g__law_draw k__law_draw b__law_draw .nil pass0 (pa_cons (pv 0) (pa_cons pe_int pa_nil)))) pa_nil)) (pg_name (i := 4) sc__law_job.nd rfl (.inl rfl)) (pss_cons (ps_setLc (i := 5) (own := [("j", 7)]) (g := gName 7) (tt := tYes)  rfl sc__law_job.nd rfl rfl (sw_true rfl rfl rfl (by decide +kernel)) (pi_range1 rfl T.z_range (pa_cons (pe_ix (ixl_at (K := K) rfl) (pv 2) pe_int (fun _ _ => rfl)) pa_nil)) (blkOk_by (N := ["box", "most", "net", "data", "k", "inputs", "rates", "j"]) (sc := defScope s__law_job) (by decide +kernel)) (fun _ _ _ _ _ => (pg_name (i := 7) sc__law_job.nd rfl (.inl rfl))) (fun _ _ _ _ _ => pts_nil) (fun _ _ _ _ _ => (pe_call G__law_word (hr.mono (by decide)) rfl g__law_word k__law_word b__law_word .nil pass0 (pa_cons (pv 0) pa_nil))))
 (pss_one (ps_expr (pe_bm PySem.F.plainAttrs_list PySem.F.slot_list_append PySem.F.type_list_append mt_append (pv 3) (pa_cons (pe_tup (pa_cons (pv 5) (pa_cons (pe_lc (own := [("j", 7)]) (g := gName 7) (tt := tYes)  rfl sc__law_job.nd (pi_range1 rfl T.z_range (pa_cons (pe_ix (ixl_at (K := K) rfl) (pv 2) pe_int (fun _ _ => rfl)) pa_nil)) (blkOk_by (N := ["box", "most", "net", "data", "k", "inputs", "rates", "j"]) (sc := defScope s__law_job) (by decide +kernel)) (fun _ _ _ _ _ => (pg_name (i := 7) sc__law_job.nd rfl (.inl rfl))) (fun _ _ _ _ _ => pts_nil) (fun _ _ _ _ _ => (pe_call G__law_word (hr.mono (by decide)) rfl g__law_word k__law_word b__law_word .nil pass0 (pa_cons (pv 0) pa_nil)))) pa_nil))) pa_nil))))))
 (pss_cons (ps_set (i := 6) sc__law_job.nd rfl (.inl rfl) (pe_lst pa_nil))
 (pss_cons (ps_for PassesOwn.never rfl (pi_range1 rfl T.z_range (pa_cons (pe_call G__law_draw (hr.mono (by decide)) rfl g__law_draw k__law_draw b__law_draw .nil pass0 (pa_cons (pv 0) (pa_cons pe_int pa_nil))) pa_nil)) (pg_name (i := 4) sc__law_job.nd rfl (.inl rfl)) (pss_one (ps_expr (pe_bm PySem.F.plainAttrs_list PySem.F.slot_list_append PySem.F.type_list_append mt_append (pv 6) (pa_cons (pe_tup (pa_cons (pe_call G__law_draw (hr.mono (by decide)) rfl g__law_draw k__law_draw b__law_draw .nil pass0 (pa_cons (pv 0) (pa_cons pe_int pa_nil))) (pa_cons (pe_call G__law_word (hr.mono (by decide)) rfl g__law_word k__law_word b__law_word .nil pass0 (pa_cons (pv 0) pa_nil)) pa_nil))) pa_nil)))))
 (pss_one (ps_ret (pe_lst (pa_cons (pv 2) (pa_cons (pe_call G__law_word (hr.mono (by decide)) rfl g__law_word k__law_word b__law_word .nil pass0 (pa_cons (pv 0) pa_nil)) (pa_cons (pe_op op_add pe_int (pe_call G__law_draw (hr.mono (by decide)) rfl g__law_draw k__law_draw b__law_draw .nil pass0 (pa_cons (pv 0) (pa_cons pe_int pa_nil)))) (pa_cons (pe_call G__law_word (hr.mono (by decide)) rfl g__law_word k__law_word b__law_word .nil pass0 (pa_cons (pv 0) pa_nil)) (pa_cons (pe_call G__law_draw (hr.mono (by decide)) rfl g__law_draw k__law_draw b__law_draw .nil pass0 (pa_cons (pv 0) (pa_cons pe_int pa_nil))) (pa_cons (pv 6) (pa_cons (pv 3) pa_nil)))))))))))))), ?_⟩
  refine ⟨_, rfl, _, rfl, b, r, rs, most, rfl, B, m0, m9, fun n PL NL LL ni nt pms nds ls H1 g u hlast hlen ⟨lp1, lp3, sd3⟩ hin x1 nn nP nN nL => ?_⟩
  have e01 : But b H H1 := fun c o nc h => x1 c o (fun z => nc (List.mem_singleton.mp z)) h
  have u1 := u.ni1
  have u2 := u.ni3
  have u3 := u.nt1
  have u4 := u.nt2
  have nnb : n ≠ b := g.dis.bn.symm
  refine ⟨Nat.zero_le _, fun DL nD => ?_⟩
  obtain ⟨bx, hb⟩ := g.box.lst
  have nbD : DL ≠ b := (ne_of_none hb nD).symm
  have s2 := same_new nD (.lst [])
  refine ⟨_, rfl, b, r, rs, 4, rfl, g.box.same s2, by decide, fun m Hm v0 v4 Bm em => ⟨_, _, rfl, rfl, ?_⟩⟩
  refine ⟨1 + m, rfl, by omega, by omega, ?_⟩
  refine for_range (fun (t : Nat) σ H' => ∃ (y4 y5 : Option V) (data : List (List Int × List Int)) (us : List V), σ = [some (.ref b), some (.int most), some (.ref n), some (.ref DL), y4, y5, none, none] ∧ Box H' b r rs ∧ But b H1 H' ∧ H' DL = some (.lst us) ∧ All2 (DV (Off b DL) H' 3) us (data.map sampD) ∧ data.length = t ∧
      ∀ p ∈ data, (p.1.length : Int) = ni ∧ (p.2.length : Int) = nt ∧ (∀ x ∈ p.1, isW x) ∧ ∀ x ∈ p.2, isW x)
    ⟨none, none, [], [], rfl, Bm, (But.of s2).trans em, em _ _ nbD upd_same, .nil, rfl, fun p h => by cases h⟩ (fun t σ H' ht hP => ?_) (fun σ H' hP => ?_)
  · obtain ⟨y4, y5, data, us, rfl, B1, e1, hD, au, ld, okd⟩ := hP
    have lu : us.length = data.length := by rw [au.length, List.length_map]
    have gn := (g.but B1 e1).net
    refine ⟨_, rfl, n, _, _, _, rfl, rfl, SqL.of gn, rfl, ni, rfl, by omega, by omega, fun D nD2 => ?_⟩
    obtain ⟨bx1, hb1⟩ := B1.lst
    have DDb : D ≠ b := (ne_of_none hb1 nD2).symm
    have DDD : D ≠ DL := fun z => by rw [z, hD] at nD2; cases nD2
    refine lc_range (n := ni.toNat) (fun (t : Nat) H2 => ∃ xs : List Int, Box H2 b r rs ∧ But b H' H2 ∧ H2 D = some (.lst (xs.map V.int)) ∧ xs.length = t ∧ ∀ x ∈ xs, isW x) ⟨[], B1.same (same_new nD2 _), .of (same_new nD2 _), upd_same, rfl, fun x h => by cases h⟩ (fun k H2 hk hP => ?_) (fun H2 hP => ?_)
    · obtain ⟨xs, B2, e2, h2, lx, wx⟩ := hP
      refine ⟨rfl, _, rfl, b, r, rs, rfl, B2, fun v H3 v0 v1 B3 e3 => ?_⟩
      refine ⟨_, e3 _ _ DDb h2, smaller (by rw [List.length_map]; omega), xs ++ [v], B3.mut B1 nD2, (e2.trans e3).mut nD2, map_more _ _, by rw [List.length_append, lx]; rfl, all_snoc wx ⟨v0, v1⟩⟩
    obtain ⟨xs, B2, e2, hx, lx, wx⟩ := hP
    have hD2 := e2 _ _ nbD hD
    refine ⟨_, rfl, .inl ⟨rfl, _, .inl (.inl hD2)⟩, _, rfl, _, rfl, n, _, _, _, rfl, rfl, SqL.of (e2 _ _ nnb gn), rfl, nt, rfl, by omega, by omega, fun E nE => ?_⟩
    obtain ⟨bx2, hb2⟩ := B2.lst
    have EDb : E ≠ b := (ne_of_none hb2 nE).symm
    have EDD : E ≠ DL := fun z => by rw [z, hD2] at nE; cases nE
    refine lc_range (n := nt.toNat) (fun (t : Nat) H3 => ∃ ys : List Int, Box H3 b r rs ∧ But b H2 H3 ∧ H3 E = some (.lst (ys.map V.int)) ∧ ys.length = t ∧ ∀ x ∈ ys, isW x) ⟨[], B2.same (same_new nE _), .of (same_new nE _), upd_same, rfl, fun x h => by cases h⟩ (fun k H3 hk hP => ?_) (fun H3 hP => ?_)
    · obtain ⟨ys, B3, e3, h3, ly, wy⟩ := hP
      refine ⟨rfl, _, rfl, b, r, rs, rfl, B3, fun v H4 v0 v1 B4 e4 => ?_⟩
      refine ⟨_, e4 _ _ EDb h3, smaller (by rw [List.length_map]; omega), ys ++ [v], B4.mut B2 nE, (e3.trans e4).mut nE, map_more _ _, by rw [List.length_append, ly]; rfl, all_snoc wy ⟨v0, v1⟩⟩
    obtain ⟨ys, B3, e3, hy, ly, wy⟩ := hP
    have hD3 := e3 _ _ nbD hD2
    refine ⟨by show 2 ≤ sizeLine; decide, fun tp ntp => ?_⟩
    generalize eqH : upd H3 tp _ = H4
    obtain ⟨s4, h4⟩ := new_facts eqH ntp
    clear eqH
    have e14 : But b H' H4 := (e2.trans e3).trans (.of s4)
    obtain ⟨bx3, hb3⟩ := B3.lst
    have hD4 := s4 _ _ hD3
    have ntD : tp ≠ DL := fun z => by rw [z, hD3] at ntp; cases ntp
    have ntb : tp ≠ b := (ne_of_none hb3 ntp).symm
    refine ⟨DL, us, _, rfl, rfl, hD4, smaller (by omega), ?_⟩
    refine ⟨_, _, data ++ [(xs, ys)], us ++ [.ref tp], rfl, (B3.same s4).mut g.box nD, (e1.trans e14).mut nD, upd_same, ?_, by rw [List.length_append, ld]; rfl, fun p hp => ?_⟩
    · rw [List.map_append]
      have hv : DV (Off b DL) H4 3 (.ref tp) (sampD (xs, ys)) := samp_dv ⟨ntb, ntD⟩ ⟨DDb, DDD⟩ ⟨EDb, EDD⟩ h4 (s4 _ _ (e3 _ _ DDb hx)) (s4 _ _ hy) (by show xs.length ≤ 100000; omega) (by show ys.length ≤ 100000; omega)
      exact DV.grow (fun c o s h => e14 c o s.1 h) au hv _
    · rcases List.mem_append.mp hp with z | z
      · exact okd p z
      · rw [List.mem_singleton.mp z]; exact ⟨by show (xs.length : Int) = ni; omega, by show (ys.length : Int) = nt; omega, wx, wy⟩
  obtain ⟨y4, y5, data, us, rfl, B1, e1, hD, au, ld, okd⟩ := hP
  have lu : us.length = data.length := by rw [au.length, List.length_map]
  have dD : DV (· ≠ b) H' 4 (.ref DL) (.l (data.map sampD)) := ⟨DL, us, rfl, nbD, hD, by omega, au.mono fun _ _ w => w.keep fun a o s h => ⟨s.1, h⟩⟩
  -- rates
  refine ⟨Nat.zero_le _, fun RL nR => ?_⟩
  obtain ⟨bx1, hb1⟩ := B1.lst
  have nbR : RL ≠ b := (ne_of_none hb1 nR).symm
  have s3 := same_new nR (.lst [])
  refine ⟨_, rfl, b, r, rs, 3, rfl, B1.same s3, by decide, fun m2 Hm2 w0 w3 Bm2 em2 => ?_⟩
  refine ⟨m2, rfl, by omega, by omega, ?_⟩
  refine for_range (fun (t : Nat) σ H'' => ∃ (y4 : Option V) (rates : List (Int × Int)) (vs : List V), σ = [some (.ref b), some (.int most), some (.ref n), some (.ref DL), y4, y5, some (.ref RL), none] ∧ Box H'' b r rs ∧ But b H' H'' ∧ H'' RL = some (.lst vs) ∧
      All2 (DV (Off b RL) H'' 2) vs (rates.map rateD) ∧ rates.length ≤ t ∧ ∀ p ∈ rates, 0 ≤ p.1 ∧ p.1 ≤ 4294967295 ∧ isW p.2)
    ⟨y4, [], [], rfl, Bm2, (But.of s3).trans em2, em2 _ _ nbR upd_same, .nil, Nat.zero_le _, fun p h => by cases h⟩ (fun t σ H'' ht hP => ?_) (fun σ H'' hP => ?_)
  · obtain ⟨y4, rates, vs, rfl, B2, e2, hR, av, lr, okr⟩ := hP
    have lv : vs.length = rates.length := by rw [av.length, List.length_map]
    refine ⟨_, rfl, .inl ⟨rfl, _, .inl (.inl hR)⟩, _, rfl, b, r, rs, 3, rfl, B2, by decide, fun st H3 st0 st3 B3 e3 => ?_⟩
    refine ⟨_, rfl, b, r, rs, rfl, B3, fun v Hv v0 v1 Bv ev => ?_⟩
    refine ⟨by show 2 ≤ sizeLine; decide, fun tp ntp => ?_⟩
    generalize eqH : upd Hv tp _ = H4
    obtain ⟨s4, h4⟩ := new_facts eqH ntp
    clear eqH
    obtain ⟨bx2, hb2⟩ := Bv.lst
    have e3v := e3.trans ev
    have eo : But b H'' H4 := e3v.trans (.of s4)
    have hR4 := eo _ _ nbR hR
    refine ⟨RL, vs, _, rfl, rfl, hR4, smaller (by omega), ?_⟩
    have ntR : tp ≠ RL := fun z => by
      have w := e3v _ _ nbR hR
      rw [← z, ntp] at w
      cases w
    refine ⟨_, rates ++ [(st, v)], vs ++ [.ref tp], rfl, (Bv.same s4).mut B1 nR, (e2.trans eo).mut nR, upd_same, ?_, by rw [List.length_append, List.length_singleton]; omega, fun p hp => ?_⟩
    · rw [List.map_append]
      have hv : DV (Off b RL) H4 2 (.ref tp) (rateD (st, v)) := ⟨tp, _, rfl, ⟨(ne_of_none hb2 ntp).symm, ntR⟩, h4, by show 2 ≤ 100000; decide, .cons rfl (.cons rfl .nil)⟩
      exact DV.grow (fun c o s h => eo c o s.1 h) av hv _
    · rcases List.mem_append.mp hp with z | z
      · exact okr p z
      · rw [List.mem_singleton.mp z]; exact ⟨st0, by show st ≤ 4294967295; omega, v0, v1⟩
  obtain ⟨y4, rates, vs, rfl, B2, e2, hR, av, lr, okr⟩ := hP
  have lv : vs.length = rates.length := by rw [av.length, List.length_map]
  have dR : DV (· ≠ b) H'' 3 (.ref RL) (.l (rates.map rateD)) := ⟨RL, vs, rfl, nbR, hR, by omega, av.mono fun _ _ w => w.keep fun a o s h => ⟨s.1, h⟩⟩
  have dD2 := dD.but e2
  have e12 := e1.trans e2
  -- the list
  refine ⟨_, rfl, _, rfl, b, r, rs, rfl, B2, fun sd H3 sd0 sd1 B3 e3 => ?_⟩
  refine ⟨_, rfl, b, r, rs, 3, rfl, B3, by decide, fun bt H4 bt0 bt1 B4 e4 => ?_⟩
  refine ⟨_, _, rfl, rfl, _, rfl, b, r, rs, rfl, B4, fun fa H5 fa0 fa1 B5 e5 => ?_⟩
  refine ⟨_, rfl, b, r, rs, 32, rfl, B5, by decide, fun po H6 po0 po1 B6 e6 => ?_⟩
  refine ⟨_, rfl, _, rfl, by show 7 ≤ sizeLine; decide, fun jb nj => ?_⟩
  have e26 := ((e3.trans e4).trans e5).trans e6
  obtain ⟨bx6, hb6⟩ := B6.lst
  have s7 := same_new nj (.lst [.ref n, .int sd, .int (1 + bt), .int fa, .int po, .ref RL, .ref DL])
  refine q jb RL DL n PL NL LL ni nt pms nds ls sd (1 + bt) fa po rates data _ ⟨(g.but B6 (e12.trans e26)).same s7, (ne_of_none hb6 nj).symm, upd_same, (dR.but e26).same s7, (dD2.but e26).same s7⟩ u ⟨lp1, lp3, sd3, hlen, hin, by omega, by omega⟩ hlast ?_ ((e01.trans (e12.trans e26)).trans (.of s7))
  exact ⟨⟨sd0, sd1⟩, by omega, by omega, ⟨fa0, fa1⟩, po0, by omega, by omega, okr, by omega, by omega, okd⟩

end

section
variable {P : Program} {w : World} {K : PySem.W.Frag} {mg : Str → Option Value} {cs : Cs} {base : Heap} {f : Addr} {fd : FuncData}
theorem ok_Job___init__ (F : Fun K "__init__" "Job.__init__" s_Job___init__ f fd) (T : Txt K mg cs w)  :
    FnOk P w K mg base CX0 1 f fd ["self", "net", "seed", "batch", "factor", "point", "rates", "data"] (spJobInit cs) := by
  refine F.ok sc_Job___init__ (fun vs H Q E h => ?_) (fun cdv A outer s H vs Q E hr h => ?_)
  · obtain ⟨x, dx, RL, DL, net, seed, batch, factor, point, rates, data, rfl, hx, dr, dd, q⟩ := h
    rfl
  obtain ⟨x, dx, RL, DL, net, seed, batch, factor, point, rates, data, rfl, hx, dr, dd, q⟩ := h
  have hu := hr.units
  refine ⟨_, pss_cons (ps_fld (pv 0) (pv 1) rfl)
 (pss_cons (ps_fld (pv 0) (pv 2) rfl)
 (pss_cons (ps_fld (pv 0) (pv 3) rfl)
 (pss_cons (ps_fld (pv 0) (pv 4) rfl)
 (pss_cons (ps_fld (pv 0) (pv 5) rfl)
 (pss_cons (ps_fld (pv 0) (pe_callTy (list_at (K := K) rfl) (by rfl) T.z_list PyProof.Rows.boot_list (pa_cons (pv 6) pa_nil)) rfl)
 (pss_one (ps_fld (pv 0) (pe_lc (own := [("given", 8), ("wanted", 9)]) (g := gTup K 2 (gCons (gName 8) (gCons (gName 9) gNil))) (tt := tYes)  rfl sc_Job___init__.nd (pi_list (pv 7)) (blkOk_by (N := ["self", "net", "seed", "batch", "factor", "point", "rates", "data", "given", "wanted"]) (sc := defScope s_Job___init__) (by decide +kernel)) (fun _ _ _ _ _ => (pg_tup_at (K := K) (n := 2) rfl rfl (pgs_cons (pg_name (i := 8) sc_Job___init__.nd rfl (.inl rfl)) (pgs_cons (pg_name (i := 9) sc_Job___init__.nd rfl (.inl rfl)) pgs_nil)) rfl rfl)) (fun _ _ _ _ _ => pts_nil) (fun _ _ _ _ _ => (pe_tup (pa_cons (pe_callTy (list_at (K := K) rfl) (by rfl) T.z_list PyProof.Rows.boot_list (pa_cons (pv 8) pa_nil)) (pa_cons (pe_callTy (list_at (K := K) rfl) (by rfl) T.z_list PyProof.Rows.boot_list (pa_cons (pv 9) pa_nil)) pa_nil))))) rfl))))))), ?_⟩
  refine ⟨_, rfl, _, rfl, x, _, dx, [], rfl, hx, T.C_Job, T.na_Job_net, by decide, ?_⟩
  refine ⟨_, rfl, _, rfl, x, _, dx, _, rfl, upd_same, T.C_Job, T.na_Job_seed, put_lt (put_le put_no), ?_⟩
  refine ⟨_, rfl, _, rfl, x, _, dx, _, rfl, upd_same, T.C_Job, T.na_Job_batch, put_lt (put_le (put_le put_no)), ?_⟩
  refine ⟨_, rfl, _, rfl, x, _, dx, _, rfl, upd_same, T.C_Job, T.na_Job_factor, put_lt (put_le (put_le (put_le put_no))), ?_⟩
  refine ⟨_, rfl, _, rfl, x, _, dx, _, rfl, upd_same, T.C_Job, T.na_Job_point, put_lt (put_le (put_le (put_le (put_le put_no)))), ?_⟩
  generalize ef : putF "point" (.int point) (putF "factor" (.int factor) (putF "batch" (.int batch) (putF "seed" (.int seed) (putF "net" net [])))) = fs5 at *
  have l5 : fs5.length ≤ 5 := by rw [← ef]; exact put_le (put_le (put_le (put_le (put_le put_no))))
  have k1 : fs5.lookup ("net" : Str) = some net := by rw [← ef, lookup_putF, if_neg (by decide), lookup_putF, if_neg (by decide), lookup_putF, if_neg (by decide), lookup_putF, if_neg (by decide), lookup_putF, if_pos rfl]
  have k2 : fs5.lookup ("seed" : Str) = some (.int seed) := by rw [← ef, lookup_putF, if_neg (by decide), lookup_putF, if_neg (by decide), lookup_putF, if_neg (by decide), lookup_putF, if_pos rfl]
  have k3 : fs5.lookup ("batch" : Str) = some (.int batch) := by rw [← ef, lookup_putF, if_neg (by decide), lookup_putF, if_neg (by decide), lookup_putF, if_pos rfl]
  have k4 : fs5.lookup ("factor" : Str) = some (.int factor) := by rw [← ef, lookup_putF, if_neg (by decide), lookup_putF, if_pos rfl]
  have k5 : fs5.lookup ("point" : Str) = some (.int point) := by rw [← ef, lookup_putF, if_pos rfl]
  have e0 : But x H (upd (upd (upd (upd (upd H x (.ins cs.Job dx (putF "net" net []))) x (.ins cs.Job dx (putF "seed" (.int seed) (putF "net" net [])))) x (.ins cs.Job dx (putF "batch" (.int batch) (putF "seed" (.int seed) (putF "net" net []))))) x (.ins cs.Job dx (putF "factor" (.int factor) (putF "batch" (.int batch) (putF "seed" (.int seed) (putF "net" net [])))))) x (.ins cs.Job dx fs5)) := fun c o nc h => by rw [upd_ne nc, upd_ne nc, upd_ne nc, upd_ne nc, upd_ne nc]; exact h
  have x0 : (upd (upd (upd (upd (upd H x (.ins cs.Job dx (putF "net" net []))) x (.ins cs.Job dx (putF "seed" (.int seed) (putF "net" net [])))) x (.ins cs.Job dx (putF "batch" (.int batch) (putF "seed" (.int seed) (putF "net" net []))))) x (.ins cs.Job dx (putF "factor" (.int factor) (putF "batch" (.int batch) (putF "seed" (.int seed) (putF "net" net [])))))) x (.ins cs.Job dx fs5)) x = some (.ins cs.Job dx fs5) := upd_same
  generalize upd (upd (upd (upd (upd H x (.ins cs.Job dx (putF "net" net []))) x (.ins cs.Job dx (putF "seed" (.int seed) (putF "net" net [])))) x (.ins cs.Job dx (putF "batch" (.int batch) (putF "seed" (.int seed) (putF "net" net []))))) x (.ins cs.Job dx (putF "factor" (.int factor) (putF "batch" (.int batch) (putF "seed" (.int seed) (putF "net" net [])))))) x (.ins cs.Job dx fs5) = H0 at *
  have dr0 := dr.but e0
  have dd0 := dd.but e0
  -- self.rates = list(rates)
  obtain ⟨_, us, re, _, r2, r3, r4⟩ := id dr0
  cases re
  refine ⟨_, rfl, RL, _, rfl, .inl (SqL.of r2), fun L1 n1 => ?_⟩
  have nx1 : x ≠ L1 := ne_of_none x0 n1
  have s1 := same_new n1 (.lst us)
  have d1 : DV (· ≠ x) (upd H0 L1 (.lst us)) 3 (.ref L1) (.l (rates.map rateD)) := ⟨L1, us, rfl, nx1.symm, upd_same, r3, r4.mono fun _ _ w => w.same s1⟩
  have dd1 := dd0.same s1
  have e01 := e0.trans (.of s1)
  have x1 := s1 _ _ x0
  generalize upd H0 L1 (.lst us) = H1 at *
  refine ⟨_, rfl, x, _, dx, _, rfl, x1, T.C_Job, T.na_Job_rates, put_lt l5, ?_⟩
  have e2 : But x H1 (upd H1 x (.ins cs.Job dx (putF "rates" (.ref L1) fs5))) := fun c o nc h => by rw [upd_ne nc]; exact h
  have x2 : (upd H1 x (.ins cs.Job dx (putF "rates" (.ref L1) fs5))) x = some (.ins cs.Job dx (putF "rates" (.ref L1) fs5)) := upd_same
  generalize upd H1 x (.ins cs.Job dx (putF "rates" (.ref L1) fs5)) = H2 at *
  have d2 := d1.but e2
  have dd2 := dd1.but e2
  have e02 := e01.trans e2
  -- self.data = ..
  obtain ⟨_, ws, re, _, t2, t3, t4⟩ := id dd2
  cases re
  have lw : ws.length = data.length := by rw [t4.length, List.length_map]
  refine ⟨_, rfl, DL, rfl, ⟨_, SqL.of t2⟩, fun D nD => ?_⟩
  have nxD : x ≠ D := ne_of_none x2 nD
  refine lc_list (xs := ws) (fun (i : Nat) H' => ∃ us : List V, Same H2 H' ∧ H' D = some (.lst us) ∧ All2 (DV (Off x D) H' 3) us ((data.take i).map sampD))
    ⟨[], same_new nD _, upd_same, .nil⟩ (fun i H' _ hI => by
      obtain ⟨us, e, _⟩ := hI
      exact SqL.of (e _ _ t2)) (fun i v H' hv hI => ?_) (fun H' hI => ?_)
  · obtain ⟨us, e, hD, au⟩ := hI
    have hi : i < data.length := by
      have := (List.getElem?_eq_some_iff.mp hv).1
      omega
    have em : data[i]? = some data[i] := List.getElem?_eq_getElem hi
    obtain ⟨v', ev, dv⟩ := t4.get (i := i) (b := sampD data[i]) (by rw [List.getElem?_map, em]; rfl)
    rw [hv] at ev
    cases ev
    have lus : us.length = i := by rw [au.length, List.length_map, List.length_take]; omega
    obtain ⟨t, g, w, rfl, _, _, _, h1, h2, h3, h4, h5⟩ := dv.samp
    generalize data[i] = p at *
    refine ⟨t, _, rfl, SqT.of (e _ _ h1), rfl, _, _, rfl, _, _, rfl, rfl, ⟨rfl, ?_⟩⟩
    refine ⟨_, rfl, g, _, rfl, .inl (SqL.of (e _ _ h2)), fun g2 ng => ?_⟩
    have s3 := same_new ng (.lst (p.1.map V.int))
    refine ⟨_, rfl, w, _, rfl, .inl (SqL.of (s3 _ _ (e _ _ h3))), fun w2 nw => ?_⟩
    have s4 := same_new nw (.lst (p.2.map V.int))
    refine ⟨by show 2 ≤ sizeLine; decide, fun t2 nt => ?_⟩
    have s5 := same_new nt (.tup [.ref g2, .ref w2])
    have x3 := e _ _ x2
    have off : ∀ {c : Addr}, H' c = none → Off x D c := fun {c} n => ⟨fun z => (by rw [z, x3] at n; cases n), fun z => (by rw [z, hD] at n; cases n)⟩
    have s34 := s3.trans s4
    refine ⟨us, s5 _ _ (s34 _ _ hD), smaller (by omega), us ++ [.ref t2], same_mut (e.trans (s34.trans s5)) nD, upd_same, ?_⟩
    rw [List.take_add_one, em, List.map_append]
    exact DV.grow (fun c o _ h => s5 _ _ (s34 _ _ h)) au (samp_dv (off (none_of s34 nt)) (off ng) (off (none_of s3 nw)) upd_same (s5 _ _ (s4 _ _ upd_same)) (s5 _ _ upd_same) h4 h5) _
  obtain ⟨us', e3, hD, au⟩ := hI
  rw [lw, List.take_length] at au
  have d3 := d2.same e3
  have d4 : DV (· ≠ x) H' 4 (.ref D) (.l (data.map sampD)) := ⟨D, us', rfl, nxD.symm, hD, by rw [au.length, List.length_map]; omega, au.mono fun _ _ w => w.keep fun a o s h => ⟨s.1, h⟩⟩
  refine ⟨_, rfl, x, _, dx, _, rfl, e3 _ _ x2, T.C_Job, T.na_Job_data, put_lt (put_le l5), ?_⟩
  have e4 : But x H' (upd H' x (.ins cs.Job dx (putF "data" (.ref D) (putF "rates" (.ref L1) fs5)))) := fun c o nc h => by rw [upd_ne nc]; exact h
  have kk : ∀ (k : Str) (v : V), ¬ k = "data" → ¬ k = "rates" → fs5.lookup k = some v → (putF "data" (.ref D) (putF "rates" (.ref L1) fs5)).lookup k = some v := fun k v a b h => by rw [lookup_putF, if_neg a, lookup_putF, if_neg b]; exact h
  exact q _ _ L1 D ((e02.trans (.of e3)).trans e4) upd_same (kk _ _ (by decide) (by decide) k1) (kk _ _ (by decide) (by decide) k2) (kk _ _ (by decide) (by decide) k3) (kk _ _ (by decide) (by decide) k4) (kk _ _ (by decide) (by decide) k5)
    (by rw [lookup_putF, if_neg (by decide), lookup_putF, if_pos rfl]) (by rw [lookup_putF, if_pos rfl]) (d3.but e4).any (d4.but e4).any

theorem ok__law_built (F : Fun K "_law_built" "_law_built" s__law_built f fd) (T : Txt K mg cs w) (d_Parameter___init__ : IDef P w K mg base 1 cs.Parameter ["self", "rows", "cols", "fill"] (spParInit cs)) (d_Job___init__ : IDef P w K mg base 1 cs.Job ["self", "net", "seed", "batch", "factor", "point", "rates", "data"] (spJobInit cs)) (d_Net___init__ : IDef P w K mg base 5 cs.Net ["self", "inputs", "targets", "parameters", "nodes"] (spNetInit K cs)) :
    FnOk P w K mg base CX0 7 f fd ["job"] (spBuilt K cs) := by
  obtain ⟨f0, fd0, G_Parameter___init__, b_Parameter___init__, M_Parameter⟩ := d_Parameter___init__.ex
  obtain ⟨f1, fd1, G_Job___init__, b_Job___init__, M_Job⟩ := d_Job___init__.ex
  obtain ⟨f2, fd2, G_Net___init__, b_Net___init__, M_Net⟩ := d_Net___init__.ex
  refine F.ok sc__law_built (fun vs H Q E h => ?_) (fun cdv A outer s H vs Q E hr h => ?_)
  · obtain ⟨b, r, rs, jb, RL, DL, n, PL, NL, LL, ni, nt, pms, nds, ls, seed, batch, factor, point, rates, data, rfl, J, ok, few, hls, q⟩ := h
    rfl
  obtain ⟨b, r, rs, jb, RL, DL, n, PL, NL, LL, ni, nt, pms, nds, ls, seed, batch, factor, point, rates, data, rfl, J, ok, few, hls, q⟩ := h
  have hu := hr.units
  refine ⟨_, pss_cons (ps_set (i := 1) sc__law_built.nd rfl (.inl rfl) (pe_ix (ixl_at (K := K) rfl) (pv 0) pe_int (fun _ _ => rfl)))
 (pss_cons (ps_setLc (i := 2) (own := [("row", 4)]) (g := gName 4) (tt := tYes)  rfl sc__law_built.nd rfl rfl (sw_true rfl rfl rfl (by decide +kernel)) (pi_list (pe_ix (ixl_at (K := K) rfl) (pv 1) pe_int (fun _ _ => rfl))) (blkOk_by (N := ["job", "net", "parameters", "data", "row", "pair"]) (sc := defScope s__law_built) (by decide +kernel)) (fun _ _ _ _ _ => (pg_name (i := 4) sc__law_built.nd rfl (.inl rfl))) (fun _ _ _ _ _ => pts_nil) (fun _ _ _ _ _ => (pe_make M_Parameter G_Parameter___init__ (hr.mono (by decide)) rfl T.c_Parameter b_Parameter___init__ .nil pass0 (pa_cons (pe_ix (ixt_at (K := K) rfl) (pv 4) pe_int (fun _ _ => rfl)) (pa_cons (pe_ix (ixt_at (K := K) rfl) (pv 4) pe_int (fun _ _ => rfl)) (pa_cons (pe_ix (ixt_at (K := K) rfl) (pv 4) pe_int (fun _ _ => rfl)) pa_nil))))))
 (pss_cons (ps_setLc (i := 3) (own := [("pair", 5)]) (g := gName 5) (tt := tYes)  rfl sc__law_built.nd rfl rfl (sw_true rfl rfl rfl (by decide +kernel)) (pi_list (pe_ix (ixl_at (K := K) rfl) (pv 0) pe_int (fun _ _ => rfl))) (blkOk_by (N := ["job", "net", "parameters", "data", "row", "pair"]) (sc := defScope s__law_built) (by decide +kernel)) (fun _ _ _ _ _ => (pg_name (i := 5) sc__law_built.nd rfl (.inl rfl))) (fun _ _ _ _ _ => pts_nil) (fun _ _ _ _ _ => (pe_tup (pa_cons (pe_callTy (list_at (K := K) rfl) (by rfl) T.z_list PyProof.Rows.boot_list (pa_cons (pe_ix (ixt_at (K := K) rfl) (pv 5) pe_int (fun _ _ => rfl)) pa_nil)) (pa_cons (pe_callTy (list_at (K := K) rfl) (by rfl) T.z_list PyProof.Rows.boot_list (pa_cons (pe_ix (ixt_at (K := K) rfl) (pv 5) pe_int (fun _ _ => rfl)) pa_nil)) pa_nil)))))
 (pss_one (ps_ret (pe_make M_Job G_Job___init__ (hr.mono (by decide)) rfl T.c_Job b_Job___init__ .nil pass0 (pa_cons (pe_make M_Net G_Net___init__ hr rfl T.c_Net b_Net___init__ .nil pass0 (pa_cons (pe_ix (ixl_at (K := K) rfl) (pv 1) pe_int (fun _ _ => rfl)) (pa_cons (pe_ix (ixl_at (K := K) rfl) (pv 1) pe_int (fun _ _ => rfl)) (pa_cons (pv 2) (pa_cons (pe_callTy (list_at (K := K) rfl) (by rfl) T.z_list PyProof.Rows.boot_list (pa_cons (pe_ix (ixl_at (K := K) rfl) (pv 1) pe_int (fun _ _ => rfl)) pa_nil)) pa_nil))))) (pa_cons (pe_ix (ixl_at (K := K) rfl) (pv 0) pe_int (fun _ _ => rfl)) (pa_cons (pe_ix (ixl_at (K := K) rfl) (pv 0) pe_int (fun _ _ => rfl)) (pa_cons (pe_ix (ixl_at (K := K) rfl) (pv 0) pe_int (fun _ _ => rfl)) (pa_cons (pe_ix (ixl_at (K := K) rfl) (pv 0) pe_int (fun _ _ => rfl)) (pa_cons (pe_callTy (list_at (K := K) rfl) (by rfl) T.z_list PyProof.Rows.boot_list (pa_cons (pe_ix (ixl_at (K := K) rfl) (pv 0) pe_int (fun _ _ => rfl)) pa_nil)) (pa_cons (pv 3) pa_nil)))))))))))), ?_⟩
  obtain ⟨pr, hP, aP⟩ := J.g.par
  have lp : pr.length = pms.length := aP.length
  have hn := J.g.net
  refine ⟨_, rfl, jb, _, _, _, rfl, rfl, SqL.of J.jl, rfl, ?_⟩
  refine ⟨_, rfl, n, _, _, _, rfl, rfl, SqL.of hn, rfl, PL, rfl, ⟨_, SqL.of hP⟩, fun D nD => ?_⟩
  refine lc_list (xs := pr.map V.ref) (fun (i : Nat) H' => ∃ po : List Addr, Same H H' ∧ H' D = some (.lst (po.map V.ref)) ∧ All2 (ParP cs H') po (pms.take i)) ⟨[], same_new nD _, upd_same, .nil⟩ (fun i H' _ hI => by
    obtain ⟨po, e, _⟩ := hI
    exact SqL.of (e _ _ hP)) (fun i x H' hx hI => ?_) (fun H' hI => ?_)
  · obtain ⟨po, sm, hD, ha⟩ := hI
    have hi : i < pms.length := by
      have := (List.getElem?_eq_some_iff.mp hx).1
      rw [List.length_map] at this
      omega
    have em : pms[i]? = some pms[i] := List.getElem?_eq_getElem hi
    obtain ⟨a, ea, ff, m1, m2⟩ := aP.get em
    rw [List.getElem?_map, ea] at hx
    cases hx
    refine ⟨rfl, ?_⟩
    refine ⟨_, rfl, a, _, _, _, rfl, rfl, SqT.of (sm _ _ m1), rfl, _, rfl, a, _, _, _, rfl, rfl, SqT.of (sm _ _ m1), rfl, _, rfl, a, _, _, _, rfl, rfl, SqT.of (sm _ _ m1), rfl, ?_⟩
    refine fun x dx nx ndx ne => ?_
    refine ⟨x, dx, _, _, _, rfl, upd_same, fun H2 fs e2 h2 k1 k2 k3 => ⟨rfl, ?_⟩⟩
    have s2 : Same H' H2 := fun c o h => e2 _ _ (ne_of_none h nx) (by rw [upd_ne (ne_of_none h nx), upd_ne (ne_of_none h ndx)]; exact h)
    have lpo : po.length = i := by rw [ha.length, List.length_take]; omega
    have nxD : D ≠ x := ne_of_none hD nx
    refine ⟨_, s2 _ _ hD, smaller (by rw [List.length_map]; omega), po ++ [x], same_mut (sm.trans s2) nD, by rw [upd_same, List.map_append]; rfl, ?_⟩
    have s3 : ∀ c o, c ≠ D → H2 c = some o → (upd H2 D (.lst (po.map V.ref ++ [V.ref x]))) c = some o := fun c o nc h => by rw [upd_ne nc]; exact h
    have keep : ∀ b m, ParP cs H2 b m → ParP cs (upd H2 D (.lst (po.map V.ref ++ [V.ref x]))) b m := fun b m hb => by
      obtain ⟨dy, gs, f2, y1, y2, y3, y4, y5⟩ := hb
      refine ⟨dy, gs, f2, s3 _ _ (fun z => ?_) y1, y2, y3, y4, s3 _ _ (fun z => ?_) y5⟩
      · rw [z, s2 _ _ hD] at y1; cases y1
      · rw [z, s2 _ _ hD] at y5; cases y5
    rw [List.take_add_one, em]
    refine All2.snoc ((ha.mono fun _ _ r => r.same s2).mono keep) (keep _ _ ⟨dx, fs, ff, h2, k1, k2, k3, s2 _ _ (sm _ _ m2)⟩)
  obtain ⟨po, sp, hDp, ha⟩ := hI
  rw [List.length_map, lp, List.take_length] at ha
  have Jp := J.same sp
  obtain ⟨_, ws, re, _, t2, t3, t4⟩ := id Jp.dt
  cases re
  have lw : ws.length = data.length := by rw [t4.length, List.length_map]
  refine ⟨_, rfl, jb, _, _, _, rfl, rfl, SqL.of Jp.jl, rfl, DL, rfl, ⟨_, SqL.of t2⟩, fun E nE => ?_⟩
  refine lc_list (xs := ws) (fun (i : Nat) H2 => ∃ us : List V, Same H' H2 ∧ H2 E = some (.lst us) ∧ All2 (DV (Off E E) H2 3) us ((data.take i).map sampD))
    ⟨[], same_new nE _, upd_same, .nil⟩ (fun i H' _ hI => by
      obtain ⟨us, e, _⟩ := hI
      exact SqL.of (e _ _ t2)) (fun i v H2 hv hI => ?_) (fun H2 hI => ?_)
  · obtain ⟨us, e, hD, au⟩ := hI
    have hi : i < data.length := by
      have := (List.getElem?_eq_some_iff.mp hv).1
      omega
    have em : data[i]? = some data[i] := List.getElem?_eq_getElem hi
    obtain ⟨v', ev, dv⟩ := t4.get (i := i) (b := sampD data[i]) (by rw [List.getElem?_map, em]; rfl)
    rw [hv] at ev
    cases ev
    have lus : us.length = i := by rw [au.length, List.length_map, List.length_take]; omega
    obtain ⟨t, g, w, rfl, _, _, _, h1, h2, h3, h4, h5⟩ := dv.samp
    generalize data[i] = p at *
    refine ⟨rfl, _, rfl, t, _, _, _, rfl, rfl, SqT.of (e _ _ h1), rfl, g, _, rfl, .inl (SqL.of (e _ _ h2)), fun g2 ng => ?_⟩
    have s3 := same_new ng (.lst (p.1.map V.int))
    refine ⟨_, rfl, t, _, _, _, rfl, rfl, SqT.of (s3 _ _ (e _ _ h1)), rfl, w, _, rfl, .inl (SqL.of (s3 _ _ (e _ _ h3))), fun w2 nw => ?_⟩
    have s4 := same_new nw (.lst (p.2.map V.int))
    refine ⟨by show 2 ≤ sizeLine; decide, fun t2 nt => ?_⟩
    have s5 := same_new nt (.tup [.ref g2, .ref w2])
    have off : ∀ {c : Addr}, H2 c = none → Off E E c := fun {c} n => ⟨fun z => (by rw [z, hD] at n; cases n), fun z => (by rw [z, hD] at n; cases n)⟩
    have s34 := s3.trans s4
    refine ⟨us, s5 _ _ (s34 _ _ hD), smaller (by omega), us ++ [.ref t2], same_mut (e.trans (s34.trans s5)) nE, upd_same, ?_⟩
    rw [List.take_add_one, em, List.map_append]
    exact DV.grow (fun c o _ h => s5 _ _ (s34 _ _ h)) au (samp_dv (off (none_of s34 nt)) (off ng) (off (none_of s3 nw)) upd_same (s5 _ _ (s4 _ _ upd_same)) (s5 _ _ upd_same) h4 h5) _
  obtain ⟨us, e1, hE, au⟩ := hI
  rw [lw, List.take_length] at au
  have dE : DV anyA H2 4 (.ref E) (.l (data.map sampD)) := ⟨E, us, rfl, trivial, hE, by rw [au.length, List.length_map]; omega, au.mono fun _ _ w => w.any⟩
  have J2 := Jp.same e1
  have hDp2 := e1 _ _ hDp
  have ha2 := ha.mono fun _ _ r => r.same e1
  obtain ⟨nr, hN, aN⟩ := J2.g.nod
  have hn2 := J2.g.net
  -- the network
  refine ⟨_, rfl, n, _, _, _, rfl, rfl, SqL.of hn2, rfl, ?_⟩
  refine ⟨_, rfl, n, _, _, _, rfl, rfl, SqL.of hn2, rfl, ?_⟩
  refine ⟨_, rfl, _, rfl, n, _, _, _, rfl, rfl, SqL.of hn2, rfl, NL, _, rfl, .inl (SqL.of hN), fun L nL => ?_⟩
  generalize eqH : upd H2 L _ = H3
  obtain ⟨s3, hL⟩ := new_facts eqH nL
  clear eqH
  refine fun x dx nx ndx ne => ?_
  have s4 : Same H3 (upd (upd H3 dx (.own x)) x (.ins cs.Net dx [])) := fun c o h => by rw [upd_ne (ne_of_none h nx), upd_ne (ne_of_none h ndx)]; exact h
  have s34 := s3.trans s4
  refine ⟨x, dx, D, L, ni, nt, pms, nds, po, nr, rfl, upd_same, SqL.of (s34 _ _ hDp2), ha2.mono fun _ _ r => r.same s34, SqL.of (s4 _ _ hL), aN.mono fun _ _ r => SqT.of (s34 _ _ r), ok, fun H5 e5 F5 N5 => ⟨rfl, ?_⟩⟩
  have s5 : Same H2 H5 := fun c o h => e5 _ _ (ne_of_none (s3 _ _ h) nx) (s34 _ _ h)
  have J5 := J2.same s5
  have jl := J5.jl
  refine ⟨_, rfl, jb, _, _, _, rfl, rfl, SqL.of jl, rfl, ?_⟩
  refine ⟨_, rfl, jb, _, _, _, rfl, rfl, SqL.of jl, rfl, ?_⟩
  refine ⟨_, rfl, jb, _, _, _, rfl, rfl, SqL.of jl, rfl, ?_⟩
  refine ⟨_, rfl, jb, _, _, _, rfl, rfl, SqL.of jl, rfl, ?_⟩
  obtain ⟨_, vs, re, _, v2, v3, v4⟩ := id J5.rt
  cases re
  refine ⟨_, rfl, jb, _, _, _, rfl, rfl, SqL.of jl, rfl, RL, _, rfl, .inl (SqL.of v2), fun L1 nL1 => ?_⟩
  generalize eqH : upd H5 L1 _ = H6
  obtain ⟨s6, hL1⟩ := new_facts eqH nL1
  clear eqH
  have dL : DV anyA H6 3 (.ref L1) (.l (rates.map rateD)) := ⟨L1, vs, rfl, trivial, hL1, v3, v4.mono fun _ _ w => (w.same s6).any⟩
  have dD6 := (dE.same s5).same s6
  have F6 := F5.same s6
  have N6 := N5.same s6
  have s06 := ((sp.trans e1).trans s5).trans s6
  refine ⟨_, rfl, ?_⟩
  refine fun q0 dx nx ndx ne => ?_
  have s7 : Same H6 (upd (upd H6 dx (.own q0)) q0 (.ins cs.Job dx [])) := fun c o h => by rw [upd_ne (ne_of_none h nx), upd_ne (ne_of_none h ndx)]; exact h
  have far : ∀ {m : Nat} {v : V} {d : Dt}, DV anyA H6 m v d → DV (· ≠ q0) (upd (upd H6 dx (.own q0)) q0 (.ins cs.Job dx [])) m v d := fun h => h.keep fun a o _ z => ⟨ne_of_none z nx, s7 _ _ z⟩
  refine ⟨q0, dx, L1, E, _, seed, batch, factor, point, rates, data, rfl, upd_same, far dL, far dD6, fun H8 fs R' D' e8 i1 i2 i3 i4 i5 i6 i7 i8 i9 i10 => ⟨rfl, ?_⟩⟩
  have s8 : Same H6 H8 := fun c o h => e8 _ _ (ne_of_none h nx) (s7 _ _ h)
  refine q q0 H8 (s06.trans s8) ⟨dx, fs, x, R', D', i1, i2, i3, i4, i5, i6, i7, i8, F6.same s8, ?_, i9, i10⟩
  rw [← hls]
  exact N6.same s8

end

def spOperands (K : PySem.W.Frag) : Sp := fun vs H Q _ => ∃ (a : Addr) (d : Nd), vs = [.ref a] ∧ SqT K H a d.enc ∧ ∀ (p : Addr) (H' : Hp), H p = none → Same H H' → H' p = some (.lst (d.ops.map V.int)) → Q (.ref p) H'

/-! ### names -/
def nth (nds : List Nd) (v : Int) : Nd := nds.getD v.toNat .input
inductive Nm where
  | par (n p i j : Int) | mom (n p i j : Int) | val (n t v j : Int) | pre (n t v j lo hi : Int) | inc (n t v j u : Int) | bac (n t u s j lo hi : Int) | grd (n p i j lo hi : Int) | los (n lo hi : Int)
def Nm.kind : Nm → Str
  | .par .. => "par" | .mom .. => "mom" | .val .. => "val" | .pre .. => "pre" | .inc .. => "inc" | .bac .. => "bac" | .grd .. => "grd" | .los .. => "los"
def Nm.nums : Nm → List Int
  | .par n p i j => [n, p, i, j] | .mom n p i j => [n, p, i, j] | .val n t v j => [n, t, v, j] | .pre n t v j lo hi => [n, t, v, j, lo, hi] | .inc n t v j u => [n, t, v, j, u]
  | .bac n t u s j lo hi => [n, t, u, s, j, lo, hi] | .grd n p i j lo hi => [n, p, i, j, lo, hi] | .los n lo hi => [n, lo, hi]
def Nm.enc (m : Nm) : List V := .str m.kind :: m.nums.map V.int
def nmKinds : List Str := ["par", "mom", "val", "pre", "inc", "bac", "grd", "los"]
def sumSz (ps : List (Int × Int)) (nds : List Nd) (ls : List Int) (v : Int) : Int := match nth nds v with
  | .lin p _ => (pget ps p).1 | .mat k _ _ => k | .matT k _ _ => k | .sum a => lget ls a | _ => 0
def backSz (ps : List (Int × Int)) (nds : List Nd) (ls : List Int) (u s : Int) : Int := match nth nds u with
  | .lin p _ => if s = 0 then (pget ps p).2 else 0
  | .mat k a b => lget ls (if s = 0 then b else a) / k
  | .matT k a b => lget ls (if s = 0 then b else a) / k
  | _ => 0
def opAt (nds : List Nd) (u s : Int) : Int := (nth nds u).ops.getD s.toNat 0
def cellOk (pms : List (Int × Int × Str × Int)) (n p i j : Int) : Prop := 0 ≤ n ∧ inR p pms.length ∧ (0 ≤ i ∧ i < (pget (sides pms) p).1) ∧ 0 ≤ j ∧ j < (pget (sides pms) p).2
def valOk (nds : List Nd) (ls : List Int) (batch n t v j : Int) : Prop := 0 ≤ n ∧ (0 ≤ t ∧ t < batch) ∧ inR v nds.length ∧ 0 ≤ j ∧ j < lget ls v
def rngOk (lo hi most : Int) : Prop := 0 ≤ lo ∧ lo ≤ hi ∧ hi ≤ most
def Nm.ok (pms : List (Int × Int × Str × Int)) (nds : List Nd) (ls : List Int) (batch : Int) : Nm → Prop
  | .par n p i j => cellOk pms n p i j
  | .mom n p i j => cellOk pms n p i j
  | .grd n p i j lo hi => cellOk pms n p i j ∧ rngOk lo hi batch
  | .val n t v j => valOk nds ls batch n t v j
  | .pre n t v j lo hi => valOk nds ls batch n t v j ∧ 0 < sumSz (sides pms) nds ls v ∧ rngOk lo hi (sumSz (sides pms) nds ls v)
  | .inc n t v j u => valOk nds ls batch n t v j ∧ v + 1 ≤ u ∧ u ≤ (nds.length : Int)
  | .bac n t u s j lo hi => 0 ≤ n ∧ (0 ≤ t ∧ t < batch) ∧ inR u nds.length ∧ inR s (nth nds u).ops.length ∧ (0 ≤ j ∧ j < lget ls (opAt nds u s)) ∧ 0 < backSz (sides pms) nds ls u s ∧ rngOk lo hi (backSz (sides pms) nds ls u s)
  | .los n lo hi => 0 ≤ n ∧ rngOk lo hi batch
/-! what is known of the nodes of a built network -/
theorem len_congr {ni nt : Int} {ps : List (Int × Int)} {ls ms : List Int} (d : Nd) (h : ∀ o ∈ d.ops, lget ls o = lget ms o) : d.len ni nt ps ls = d.len ni nt ps ms := by
  cases d with
  | mat k a b => simp only [Nd.len]; rw [h a (.head _), h b (.tail _ (.head _))]
  | matT k a b => simp only [Nd.len]; rw [h a (.head _), h b (.tail _ (.head _))]
  | add a b => simp only [Nd.len]; rw [h a (.head _), h b (.tail _ (.head _))]
  | sub a b => simp only [Nd.len]; rw [h a (.head _), h b (.tail _ (.head _))]
  | mul a b => simp only [Nd.len]; rw [h a (.head _), h b (.tail _ (.head _))]
  | join a b => simp only [Nd.len]; rw [h a (.head _), h b (.tail _ (.head _))]
  | input => rfl
  | target => rfl
  | embed p lo n => rfl
  | sum a => rfl
  | lin p a => simp only [Nd.len]; rw [h a (.head _)]
  | bias p a => simp only [Nd.len]; rw [h a (.head _)]
  | lower c a => simp only [Nd.len]; rw [h a (.head _)]
  | scale w a => simp only [Nd.len]; rw [h a (.head _)]
  | shift k a => simp only [Nd.len]; rw [h a (.head _)]
  | relu a => simp only [Nd.len]; rw [h a (.head _)]
  | drop m a => simp only [Nd.len]; rw [h a (.head _)]
  | take lo n a => simp only [Nd.len]; rw [h a (.head _)]
theorem lens_at {ni nt : Int} {ps : List (Int × Int)} : ∀ (nds : List Nd) (ks : List Int), (lensFrom ni nt ps ks nds).length = ks.length + nds.length → ∀ (i : Nat) (d : Nd), nds[i]? = some d →
    ∃ (pre post : List Int) (l : Int), lensFrom ni nt ps ks nds = pre ++ l :: post ∧ pre.length = ks.length + i ∧ d.lenOf ni nt ps pre = some l
  | [], _, _, i, d, h => by simp at h
  | c :: t, ks, h, i, d, hd => by
    unfold lensFrom at h ⊢
    cases z : c.lenOf ni nt ps ks with
    | none =>
      rw [z, List.length_cons] at h
      exact absurd h (by show ¬ ks.length = _; omega)
    | some m =>
      rw [z] at h
      have h : (lensFrom ni nt ps (ks ++ [m]) t).length = ks.length + (c :: t).length := h
      cases i with
      | zero =>
        cases hd
        obtain ⟨r, hr⟩ := lensFrom_pre ni nt ps t (ks ++ [m])
        exact ⟨ks, r, m, by show lensFrom ni nt ps (ks ++ [m]) t = _; rw [hr, List.append_assoc]; rfl, rfl, z⟩
      | succ i =>
        obtain ⟨pre, post, l, e1, e2, e3⟩ := lens_at t (ks ++ [m]) (by rw [h, List.length_append, List.length_singleton, List.length_cons]; omega) i d hd
        exact ⟨pre, post, l, e1, by rw [e2, List.length_append, List.length_singleton]; omega, e3⟩
theorem lget_pre {pre r : List Int} {o : Int} (h : inR o pre.length) : lget (pre ++ r) o = lget pre o := by
  obtain ⟨h0, h1⟩ := h
  unfold lget
  rw [List.getD_eq_getElem?_getD, List.getD_eq_getElem?_getD, List.getElem?_append_left (by omega)]
theorem Built.at {ni nt : Int} {pms : List (Int × Int × Str × Int)} {nds : List Nd} {ls : List Int} (u : Built ni nt pms nds ls) {v : Int} (hv : inR v nds.length) :
    parIn (nth nds v).par pms.length ∧ (∀ o ∈ (nth nds v).ops, 0 ≤ o ∧ o < v) ∧ (nth nds v).len ni nt (sides pms) ls = some (lget ls v) := by
  obtain ⟨h0, h1⟩ := hv
  have hk : v.toNat < nds.length := by omega
  have en : nds[v.toNat]? = some (nth nds v) := by
    unfold nth
    rw [List.getD_eq_getElem?_getD, List.getElem?_eq_getElem hk]
    rfl
  obtain ⟨pre, post, l, e1, e2, e3⟩ := lens_at nds [] (by rw [u.len, u.all]; simp) v.toNat _ en
  rw [u.len] at e1
  rw [List.length_nil, Nat.zero_add] at e2
  unfold Nd.lenOf at e3
  by_cases hf : (nth nds v).fits (sides pms).length pre.length
  · rw [if_pos hf] at e3
    have ho : ∀ o ∈ (nth nds v).ops, 0 ≤ o ∧ o < v := fun o h => by have := hf.2 o h; exact ⟨this.1, by have := this.2; omega⟩
    refine ⟨by rw [← sides_len]; exact hf.1, ho, ?_⟩
    rw [len_congr (ls := ls) (ms := pre) _ fun o h => by rw [e1]; exact lget_pre (hf.2 o h), e3, e1]
    unfold lget
    rw [List.getD_eq_getElem?_getD, List.getElem?_append_right (by omega), e2, Nat.sub_self]
    rfl
  · rw [if_neg hf] at e3
    cases e3
theorem G.nd {H : Hp} {b r : Addr} {rs : List Int} {n PL NL LL : Addr} {ni nt : Int} {pms : List (Int × Int × Str × Int)} {nds : List Nd} {ls : List Int} {v : Int} (g : G H b r rs n PL NL LL ni nt pms nds ls) (hv : inR v nds.length) :
    ∃ (nr : List Addr) (a : Addr), H NL = some (.lst (nr.map V.ref)) ∧ atI (nr.map V.ref) v = some (.ref a) ∧ H a = some (.tup (nth nds v).enc) := by
  obtain ⟨nr, p1, p2⟩ := g.nod
  obtain ⟨h0, h1⟩ := hv
  have hk : v.toNat < nds.length := by omega
  have ek : v = ((v.toNat : Nat) : Int) := by omega
  have em : nds[v.toNat]? = some nds[v.toNat] := List.getElem?_eq_getElem hk
  obtain ⟨a, ea, hh⟩ := p2.get em
  have en : nth nds v = nds[v.toNat] := by unfold nth; rw [List.getD_eq_getElem?_getD, em]; rfl
  refine ⟨nr, a, p1, ?_, by rw [en]; exact hh⟩
  have z : atI (nr.map V.ref) ((v.toNat : Nat) : Int) = some (.ref a) := atI_nat (by rw [List.getElem?_map, ea] <;> rfl)
  rwa [← ek] at z
theorem if_isAnd {k : Str} (x : Str) {A : TE} {B : TT} {t u : TS} {D : Ends} {σ : L2.St} {H : Hp}
    (hA : ∀ Q : VK, Q (.str k) H → A σ H Q) (y : k = x → B σ H fun c H2 => if c = true then t D σ H2 else u D σ H2) (n : k ≠ x → u D σ H) :
    tIfS (tAnd (tTest (tOp rEq A (tC (.str x)))) B) t u D σ H := by
  refine hA _ ?_
  refine ⟨rfl, _, rfl, ?_⟩
  by_cases h : k = x
  · exact iteD (congrArg V.str h) (y h)
  · exact iteDN (fun z => h (V.str.inj z)) (iteF (n h))
theorem if_inAnd {K' : PySem.W.Frag} {k : Str} (ks : List Str) {A : TE} {B : TT} {t u : TS} {D : Ends} {σ : L2.St} {H : Hp}
    (hA : ∀ Q : VK, Q (.str k) H → A σ H Q) (hn : ks.length ≤ sizeLine)
    (y : k ∈ ks → ∀ H', Same H H' → B σ H' fun c H2 => if c = true then t D σ H2 else u D σ H2) (n : k ∉ ks → ∀ H', Same H H' → u D σ H') :
    tIfS (tAnd (tTest (tOp (rIn K' false) A (tTup (nmsT ks)))) B) t u D σ H := by
  refine hA _ ?_
  refine nmsT_run ks _ _ _ ⟨by rw [List.length_map]; exact hn, fun p np => ?_⟩
  refine ⟨p, _, rfl, .inr (SqT.of upd_same), rfl, flat_strs ks, ?_⟩
  refine ⟨_, rfl, ?_⟩
  show if inV (.str k) (ks.map V.str) = true then _ else _
  rw [in_strs]
  by_cases h : k ∈ ks
  · exact iteD h (y h _ (same_new np _))
  · exact iteDN h (iteF (n h _ (same_new np _)))
theorem mat_pos {ni nt : Int} {pms : List (Int × Int × Str × Int)} {nds : List Nd} {ls : List Int} {x k y z : Int} (rx : inR x nds.length) (u : Built ni nt pms nds ls) (w2 : ∀ o ∈ (Nd.mat k y z).ops, 0 ≤ o ∧ o < x) (w3 : (Nd.mat k y z).len ni nt (sides pms) ls = some (lget ls x)) : 0 < lget ls (if (1 : Int) = 0 then z else y) / k := by
  rw [if_neg (by decide)]
  simp only [Nd.len] at w3
  split at w3
  · rename_i hh
    have hy := w2 y (.head _)
    have := u.bnd _ (lget_mem (show inR y ls.length from ⟨hy.1, by rw [u.all]; have := rx.2; omega⟩))
    have e := Int.mul_ediv_add_emod (lget ls y) k
    rw [hh.1.2] at e
    refine Decidable.byContradiction fun c => ?_
    have c1 : lget ls y / k ≤ 0 := by omega
    have := Int.mul_nonpos_of_nonneg_of_nonpos (Int.le_of_lt hh.1.1) c1
    omega
  · cases w3
theorem matT_pos {ni nt : Int} {pms : List (Int × Int × Str × Int)} {nds : List Nd} {ls : List Int} {x k y z : Int} (rx : inR x nds.length) (u : Built ni nt pms nds ls) (w2 : ∀ o ∈ (Nd.matT k y z).ops, 0 ≤ o ∧ o < x) (w3 : (Nd.matT k y z).len ni nt (sides pms) ls = some (lget ls x)) : 0 < lget ls (if (1 : Int) = 0 then z else y) / k := mat_pos rx u w2 w3
/-! promises -/
def spSumSz : Sp := fun vs H Q _ => ∃ (b r : Addr) (rs : List Int) (n PL NL LL : Addr) (ni nt : Int) (pms : List (Int × Int × Str × Int)) (nds : List Nd) (ls : List Int) (v : Int), vs = [.ref n, .int v] ∧ G H b r rs n PL NL LL ni nt pms nds ls ∧ Built ni nt pms nds ls ∧ inR v nds.length ∧
  ∀ H', Same H H' → Q (.int (sumSz (sides pms) nds ls v)) H'
def spBackSz : Sp := fun vs H Q _ => ∃ (b r : Addr) (rs : List Int) (n PL NL LL : Addr) (ni nt : Int) (pms : List (Int × Int × Str × Int)) (nds : List Nd) (ls : List Int) (u s : Int), vs = [.ref n, .int u, .int s] ∧ G H b r rs n PL NL LL ni nt pms nds ls ∧ Built ni nt pms nds ls ∧ inR u nds.length ∧ (s = 0 ∨ s = 1) ∧
  ∀ H', Same H H' → Q (.int (backSz (sides pms) nds ls u s)) H'
def spRange : Sp := fun vs H Q _ => ∃ (b r : Addr) (rs : List Int) (most : Int), vs = [.ref b, .int most] ∧ Box H b r rs ∧ 0 ≤ most ∧ ∀ (e : Addr) (lo hi : Int) (H' : Hp), Box H' b r rs → But b H H' → H' e = some (.lst [.int lo, .int hi]) → rngOk lo hi most → Q (.ref e) H'
def spCellName : Sp := fun vs H Q _ => ∃ (b r : Addr) (rs : List Int) (jb RL DL n PL NL LL : Addr) (ni nt : Int) (pms : List (Int × Int × Str × Int)) (nds : List Nd) (ls : List Int) (seed batch factor point : Int) (rates : List (Int × Int)) (data : List (List Int × List Int)) (kd : Str) (st : Int), vs = [.ref b, .ref jb, .str kd, .int st] ∧
  JobG H b r rs jb RL DL n PL NL LL ni nt pms nds ls seed batch factor point rates data ∧ Built ni nt pms nds ls ∧ 1 ≤ pms.length ∧ 0 ≤ st ∧
  ∀ (t : Addr) (p i j : Int) (H' : Hp), Box H' b r rs → But b H H' → H' t = some (.tup [.str kd, .int st, .int p, .int i, .int j]) → cellOk pms st p i j → Q (.ref t) H'
def spName : Sp := fun vs H Q _ => ∃ (b r : Addr) (rs : List Int) (jb RL DL n PL NL LL : Addr) (ni nt : Int) (pms : List (Int × Int × Str × Int)) (nds : List Nd) (ls : List Int) (seed batch factor point : Int) (rates : List (Int × Int)) (data : List (List Int × List Int)) (kd : Str) (st : Int), vs = [.ref b, .ref jb, .str kd, .int st] ∧
  JobG H b r rs jb RL DL n PL NL LL ni nt pms nds ls seed batch factor point rates data ∧ Built ni nt pms nds ls ∧ 1 ≤ pms.length ∧ 1 ≤ nds.length ∧ nds.length ≤ 1000 ∧ 1 ≤ batch ∧ 0 ≤ st ∧ kd ∈ nmKinds ∧
  ∀ (t : Addr) (m : Nm) (H' : Hp), Box H' b r rs → But b H H' → H' t = some (.tup m.enc) → m.ok pms nds ls batch → Q (.ref t) H'
def spAnyName : Sp := fun vs H Q _ => ∃ (b r : Addr) (rs : List Int) (jb RL DL n PL NL LL : Addr) (ni nt : Int) (pms : List (Int × Int × Str × Int)) (nds : List Nd) (ls : List Int) (seed batch factor point : Int) (rates : List (Int × Int)) (data : List (List Int × List Int)) (most : Int), vs = [.ref b, .ref jb, .int most] ∧
  JobG H b r rs jb RL DL n PL NL LL ni nt pms nds ls seed batch factor point rates data ∧ Built ni nt pms nds ls ∧ 1 ≤ pms.length ∧ 1 ≤ nds.length ∧ nds.length ≤ 1000 ∧ 1 ≤ batch ∧ 1 ≤ most ∧
  ∀ (t : Addr) (m : Nm) (H' : Hp), Box H' b r rs → But b H H' → H' t = some (.tup m.enc) → m.ok pms nds ls batch → Q (.ref t) H'

section
variable {P : Program} {w : World} {K : PySem.W.Frag} {mg : Str → Option Value} {cs : Cs} {base : Heap} {f : Addr} {fd : FuncData}
theorem ok__law_operands (F : Fun K "_law_operands" "_law_operands" s__law_operands f fd) (T : Txt K mg cs w)  :
    FnOk P w K mg base CX0 1 f fd ["node"] (spOperands K) := by
  refine F.ok sc__law_operands (fun vs H Q E h => ?_) (fun cdv A outer s H vs Q E hr h => ?_)
  · obtain ⟨a, d, rfl, ht, q⟩ := h
    rfl
  obtain ⟨a, d, rfl, ht, q⟩ := h
  have hu := hr.units
  refine ⟨_, pss_cons (ps_if (pt_cmpR op_in_seq (pe_ix (ixt_at (K := K) rfl) (pv 0) pe_int (fun _ _ => rfl)) (pe_tup (pa_cons pe_str (pa_cons pe_str (pa_cons pe_str pa_nil)))) (by with_unfolding_all rfl)) (pss_one (ps_ret (pe_lst pa_nil))) pss_nil)
 (pss_cons (ps_if (pt_cmpR op_in_seq (pe_ix (ixt_at (K := K) rfl) (pv 0) pe_int (fun _ _ => rfl)) (pe_tup (pa_cons pe_str (pa_cons pe_str pa_nil))) (by with_unfolding_all rfl)) (pss_one (ps_ret (pe_lst (pa_cons (pe_ix (ixt_at (K := K) rfl) (pv 0) pe_int (fun _ _ => rfl)) (pa_cons (pe_ix (ixt_at (K := K) rfl) (pv 0) pe_int (fun _ _ => rfl)) pa_nil))))) pss_nil)
 (pss_cons (ps_if (pt_cmpR op_in_seq (pe_ix (ixt_at (K := K) rfl) (pv 0) pe_int (fun _ _ => rfl)) (pe_tup (pa_cons pe_str (pa_cons pe_str (pa_cons pe_str (pa_cons pe_str pa_nil))))) (by with_unfolding_all rfl)) (pss_one (ps_ret (pe_lst (pa_cons (pe_ix (ixt_at (K := K) rfl) (pv 0) pe_int (fun _ _ => rfl)) (pa_cons (pe_ix (ixt_at (K := K) rfl) (pv 0) pe_int (fun _ _ => rfl)) pa_nil))))) pss_nil)
 (pss_cons (ps_if (pt_cmpR op_in_seq (pe_ix (ixt_at (K := K) rfl) (pv 0) pe_int (fun _ _ => rfl)) (pe_tup (pa_cons pe_str (pa_cons pe_str pa_nil))) (by with_unfolding_all rfl)) (pss_one (ps_ret (pe_lst (pa_cons (pe_ix (ixt_at (K := K) rfl) (pv 0) pe_int (fun _ _ => rfl)) pa_nil)))) pss_nil)
 (pss_cons (ps_if (pt_cmpR op_eq (pe_ix (ixt_at (K := K) rfl) (pv 0) pe_int (fun _ _ => rfl)) pe_str (nomark _)) (pss_one (ps_ret (pe_lst (pa_cons (pe_ix (ixt_at (K := K) rfl) (pv 0) pe_int (fun _ _ => rfl)) pa_nil)))) pss_nil)
 (pss_one (ps_ret (pe_lst (pa_cons (pe_ix (ixt_at (K := K) rfl) (pv 0) pe_int (fun _ _ => rfl)) pa_nil)))))))), ?_⟩
  have k0 : atI d.enc 0 = some (.str d.kind) := atI_nat (show d.enc[(0 : Nat)]? = some (.str d.kind) from rfl)
  have i0 : ∀ {H1 : Hp}, Same H H1 → ∀ Q' : VK, Q' (.str d.kind) H1 → tOp (rIxT K) (tVar 0) (tC (.int 0)) [some (.ref a)] H1 Q' := fun e Q' q' => ⟨_, rfl, a, _, _, _, rfl, rfl, Same.seqT e ht, k0, q'⟩
  have fin : ∀ (H1 : Hp) (p : Addr) (os : List V), Same H H1 → H1 p = none → os = d.ops.map V.int → Q (.ref p) (upd H1 p (.lst os)) := fun H1 p os e np eo => q p _ (Same.none e np) (e.trans (same_new np _)) (by rw [← eo]; exact upd_same)
  refine if_in ["input", "target", "embed"] (i0 (.refl H)) (by decide) (fun h H1 e1 => ?_) (fun n1 H1 e1 => ?_)
  · refine ⟨Nat.zero_le _, fun p np => fin _ _ _ e1 np ?_⟩
    cases d <;> first | rfl | (exfalso; revert h; dsimp only [Nd.kind]; decide)
  refine if_in ["mat", "matT"] (i0 e1) (by decide) (fun h H2 e2 => ?_) (fun n2 H2 e2 => ?_)
  · have e := e1.trans e2
    cases d <;> first | (refine ⟨_, rfl, a, _, _, _, rfl, rfl, Same.seqT e ht, rfl, _, rfl, a, _, _, _, rfl, rfl, Same.seqT e ht, rfl, by show 2 ≤ sizeLine; decide, fun p np => fin _ _ _ e np rfl⟩) | (exfalso; revert h; dsimp only [Nd.kind]; decide)
  have e12 := e1.trans e2
  refine if_in ["add", "sub", "mul", "join"] (i0 e12) (by decide) (fun h H3 e3 => ?_) (fun n3 H3 e3 => ?_)
  · have e := e12.trans e3
    cases d <;> first | (refine ⟨_, rfl, a, _, _, _, rfl, rfl, Same.seqT e ht, rfl, _, rfl, a, _, _, _, rfl, rfl, Same.seqT e ht, rfl, by show 2 ≤ sizeLine; decide, fun p np => fin _ _ _ e np rfl⟩) | (exfalso; revert h; dsimp only [Nd.kind]; decide)
  have e13 := e12.trans e3
  refine if_in ["relu", "sum"] (i0 e13) (by decide) (fun h H4 e4 => ?_) (fun n4 H4 e4 => ?_)
  · have e := e13.trans e4
    cases d <;> first | (refine ⟨_, rfl, a, _, _, _, rfl, rfl, Same.seqT e ht, rfl, by show 1 ≤ sizeLine; decide, fun p np => fin _ _ _ e np rfl⟩) | (exfalso; revert h; dsimp only [Nd.kind]; decide)
  have e := e13.trans e4
  refine if_is "take" (i0 e) (fun h => ?_) (fun n5 => ?_)
  · cases d <;> first | (refine ⟨_, rfl, a, _, _, _, rfl, rfl, Same.seqT e ht, rfl, by show 1 ≤ sizeLine; decide, fun p np => fin _ _ _ e np rfl⟩) | (exfalso; revert h; dsimp only [Nd.kind]; decide)
  · cases d <;> first | (refine ⟨_, rfl, a, _, _, _, rfl, rfl, Same.seqT e ht, rfl, by show 1 ≤ sizeLine; decide, fun p np => fin _ _ _ e np rfl⟩) | (exfalso; revert n5; dsimp only [Nd.kind]; decide) | (exfalso; revert n1; dsimp only [Nd.kind]; decide) | (exfalso; revert n2; dsimp only [Nd.kind]; decide) | (exfalso; revert n3; dsimp only [Nd.kind]; decide) | (exfalso; revert n4; dsimp only [Nd.kind]; decide)

theorem ok__law_sum_size (F : Fun K "_law_sum_size" "_law_sum_size" s__law_sum_size f fd) (T : Txt K mg cs w)  :
    FnOk P w K mg base CX0 1 f fd ["net", "v"] (spSumSz) := by
  refine F.ok sc__law_sum_size (fun vs H Q E h => ?_) (fun cdv A outer s H vs Q E hr h => ?_)
  · obtain ⟨b, r, rs, n, PL, NL, LL, ni, nt, pms, nds, ls, v, rfl, g0, u, hv, q⟩ := h
    rfl
  obtain ⟨b, r, rs, n, PL, NL, LL, ni, nt, pms, nds, ls, v, rfl, g0, u, hv, q⟩ := h
  have hu := hr.units
  refine ⟨_, pss_cons (ps_set (i := 2) sc__law_sum_size.nd rfl (.inl rfl) (pe_ix (ixl_at (K := K) rfl) (pe_ix (ixl_at (K := K) rfl) (pv 0) pe_int (fun _ _ => rfl)) (pv 1) (fun _ _ => rfl)))
 (pss_cons (ps_if (pt_cmpR op_eq (pe_ix (ixt_at (K := K) rfl) (pv 2) pe_int (fun _ _ => rfl)) pe_str (nomark _)) (pss_one (ps_ret (pe_ix (ixt_at (K := K) rfl) (pe_ix (ixl_at (K := K) rfl) (pe_ix (ixl_at (K := K) rfl) (pv 0) pe_int (fun _ _ => rfl)) (pe_ix (ixt_at (K := K) rfl) (pv 2) pe_int (fun _ _ => rfl)) (fun _ _ => rfl)) pe_int (fun _ _ => rfl)))) pss_nil)
 (pss_cons (ps_if (pt_cmpR op_in_seq (pe_ix (ixt_at (K := K) rfl) (pv 2) pe_int (fun _ _ => rfl)) (pe_tup (pa_cons pe_str (pa_cons pe_str pa_nil))) (by with_unfolding_all rfl)) (pss_one (ps_ret (pe_ix (ixt_at (K := K) rfl) (pv 2) pe_int (fun _ _ => rfl)))) pss_nil)
 (pss_cons (ps_if (pt_cmpR op_eq (pe_ix (ixt_at (K := K) rfl) (pv 2) pe_int (fun _ _ => rfl)) pe_str (nomark _)) (pss_one (ps_ret (pe_ix (ixl_at (K := K) rfl) (pe_ix (ixl_at (K := K) rfl) (pv 0) pe_int (fun _ _ => rfl)) (pe_ix (ixt_at (K := K) rfl) (pv 2) pe_int (fun _ _ => rfl)) (fun _ _ => rfl)))) pss_nil)
 (pss_one (ps_ret pe_int))))), ?_⟩
  obtain ⟨nr0, a, n0, ea, ha0⟩ := g0.nd hv
  obtain ⟨w1, w2, w3⟩ := u.at hv
  have ul := u.all
  refine ⟨_, rfl, n, _, _, _, rfl, rfl, SqL.of g0.net, rfl, _, rfl, NL, _, _, _, rfl, rfl, SqL.of n0, ea, ?_⟩
  have fin : ∀ H', Same H H' → ∀ z : Int, sumSz (sides pms) nds ls v = z → Q (.int z) H' := fun H' e z h => by rw [← h]; exact q H' e
  obtain ⟨d, hd⟩ : ∃ d, d = nth nds v := ⟨_, rfl⟩
  unfold sumSz at fin
  rw [← hd] at ha0 w1 w2 w3 fin
  have k0 : atI d.enc 0 = some (.str d.kind) := atI_nat (show d.enc[(0 : Nat)]? = some (.str d.kind) from rfl)
  have i0 : ∀ {H1 : Hp}, Same H H1 → ∀ Q' : VK, Q' (.str d.kind) H1 → tOp (rIxT K) (tVar 2) (tC (.int 0)) [some (.ref n), some (.int v), some (.ref a)] H1 Q' := fun e Q' q' => ⟨_, rfl, a, _, _, _, rfl, rfl, SqT.of (e _ _ ha0), k0, q'⟩
  refine if_is "lin" (i0 (.refl H)) (fun h => ?_) (fun m1 => ?_)
  · obtain ⟨p, x, rfl⟩ : ∃ p x, d = .lin p x := by cases d <;> first | exact ⟨_, _, rfl⟩ | (exfalso; revert h; dsimp only [Nd.kind]; decide)
    obtain ⟨pr, pa, pf, mm, p1, ep, h4, h5, em⟩ := g0.at w1
    exact ⟨_, rfl, n, _, _, _, rfl, rfl, SqL.of g0.net, rfl, _, rfl, a, _, _, _, rfl, rfl, SqT.of ha0, rfl, PL, _, _, _, rfl, rfl, SqL.of p1, ep, pa, _, _, _, rfl, rfl, SqT.of h4, rfl, fin _ (.refl H) _ rfl⟩
  refine if_in ["mat", "matT"] (i0 (.refl H)) (by decide) (fun h H1 s1 => ?_) (fun m2 H1 s1 => ?_)
  · cases d <;> first | exact ⟨_, rfl, a, _, _, _, rfl, rfl, SqT.of (s1 _ _ ha0), rfl, fin _ s1 _ rfl⟩ | (exfalso; revert h; dsimp only [Nd.kind]; decide)
  have g := g0.same s1
  refine if_is "sum" (i0 s1) (fun h => ?_) (fun m3 => ?_)
  · obtain ⟨x, rfl⟩ : ∃ x, d = .sum x := by cases d <;> first | exact ⟨_, rfl⟩ | (exfalso; revert h; dsimp only [Nd.kind]; decide)
    have rx : inR x ls.length := ⟨(w2 x (.head _)).1, by have := (w2 x (.head _)).2; have := hv.2; omega⟩
    exact ⟨_, rfl, n, _, _, _, rfl, rfl, SqL.of g.net, rfl, _, rfl, a, _, _, _, rfl, rfl, SqT.of (s1 _ _ ha0), rfl, LL, _, _, _, rfl, rfl, SqL.of g.len, at_ints rx, fin _ s1 _ rfl⟩
  refine fin _ s1 _ ?_
  cases d <;> first | rfl | (exfalso; first | exact m1 rfl | exact m3 rfl | (revert m2; dsimp only [Nd.kind]; decide))
theorem ok__law_back_size (F : Fun K "_law_back_size" "_law_back_size" s__law_back_size f fd) (T : Txt K mg cs w)  :
    FnOk P w K mg base CX0 1 f fd ["net", "u", "s"] (spBackSz) := by
  refine F.ok sc__law_back_size (fun vs H Q E h => ?_) (fun cdv A outer s H vs Q E hr h => ?_)
  · obtain ⟨b, r, rs, n, PL, NL, LL, ni, nt, pms, nds, ls, uu, s, rfl, g0, u, hv, hs, q⟩ := h
    rfl
  obtain ⟨b, r, rs, n, PL, NL, LL, ni, nt, pms, nds, ls, uu, s, rfl, g0, u, hv, hs, q⟩ := h
  have hu := hr.units
  refine ⟨_, pss_cons (ps_set (i := 3) sc__law_back_size.nd rfl (.inl rfl) (pe_ix (ixl_at (K := K) rfl) (pe_ix (ixl_at (K := K) rfl) (pv 0) pe_int (fun _ _ => rfl)) (pv 1) (fun _ _ => rfl)))
 (pss_cons (ps_if (PW.pt (pw_and (pt_cmpR op_eq (pe_ix (ixt_at (K := K) rfl) (pv 3) pe_int (fun _ _ => rfl)) pe_str (nomark _)) (pw_and1 (pt_cmpR op_eq (pv 2) pe_int (nomark _))))) (pss_one (ps_ret (pe_ix (ixt_at (K := K) rfl) (pe_ix (ixl_at (K := K) rfl) (pe_ix (ixl_at (K := K) rfl) (pv 0) pe_int (fun _ _ => rfl)) (pe_ix (ixt_at (K := K) rfl) (pv 3) pe_int (fun _ _ => rfl)) (fun _ _ => rfl)) pe_int (fun _ _ => rfl)))) pss_nil)
 (pss_cons (ps_if (pt_cmpR op_in_seq (pe_ix (ixt_at (K := K) rfl) (pv 3) pe_int (fun _ _ => rfl)) (pe_tup (pa_cons pe_str (pa_cons pe_str pa_nil))) (by with_unfolding_all rfl)) (pss_one (ps_ret (pe_op op_fdiv (pe_ix (ixl_at (K := K) rfl) (pe_ix (ixl_at (K := K) rfl) (pv 0) pe_int (fun _ _ => rfl)) (pe_ix (ixt_at (K := K) rfl) (pv 3) (pe_op op_sub pe_int (pv 2)) (fun _ _ => rfl)) (fun _ _ => rfl)) (pe_ix (ixt_at (K := K) rfl) (pv 3) pe_int (fun _ _ => rfl))))) pss_nil)
 (pss_one (ps_ret pe_int)))), ?_⟩
  obtain ⟨nr0, a, n0, ea, ha0⟩ := g0.nd hv
  obtain ⟨w1, w2, w3⟩ := u.at hv
  have ul := u.all
  refine ⟨_, rfl, n, _, _, _, rfl, rfl, SqL.of g0.net, rfl, _, rfl, NL, _, _, _, rfl, rfl, SqL.of n0, ea, ?_⟩
  have fin : ∀ H', Same H H' → ∀ z : Int, backSz (sides pms) nds ls uu s = z → Q (.int z) H' := fun H' e z h => by rw [← h]; exact q H' e
  obtain ⟨d, hd⟩ : ∃ d, d = nth nds uu := ⟨_, rfl⟩
  unfold backSz at fin
  rw [← hd] at ha0 w1 w2 w3 fin
  have k0 : atI d.enc 0 = some (.str d.kind) := atI_nat (show d.enc[(0 : Nat)]? = some (.str d.kind) from rfl)
  have i0 : ∀ {H1 : Hp}, Same H H1 → ∀ Q' : VK, Q' (.str d.kind) H1 → tOp (rIxT K) (tVar 3) (tC (.int 0)) [some (.ref n), some (.int uu), some (.int s), some (.ref a)] H1 Q' := fun e Q' q' => ⟨_, rfl, a, _, _, _, rfl, rfl, SqT.of (e _ _ ha0), k0, q'⟩
  refine if_isAnd "lin" (i0 (.refl H)) (fun h => ⟨_, rfl, rfl, _, rfl, ?_⟩) (fun m1 => ?_)
  · obtain ⟨p, x, rfl⟩ : ∃ p x, d = .lin p x := by cases d <;> first | exact ⟨_, _, rfl⟩ | (exfalso; revert h; dsimp only [Nd.kind]; decide)
    by_cases hs0 : s = 0
    · refine iteD (congrArg V.int hs0) ?_
      obtain ⟨pr, pa, pf, mm, p1, ep, h4, h5, em⟩ := g0.at w1
      exact ⟨_, rfl, n, _, _, _, rfl, rfl, SqL.of g0.net, rfl, _, rfl, a, _, _, _, rfl, rfl, SqT.of ha0, rfl, PL, _, _, _, rfl, rfl, SqL.of p1, ep, pa, _, _, _, rfl, rfl, SqT.of h4, rfl, fin _ (.refl H) _ (if_pos hs0)⟩
    · refine iteDN (fun z => hs0 (V.int.inj z)) ?_
      refine if_in ["mat", "matT"] (i0 (.refl H)) (by decide) (fun h H1 s1 => ?_) (fun m2 H1 s1 => fin _ s1 _ (if_neg hs0))
      exfalso; revert h; dsimp only [Nd.kind]; decide
  · refine if_in ["mat", "matT"] (i0 (.refl H)) (by decide) (fun h H1 s1 => ?_) (fun m2 H1 s1 => ?_)
    · have g := g0.same s1
      rcases (show (∃ k x y, d = .mat k x y) ∨ (∃ k x y, d = .matT k x y) from by
        cases d <;> first | exact (.inl ⟨_, _, _, rfl⟩) | exact (.inr ⟨_, _, _, rfl⟩) | (exfalso; revert h; dsimp only [Nd.kind]; decide)) with ⟨k, x, y, rfl⟩ | ⟨k, x, y, rfl⟩
      all_goals
        have rx : inR x ls.length := ⟨(w2 x (.head _)).1, by have := (w2 x (.head _)).2; have := hv.2; omega⟩
        have ry : inR y ls.length := ⟨(w2 y (.tail _ (.head _))).1, by have := (w2 y (.tail _ (.head _))).2; have := hv.2; omega⟩
        have kb : k < 1000000 := by
          have h0 := hv.1
          have h1 := hv.2
          have hk : uu.toNat < nds.length := by omega
          have hm : nth nds uu ∈ nds := by
            unfold nth
            rw [List.getD_eq_getElem?_getD, List.getElem?_eq_getElem hk]
            exact List.getElem_mem hk
          have := u.tam _ hm
          rw [← hd] at this
          exact this
        have kp : 0 < k := by
          simp only [Nd.len] at w3
          split at w3
          · rename_i hh; exact hh.1.1
          · cases w3
        rcases hs with rfl | rfl
        · exact ⟨_, rfl, n, _, _, _, rfl, rfl, SqL.of g.net, rfl, _, rfl, _, rfl, _, _, rfl, rfl, a, _, _, _, rfl, rfl, SqT.of (s1 _ _ ha0), rfl, LL, _, _, _, rfl, rfl, SqL.of g.len, at_ints ry, _, rfl, a, _, _, _, rfl, rfl, SqT.of (s1 _ _ ha0), rfl, _, _, rfl, rfl, ⟨kp, by omega⟩, fin _ s1 _ rfl⟩
        · exact ⟨_, rfl, n, _, _, _, rfl, rfl, SqL.of g.net, rfl, _, rfl, _, rfl, _, _, rfl, rfl, a, _, _, _, rfl, rfl, SqT.of (s1 _ _ ha0), rfl, LL, _, _, _, rfl, rfl, SqL.of g.len, at_ints rx, _, rfl, a, _, _, _, rfl, rfl, SqT.of (s1 _ _ ha0), rfl, _, _, rfl, rfl, ⟨kp, by omega⟩, fin _ s1 _ rfl⟩
    · refine fin _ s1 _ ?_
      cases d <;> first | rfl | (exfalso; first | exact m1 rfl | (revert m2; dsimp only [Nd.kind]; decide))
theorem ok__law_range (F : Fun K "_law_range" "_law_range" s__law_range f fd) (T : Txt K mg cs w) (d__law_draw : Def P w K mg base 1 "_law_draw" ["box", "many"] (spDraw)) :
    FnOk P w K mg base CX0 2 f fd ["box", "most"] (spRange) := by
  obtain ⟨f0, fd0, G__law_draw, b__law_draw, g__law_draw, k__law_draw⟩ := d__law_draw.ex
  refine F.ok sc__law_range (fun vs H Q E h => ?_) (fun cdv A outer s H vs Q E hr h => ?_)
  · obtain ⟨b, r, rs, most, rfl, B, m0, q⟩ := h
    rfl
  obtain ⟨b, r, rs, most, rfl, B, m0, q⟩ := h
  have hu := hr.units
  refine ⟨_, pss_cons (ps_set (i := 2) sc__law_range.nd rfl (.inl rfl) (pe_call G__law_draw hr rfl g__law_draw k__law_draw b__law_draw .nil pass0 (pa_cons (pv 0) (pa_cons (pe_op op_add (pv 1) pe_int) pa_nil))))
 (pss_one (ps_ret (pe_lst (pa_cons (pv 2) (pa_cons (pe_op op_add (pv 2) (pe_call G__law_draw hr rfl g__law_draw k__law_draw b__law_draw .nil pass0 (pa_cons (pv 0) (pa_cons (pe_op op_sub (pe_op op_add (pv 1) pe_int) (pv 2)) pa_nil)))) pa_nil))))), ?_⟩
  refine ⟨_, rfl, _, rfl, _, _, rfl, rfl, b, r, rs, _, rfl, B, by omega, fun lo H1 l0 l1 B1 e1 => ?_⟩
  refine ⟨_, rfl, _, rfl, _, rfl, _, rfl, _, _, rfl, rfl, _, rfl, _, _, rfl, rfl, b, r, rs, _, rfl, B1, by omega, fun d H2 d0 d1 B2 e2 => ?_⟩
  refine ⟨_, _, rfl, rfl, by show 2 ≤ sizeLine; decide, fun e ne => ?_⟩
  generalize eqH : upd H2 e _ = H3
  obtain ⟨s3, h3⟩ := new_facts eqH ne
  exact q e lo (lo + d) H3 (B2.same s3) ((e1.trans e2).trans (.of s3)) h3 ⟨l0, by omega, by omega⟩
theorem ok__law_cell_name (F : Fun K "_law_cell_name" "_law_cell_name" s__law_cell_name f fd) (T : Txt K mg cs w) (d__law_draw : Def P w K mg base 1 "_law_draw" ["box", "many"] (spDraw)) :
    FnOk P w K mg base CX0 2 f fd ["box", "job", "kind", "n"] (spCellName) := by
  obtain ⟨f0, fd0, G__law_draw, b__law_draw, g__law_draw, k__law_draw⟩ := d__law_draw.ex
  refine F.ok sc__law_cell_name (fun vs H Q E h => ?_) (fun cdv A outer s H vs Q E hr h => ?_)
  · obtain ⟨b, r, rs, jb, RL, DL, n, PL, NL, LL, ni, nt, pms, nds, ls, seed, batch, factor, point, rates, data, kd, st, rfl, J, u, p1, st0, q⟩ := h
    rfl
  obtain ⟨b, r, rs, jb, RL, DL, n, PL, NL, LL, ni, nt, pms, nds, ls, seed, batch, factor, point, rates, data, kd, st, rfl, J, u, p1, st0, q⟩ := h
  have hu := hr.units
  refine ⟨_, pss_cons (ps_set (i := 4) sc__law_cell_name.nd rfl (.inl rfl) (pe_call G__law_draw hr rfl g__law_draw k__law_draw b__law_draw .nil pass0 (pa_cons (pv 0) (pa_cons (pe_callB (len_at (K := K) rfl) (by rfl) T.z_len PySem.boot_len (pa_cons (pe_ix (ixl_at (K := K) rfl) (pe_ix (ixl_at (K := K) rfl) (pv 1) pe_int (fun _ _ => rfl)) pe_int (fun _ _ => rfl)) pa_nil)) pa_nil))))
 (pss_cons (ps_set (i := 5) sc__law_cell_name.nd rfl (.inl rfl) (pe_ix (ixl_at (K := K) rfl) (pe_ix (ixl_at (K := K) rfl) (pe_ix (ixl_at (K := K) rfl) (pv 1) pe_int (fun _ _ => rfl)) pe_int (fun _ _ => rfl)) (pv 4) (fun _ _ => rfl)))
 (pss_one (ps_ret (pe_tup (pa_cons (pv 2) (pa_cons (pv 3) (pa_cons (pv 4) (pa_cons (pe_call G__law_draw hr rfl g__law_draw k__law_draw b__law_draw .nil pass0 (pa_cons (pv 0) (pa_cons (pe_ix (ixt_at (K := K) rfl) (pv 5) pe_int (fun _ _ => rfl)) pa_nil))) (pa_cons (pe_call G__law_draw hr rfl g__law_draw k__law_draw b__law_draw .nil pass0 (pa_cons (pv 0) (pa_cons (pe_ix (ixt_at (K := K) rfl) (pv 5) pe_int (fun _ _ => rfl)) pa_nil))) pa_nil))))))))), ?_⟩
  have g := J.g
  obtain ⟨pr, p1', p2⟩ := g.par
  refine ⟨_, rfl, _, rfl, jb, _, _, _, rfl, rfl, SqL.of J.jl, rfl, n, _, _, _, rfl, rfl, SqL.of g.net, rfl, PL, _, rfl, .inl (SqL.of p1'), b, r, rs, _, rfl, g.box, by rw [List.length_map, p2.length]; omega, fun p H1 p0 pp B1 e1 => ?_⟩
  rw [List.length_map, p2.length] at pp
  have J1 := J.but B1 e1
  have rp : inR p pms.length := ⟨p0, pp⟩
  obtain ⟨pr1, pa, pf, mm, q1, ep, h4, h5, em⟩ := J1.g.at rp
  have ok := u.pok mm (List.mem_of_getElem? em)
  have esd : pget (sides pms) p = (mm.1, mm.2.1) := by
    unfold pget sides
    rw [List.getD_eq_getElem?_getD, List.getElem?_map, em]
    rfl
  have o1 := ok.1
  have o2 := ok.2.2.1
  refine ⟨_, rfl, jb, _, _, _, rfl, rfl, SqL.of J1.jl, rfl, n, _, _, _, rfl, rfl, SqL.of J1.g.net, rfl, _, rfl, PL, _, _, _, rfl, rfl, SqL.of q1, ep, ?_⟩
  refine ⟨_, rfl, _, rfl, _, rfl, _, rfl, _, rfl, pa, _, _, _, rfl, rfl, SqT.of h4, rfl, b, r, rs, _, rfl, B1, by rw [esd]; omega, fun i H2 i0 i1 B2 e2 => ?_⟩
  obtain ⟨bx, hbx⟩ := B1.lst
  have pab : pa ≠ b := fun z => by rw [z, hbx] at h4; cases h4
  have h42 := e2 _ _ pab h4
  refine ⟨_, rfl, _, rfl, pa, _, _, _, rfl, rfl, SqT.of h42, rfl, b, r, rs, _, rfl, B2, by rw [esd]; omega, fun j H3 j0 j1 B3 e3 => ?_⟩
  refine ⟨by show 5 ≤ sizeLine; decide, fun t nt' => ?_⟩
  generalize eqH : upd H3 t _ = H4
  obtain ⟨s4, h4'⟩ := new_facts eqH nt'
  exact q t p i j H4 (B3.same s4) (((e1.trans e2).trans e3).trans (.of s4)) h4' ⟨st0, rp, ⟨i0, i1⟩, j0, j1⟩
theorem ok__law_any_name (F : Fun K "_law_any_name" "_law_any_name" s__law_any_name f fd) (T : Txt K mg cs w) (d__law_name : Def P w K mg base 3 "_law_name" ["box", "job", "kind", "n"] (spName)) (d__law_draw : Def P w K mg base 1 "_law_draw" ["box", "many"] (spDraw)) :
    FnOk P w K mg base CX0 4 f fd ["box", "job", "most"] (spAnyName) := by
  obtain ⟨f0, fd0, G__law_name, b__law_name, g__law_name, k__law_name⟩ := d__law_name.ex
  obtain ⟨f1, fd1, G__law_draw, b__law_draw, g__law_draw, k__law_draw⟩ := d__law_draw.ex
  refine F.ok sc__law_any_name (fun vs H Q E h => ?_) (fun cdv A outer s H vs Q E hr h => ?_)
  · obtain ⟨b, r, rs, jb, RL, DL, n, PL, NL, LL, ni, nt, pms, nds, ls, seed, batch, factor, point, rates, data, most, rfl, J, u, p1, n1, n9, b1, m1, q⟩ := h
    rfl
  obtain ⟨b, r, rs, jb, RL, DL, n, PL, NL, LL, ni, nt, pms, nds, ls, seed, batch, factor, point, rates, data, most, rfl, J, u, p1, n1, n9, b1, m1, q⟩ := h
  have hu := hr.units
  refine ⟨_, pss_cons (ps_set (i := 3) sc__law_any_name.nd rfl (.inl rfl) (pe_tup (pa_cons pe_str (pa_cons pe_str (pa_cons pe_str (pa_cons pe_str (pa_cons pe_str (pa_cons pe_str (pa_cons pe_str (pa_cons pe_str pa_nil))))))))))
 (pss_one (ps_ret (pe_call G__law_name hr rfl g__law_name k__law_name b__law_name .nil pass0 (pa_cons (pv 0) (pa_cons (pv 1) (pa_cons (pe_ix (ixt_at (K := K) rfl) (pv 3) (pe_call G__law_draw (hr.mono (by decide)) rfl g__law_draw k__law_draw b__law_draw .nil pass0 (pa_cons (pv 0) (pa_cons pe_int pa_nil))) (fun _ _ => rfl)) (pa_cons (pe_call G__law_draw (hr.mono (by decide)) rfl g__law_draw k__law_draw b__law_draw .nil pass0 (pa_cons (pv 0) (pa_cons (pv 2) pa_nil))) pa_nil))))))), ?_⟩
  refine ⟨by show 8 ≤ sizeLine; decide, fun kt nkt => ?_⟩
  generalize eqH : upd H kt _ = H1
  obtain ⟨s1, h1⟩ := new_facts eqH nkt
  clear eqH
  have J1 := J.same s1
  obtain ⟨bx, hbx⟩ := J1.g.blst
  have ktb : kt ≠ b := fun z => by rw [z, hbx] at h1; cases h1
  refine ⟨_, rfl, _, rfl, _, rfl, _, rfl, b, r, rs, 8, rfl, J1.g.box, by decide, fun k H2 k0 k1 B2 e2 => ?_⟩
  have h1 : H1 kt = some (.tup (nmKinds.map V.str)) := h1
  obtain ⟨kd, hk, ek⟩ := at_strs (kl := nmKinds) ⟨k0, k1⟩
  refine ⟨kt, _, _, _, rfl, rfl, SqT.of (e2 _ _ ktb h1), ek, ?_⟩
  refine ⟨_, rfl, _, rfl, b, r, rs, most, rfl, B2, by omega, fun st H3 st0 st1 B3 e3 => ?_⟩
  have J3 := (J1.but B2 e2).but B3 e3
  refine ⟨b, r, rs, jb, RL, DL, n, PL, NL, LL, ni, nt, pms, nds, ls, seed, batch, factor, point, rates, data, kd, st, rfl, J3, u, p1, n1, n9, b1, st0, hk, fun t m H4 B4 e4 ht ok => ?_⟩
  exact q t m H4 B4 ((((But.of s1).trans e2).trans e3).trans e4) ht ok

end

section
variable {P : Program} {w : World} {K : PySem.W.Frag} {mg : Str → Option Value} {cs : Cs} {base : Heap} {f : Addr} {fd : FuncData}
theorem ok__law_name (F : Fun K "_law_name" "_law_name" s__law_name f fd) (T : Txt K mg cs w) (d__law_draw : Def P w K mg base 1 "_law_draw" ["box", "many"] (spDraw)) (d__law_cell_name : Def P w K mg base 2 "_law_cell_name" ["box", "job", "kind", "n"] (spCellName)) (d__law_range : Def P w K mg base 2 "_law_range" ["box", "most"] (spRange)) (d__law_sum_size : Def P w K mg base 1 "_law_sum_size" ["net", "v"] (spSumSz)) (d__law_back_size : Def P w K mg base 1 "_law_back_size" ["net", "u", "s"] (spBackSz)) (d__law_operands : Def P w K mg base 1 "_law_operands" ["node"] (spOperands K)) :
    FnOk P w K mg base CX0 3 f fd ["box", "job", "kind", "n"] (spName) := by
  obtain ⟨f0, fd0, G__law_draw, b__law_draw, g__law_draw, k__law_draw⟩ := d__law_draw.ex
  obtain ⟨f1, fd1, G__law_cell_name, b__law_cell_name, g__law_cell_name, k__law_cell_name⟩ := d__law_cell_name.ex
  obtain ⟨f2, fd2, G__law_range, b__law_range, g__law_range, k__law_range⟩ := d__law_range.ex
  obtain ⟨f3, fd3, G__law_sum_size, b__law_sum_size, g__law_sum_size, k__law_sum_size⟩ := d__law_sum_size.ex
  obtain ⟨f4, fd4, G__law_back_size, b__law_back_size, g__law_back_size, k__law_back_size⟩ := d__law_back_size.ex
  obtain ⟨f5, fd5, G__law_operands, b__law_operands, g__law_operands, k__law_operands⟩ := d__law_operands.ex
  refine F.ok sc__law_name (fun vs H Q E h => ?_) (fun cdv A outer s H vs Q E hr h => ?_)
  · obtain ⟨b, r, rs, jb, RL, DL, n, PL, NL, LL, ni, nt, pms, nds, ls, seed, batch, factor, point, rates, data, kd, st, rfl, J, u, p1, n1, n9, b1, st0, hkd, q⟩ := h
    rfl
  obtain ⟨b, r, rs, jb, RL, DL, n, PL, NL, LL, ni, nt, pms, nds, ls, seed, batch, factor, point, rates, data, kd, st, rfl, J, u, p1, n1, n9, b1, st0, hkd, q⟩ := h
  have hu := hr.units
  refine ⟨_, pss_cons (ps_set (i := 4) sc__law_name.nd rfl (.inr rfl) (pe_ix (ixl_at (K := K) rfl) (pv 1) pe_int (fun _ _ => rfl)))
 (pss_cons (ps_set (i := 5) sc__law_name.nd rfl (.inl rfl) (pe_call G__law_draw (hr.mono (by decide)) rfl g__law_draw k__law_draw b__law_draw .nil pass0 (pa_cons (pv 0) (pa_cons (pe_ix (ixl_at (K := K) rfl) (pv 1) pe_int (fun _ _ => rfl)) pa_nil))))
 (pss_cons (ps_set (i := 6) sc__law_name.nd rfl (.inl rfl) (pe_call G__law_draw (hr.mono (by decide)) rfl g__law_draw k__law_draw b__law_draw .nil pass0 (pa_cons (pv 0) (pa_cons (pe_callB (len_at (K := K) rfl) (by rfl) T.z_len PySem.boot_len (pa_cons (pe_ix (ixl_at (K := K) rfl) (pv 4) pe_int (fun _ _ => rfl)) pa_nil)) pa_nil))))
 (pss_cons (ps_if (PW.pt (pw_and (pt_cmpR op_in_seq (pv 2) (pe_tup (pa_cons pe_str (pa_cons pe_str (pa_cons pe_str pa_nil)))) (by with_unfolding_all rfl)) (pw_and1 (pt_cmpR op_gt (pe_callB (len_at (K := K) rfl) (by rfl) T.z_len PySem.boot_len (pa_cons (pe_ix (ixl_at (K := K) rfl) (pv 4) pe_int (fun _ _ => rfl)) pa_nil)) pe_int (nomark _))))) (pss_cons (ps_set (i := 7) sc__law_name.nd rfl (.inl rfl) (pe_call G__law_cell_name hr rfl g__law_cell_name k__law_cell_name b__law_cell_name .nil pass0 (pa_cons (pv 0) (pa_cons (pv 1) (pa_cons (pv 2) (pa_cons (pv 3) pa_nil))))))
 (pss_cons (ps_if (pt_cmpR op_eq (pv 2) pe_str (nomark _)) (pss_cons (ps_set (i := 8) sc__law_name.nd rfl (.inl rfl) (pe_call G__law_range hr rfl g__law_range k__law_range b__law_range .nil pass0 (pa_cons (pv 0) (pa_cons (pe_ix (ixl_at (K := K) rfl) (pv 1) pe_int (fun _ _ => rfl)) pa_nil))))
 (pss_one (ps_ret (pe_op (catT_at (K := K) rfl) (pv 7) (pe_tup (pa_cons (pe_ix (ixl_at (K := K) rfl) (pv 8) pe_int (fun _ _ => rfl)) (pa_cons (pe_ix (ixl_at (K := K) rfl) (pv 8) pe_int (fun _ _ => rfl)) pa_nil))))))) pss_nil)
 (pss_one (ps_ret (pv 7))))) pss_nil)
 (pss_cons (ps_if (pt_cmpR op_eq (pv 2) pe_str (nomark _)) (pss_cons (ps_setLc (i := 10) (own := [("u", 9)]) (g := gName 9)  rfl sc__law_name.nd rfl rfl (sw_true rfl rfl rfl (by decide +kernel)) (pi_range1 rfl T.z_range (pa_cons (pe_callB (len_at (K := K) rfl) (by rfl) T.z_len PySem.boot_len (pa_cons (pe_ix (ixl_at (K := K) rfl) (pv 4) pe_int (fun _ _ => rfl)) pa_nil)) pa_nil)) (blkOk_by (N := ["box", "job", "kind", "n", "net", "t", "v", "name", "ends", "u", "sums", "backs", "s", "a"]) (sc := defScope s__law_name) (by decide +kernel)) (fun _ _ _ _ _ => (pg_name (i := 9) sc__law_name.nd rfl (.inl rfl))) (fun _ _ _ _ _ => pts_one (pt_cmpR op_gt (pe_call G__law_sum_size (hr.mono (by decide)) rfl g__law_sum_size k__law_sum_size b__law_sum_size .nil pass0 (pa_cons (pv 4) (pa_cons (pv 9) pa_nil))) pe_int (nomark _))) (fun _ _ _ _ _ => (pv 9)))
 (pss_one (ps_if (pt_cmpR op_gt (pe_callB (len_at (K := K) rfl) (by rfl) T.z_len PySem.boot_len (pa_cons (pv 10) pa_nil)) pe_int (nomark _)) (pss_cons (ps_set (i := 6) sc__law_name.nd rfl (.inl rfl) (pe_ix (ixl_at (K := K) rfl) (pv 10) (pe_call G__law_draw (hr.mono (by decide)) rfl g__law_draw k__law_draw b__law_draw .nil pass0 (pa_cons (pv 0) (pa_cons (pe_callB (len_at (K := K) rfl) (by rfl) T.z_len PySem.boot_len (pa_cons (pv 10) pa_nil)) pa_nil))) (fun _ _ => rfl)))
 (pss_cons (ps_set (i := 8) sc__law_name.nd rfl (.inl rfl) (pe_call G__law_range hr rfl g__law_range k__law_range b__law_range .nil pass0 (pa_cons (pv 0) (pa_cons (pe_call G__law_sum_size (hr.mono (by decide)) rfl g__law_sum_size k__law_sum_size b__law_sum_size .nil pass0 (pa_cons (pv 4) (pa_cons (pv 6) pa_nil))) pa_nil))))
 (pss_one (ps_ret (pe_tup (pa_cons pe_str (pa_cons (pv 3) (pa_cons (pv 5) (pa_cons (pv 6) (pa_cons (pe_call G__law_draw (hr.mono (by decide)) rfl g__law_draw k__law_draw b__law_draw .nil pass0 (pa_cons (pv 0) (pa_cons (pe_ix (ixl_at (K := K) rfl) (pe_ix (ixl_at (K := K) rfl) (pv 4) pe_int (fun _ _ => rfl)) (pv 6) (fun _ _ => rfl)) pa_nil))) (pa_cons (pe_ix (ixl_at (K := K) rfl) (pv 8) pe_int (fun _ _ => rfl)) (pa_cons (pe_ix (ixl_at (K := K) rfl) (pv 8) pe_int (fun _ _ => rfl)) pa_nil)))))))))))) pss_nil))) pss_nil)
 (pss_cons (ps_if (pt_cmpR op_eq (pv 2) pe_str (nomark _)) (pss_cons (ps_setLc (i := 11) (own := [("u", 9)]) (g := gName 9)  rfl sc__law_name.nd rfl rfl (sw_true rfl rfl rfl (by decide +kernel)) (pi_range1 rfl T.z_range (pa_cons (pe_callB (len_at (K := K) rfl) (by rfl) T.z_len PySem.boot_len (pa_cons (pe_ix (ixl_at (K := K) rfl) (pv 4) pe_int (fun _ _ => rfl)) pa_nil)) pa_nil)) (blkOk_by (N := ["box", "job", "kind", "n", "net", "t", "v", "name", "ends", "u", "sums", "backs", "s", "a"]) (sc := defScope s__law_name) (by decide +kernel)) (fun _ _ _ _ _ => (pg_name (i := 9) sc__law_name.nd rfl (.inl rfl))) (fun _ _ _ _ _ => pts_one (pt_cmpR op_gt (pe_call G__law_back_size (hr.mono (by decide)) rfl g__law_back_size k__law_back_size b__law_back_size .nil pass0 (pa_cons (pv 4) (pa_cons (pv 9) (pa_cons pe_int pa_nil)))) pe_int (nomark _))) (fun _ _ _ _ _ => (pv 9)))
 (pss_one (ps_if (pt_cmpR op_gt (pe_callB (len_at (K := K) rfl) (by rfl) T.z_len PySem.boot_len (pa_cons (pv 11) pa_nil)) pe_int (nomark _)) (pss_cons (ps_set (i := 9) sc__law_name.nd rfl (.inl rfl) (pe_ix (ixl_at (K := K) rfl) (pv 11) (pe_call G__law_draw (hr.mono (by decide)) rfl g__law_draw k__law_draw b__law_draw .nil pass0 (pa_cons (pv 0) (pa_cons (pe_callB (len_at (K := K) rfl) (by rfl) T.z_len PySem.boot_len (pa_cons (pv 11) pa_nil)) pa_nil))) (fun _ _ => rfl)))
 (pss_cons (ps_set (i := 12) sc__law_name.nd rfl (.inl rfl) (pe_call G__law_draw (hr.mono (by decide)) rfl g__law_draw k__law_draw b__law_draw .nil pass0 (pa_cons (pv 0) (pa_cons (pe_callB (len_at (K := K) rfl) (by rfl) T.z_len PySem.boot_len (pa_cons (pe_call G__law_operands (hr.mono (by decide)) rfl g__law_operands k__law_operands b__law_operands .nil pass0 (pa_cons (pe_ix (ixl_at (K := K) rfl) (pe_ix (ixl_at (K := K) rfl) (pv 4) pe_int (fun _ _ => rfl)) (pv 9) (fun _ _ => rfl)) pa_nil)) pa_nil)) pa_nil))))
 (pss_cons (ps_set (i := 8) sc__law_name.nd rfl (.inl rfl) (pe_call G__law_range hr rfl g__law_range k__law_range b__law_range .nil pass0 (pa_cons (pv 0) (pa_cons (pe_call G__law_back_size (hr.mono (by decide)) rfl g__law_back_size k__law_back_size b__law_back_size .nil pass0 (pa_cons (pv 4) (pa_cons (pv 9) (pa_cons (pv 12) pa_nil)))) pa_nil))))
 (pss_cons (ps_set (i := 13) sc__law_name.nd rfl (.inl rfl) (pe_ix (ixl_at (K := K) rfl) (pe_call G__law_operands (hr.mono (by decide)) rfl g__law_operands k__law_operands b__law_operands .nil pass0 (pa_cons (pe_ix (ixl_at (K := K) rfl) (pe_ix (ixl_at (K := K) rfl) (pv 4) pe_int (fun _ _ => rfl)) (pv 9) (fun _ _ => rfl)) pa_nil)) (pv 12) (fun _ _ => rfl)))
 (pss_one (ps_ret (pe_tup (pa_cons pe_str (pa_cons (pv 3) (pa_cons (pv 5) (pa_cons (pv 9) (pa_cons (pv 12) (pa_cons (pe_call G__law_draw (hr.mono (by decide)) rfl g__law_draw k__law_draw b__law_draw .nil pass0 (pa_cons (pv 0) (pa_cons (pe_ix (ixl_at (K := K) rfl) (pe_ix (ixl_at (K := K) rfl) (pv 4) pe_int (fun _ _ => rfl)) (pv 13) (fun _ _ => rfl)) pa_nil))) (pa_cons (pe_ix (ixl_at (K := K) rfl) (pv 8) pe_int (fun _ _ => rfl)) (pa_cons (pe_ix (ixl_at (K := K) rfl) (pv 8) pe_int (fun _ _ => rfl)) pa_nil))))))))))))))) pss_nil))) pss_nil)
 (pss_cons (ps_if (pt_cmpR op_eq (pv 2) pe_str (nomark _)) (pss_one (ps_ret (pe_tup (pa_cons pe_str (pa_cons (pv 3) (pa_cons (pv 5) (pa_cons (pv 6) (pa_cons (pe_call G__law_draw (hr.mono (by decide)) rfl g__law_draw k__law_draw b__law_draw .nil pass0 (pa_cons (pv 0) (pa_cons (pe_ix (ixl_at (K := K) rfl) (pe_ix (ixl_at (K := K) rfl) (pv 4) pe_int (fun _ _ => rfl)) (pv 6) (fun _ _ => rfl)) pa_nil))) (pa_cons (pe_op op_add (pe_op op_add (pv 6) pe_int) (pe_call G__law_draw (hr.mono (by decide)) rfl g__law_draw k__law_draw b__law_draw .nil pass0 (pa_cons (pv 0) (pa_cons (pe_op op_sub (pe_callB (len_at (K := K) rfl) (by rfl) T.z_len PySem.boot_len (pa_cons (pe_ix (ixl_at (K := K) rfl) (pv 4) pe_int (fun _ _ => rfl)) pa_nil)) (pv 6)) pa_nil)))) pa_nil))))))))) pss_nil)
 (pss_cons (ps_if (pt_cmpR op_eq (pv 2) pe_str (nomark _)) (pss_cons (ps_set (i := 8) sc__law_name.nd rfl (.inl rfl) (pe_call G__law_range hr rfl g__law_range k__law_range b__law_range .nil pass0 (pa_cons (pv 0) (pa_cons (pe_ix (ixl_at (K := K) rfl) (pv 1) pe_int (fun _ _ => rfl)) pa_nil))))
 (pss_one (ps_ret (pe_tup (pa_cons pe_str (pa_cons (pv 3) (pa_cons (pe_ix (ixl_at (K := K) rfl) (pv 8) pe_int (fun _ _ => rfl)) (pa_cons (pe_ix (ixl_at (K := K) rfl) (pv 8) pe_int (fun _ _ => rfl)) pa_nil)))))))) pss_nil)
 (pss_one (ps_ret (pe_tup (pa_cons pe_str (pa_cons (pv 3) (pa_cons (pv 5) (pa_cons (pv 6) (pa_cons (pe_call G__law_draw (hr.mono (by decide)) rfl g__law_draw k__law_draw b__law_draw .nil pass0 (pa_cons (pv 0) (pa_cons (pe_ix (ixl_at (K := K) rfl) (pe_ix (ixl_at (K := K) rfl) (pv 4) pe_int (fun _ _ => rfl)) (pv 6) (fun _ _ => rfl)) pa_nil))) pa_nil))))))))))))))), ?_⟩
  have ul := u.all
  have gpos : ∀ {x : Int}, inR x nds.length → inR x ls.length ∧ 0 < lget ls x := fun h => by
    have hx : inR _ ls.length := ⟨h.1, by rw [ul]; exact h.2⟩
    exact ⟨hx, by have := u.bnd _ (lget_mem hx); omega⟩
  refine ⟨_, rfl, jb, _, _, _, rfl, rfl, SqL.of J.jl, rfl, ?_⟩
  refine ⟨_, rfl, _, rfl, jb, _, _, _, rfl, rfl, SqL.of J.jl, rfl, b, r, rs, _, rfl, J.g.box, by omega, fun t H1 t0 t1 B1 e1 => ?_⟩
  have J1 := J.but B1 e1
  obtain ⟨nr, q1, q2⟩ := J1.g.nod
  have lnr : (((nr.map V.ref).length : Nat) : Int) = (nds.length : Int) := by rw [List.length_map, q2.length]
  refine ⟨_, rfl, _, rfl, n, _, _, _, rfl, rfl, SqL.of J1.g.net, rfl, NL, _, rfl, .inl (SqL.of q1), b, r, rs, _, rfl, B1, by omega, fun v H2 v0 v1 B2 e2 => ?_⟩
  rw [lnr] at v1
  have J2 := J1.but B2 e2
  have e02 := e1.trans e2
  have rv : inR v nds.length := ⟨v0, v1⟩
  have i0 : ∀ {o6 o7 o8 o9 o10 o11 o12 o13 : Option V} {H' : Hp} (Q' : VK), Q' (.str kd) H' → tVar 2 [some (.ref b), some (.ref jb), some (.str kd), some (.int st), some (.ref n), some (.int t), o6, o7, o8, o9, o10, o11, o12, o13] H' Q' := fun Q' q' => ⟨_, rfl, q'⟩
  have fin : ∀ (Hc : Hp) (tt : Addr) (m : Nm) (xs : List V), JobG Hc b r rs jb RL DL n PL NL LL ni nt pms nds ls seed batch factor point rates data → But b H Hc → Hc tt = none → xs = m.enc → m.ok pms nds ls batch → Q (.ref tt) (upd Hc tt (.tup xs)) := fun Hc tt m xs Jc ec nt' ex ok =>
    q tt m _ (Jc.g.box.same (same_new nt' _)) (ec.trans (.of (same_new nt' _))) (by rw [← ex]; exact upd_same) ok
  refine if_inAnd ["par", "mom", "grd"] i0 (by decide) (fun h H3 s3 => ?_) (fun m1 H3 s3 => ?_)
  · have J3 := J2.same s3
    have e03 := e02.trans (.of s3)
    obtain ⟨pr, w1, w2⟩ := J3.g.par
    refine ⟨_, rfl, n, _, _, _, rfl, rfl, SqL.of J3.g.net, rfl, PL, _, rfl, .inl (SqL.of w1), _, _, rfl, rfl, _, rfl, iteD (by rw [List.length_map, w2.length]; omega) ?_⟩
    refine ⟨_, rfl, _, rfl, _, rfl, _, rfl, b, r, rs, jb, RL, DL, n, PL, NL, LL, ni, nt, pms, nds, ls, seed, batch, factor, point, rates, data, kd, st, rfl, J3, u, p1, st0, fun na p i j H4 B4 e4 hna cok => ?_⟩
    have J4 := J3.but B4 e4
    have e04 := e03.trans e4
    have nab : na ≠ b := fun z => by obtain ⟨_, h2⟩ := B4.lst; rw [z, h2] at hna; cases hna
    refine if_is "grd" i0 (fun hg => ?_) (fun hg => ?_)
    · subst hg
      refine ⟨_, rfl, _, rfl, jb, _, _, _, rfl, rfl, SqL.of J4.jl, rfl, b, r, rs, batch, rfl, B4, by omega, fun en lo hi H5 B5 e5 hen rok => ?_⟩
      have hna5 := e5 _ _ nab hna
      refine ⟨_, rfl, _, rfl, en, _, _, _, rfl, rfl, SqL.of hen, rfl, _, rfl, en, _, _, _, rfl, rfl, SqL.of hen, rfl, by show 2 ≤ sizeLine; decide, fun pt npt => ?_⟩
      generalize eqH : upd H5 pt _ = H6
      obtain ⟨s6, h6⟩ := new_facts eqH npt
      refine ⟨na, pt, _, _, rfl, rfl, SqT.of (s6 _ _ hna5), SqT.of h6, (fun z => by cases z), by show 7 ≤ sizeLine; decide, (fun z => by cases z), fun _ tt ntt => ?_⟩
      exact fin _ _ (.grd st p i j lo hi) _ ((J4.but B5 e5).same s6) ((e04.trans e5).trans (.of s6)) ntt rfl ⟨cok, rok⟩
    · simp only [List.mem_cons, List.not_mem_nil, or_false] at h
      rcases h with rfl | rfl | rfl
      · exact ⟨_, rfl, q na (.par st p i j) _ B4 e04 hna cok⟩
      · exact ⟨_, rfl, q na (.mom st p i j) _ B4 e04 hna cok⟩
      · exact absurd rfl hg
  have J3 := J2.same s3
  have e03 := e02.trans (.of s3)
  refine if_is "pre" i0 (fun h => ?_) (fun m2 => ?_)
  · subst h
    obtain ⟨nr3, q31, q32⟩ := J3.g.nod
    have l3 : (((nr3.map V.ref).length : Nat) : Int) = (nds.length : Int) := by rw [List.length_map, q32.length]
    refine ⟨_, rfl, n, _, _, _, rfl, rfl, SqL.of J3.g.net, rfl, NL, _, rfl, .inl (SqL.of q31), (nds.length : Int), by rw [l3], by omega, by omega, fun D nD => ?_⟩
    rw [Int.toNat_natCast]
    refine lc_range (fun (t : Nat) H4 => ∃ xs : List Int, Same H3 H4 ∧ H4 D = some (.lst (xs.map V.int)) ∧ xs.length ≤ t ∧ ∀ x ∈ xs, inR x nds.length ∧ 0 < sumSz (sides pms) nds ls x) ⟨[], same_new nD _, upd_same, Nat.zero_le _, fun x h => by cases h⟩ (fun k H4 hk hP => ?_) (fun H4 hP => ?_)
    · obtain ⟨xs, s4, hD, lx, ax⟩ := hP
      have hk' : inR (0 + (k : Int)) nds.length := ⟨by omega, by omega⟩
      refine ⟨rfl, _, rfl, _, rfl, b, r, rs, n, PL, NL, LL, ni, nt, pms, nds, ls, 0 + (k : Int), rfl, J3.g.same s4, u, hk', fun H5 s5 => ⟨_, _, rfl, rfl, _, rfl, ?_⟩⟩
      refine ite2 (fun c => ?_) (fun c => ?_)
      · refine ⟨_, rfl, _, s5 _ _ hD, smaller (by rw [List.length_map]; omega), xs ++ [0 + (k : Int)], same_mut (s4.trans s5) nD, map_more _ _, by rw [List.length_append, List.length_singleton]; omega, fun x hx => ?_⟩
        rcases List.mem_append.mp hx with h | h
        · exact ax x h
        · rw [List.mem_singleton.mp h]; exact ⟨hk', of_decide_eq_true c⟩
      · exact ⟨xs, s4.trans s5, s5 _ _ hD, by omega, ax⟩
    obtain ⟨xs, s4, hD, lx, ax⟩ := hP
    have J4 := J3.same s4
    have e04 := e03.trans (.of s4)
    refine ⟨_, rfl, D, _, rfl, .inl (SqL.of hD), _, _, rfl, rfl, _, rfl, ?_⟩
    refine ite2 (fun c => ?_) (fun c => ?_)
    · have c' : 0 < (((xs.map V.int).length : Nat) : Int) := of_decide_eq_true c
      have Db : D ≠ b := fun z => by obtain ⟨_, h2⟩ := J3.g.blst; rw [z, h2] at nD; cases nD
      refine ⟨_, rfl, _, rfl, _, rfl, D, _, rfl, .inl (SqL.of hD), b, r, rs, _, rfl, J4.g.box, c', fun k H5 k0 k1 B5 e5 => ?_⟩
      rw [List.length_map] at k1
      have hk : inR k xs.length := ⟨k0, k1⟩
      refine ⟨D, _, _, _, rfl, rfl, SqL.of (e5 _ _ Db hD), at_ints hk, ?_⟩
      obtain ⟨rx, px⟩ := ax _ (lget_mem hk)
      generalize lget xs k = x at *
      have J5 := J4.but B5 e5
      have e05 := e04.trans e5
      refine ⟨_, rfl, _, rfl, _, rfl, b, r, rs, n, PL, NL, LL, ni, nt, pms, nds, ls, x, rfl, J5.g, u, rx, fun H6 s6 => ⟨b, r, rs, _, rfl, J5.g.box.same s6, by omega, fun en lo hi H7 B7 e7 hen rok => ?_⟩⟩
      have J7 := (J5.same s6).but B7 e7
      have e07 := (e05.trans (.of s6)).trans e7
      refine ⟨_, rfl, _, rfl, _, rfl, _, rfl, _, rfl, n, _, _, _, rfl, rfl, SqL.of J7.g.net, rfl, _, rfl, LL, _, _, _, rfl, rfl, SqL.of J7.g.len, at_ints (gpos rx).1, b, r, rs, _, rfl, B7, (gpos rx).2, fun j H8 j0 j1 B8 e8 => ?_⟩
      have enb : en ≠ b := fun z => by obtain ⟨w, _, h2⟩ := B7.ex; rw [z, h2] at hen; cases hen
      have hen8 := e8 _ _ enb hen
      refine ⟨_, rfl, en, _, _, _, rfl, rfl, SqL.of hen8, rfl, _, rfl, en, _, _, _, rfl, rfl, SqL.of hen8, rfl, by show 7 ≤ sizeLine; decide, fun tt ntt => ?_⟩
      exact fin _ _ (.pre st t x j lo hi) _ (J7.but B8 e8) (e07.trans e8) ntt rfl ⟨⟨st0, ⟨t0, t1⟩, rx, j0, j1⟩, px, rok⟩
    · refine if_is "bac" i0 (fun h => absurd h (by decide)) (fun _ => ?_)
      refine if_is "inc" i0 (fun h => absurd h (by decide)) (fun _ => ?_)
      refine if_is "los" i0 (fun h => absurd h (by decide)) (fun _ => ?_)
      refine ⟨_, rfl, _, rfl, _, rfl, _, rfl, _, rfl, n, _, _, _, rfl, rfl, SqL.of J4.g.net, rfl, _, rfl, LL, _, _, _, rfl, rfl, SqL.of J4.g.len, at_ints (gpos rv).1, b, r, rs, _, rfl, J4.g.box, (gpos rv).2, fun j H' j0 j1 B' e' => ?_⟩
      exact ⟨by show 5 ≤ sizeLine; decide, fun tt nt' => fin _ _ (.val st t v j) _ (J4.but B' e') (e04.trans e') nt' rfl ⟨st0, ⟨t0, t1⟩, rv, j0, j1⟩⟩
  refine if_is "bac" i0 (fun h => ?_) (fun m3 => ?_)
  · subst h
    obtain ⟨nr3, q31, q32⟩ := J3.g.nod
    have l3 : (((nr3.map V.ref).length : Nat) : Int) = (nds.length : Int) := by rw [List.length_map, q32.length]
    refine ⟨_, rfl, n, _, _, _, rfl, rfl, SqL.of J3.g.net, rfl, NL, _, rfl, .inl (SqL.of q31), (nds.length : Int), by rw [l3], by omega, by omega, fun D nD => ?_⟩
    rw [Int.toNat_natCast]
    refine lc_range (fun (t : Nat) H4 => ∃ xs : List Int, Same H3 H4 ∧ H4 D = some (.lst (xs.map V.int)) ∧ xs.length ≤ t ∧ ∀ x ∈ xs, inR x nds.length ∧ 0 < backSz (sides pms) nds ls x 0) ⟨[], same_new nD _, upd_same, Nat.zero_le _, fun x h => by cases h⟩ (fun k H4 hk hP => ?_) (fun H4 hP => ?_)
    · obtain ⟨xs, s4, hD, lx, ax⟩ := hP
      have hk' : inR (0 + (k : Int)) nds.length := ⟨by omega, by omega⟩
      refine ⟨rfl, _, rfl, _, rfl, b, r, rs, n, PL, NL, LL, ni, nt, pms, nds, ls, 0 + (k : Int), 0, rfl, J3.g.same s4, u, hk', .inl rfl, fun H5 s5 => ⟨_, _, rfl, rfl, _, rfl, ?_⟩⟩
      refine ite2 (fun c => ?_) (fun c => ?_)
      · refine ⟨_, rfl, _, s5 _ _ hD, smaller (by rw [List.length_map]; omega), xs ++ [0 + (k : Int)], same_mut (s4.trans s5) nD, map_more _ _, by rw [List.length_append, List.length_singleton]; omega, fun x hx => ?_⟩
        rcases List.mem_append.mp hx with h | h
        · exact ax x h
        · rw [List.mem_singleton.mp h]; exact ⟨hk', of_decide_eq_true c⟩
      · exact ⟨xs, s4.trans s5, s5 _ _ hD, by omega, ax⟩
    obtain ⟨xs, s4, hD, lx, ax⟩ := hP
    have J4 := J3.same s4
    have e04 := e03.trans (.of s4)
    refine ⟨_, rfl, D, _, rfl, .inl (SqL.of hD), _, _, rfl, rfl, _, rfl, ?_⟩
    refine ite2 (fun c => ?_) (fun c => ?_)
    · have c' : 0 < (((xs.map V.int).length : Nat) : Int) := of_decide_eq_true c
      have Db : D ≠ b := fun z => by obtain ⟨_, h2⟩ := J3.g.blst; rw [z, h2] at nD; cases nD
      refine ⟨_, rfl, _, rfl, _, rfl, D, _, rfl, .inl (SqL.of hD), b, r, rs, _, rfl, J4.g.box, c', fun k H5 k0 k1 B5 e5 => ?_⟩
      rw [List.length_map] at k1
      have hk : inR k xs.length := ⟨k0, k1⟩
      refine ⟨D, _, _, _, rfl, rfl, SqL.of (e5 _ _ Db hD), at_ints hk, ?_⟩
      obtain ⟨rx, px⟩ := ax _ (lget_mem hk)
      generalize lget xs k = x at *
      have J5 := J4.but B5 e5
      have e05 := e04.trans e5
      obtain ⟨nr5, a5, q51, ea, ha⟩ := J5.g.nd rx
      have hops : (nth nds x).ops.length = 1 ∨ (nth nds x).ops.length = 2 := by
        unfold backSz at px
        cases hd : nth nds x <;> rw [hd] at px <;> first | (exact .inl rfl) | (exact .inr rfl) | (exact absurd px (Int.lt_irrefl 0))
      refine ⟨_, rfl, _, rfl, n, _, _, _, rfl, rfl, SqL.of J5.g.net, rfl, _, rfl, NL, _, _, _, rfl, rfl, SqL.of q51, ea, a5, _, rfl, SqT.of ha, fun op H6 nop s6 hop => ?_⟩
      have J6 := J5.same s6
      refine ⟨op, _, rfl, .inl (SqL.of hop), b, r, rs, _, rfl, J6.g.box, by rw [List.length_map]; omega, fun s H7 s0 s1 B7 e7 => ?_⟩
      rw [List.length_map] at s1
      have J7 := J6.but B7 e7
      have e07 := (e05.trans (.of s6)).trans e7
      have hs : inR s (nth nds x).ops.length := ⟨s0, s1⟩
      have hs01 : s = 0 ∨ s = 1 := by omega
      obtain ⟨w1, w2, w3⟩ := u.at rx
      have bpos : 0 < backSz (sides pms) nds ls x s := by
        rcases hs01 with rfl | rfl
        · exact px
        · revert px w3 w2
          unfold backSz
          cases hd : nth nds x with
          | mat k y z => exact fun _ w2 w3 => mat_pos rx u w2 w3
          | matT k y z => exact fun _ w2 w3 => matT_pos rx u w2 w3
          | lin p y => rw [hd] at s1; exact absurd s1 (by show ¬ (1 : Int) < 1; decide)
          | _ => exact fun z _ _ => absurd z (Int.lt_irrefl 0)
      refine ⟨_, rfl, _, rfl, _, rfl, _, rfl, b, r, rs, n, PL, NL, LL, ni, nt, pms, nds, ls, x, s, rfl, J7.g, u, rx, hs01, fun H8 s8 => ⟨b, r, rs, _, rfl, J7.g.box.same s8, by omega, fun en lo hi H9 B9 e9 hen rok => ?_⟩⟩
      have J9 := (J7.same s8).but B9 e9
      have e09 := (e07.trans (.of s8)).trans e9
      obtain ⟨nr9, a9, q91, ea9, ha9⟩ := J9.g.nd rx
      refine ⟨_, rfl, n, _, _, _, rfl, rfl, SqL.of J9.g.net, rfl, _, rfl, NL, _, _, _, rfl, rfl, SqL.of q91, ea9, a9, _, rfl, SqT.of ha9, fun op2 H10 nop2 s10 hop2 => ?_⟩
      have J10 := J9.same s10
      have aop : atI ((nth nds x).ops.map V.int) s = some (.int (opAt nds x s)) := at_ints hs
      refine ⟨_, rfl, op2, _, _, _, rfl, rfl, SqL.of hop2, aop, ?_⟩
      have ro : inR (opAt nds x s) nds.length := by
        have h : opAt nds x s ∈ (nth nds x).ops := lget_mem hs
        have z := w2 _ h
        exact ⟨z.1, by have := rx.2; omega⟩
      refine ⟨_, rfl, _, rfl, _, rfl, _, rfl, _, rfl, _, rfl, n, _, _, _, rfl, rfl, SqL.of J10.g.net, rfl, _, rfl, LL, _, _, _, rfl, rfl, SqL.of J10.g.len, at_ints (gpos ro).1, b, r, rs, _, rfl, J10.g.box, (gpos ro).2, fun j H11 j0 j1 B11 e11 => ?_⟩
      have enb : en ≠ b := fun z => by obtain ⟨w, _, h2⟩ := B9.ex; rw [z, h2] at hen; cases hen
      have hen11 := e11 _ _ enb (s10 _ _ hen)
      refine ⟨_, rfl, en, _, _, _, rfl, rfl, SqL.of hen11, rfl, _, rfl, en, _, _, _, rfl, rfl, SqL.of hen11, rfl, by show 8 ≤ sizeLine; decide, fun tt ntt => ?_⟩
      exact fin _ _ (.bac st t x s j lo hi) _ (J10.but B11 e11) ((e09.trans (.of s10)).trans e11) ntt rfl ⟨st0, ⟨t0, t1⟩, rx, hs, ⟨j0, j1⟩, bpos, rok⟩
    · refine if_is "inc" i0 (fun h => absurd h (by decide)) (fun _ => ?_)
      refine if_is "los" i0 (fun h => absurd h (by decide)) (fun _ => ?_)
      refine ⟨_, rfl, _, rfl, _, rfl, _, rfl, _, rfl, n, _, _, _, rfl, rfl, SqL.of J4.g.net, rfl, _, rfl, LL, _, _, _, rfl, rfl, SqL.of J4.g.len, at_ints (gpos rv).1, b, r, rs, _, rfl, J4.g.box, (gpos rv).2, fun j H' j0 j1 B' e' => ?_⟩
      exact ⟨by show 5 ≤ sizeLine; decide, fun tt nt' => fin _ _ (.val st t v j) _ (J4.but B' e') (e04.trans e') nt' rfl ⟨st0, ⟨t0, t1⟩, rv, j0, j1⟩⟩
  refine if_is "inc" i0 (fun h => ?_) (fun m4 => ?_)
  · subst h
    refine ⟨_, rfl, _, rfl, _, rfl, _, rfl, _, rfl, n, _, _, _, rfl, rfl, SqL.of J3.g.net, rfl, _, rfl, LL, _, _, _, rfl, rfl, SqL.of J3.g.len, at_ints (gpos rv).1, b, r, rs, _, rfl, J3.g.box, (gpos rv).2, fun j H4 j0 j1 B4 e4 => ?_⟩
    have J4 := J3.but B4 e4
    obtain ⟨nr4, q41, q42⟩ := J4.g.nod
    have l4 : (((nr4.map V.ref).length : Nat) : Int) = (nds.length : Int) := by rw [List.length_map, q42.length]
    refine ⟨_, rfl, _, _, rfl, rfl, _, rfl, _, rfl, n, _, _, _, rfl, rfl, SqL.of J4.g.net, rfl, NL, _, rfl, .inl (SqL.of q41), _, rfl, _, _, rfl, rfl, b, r, rs, _, rfl, J4.g.box, by omega, fun w H5 w0 w1 B5 e5 => ?_⟩
    refine ⟨_, _, rfl, rfl, by show 6 ≤ sizeLine; decide, fun tt ntt => ?_⟩
    exact fin _ _ (.inc st t v j (v + 1 + w)) _ (J4.but B5 e5) ((e03.trans e4).trans e5) ntt rfl ⟨⟨st0, ⟨t0, t1⟩, rv, j0, j1⟩, by omega, by omega⟩
  refine if_is "los" i0 (fun h => ?_) (fun m5 => ?_)
  · subst h
    refine ⟨_, rfl, _, rfl, jb, _, _, _, rfl, rfl, SqL.of J3.jl, rfl, b, r, rs, batch, rfl, J3.g.box, by omega, fun en lo hi H4 B4 e4 hen rok => ?_⟩
    refine ⟨_, rfl, _, rfl, en, _, _, _, rfl, rfl, SqL.of hen, rfl, _, rfl, en, _, _, _, rfl, rfl, SqL.of hen, rfl, by show 4 ≤ sizeLine; decide, fun tt ntt => ?_⟩
    exact fin _ _ (.los st lo hi) _ (J3.but B4 e4) (e03.trans e4) ntt rfl ⟨st0, rok⟩
  refine ⟨_, rfl, _, rfl, _, rfl, _, rfl, _, rfl, n, _, _, _, rfl, rfl, SqL.of J3.g.net, rfl, _, rfl, LL, _, _, _, rfl, rfl, SqL.of J3.g.len, at_ints (gpos rv).1, b, r, rs, _, rfl, J3.g.box, (gpos rv).2, fun j H' j0 j1 B' e' => ?_⟩
  exact ⟨by show 5 ≤ sizeLine; decide, fun tt nt' => fin _ _ (.val st t v j) _ (J3.but B' e') (e03.trans e') nt' rfl ⟨st0, ⟨t0, t1⟩, rv, j0, j1⟩⟩

end

theorem cutV_to {xs : List V} {i : Nat} (h1 : i ≤ xs.length) : cutV xs none (some (i : Int)) = xs.take i := by
  unfold cutV
  rw [HT.sIx_none, HT.sIx_nat, List.drop_zero, Nat.sub_zero, Nat.min_eq_left h1]
theorem cutV_from {xs : List V} {i : Nat} : cutV xs (some (i : Int)) none = xs.drop i := by
  unfold cutV
  rw [HT.sIx_none, HT.sIx_nat]
  rcases Nat.le_total i xs.length with h | h
  · rw [Nat.min_eq_left h, List.take_of_length_le (by rw [List.length_drop]; omega)]
  · rw [Nat.min_eq_right h, List.drop_of_length_le h, List.drop_of_length_le (Nat.le_refl _), List.take_nil]

theorem All2.take' {α β : Type} {R : α → β → Prop} {as : List α} {bs : List β} (h : All2 R as bs) : ∀ n, All2 R (as.take n) (bs.take n) := by
  induction h with
  | nil => intro n; rw [List.take_nil, List.take_nil]; exact .nil
  | cons r _ ih =>
    intro n
    cases n with
    | zero => exact .nil
    | succ n => exact .cons r (ih n)
theorem All2.drop' {α β : Type} {R : α → β → Prop} {as : List α} {bs : List β} (h : All2 R as bs) : ∀ n, All2 R (as.drop n) (bs.drop n) := by
  induction h with
  | nil => intro n; rw [List.drop_nil, List.drop_nil]; exact .nil
  | cons r t ih =>
    intro n
    cases n with
    | zero => exact .cons r t
    | succ n => exact ih n
theorem All2.app' {α β : Type} {R : α → β → Prop} {as : List α} {bs : List β} {cs : List α} {ds : List β} (h : All2 R as bs) (g : All2 R cs ds) : All2 R (as ++ cs) (bs ++ ds) := by
  induction h with
  | nil => exact g
  | cons r _ ih => exact .cons r ih
theorem All2.rep' {α β : Type} {R : α → β → Prop} {a : α} {b : β} (h : R a b) : ∀ n, All2 R (List.replicate n a) (List.replicate n b)
  | 0 => .nil
  | n + 1 => .cons h (All2.rep' h n)

/-! ### the law: heaps -/
theorem seqT_lst {K : PySem.W.Frag} {b : Addr} {H H' : Hp} {a : Addr} {xs zs : List V} (e : But b H H') (hb : H b = some (.lst zs)) (h : SqT K H a xs) : SqT K H' a xs := by
  rcases h with (h | ⟨o, h⟩) | h
  · exact .inl (.inl (e _ _ (ne_of h hb (by intro z; cases z)) h))
  · exact .inl (.inr ⟨o, e _ _ (ne_of h hb (by intro z; cases z)) h⟩)
  · exact .inr h
theorem ParP.lst {cs : Cs} {b : Addr} {H H' : Hp} {a : Addr} {m : Int × Int × Str × Int} {zs : List V} (e : But b H H') (hb : H b = some (.lst zs)) (h : ParP cs H a m) : ParP cs H' a m := by
  obtain ⟨dy, fs, f, h1, h2, h3, h4, h5⟩ := h
  exact ⟨dy, fs, f, e _ _ (ne_of h1 hb (by intro z; cases z)) h1, h2, h3, h4, e _ _ (ne_of h5 hb (by intro z; cases z)) h5⟩
theorem no_refs {r : Addr} {z : Int} {pr : List Addr} (h : HO.lst (pr.map V.ref) = HO.lst [V.ref r, V.int z]) : False := by
  injection h with h
  rcases pr with _ | ⟨x, _ | ⟨y, t⟩⟩
  · cases h
  · cases h
  · injection h with _ h
    injection h with h _
    cases h
/-- the object stands behind a draw -/
theorem NetF.but {K : PySem.W.Frag} {cs : Cs} {b r : Addr} {z : Int} {H H' : Hp} {q : Addr} {ni nt : Int} {pms : List (Int × Int × Str × Int)} {nds : List Nd} (e : But b H H') (hb : H b = some (.lst [.ref r, .int z])) (h : NetF K cs H q ni nt pms nds) : NetF K cs H' q ni nt pms nds := by
  obtain ⟨dx, fs, PP, NN, pr, nr, h1, h2, h3, h4, h5, h6, h7, h8, h9⟩ := h.ex
  exact ⟨dx, fs, PP, NN, pr, nr, e _ _ (ne_of h1 hb (by intro z; cases z)) h1, h2, h3, h4, h5, e _ _ (ne_of h6 hb fun z => no_refs z) h6, h7.mono fun _ _ r => r.lst e hb, e _ _ (ne_of h8 hb fun z => no_refs z) h8, h9.mono fun _ _ r => seqT_lst e hb r⟩
theorem NdT.lst {b : Addr} {H H' : Hp} {a : Addr} {d : Nd} {zs : List V} (e : But b H H') (hb : H b = some (.lst zs)) (h : NdT H a d) : NdT H' a d := e _ _ (ne_of h hb (by intro z; cases z)) h

/-! ### is_net -/
theorem chain2 {lo x hi : Int} {H : Hp} {Q : VK} {σ : L2.St} (q : Q (.bl (decide (lo ≤ x ∧ x ≤ hi))) H) :
    rI0 (fun i j => .bl (decide (i ≤ j))) (.int lo) (.int x) H fun z H3 => ∃ k, z = .bl k ∧ (if k = true then tC (.int hi) σ H3 fun w' H4 => rI0 (fun i j => .bl (decide (i ≤ j))) (.int x) w' H4 Q else Q (.bl false) H3) := by
  refine ⟨_, _, rfl, rfl, _, rfl, ?_⟩
  by_cases h : lo ≤ x
  · refine iteD h ?_
    refine ⟨_, _, rfl, rfl, ?_⟩
    have e : decide (lo ≤ x ∧ x ≤ hi) = decide (x ≤ hi) := decide_eq_decide.mpr ⟨fun z => z.2, fun z => ⟨h, z⟩⟩
    rw [e] at q
    exact q
  · refine iteDN h ?_
    have e : decide (lo ≤ x ∧ x ≤ hi) = false := decide_eq_false fun z => h z.1
    rw [e] at q
    exact q
def PmGood (m : Int × Int × Str × Int) : Prop := ¬ (m.2.2.1 = "mixed" ∧ ¬ (0 ≤ m.2.2.2 ∧ m.2.2.2 ≤ 31)) ∧ (1 ≤ m.1 ∧ m.1 ≤ 6) ∧ (1 ≤ m.2.1 ∧ m.2.1 ≤ 6)
instance (m : Int × Int × Str × Int) : Decidable (PmGood m) := by unfold PmGood; infer_instance
def ParsGood (pms : List (Int × Int × Str × Int)) : Prop := pms.length ≤ 8 ∧ ∀ m ∈ pms, PmGood m
instance (pms : List (Int × Int × Str × Int)) : Decidable (ParsGood pms) := by unfold ParsGood; infer_instance
def NodesGood (nds : List Nd) (ls : List Int) : Prop := 1 ≤ nds.length ∧ nds.length ≤ 24 ∧ nds.length ≤ ls.length ∧ ls.getLast? = some 1 ∧ ∀ l ∈ ls, 1 ≤ l ∧ l ≤ 12
instance (nds : List Nd) (ls : List Int) : Decidable (NodesGood nds ls) := by unfold NodesGood; infer_instance
def NetGood (ni nt : Int) (pms : List (Int × Int × Str × Int)) (nds : List Nd) : Prop := (1 ≤ ni ∧ ni ≤ 8) ∧ (1 ≤ nt ∧ nt ≤ 8) ∧ ParsGood pms ∧ NodesGood nds (lensFrom ni nt (sides pms) [] nds)
instance (ni nt : Int) (pms : List (Int × Int × Str × Int)) (nds : List Nd) : Decidable (NetGood ni nt pms nds) := by unfold NetGood; infer_instance
def spIsGood (cs : Cs) : Sp := fun vs H Q _ => ∃ (a : Addr) (m : Int × Int × Str × Int), vs = [.ref a] ∧ ParP cs H a m ∧ Q (.bl (decide (PmGood m))) H
def spGoodPars (cs : Cs) : Sp := fun vs H Q _ => ∃ (q : Addr) (pms : List (Int × Int × Str × Int)), vs = [.ref q] ∧ (∃ dx fs PP pr, H q = some (.ins cs.Net dx fs) ∧ fs.lookup ("parameters" : Str) = some (.ref PP) ∧ H PP = some (.lst (pr.map V.ref)) ∧ All2 (ParP cs H) pr pms) ∧ pms.length ≤ 1000 ∧
  ∀ H', Same H H' → Q (.bl (decide (ParsGood pms))) H'
def spGoodNodes (K : PySem.W.Frag) (cs : Cs) : Sp := fun vs H Q _ => ∃ (q : Addr) (ni nt : Int) (pms : List (Int × Int × Str × Int)) (nds : List Nd), vs = [.ref q] ∧ NetF K cs H q ni nt pms nds ∧ NetOk ni nt (sides pms) nds ∧ ∀ H', Same H H' → Q (.bl (decide (NodesGood nds (lensFrom ni nt (sides pms) [] nds)))) H'
def spIsNet (K : PySem.W.Frag) (cs : Cs) : Sp := fun vs H Q _ => ∃ (q : Addr) (ni nt : Int) (pms : List (Int × Int × Str × Int)) (nds : List Nd), vs = [.ref q] ∧ NetF K cs H q ni nt pms nds ∧ NetOk ni nt (sides pms) nds ∧ pms.length ≤ 1000 ∧ ∀ H', Same H H' → Q (.bl (decide (NetGood ni nt pms nds))) H'
def spSameWords : Sp := fun vs H Q _ => ∃ (a b : Addr) (xs ys : List Int), vs = [.ref a, .ref b] ∧ H a = some (.lst (xs.map V.int)) ∧ H b = some (.lst (ys.map V.int)) ∧ xs.length ≤ 100000 ∧ ys.length ≤ 100000 ∧ Q (.bl (decide (xs = ys))) H
def spNetObj (K : PySem.W.Frag) (cs : Cs) : Sp := fun vs H Q _ => ∃ (n PL NL X : Addr) (ni nt : Int) (pms : List (Int × Int × Str × Int)) (nds : List Nd) (pr nr : List Addr), vs = [.ref n] ∧ H n = some (.lst [.int ni, .int nt, .ref PL, .ref NL, .ref X]) ∧
  H PL = some (.lst (pr.map V.ref)) ∧ All2 (PmV H) pr pms ∧ H NL = some (.lst (nr.map V.ref)) ∧ All2 (NdT H) nr nds ∧ NetOk ni nt (sides pms) nds ∧ pms.length ≤ 1000 ∧
  ∀ (x : Addr) (H' : Hp), Same H H' → NetF K cs H' x ni nt pms nds → NetL cs H' x (lensFrom ni nt (sides pms) [] nds) → Q (.ref x) H'

/-! ### a Job's network -/
structure JNet (K : PySem.W.Frag) (cs : Cs) (H : Hp) (q : Addr) (ni nt : Int) (pms : List (Int × Int × Str × Int)) (nds : List Nd) (ls : List Int) (batch : Int) : Prop where
  ex : ∃ dx fs x, H q = some (.ins cs.Job dx fs) ∧ fs.lookup ("net" : Str) = some (.ref x) ∧ fs.lookup ("batch" : Str) = some (.int batch) ∧ NetF K cs H x ni nt pms nds ∧ NetL cs H x ls
theorem NetL.but {cs : Cs} {H H' : Hp} {q b r : Addr} {rs ls : List Int} (B : Box H b r rs) (e : But b H H') (h : NetL cs H q ls) : NetL cs H' q ls := by
  obtain ⟨dx, fs, L, h1, h2, h3⟩ := h.ex
  obtain ⟨z, _, hb⟩ := B.ex
  refine ⟨dx, fs, L, e _ _ (fun w => by rw [w, hb] at h1; cases h1) h1, h2, e _ _ (fun w => ?_) h3⟩
  rw [w, hb] at h3
  rcases ls with _ | ⟨x, t⟩ <;> cases h3
section
variable {K : PySem.W.Frag} {cs : Cs} {H H' : Hp} {q : Addr} {ni nt : Int} {pms : List (Int × Int × Str × Int)} {nds : List Nd} {ls : List Int} {batch : Int}
theorem JNet.same (j : JNet K cs H q ni nt pms nds ls batch) (e : Same H H') : JNet K cs H' q ni nt pms nds ls batch := by
  obtain ⟨dx, fs, x, h1, h2, h3, h4, h5⟩ := j.ex
  exact ⟨dx, fs, x, e _ _ h1, h2, h3, h4.same e, h5.same e⟩
theorem JNet.but {b r : Addr} {rs : List Int} (j : JNet K cs H q ni nt pms nds ls batch) (B : Box H b r rs) (e : But b H H') : JNet K cs H' q ni nt pms nds ls batch := by
  obtain ⟨dx, fs, x, h1, h2, h3, h4, h5⟩ := j.ex
  obtain ⟨z, _, hb⟩ := B.ex
  exact ⟨dx, fs, x, e _ _ (fun w => by rw [w, hb] at h1; cases h1) h1, h2, h3, h4.but e hb, h5.but B e⟩
theorem JobO.j {seed factor point : Int} {rates : List (Int × Int)} {data : List (List Int × List Int)} (j : JobO K cs H q ni nt pms nds ls seed batch factor point rates data) : JNet K cs H q ni nt pms nds ls batch := by
  obtain ⟨dx, fs, x, RL, DL, h1, h2, h3, h4, h5, h6, h7, h8, h9, h10, h11, h12⟩ := j.ex
  exact ⟨dx, fs, x, h1, h2, h4, h9, h10⟩
end
theorem in_ints {k : Int} : ∀ {ks : List Int}, inV (.int k) (ks.map V.int) = decide (k ∈ ks)
  | [] => by simp [inV]
  | x :: r => by
    have e := in_ints (k := k) (ks := r)
    unfold inV at e ⊢
    rw [List.map_cons, List.any_cons, e]
    by_cases z : x = k
    · simp [z, eqV]
    · have z' : ¬ k = x := fun h => z h.symm
      simp [z, z', eqV]
theorem flat_ints (xs : List Int) : (xs.map V.int).all flatV = true := by
  rw [List.all_map, List.all_eq_true]
  intro x _
  rfl
theorem nodes_at {K : PySem.W.Frag} {H : Hp} {nr : List Addr} {nds : List Nd} {v : Int} (h : All2 (NdV K H) nr nds) (hv : inR v nds.length) : ∃ a, atI (nr.map V.ref) v = some (.ref a) ∧ SqT K H a (nth nds v).enc := by
  obtain ⟨h0, h1⟩ := hv
  have hk : v.toNat < nds.length := by omega
  have ek : v = ((v.toNat : Nat) : Int) := by omega
  have em : nds[v.toNat]? = some nds[v.toNat] := List.getElem?_eq_getElem hk
  obtain ⟨a, ea, hh⟩ := h.get em
  have en : nth nds v = nds[v.toNat] := by unfold nth; rw [List.getD_eq_getElem?_getD, em]; rfl
  refine ⟨a, ?_, by rw [en]; exact hh⟩
  have z : atI (nr.map V.ref) ((v.toNat : Nat) : Int) = some (.ref a) := atI_nat (by rw [List.getElem?_map, ea] <;> rfl)
  rwa [← ek] at z

def spOps (K : PySem.W.Frag) : Sp := fun vs H Q _ => ∃ (a : Addr) (d : Nd), vs = [.ref a] ∧ SqT K H a d.enc ∧ ∀ (p : Addr) (H' : Hp), H p = none → Same H H' → H' p = some (.lst (d.ops.map V.int)) → Q (.ref p) H'

/-! ### lengths of rows -/
def Nd.cls : Nd → Nat
  | .input => 0 | .target => 0 | .sum _ => 0 | .join .. => 0 | .take .. => 0 | .lin .. => 1 | .bias .. => 1 | .embed .. => 1 | .mat .. => 2 | .matT .. => 2 | .lower .. => 3 | _ => 4
inductive RowIs (ps : List (Int × Int)) (nds : List Nd) (ls : List Int) : Int → Int → Prop
  | own {v : Int} : (nth nds v).cls = 0 → RowIs ps nds ls v (lget ls v)
  | par {v p : Int} : (nth nds v).cls = 1 → (nth nds v).par = some p → RowIs ps nds ls v (pget ps p).2
  | mat {v k o : Int} : (nth nds v).cls = 2 → atI (nth nds v).enc 1 = some (.int k) → (nth nds v).ops.getLast? = some o → RowIs ps nds ls v (lget ls o / k)
  | low {v c : Int} : (nth nds v).cls = 3 → atI (nth nds v).enc 1 = some (.int c) → RowIs ps nds ls v c
  | via {v o R : Int} : (nth nds v).cls = 4 → (nth nds v).ops.head? = some o → RowIs ps nds ls o R → RowIs ps nds ls v R
theorem RowIs.eq {ps : List (Int × Int)} {nds : List Nd} {ls : List Int} {v R R' : Int} (a : RowIs ps nds ls v R) : RowIs ps nds ls v R' → R = R' := by
  induction a with
  | own h =>
    intro b
    cases b with
    | own => rfl
    | par g => rw [h] at g; cases g
    | mat g => rw [h] at g; cases g
    | low g => rw [h] at g; cases g
    | via g => rw [h] at g; cases g
  | par h hp =>
    intro b
    cases b with
    | own g => rw [h] at g; cases g
    | par g gp => rw [hp] at gp; cases gp; rfl
    | mat g => rw [h] at g; cases g
    | low g => rw [h] at g; cases g
    | via g => rw [h] at g; cases g
  | mat h hk ho =>
    intro b
    cases b with
    | own g => rw [h] at g; cases g
    | par g => rw [h] at g; cases g
    | mat g gk go => rw [hk] at gk; rw [ho] at go; cases gk; cases go; rfl
    | low g => rw [h] at g; cases g
    | via g => rw [h] at g; cases g
  | low h hc =>
    intro b
    cases b with
    | own g => rw [h] at g; cases g
    | par g => rw [h] at g; cases g
    | mat g => rw [h] at g; cases g
    | low g gc => rw [hc] at gc; cases gc; rfl
    | via g => rw [h] at g; cases g
  | via h ho _ ih =>
    intro b
    cases b with
    | own g => rw [h] at g; cases g
    | par g => rw [h] at g; cases g
    | mat g => rw [h] at g; cases g
    | low g => rw [h] at g; cases g
    | via g go gr => rw [ho] at go; cases go; exact ih gr
theorem Nd.in_own (d : Nd) : inV (.str d.kind) [.str "input", .str "target", .str "sum", .str "join", .str "take"] = decide (d.cls = 0) := by
  cases d <;> dsimp only [Nd.kind] <;> first | exact Eq.trans (by decide : _ = true) (decide_eq_true rfl).symm | exact Eq.trans (by decide : _ = false) (decide_eq_false (by simp [Nd.cls])).symm
theorem Nd.in_par (d : Nd) : inV (.str d.kind) [.str "lin", .str "bias", .str "embed"] = decide (d.cls = 1) := by
  cases d <;> dsimp only [Nd.kind] <;> first | exact Eq.trans (by decide : _ = true) (decide_eq_true rfl).symm | exact Eq.trans (by decide : _ = false) (decide_eq_false (by simp [Nd.cls])).symm
theorem Nd.in_mat (d : Nd) : d.kind ∈ (["mat", "matT"] : List Str) ↔ d.cls = 2 := by cases d <;> (dsimp only [Nd.kind, Nd.cls]; decide)
theorem Nd.in_par' (d : Nd) : d.kind ∈ (["lin", "bias", "embed"] : List Str) ↔ d.cls = 1 := by cases d <;> (dsimp only [Nd.kind, Nd.cls]; decide)
theorem Nd.in_own' (d : Nd) : d.kind ∈ (["input", "target", "sum", "join", "take"] : List Str) ↔ d.cls = 0 := by cases d <;> (dsimp only [Nd.kind, Nd.cls]; decide)
theorem Nd.is_low (d : Nd) : d.kind = ("lower" : Str) ↔ d.cls = 3 := by cases d <;> (dsimp only [Nd.kind, Nd.cls]; decide)
theorem Nd.cls_par {d : Nd} (h : d.cls = 1) : ∃ p, d.par = some p ∧ atI d.enc 1 = some (.int p) := by cases d <;> first | exact ⟨_, rfl, rfl⟩ | cases h
theorem Nd.cls_mat {d : Nd} (h : d.cls = 2) : ∃ k o, atI d.enc 1 = some (.int k) ∧ atI d.enc 3 = some (.int o) ∧ d.ops.getLast? = some o ∧ o ∈ d.ops ∧ ((∃ a b, d = .mat k a b) ∨ ∃ a b, d = .matT k a b) := by
  cases d <;> first | exact ⟨_, _, rfl, rfl, rfl, .tail _ (.head _), .inl ⟨_, _, rfl⟩⟩ | exact ⟨_, _, rfl, rfl, rfl, .tail _ (.head _), .inr ⟨_, _, rfl⟩⟩ | cases h
theorem Nd.cls_low {d : Nd} (h : d.cls = 3) : ∃ c, atI d.enc 1 = some (.int c) ∧ ∃ a, d = .lower c a := by cases d <;> first | exact ⟨_, rfl, _, rfl⟩ | cases h
theorem Nd.cls_via {d : Nd} (h : d.cls = 4) : ∃ o, d.ops.head? = some o ∧ o ∈ d.ops ∧ atI (d.ops.map V.int) 0 = some (.int o) := by cases d <;> first | exact ⟨_, rfl, .head _, rfl⟩ | cases h
theorem Nd.cls_le (d : Nd) : d.cls ≤ 4 := by cases d <;> simp [Nd.cls]
/-- what the kinds of rows promise in a built network -/
theorem Built.mat_at {ni nt : Int} {pms : List (Int × Int × Str × Int)} {nds : List Nd} {ls : List Int} (u : Built ni nt pms nds ls) {v k o : Int} (hv : inR v nds.length) (h2 : (nth nds v).cls = 2) (hk : atI (nth nds v).enc 1 = some (.int k)) (ho : (nth nds v).ops.getLast? = some o) :
    0 < k ∧ k ≤ 12 ∧ inR o ls.length ∧ 0 < lget ls o / k := by
  obtain ⟨w1, w2, w3⟩ := u.at hv
  obtain ⟨k', o', g1, g2, g3, g4, g5⟩ := Nd.cls_mat h2
  have ek : k' = k := by rw [g1] at hk; cases hk; rfl
  have eo : o' = o := by rw [g3] at ho; cases ho; rfl
  subst ek eo
  have bo := w2 _ g4
  have ro : inR o' ls.length := ⟨bo.1, by rw [u.all]; have := hv.2; omega⟩
  have lo := u.bnd _ (lget_mem ro)
  have fin : mult (lget ls o') k' → 0 < k' ∧ k' ≤ 12 ∧ inR o' ls.length ∧ 0 < lget ls o' / k' := fun h => by
    have hd := Int.le_of_dvd (by omega) (Int.dvd_of_emod_eq_zero h.2)
    refine ⟨h.1, by omega, ro, ?_⟩
    have e := Int.mul_ediv_add_emod (lget ls o') k'
    rw [h.2] at e
    refine Decidable.byContradiction fun c => ?_
    have := Int.mul_nonpos_of_nonneg_of_nonpos (Int.le_of_lt h.1) (show lget ls o' / k' ≤ 0 by omega)
    omega
  rcases g5 with ⟨a, c, e⟩ | ⟨a, c, e⟩
  all_goals
    rw [e] at w3 g3
    cases g3
    simp only [Nd.len] at w3
    split at w3
    · rename_i hh; exact fin hh.2
    · cases w3
theorem Built.low_at {ni nt : Int} {pms : List (Int × Int × Str × Int)} {nds : List Nd} {ls : List Int} (u : Built ni nt pms nds ls) {v c : Int} (hv : inR v nds.length) (h3 : (nth nds v).cls = 3) (hc : atI (nth nds v).enc 1 = some (.int c)) : 0 < c := by
  obtain ⟨w1, w2, w3⟩ := u.at hv
  obtain ⟨c', g1, a, e⟩ := Nd.cls_low h3
  rw [g1] at hc
  cases hc
  rw [e] at w3
  simp only [Nd.len] at w3
  split at w3
  · rename_i hh; exact hh.1
  · cases w3
theorem RowIs.pos {ni nt : Int} {pms : List (Int × Int × Str × Int)} {nds : List Nd} {ls : List Int} (u : Built ni nt pms nds ls) {v R : Int} (h : RowIs (sides pms) nds ls v R) : inR v nds.length → 0 < R := by
  induction h with
  | own h => intro hv; have := u.bnd _ (lget_mem (show inR _ ls.length from ⟨hv.1, by rw [u.all]; exact hv.2⟩)); omega
  | @par v p h hp =>
    intro hv
    have w1 := (u.at hv).1
    rw [hp] at w1
    have hk : p.toNat < pms.length := by have := w1.1; have := w1.2; omega
    have em : pms[p.toNat]? = some pms[p.toNat] := List.getElem?_eq_getElem hk
    have ok := u.pok _ (List.getElem_mem hk)
    have eg : pget (sides pms) p = (pms[p.toNat].1, pms[p.toNat].2.1) := by
      unfold pget sides
      rw [List.getD_eq_getElem?_getD, List.getElem?_map, em]
      rfl
    rw [eg]
    have := ok.2.2.1
    show 0 < pms[p.toNat].2.1
    omega
  | mat h hk ho => intro hv; exact (u.mat_at hv h hk ho).2.2.2
  | low h hc => intro hv; exact u.low_at hv h hc
  | via h ho _ ih =>
    intro hv
    obtain ⟨o', g1, g2, _⟩ := Nd.cls_via h
    rw [g1] at ho
    cases ho
    have := (u.at hv).2.1 _ g2
    exact ih ⟨this.1, by have := hv.2; omega⟩
theorem Built.low_le {ni nt : Int} {pms : List (Int × Int × Str × Int)} {nds : List Nd} {ls : List Int} (u : Built ni nt pms nds ls) {v c : Int} (hv : inR v nds.length) (h3 : (nth nds v).cls = 3) (hc : atI (nth nds v).enc 1 = some (.int c)) : c ≤ 12 := by
  obtain ⟨w1, w2, w3⟩ := u.at hv
  obtain ⟨c', g1, a, e⟩ := Nd.cls_low h3
  rw [g1] at hc
  cases hc
  rw [e] at w2 w3
  have bo := w2 a (.head _)
  have la := u.bnd _ (lget_mem (show inR a ls.length from ⟨bo.1, by rw [u.all]; have := hv.2; omega⟩))
  simp only [Nd.len] at w3
  split at w3
  · rename_i hh
    have hd := Int.le_of_dvd (by omega) (Int.dvd_of_emod_eq_zero hh.2)
    omega
  · cases w3
theorem RowIs.le {ni nt : Int} {pms : List (Int × Int × Str × Int)} {nds : List Nd} {ls : List Int} (u : Built ni nt pms nds ls) {v R : Int} (h : RowIs (sides pms) nds ls v R) : inR v nds.length → R ≤ 12 := by
  induction h with
  | own h => intro hv; have := u.bnd _ (lget_mem (show inR _ ls.length from ⟨hv.1, by rw [u.all]; exact hv.2⟩)); omega
  | @par v p h hp =>
    intro hv
    have w1 := (u.at hv).1
    rw [hp] at w1
    have hk : p.toNat < pms.length := by have := w1.1; have := w1.2; omega
    have em : pms[p.toNat]? = some pms[p.toNat] := List.getElem?_eq_getElem hk
    have ok := u.pok _ (List.getElem_mem hk)
    have eg : pget (sides pms) p = (pms[p.toNat].1, pms[p.toNat].2.1) := by
      unfold pget sides
      rw [List.getD_eq_getElem?_getD, List.getElem?_map, em]
      rfl
    rw [eg]
    have := ok.2.2.2.1
    show pms[p.toNat].2.1 ≤ 12
    omega
  | mat h hk ho =>
    intro hv
    have z := u.mat_at hv h hk ho
    have lo := u.bnd _ (lget_mem z.2.2.1)
    exact Int.le_trans (Int.ediv_le_self _ (by omega)) lo.2
  | low h hc => intro hv; exact u.low_le hv h hc
  | via h ho _ ih =>
    intro hv
    obtain ⟨o', g1, g2, _⟩ := Nd.cls_via h
    rw [g1] at ho
    cases ho
    have := (u.at hv).2.1 _ g2
    exact ih ⟨this.1, by have := hv.2; omega⟩
def spRowLen (K : PySem.W.Frag) (cs : Cs) : Sp := fun vs H Q _ => ∃ (x : Addr) (ni nt : Int) (pms : List (Int × Int × Str × Int)) (nds : List Nd) (ls : List Int) (v : Int), vs = [.ref x, .int v] ∧ NetF K cs H x ni nt pms nds ∧ NetL cs H x ls ∧ Built ni nt pms nds ls ∧ inR v nds.length ∧
  ∀ (R : Int) (H' : Hp), Same H H' → RowIs (sides pms) nds ls v R → Q (.int R) H'
def spLRowLen : Sp := fun vs H Q _ => ∃ (b r : Addr) (rs : List Int) (n PL NL LL : Addr) (ni nt : Int) (pms : List (Int × Int × Str × Int)) (nds : List Nd) (ls : List Int) (v : Int), vs = [.ref n, .int v] ∧ G H b r rs n PL NL LL ni nt pms nds ls ∧ Built ni nt pms nds ls ∧ inR v nds.length ∧ nds.length ≤ 1000 ∧
  ∀ (R : Int) (H' : Hp), Same H H' → RowIs (sides pms) nds ls v R → Q (.int R) H'

theorem Built.pg {ni nt : Int} {pms : List (Int × Int × Str × Int)} {nds : List Nd} {ls : List Int} (u : Built ni nt pms nds ls) {p : Int} (h : inR p pms.length) : (1 ≤ (pget (sides pms) p).1 ∧ (pget (sides pms) p).1 ≤ 6) ∧ 1 ≤ (pget (sides pms) p).2 ∧ (pget (sides pms) p).2 ≤ 6 := by
  have hk : p.toNat < pms.length := by have := h.1; have := h.2; omega
  have em : pms[p.toNat]? = some pms[p.toNat] := List.getElem?_eq_getElem hk
  have ok := u.pok _ (List.getElem_mem hk)
  have eg : pget (sides pms) p = (pms[p.toNat].1, pms[p.toNat].2.1) := by
    unfold pget sides
    rw [List.getD_eq_getElem?_getD, List.getElem?_map, em]
    rfl
  rw [eg]
  exact ⟨⟨ok.1, ok.2.1⟩, ok.2.2.1, ok.2.2.2.1⟩

section
variable {P : Program} {w : World} {K : PySem.W.Frag} {mg : Str → Option Value} {cs : Cs} {base : Heap} {f : Addr} {fd : FuncData}
theorem ok_operands (F : Fun K "operands" "operands" s_operands f fd) (T : Txt K mg cs w)  :
    FnOk P w K mg base CX0 1 f fd ["node"] (spOps K) := by
  obtain ⟨_, _, kd_OPERAND_PLACES⟩ := T.d_OPERAND_PLACES
  refine F.ok sc_operands (fun vs H Q E h => ?_) (fun cdv A outer s H vs Q E hr h => ?_)
  · obtain ⟨a, d, rfl, hA, q⟩ := h
    rfl
  obtain ⟨a, d, rfl, hA, q⟩ := h
  have hu := hr.units
  refine ⟨_, pss_one (ps_ret (pe_lc (own := [("at", 1)]) (g := gName 1) (tt := tYes)  rfl sc_operands.nd (pi_tup (pe_ix ix_kdict (pe_glob (v := .ref cs.OPERAND_PLACES) rfl T.g_OPERAND_PLACES rfl) (pe_ix (ixt_at (K := K) rfl) (pv 0) pe_int (fun _ _ => rfl)) (fun _ _ => rfl))) (blkOk_by (N := ["node", "at"]) (sc := defScope s_operands) (by decide +kernel)) (fun _ _ _ _ _ => (pg_name (i := 1) sc_operands.nd rfl (.inl rfl))) (fun _ _ _ _ _ => pts_nil) (fun _ _ _ _ _ => (pe_ix (ixt_at (K := K) rfl) (pv 0) (pv 1) (fun _ _ => rfl))))), ?_⟩
  obtain ⟨tp, etp, ktp⟩ := places_of T d
  refine ⟨_, rfl, a, _, _, _, rfl, rfl, hA, d.at0, cs.OPERAND_PLACES, d.kind, .ref tp, rfl, rfl, ⟨_, _, _, kd_OPERAND_PLACES.at_, kd_OPERAND_PLACES.lit, etp, rfl⟩, tp, rfl, ⟨_, ktp.sq H⟩, fun D nD => ?_⟩
  refine lc_tup (xs := d.places.map V.int) (fun (i : Nat) H' => Same H H' ∧ H' D = some (.lst ((d.ops.take i).map V.int))) ⟨same_new nD _, upd_same⟩ (fun i H' _ _ => ktp.sq H') (fun i x H' hx hP => ?_) (fun H' hP => ?_)
  · obtain ⟨e, hD⟩ := hP
    obtain ⟨z, rfl, hz⟩ := map_get hx
    obtain ⟨o, ho, eo⟩ := d.place_op i z hz
    refine ⟨rfl, _, rfl, _, rfl, a, _, _, _, rfl, rfl, Same.seqT e hA, eo, _, hD, ?_, same_mut e nD, ?_⟩
    · have h1 := d.len_ops
      have h2 : d.places.length ≤ 2 := by cases d <;> simp [Nd.places]
      exact smaller (by rw [List.length_map, List.length_take]; omega)
    · rw [upd_same, List.take_add_one, ho, List.map_append]
      rfl
  · obtain ⟨e, hD⟩ := hP
    rw [List.length_map, ← d.len_ops, List.take_length] at hD
    exact q D H' nD e hD

theorem ok_row_length (F : Fun K "row_length" "row_length" s_row_length f fd) (T : Txt K mg cs w) (d_operands : Def P w K mg base 1 "operands" ["node"] (spOps K)) :
    FnOk P w K mg base CX0 2 f fd ["net", "v"] (spRowLen K cs) := by
  obtain ⟨f0, fd0, G_operands, b_operands, g_operands, k_operands⟩ := d_operands.ex
  refine F.ok sc_row_length (fun vs H Q E h => ?_) (fun cdv A outer s H vs Q E hr h => ?_)
  · obtain ⟨x, ni, nt, pms, nds, ls, v0, rfl, F, N, u, hv0, q⟩ := h
    rfl
  obtain ⟨x, ni, nt, pms, nds, ls, v0, rfl, F, N, u, hv0, q⟩ := h
  have hu := hr.units
  refine ⟨_, pss_one (ps_while PassesOwn.never (pt_val pe_bl) (pss_cons (ps_set (i := 2) sc_row_length.nd rfl (.inl rfl) (pe_ix (ixl_at (K := K) rfl) (pe_fld_at (K := K) rfl (pv 0) rfl) (pv 1) (fun _ _ => rfl)))
 (pss_cons (ps_set (i := 3) sc_row_length.nd rfl (.inl rfl) (pe_ix (ixt_at (K := K) rfl) (pv 2) pe_int (fun _ _ => rfl)))
 (pss_cons (ps_if (pt_cmpR op_in_seq (pv 3) (pe_glob (v := .ref cs.OWN_ROWS) rfl T.g_OWN_ROWS rfl) (by with_unfolding_all rfl)) (pss_one (ps_ret (pe_ix (ixl_at (K := K) rfl) (pe_fld_at (K := K) rfl (pv 0) rfl) (pv 1) (fun _ _ => rfl)))) pss_nil)
 (pss_cons (ps_if (pt_cmpR op_in_seq (pv 3) (pe_glob (v := .ref cs.WITH_PARAMETER) rfl T.g_WITH_PARAMETER rfl) (by with_unfolding_all rfl)) (pss_one (ps_ret (pe_fld_at (K := K) rfl (pe_ix (ixl_at (K := K) rfl) (pe_fld_at (K := K) rfl (pv 0) rfl) (pe_ix (ixt_at (K := K) rfl) (pv 2) pe_int (fun _ _ => rfl)) (fun _ _ => rfl)) rfl))) pss_nil)
 (pss_cons (ps_if (pt_cmpR op_in_seq (pv 3) (pe_tup (pa_cons pe_str (pa_cons pe_str pa_nil))) (by with_unfolding_all rfl)) (pss_one (ps_ret (pe_op op_fdiv (pe_ix (ixl_at (K := K) rfl) (pe_fld_at (K := K) rfl (pv 0) rfl) (pe_ix (ixt_at (K := K) rfl) (pv 2) pe_int (fun _ _ => rfl)) (fun _ _ => rfl)) (pe_ix (ixt_at (K := K) rfl) (pv 2) pe_int (fun _ _ => rfl))))) pss_nil)
 (pss_cons (ps_if (pt_cmpR op_eq (pv 3) pe_str (nomark _)) (pss_one (ps_ret (pe_ix (ixt_at (K := K) rfl) (pv 2) pe_int (fun _ _ => rfl)))) pss_nil)
 (pss_one (ps_set (i := 1) sc_row_length.nd rfl (.inl rfl) (pe_ix (ixl_at (K := K) rfl) (pe_call G_operands hr rfl g_operands k_operands b_operands .nil pass0 (pa_cons (pv 2) pa_nil)) pe_int (fun _ _ => rfl))))))))))), ?_⟩
  obtain ⟨dy, gs, PP, NN, pr, nr, g1, g2, g3, g4, g5, g6, g7, g8, g9⟩ := F.ex
  obtain ⟨dz, hs, LL, k1, k2, k3⟩ := N.ex
  rw [g1] at k1
  cases k1
  have ul := u.all
  refine ⟨fun k σ H' => ∃ (y2 y3 : Option V) (v : Int), σ = [some (.ref x), some (.int v), y2, y3] ∧ Same H H' ∧ inR v nds.length ∧ (∀ R, RowIs (sides pms) nds ls v R → RowIs (sides pms) nds ls v0 R) ∧ k = v.toNat, ⟨_, none, none, v0, rfl, .refl H, hv0, fun R h => h, rfl⟩, fun k σ H' hW => ?_⟩
  obtain ⟨y2, y3, v, rfl, e, hv, up, rfl⟩ := hW
  refine ⟨true, rfl, iteT ?_⟩
  have rv : inR v ls.length := ⟨hv.1, by rw [ul]; exact hv.2⟩
  obtain ⟨a, ea, ha0⟩ := nodes_at g9 hv
  obtain ⟨w1, w2, w3⟩ := u.at hv
  have ha := Same.seqT e ha0
  obtain ⟨d, hd⟩ : ∃ d, d = nth nds v := ⟨_, rfl⟩
  have k0 : atI d.enc 0 = some (.str d.kind) := atI_nat (show d.enc[(0 : Nat)]? = some (.str d.kind) from rfl)
  rw [← hd] at ha w1 w2 w3
  have i0 : ∀ {H1 : Hp} (Q' : VK), Q' (.str d.kind) H1 → tVar 3 [some (.ref x), some (.int v), some (.ref a), some (.str d.kind)] H1 Q' := fun Q' q' => ⟨_, rfl, q'⟩
  refine ⟨fun σ' H'' => ∃ (y2 y3 : Option V) (o : Int), σ' = [some (.ref x), some (.int o), y2, y3] ∧ Same H H'' ∧ inR o nds.length ∧ (∀ R, RowIs (sides pms) nds ls o R → RowIs (sides pms) nds ls v0 R) ∧ o.toNat < v.toNat, fun σ' H'' hN => ?_, ?_⟩
  · obtain ⟨z2, z3, o, rfl, e', ho, up', lt⟩ := hN
    exact ⟨o.toNat, lt, z2, z3, o, rfl, e', ho, up', rfl⟩
  refine ⟨_, rfl, x, _, dy, gs, _, rfl, e _ _ g1, T.C_Net, T.na_Net_nodes, g5, _, rfl, NN, _, _, _, rfl, rfl, SqL.of (e _ _ g8), ea, ?_⟩
  refine ⟨_, rfl, a, _, _, _, rfl, rfl, ha, k0, ?_⟩
  refine ⟨_, rfl, cs.OWN_ROWS, _, rfl, .inr (T.t_OWN_ROWS.sq H'), rfl, rfl, _, rfl, ?_⟩
  rw [if_neg Bool.false_ne_true, d.in_own]
  by_cases c0 : d.cls = 0
  · refine iteD c0 ?_
    exact ⟨_, rfl, x, _, dy, gs, _, rfl, e _ _ g1, T.C_Net, T.na_Net_lengths, k2, _, rfl, LL, _, _, _, rfl, rfl, SqL.of (e _ _ k3), at_ints rv, q _ H' e (up _ (.own (by rw [← hd]; exact c0)))⟩
  refine iteDN c0 ?_
  refine ⟨_, rfl, cs.WITH_PARAMETER, _, rfl, .inr (T.t_WITH_PARAMETER.sq H'), rfl, rfl, _, rfl, ?_⟩
  rw [if_neg Bool.false_ne_true, d.in_par]
  by_cases c1 : d.cls = 1
  · refine iteD c1 ?_
    obtain ⟨p, hp, ap⟩ := Nd.cls_par c1
    rw [hp] at w1
    obtain ⟨pa, epa, dw, ws, hpa, p1, p2⟩ := at_pars (all_sides g7) (show inR p (sides pms).length by rw [sides_len]; exact w1)
    exact ⟨_, rfl, x, _, dy, gs, _, rfl, e _ _ g1, T.C_Net, T.na_Net_parameters, g4, _, rfl, a, _, _, _, rfl, rfl, ha, ap, PP, _, _, _, rfl, rfl, SqL.of (e _ _ g6), epa, pa, _, dw, ws, _, rfl, e _ _ hpa, T.C_Parameter, T.na_Parameter_cols, p2, q _ H' e (up _ (.par (by rw [← hd]; exact c1) (by rw [← hd]; exact hp)))⟩
  refine iteDN c1 ?_
  refine if_in ["mat", "matT"] i0 (by decide) (fun h H1 s1 => ?_) (fun h H1 s1 => ?_)
  · have c2 := d.in_mat.mp h
    obtain ⟨k, o, a1, a3, ol, oi, _⟩ := Nd.cls_mat c2
    have ma := u.mat_at hv (by rw [← hd]; exact c2) (by rw [← hd]; exact a1) (by rw [← hd]; exact ol)
    have e1 := e.trans s1
    have ha1 := Same.seqT s1 ha
    exact ⟨_, rfl, x, _, dy, gs, _, rfl, e1 _ _ g1, T.C_Net, T.na_Net_lengths, k2, _, rfl, a, _, _, _, rfl, rfl, ha1, a3, LL, _, _, _, rfl, rfl, SqL.of (e1 _ _ k3), at_ints ma.2.2.1, _, rfl, a, _, _, _, rfl, rfl, ha1, a1, _, _, rfl, rfl, ⟨ma.1, by omega⟩, q _ H1 e1 (up _ (.mat (by rw [← hd]; exact c2) (by rw [← hd]; exact a1) (by rw [← hd]; exact ol)))⟩
  have c2 : ¬ d.cls = 2 := fun z => h (d.in_mat.mpr z)
  have e1 := e.trans s1
  have ha1 := Same.seqT s1 ha
  refine if_is "lower" i0 (fun h => ?_) (fun h => ?_)
  · have c3 := d.is_low.mp h
    obtain ⟨c, a1, _⟩ := Nd.cls_low c3
    exact ⟨_, rfl, a, _, _, _, rfl, rfl, ha1, a1, q _ H1 e1 (up _ (.low (by rw [← hd]; exact c3) (by rw [← hd]; exact a1)))⟩
  have c3 : ¬ d.cls = 3 := fun z => h (d.is_low.mpr z)
  have c4 : d.cls = 4 := by have := d.cls_le; omega
  obtain ⟨o, oh, oi, ao⟩ := Nd.cls_via c4
  have bo := w2 o oi
  refine ⟨_, rfl, a, d, rfl, ha1, fun p H2 np s2 hp => ⟨p, _, _, _, rfl, rfl, SqL.of hp, ao, ?_⟩⟩
  exact ⟨_, _, o, rfl, e1.trans s2, ⟨bo.1, by have := hv.2; omega⟩, fun R h => up R (.via (by rw [← hd]; exact c4) (by rw [← hd]; exact oh) h), by omega⟩
end

/-! ### the same with a star among the arguments -/
section
variable {X : Cx} {k i : Nat} {x : Str} {p pos : Pos} {e : PySem.Expr} {es : List PySem.Expr} {t : TA}
theorem pe_callDS (hr : Room k X.A) (hN : X.N[i]? = some x) (hv : Vis X.env.scope x) (ha : PA X (e :: es) t)
    (hdb : (x == ("__debug__" : Str)) = false := by decide) (hcd : (x == ("__classdict__" : Str)) = false := by decide)
    (he : starEach (e :: es) X.env = (false, eval e X.env) :: starEach es X.env := by rfl) (hst : (backTo pos (starEach es X.env)).any (·.1) = true := by rfl) :
    PE X (.Call (.Name x p) (e :: es) [] pos) (tCallD X.prog X.w X.K X.mg X.base k i t) := by
  refine ⟨fun pins s σ H Q I h => ?_⟩
  obtain ⟨f, sp, hs, hS, ht⟩ := h
  obtain ⟨fd, ps, F, hk, hb⟩ := hS.ex
  refine wpAny_Call_Name_kw (thn ((pe_var (pos := p) hN hv hdb hcd).run pins s σ H (fun v H1 => v = .ref f ∧ H1 = H) I ⟨.ref f, hs, rfl, rfl⟩) fun u s1 ⟨v, H1, I1, r1, q1⟩ => ?_)
  obtain ⟨rfl, rfl⟩ := q1
  cases r1
  refine PySem.W.callWith_S2 (h₀ := X.base) I1.ok.mod.kin hk (thn (ha.run pos pins s1 σ _ _ I1 ht) fun us s2 ⟨vs, H2, I2, r, q⟩ => ⟨I2.kIn, ?_⟩) he hst
  refine run_fn F hr hb .nil (E := fun _ _ _ => False) (fun _ _ _ _ _ _ _ z => z.elim) I2 r ?_
  have e0 : vs ++ [] = vs := List.append_nil vs
  rw [e0]
  exact q
end

/-! ### sizes of sums -/
def Nd.prod : Nd → Bool
  | .lin .. => true | .mat .. => true | .matT .. => true | _ => false
def sidesOf (ps : List (Int × Int)) (nds : List Nd) (ls : List Int) (v : Int) : Int × Int × Int := match nth nds v with
  | .lin p a => (lget ls a / (pget ps p).1, (pget ps p).1, (pget ps p).2)
  | .mat k a b => (lget ls a / k, k, lget ls b / k)
  | .matT k a b => (lget ls a / k, k, lget ls b / k)
  | _ => (0, 0, 0)
def spSides (K : PySem.W.Frag) (cs : Cs) : Sp := fun vs H Q _ => ∃ (x : Addr) (ni nt : Int) (pms : List (Int × Int × Str × Int)) (nds : List Nd) (ls : List Int) (v : Int), vs = [.ref x, .int v] ∧ NetF K cs H x ni nt pms nds ∧ NetL cs H x ls ∧ Built ni nt pms nds ls ∧ inR v nds.length ∧ (nth nds v).prod = true ∧
  ∀ (p : Addr) (H' : Hp), Same H H' → H' p = some (.tup [.int (sidesOf (sides pms) nds ls v).1, .int (sidesOf (sides pms) nds ls v).2.1, .int (sidesOf (sides pms) nds ls v).2.2]) → Q (.ref p) H'
def spPreC (K : PySem.W.Frag) (cs : Cs) : Sp := fun vs H Q _ => ∃ (x : Addr) (ni nt : Int) (pms : List (Int × Int × Str × Int)) (nds : List Nd) (ls : List Int) (v : Int), vs = [.ref x, .int v] ∧ NetF K cs H x ni nt pms nds ∧ NetL cs H x ls ∧ Built ni nt pms nds ls ∧ inR v nds.length ∧ 0 < sumSz (sides pms) nds ls v ∧
  ∀ (H' : Hp), Same H H' → Q (.int (sumSz (sides pms) nds ls v)) H'
def spBacC (K : PySem.W.Frag) (cs : Cs) : Sp := fun vs H Q _ => ∃ (x : Addr) (ni nt : Int) (pms : List (Int × Int × Str × Int)) (nds : List Nd) (ls : List Int) (v s : Int), vs = [.ref x, .int v, .int s] ∧ NetF K cs H x ni nt pms nds ∧ NetL cs H x ls ∧ Built ni nt pms nds ls ∧ inR v nds.length ∧ 0 < backSz (sides pms) nds ls v s ∧
  ∀ (H' : Hp), Same H H' → Q (.int (backSz (sides pms) nds ls v s)) H'
theorem Nd.prod_cases {d : Nd} (h : d.prod = true) : (∃ p a, d = .lin p a) ∨ ∃ k a b, d = .mat k a b ∨ d = .matT k a b := by
  cases d <;> first | exact .inl ⟨_, _, rfl⟩ | exact .inr ⟨_, _, _, .inl rfl⟩ | exact .inr ⟨_, _, _, .inr rfl⟩ | cases h
theorem sides_facts {ni nt : Int} {pms : List (Int × Int × Str × Int)} {nds : List Nd} {ls : List Int} (u : Built ni nt pms nds ls) {v : Int} (hv : inR v nds.length) (h : (nth nds v).prod = true) :
    ∃ a t, atI ((nth nds v).ops.map V.int) 0 = some (.int a) ∧ inR a ls.length ∧ 0 < t ∧ t ≤ 12 ∧ (sidesOf (sides pms) nds ls v).1 = lget ls a / t ∧ (sidesOf (sides pms) nds ls v).2.1 = t ∧ (∀ R, RowIs (sides pms) nds ls v R → R = (sidesOf (sides pms) nds ls v).2.2) ∧
      ((∃ p, nth nds v = .lin p a ∧ inR p pms.length ∧ t = (pget (sides pms) p).1) ∨ (¬ (nth nds v).kind = "lin" ∧ atI (nth nds v).enc 1 = some (.int t))) := by
  obtain ⟨w1, w2, w3⟩ := u.at hv
  rcases Nd.prod_cases h with ⟨p, a, e⟩ | ⟨k, a, b, e⟩
  · have es : sidesOf (sides pms) nds ls v = (lget ls a / (pget (sides pms) p).1, (pget (sides pms) p).1, (pget (sides pms) p).2) := by unfold sidesOf; rw [e]
    rw [e] at w1 w2
    have bo := w2 a (.head _)
    have pg := u.pg (p := p) w1
    refine ⟨a, _, by rw [e]; rfl, ⟨bo.1, by rw [u.all]; have := hv.2; omega⟩, by omega, by omega, by rw [es], by rw [es], fun R hR => ?_, .inl ⟨p, e, w1, rfl⟩⟩
    rw [es]
    exact hR.eq (.par (by rw [e]; rfl) (by rw [e]; rfl))
  · have m2 : (nth nds v).cls = 2 := by rcases e with e | e <;> rw [e] <;> rfl
    have e1 : atI (nth nds v).enc 1 = some (.int k) := by rcases e with e | e <;> rw [e] <;> rfl
    have eo : (nth nds v).ops = [a, b] := by rcases e with e | e <;> rw [e] <;> rfl
    have ma := u.mat_at hv m2 e1 (o := b) (by rw [eo]; rfl)
    have es : sidesOf (sides pms) nds ls v = (lget ls a / k, k, lget ls b / k) := by unfold sidesOf; rcases e with e | e <;> rw [e]
    rw [eo] at w2
    have bo := w2 a (.head _)
    refine ⟨a, k, by rw [eo]; rfl, ⟨bo.1, by rw [u.all]; have := hv.2; omega⟩, ma.1, ma.2.1, by rw [es], by rw [es], fun R hR => ?_, .inr ⟨by rcases e with e | e <;> rw [e] <;> (dsimp only [Nd.kind]; decide), e1⟩⟩
    rw [es]
    exact hR.eq (.mat m2 e1 (by rw [eo]; rfl))
theorem Nd.is_sum {d : Nd} (h : d.kind = "sum") : ∃ a, d = .sum a := by
  cases d <;> first | exact ⟨_, rfl⟩ | exact absurd h (by dsimp only [Nd.kind]; decide)
theorem sum_prod {ps : List (Int × Int)} {nds : List Nd} {ls : List Int} {v : Int} (h : 0 < sumSz ps nds ls v) (n : ¬ (nth nds v).kind = "sum") : (nth nds v).prod = true ∧ sumSz ps nds ls v = (sidesOf ps nds ls v).2.1 := by
  unfold sumSz at h
  unfold sumSz sidesOf
  cases e : nth nds v <;> rw [e] at h n <;> first | exact ⟨rfl, rfl⟩ | exact absurd rfl n | exact absurd h (Int.lt_irrefl 0)
theorem back_prod {ps : List (Int × Int)} {nds : List Nd} {ls : List Int} {v s : Int} (h : 0 < backSz ps nds ls v s) : (nth nds v).prod = true ∧ backSz ps nds ls v s = if s = 0 then (sidesOf ps nds ls v).2.2 else (sidesOf ps nds ls v).1 := by
  unfold backSz at h
  unfold backSz sidesOf
  cases e : nth nds v <;> rw [e] at h <;> dsimp only at h ⊢ <;> first | exact absurd h (Int.lt_irrefl 0) | skip
  all_goals
    refine ⟨rfl, ?_⟩
    split
    all_goals first | rfl | (rename_i z; rw [if_neg z] at h; exact absurd h (Int.lt_irrefl 0)) | (rename_i z; simp only [z, if_true, if_false])

section
variable {P : Program} {w : World} {K : PySem.W.Frag} {mg : Str → Option Value} {cs : Cs} {base : Heap} {f : Addr} {fd : FuncData}
theorem ok_sides (F : Fun K "sides" "sides" s_sides f fd) (T : Txt K mg cs w) (d_operands : Def P w K mg base 1 "operands" ["node"] (spOps K)) (d_row_length : Def P w K mg base 2 "row_length" ["net", "v"] (spRowLen K cs)) :
    FnOk P w K mg base CX0 3 f fd ["net", "v"] (spSides K cs) := by
  obtain ⟨f0, fd0, G_operands, b_operands, g_operands, k_operands⟩ := d_operands.ex
  obtain ⟨f1, fd1, G_row_length, b_row_length, g_row_length, k_row_length⟩ := d_row_length.ex
  refine F.ok sc_sides (fun vs H Q E h => ?_) (fun cdv A outer s H vs Q E hr h => ?_)
  · obtain ⟨x, ni, nt, pms, nds, ls, v, rfl, F, N, u, hv, hpr, q⟩ := h
    rfl
  obtain ⟨x, ni, nt, pms, nds, ls, v, rfl, F, N, u, hv, hpr, q⟩ := h
  have hu := hr.units
  refine ⟨_, pss_cons (ps_set (i := 2) sc_sides.nd rfl (.inl rfl) (pe_ix (ixl_at (K := K) rfl) (pe_fld_at (K := K) rfl (pv 0) rfl) (pv 1) (fun _ _ => rfl)))
 (pss_cons (ps_set (i := 3) sc_sides.nd rfl (.inl rfl) (pe_ix (ixl_at (K := K) rfl) (pe_call G_operands (hr.mono (by decide)) rfl g_operands k_operands b_operands .nil pass0 (pa_cons (pv 2) pa_nil)) pe_int (fun _ _ => rfl)))
 (pss_cons (ps_set (i := 4) sc_sides.nd rfl (.inl rfl) (pe_ifExp (pt_cmpR op_eq (pe_ix (ixt_at (K := K) rfl) (pv 2) pe_int (fun _ _ => rfl)) pe_str (nomark _)) (pe_fld_at (K := K) rfl (pe_ix (ixl_at (K := K) rfl) (pe_fld_at (K := K) rfl (pv 0) rfl) (pe_ix (ixt_at (K := K) rfl) (pv 2) pe_int (fun _ _ => rfl)) (fun _ _ => rfl)) rfl) (pe_ix (ixt_at (K := K) rfl) (pv 2) pe_int (fun _ _ => rfl))))
 (pss_one (ps_ret (pe_tup (pa_cons (pe_op op_fdiv (pe_ix (ixl_at (K := K) rfl) (pe_fld_at (K := K) rfl (pv 0) rfl) (pv 3) (fun _ _ => rfl)) (pv 4)) (pa_cons (pv 4) (pa_cons (pe_call G_row_length hr rfl g_row_length k_row_length b_row_length .nil pass0 (pa_cons (pv 0) (pa_cons (pv 1) pa_nil))) pa_nil)))))))), ?_⟩
  obtain ⟨dy, gs, PP, NN, pr, nr, g1, g2, g3, g4, g5, g6, g7, g8, g9⟩ := F.ex
  obtain ⟨dz, hs, LL, k1, k2, k3⟩ := N.ex
  rw [g1] at k1
  cases k1
  obtain ⟨a, ea, ha⟩ := nodes_at g9 hv
  obtain ⟨a', t, ao, ra, t0, t9, e1, e2, e3, cs3⟩ := sides_facts u hv hpr
  have k0 : atI (nth nds v).enc 0 = some (.str (nth nds v).kind) := (nth nds v).at0
  refine ⟨_, rfl, x, _, dy, gs, _, rfl, g1, T.C_Net, T.na_Net_nodes, g5, _, rfl, NN, _, _, _, rfl, rfl, SqL.of g8, ea, ?_⟩
  refine ⟨_, rfl, a, _, rfl, ha, fun p1 H1 n1 s1 h1 => ⟨p1, _, _, _, rfl, rfl, SqL.of h1, ao, ?_⟩⟩
  have ha1 := Same.seqT s1 ha
  refine ⟨_, rfl, a, _, _, _, rfl, rfl, ha1, k0, rfl, _, rfl, ?_⟩
  rw [e1, e2] at q
  have fin : ∀ (R : Int) (H2 : Hp) (p : Addr), Same H1 H2 → RowIs (sides pms) nds ls v R → H2 p = none → Q (.ref p) (upd H2 p (.tup [.int (lget ls a' / t), .int t, .int R])) := fun R H2 p s2 hR np => by
    rw [← e3 R hR] at q
    exact q p _ ((s1.trans s2).trans (same_new np _)) upd_same
  rcases cs3 with ⟨pp, ed, hp, et⟩ | ⟨nl, at1⟩
  · obtain ⟨pa, epa, dw, ws, hpa, p1', p2'⟩ := at_pars (all_sides g7) (show inR pp (sides pms).length by rw [sides_len]; exact hp)
    have at1 : atI (nth nds v).enc 1 = some (.int pp) := by rw [ed]; rfl
    refine iteD (by rw [ed]; rfl) ?_
    refine ⟨_, rfl, x, _, dy, gs, _, rfl, s1 _ _ g1, T.C_Net, T.na_Net_parameters, g4, _, rfl, a, _, _, _, rfl, rfl, ha1, at1, PP, _, _, _, rfl, rfl, SqL.of (s1 _ _ g6), epa, pa, _, dw, ws, _, rfl, s1 _ _ hpa, T.C_Parameter, T.na_Parameter_rows, p1', ?_⟩
    rw [← et]
    refine ⟨_, rfl, x, _, dy, gs, _, rfl, s1 _ _ g1, T.C_Net, T.na_Net_lengths, k2, _, rfl, LL, _, _, _, rfl, rfl, SqL.of (s1 _ _ k3), at_ints ra, _, rfl, _, _, rfl, rfl, ⟨t0, by omega⟩, _, rfl, _, rfl, _, rfl, x, ni, nt, pms, nds, ls, v, rfl, F.same s1, N.same s1, u, hv, fun R H2 s2 hR => ?_⟩
    exact ⟨by show 3 ≤ sizeLine; decide, fun p np => fin R H2 p s2 hR np⟩
  · refine iteDN (fun z => nl (V.str.inj z)) ?_
    refine ⟨_, rfl, a, _, _, _, rfl, rfl, ha1, at1, ?_⟩
    refine ⟨_, rfl, x, _, dy, gs, _, rfl, s1 _ _ g1, T.C_Net, T.na_Net_lengths, k2, _, rfl, LL, _, _, _, rfl, rfl, SqL.of (s1 _ _ k3), at_ints ra, _, rfl, _, _, rfl, rfl, ⟨t0, by omega⟩, _, rfl, _, rfl, _, rfl, x, ni, nt, pms, nds, ls, v, rfl, F.same s1, N.same s1, u, hv, fun R H2 s2 hR => ?_⟩
    exact ⟨by show 3 ≤ sizeLine; decide, fun p np => fin R H2 p s2 hR np⟩
theorem ok_pre_count (F : Fun K "pre_count" "pre_count" s_pre_count f fd) (T : Txt K mg cs w) (d_sides : Def P w K mg base 3 "sides" ["net", "v"] (spSides K cs)) :
    FnOk P w K mg base CX0 4 f fd ["net", "v"] (spPreC K cs) := by
  obtain ⟨f0, fd0, G_sides, b_sides, g_sides, k_sides⟩ := d_sides.ex
  refine F.ok sc_pre_count (fun vs H Q E h => ?_) (fun cdv A outer s H vs Q E hr h => ?_)
  · obtain ⟨x, ni, nt, pms, nds, ls, v, rfl, F, N, u, hv, hpos, q⟩ := h
    rfl
  obtain ⟨x, ni, nt, pms, nds, ls, v, rfl, F, N, u, hv, hpos, q⟩ := h
  have hu := hr.units
  refine ⟨_, pss_cons (ps_set (i := 2) sc_pre_count.nd rfl (.inl rfl) (pe_ix (ixl_at (K := K) rfl) (pe_fld_at (K := K) rfl (pv 0) rfl) (pv 1) (fun _ _ => rfl)))
 (pss_cons (ps_if (pt_cmpR op_eq (pe_ix (ixt_at (K := K) rfl) (pv 2) pe_int (fun _ _ => rfl)) pe_str (nomark _)) (pss_one (ps_ret (pe_ix (ixl_at (K := K) rfl) (pe_fld_at (K := K) rfl (pv 0) rfl) (pe_ix (ixt_at (K := K) rfl) (pv 2) pe_int (fun _ _ => rfl)) (fun _ _ => rfl)))) pss_nil)
 (pss_one (ps_ret (pe_ix (ixt_at (K := K) rfl) (pe_call G_sides hr rfl g_sides k_sides b_sides .nil pass0 (pa_cons (pv 0) (pa_cons (pv 1) pa_nil))) pe_int (fun _ _ => rfl))))), ?_⟩
  obtain ⟨dy, gs, PP, NN, pr, nr, g1, g2, g3, g4, g5, g6, g7, g8, g9⟩ := F.ex
  obtain ⟨dz, hs, LL, k1, k2, k3⟩ := N.ex
  rw [g1] at k1
  cases k1
  obtain ⟨a, ea, ha⟩ := nodes_at g9 hv
  have k0 : atI (nth nds v).enc 0 = some (.str (nth nds v).kind) := (nth nds v).at0
  refine ⟨_, rfl, x, _, dy, gs, _, rfl, g1, T.C_Net, T.na_Net_nodes, g5, _, rfl, NN, _, _, _, rfl, rfl, SqL.of g8, ea, ?_⟩
  have i0 : ∀ Q' : VK, Q' (.str (nth nds v).kind) H → tOp (rIxT K) (tVar 2) (tC (.int 0)) [some (.ref x), some (.int v), some (.ref a)] H Q' := fun Q' q' => ⟨_, rfl, a, _, _, _, rfl, rfl, ha, k0, q'⟩
  refine if_is "sum" i0 (fun h => ?_) (fun h => ?_)
  · obtain ⟨o, ed⟩ := Nd.is_sum h
    have w2 := (u.at hv).2.1
    rw [ed] at w2
    have bo := w2 o (.head _)
    have at1 : atI (nth nds v).enc 1 = some (.int o) := by rw [ed]; rfl
    have es : sumSz (sides pms) nds ls v = lget ls o := by unfold sumSz; rw [ed]
    rw [es] at q
    exact ⟨_, rfl, x, _, dy, gs, _, rfl, g1, T.C_Net, T.na_Net_lengths, k2, _, rfl, a, _, _, _, rfl, rfl, ha, at1, LL, _, _, _, rfl, rfl, SqL.of k3, at_ints (show inR o ls.length from ⟨bo.1, by rw [u.all]; have := hv.2; omega⟩), q _ (.refl H)⟩
  · obtain ⟨hpr, es⟩ := sum_prod hpos h
    rw [es] at q
    exact ⟨_, rfl, _, rfl, x, ni, nt, pms, nds, ls, v, rfl, F, N, u, hv, hpr, fun p H1 s1 h1 => ⟨p, _, _, _, rfl, rfl, SqT.of h1, rfl, q _ s1⟩⟩
theorem ok_bac_count (F : Fun K "bac_count" "bac_count" s_bac_count f fd) (T : Txt K mg cs w) (d_sides : Def P w K mg base 3 "sides" ["net", "v"] (spSides K cs)) :
    FnOk P w K mg base CX0 4 f fd ["net", "u", "s"] (spBacC K cs) := by
  obtain ⟨f0, fd0, G_sides, b_sides, g_sides, k_sides⟩ := d_sides.ex
  refine F.ok sc_bac_count (fun vs H Q E h => ?_) (fun cdv A outer s H vs Q E hr h => ?_)
  · obtain ⟨x, ni, nt, pms, nds, ls, v, s', rfl, F, N, u, hv, hpos, q⟩ := h
    rfl
  obtain ⟨x, ni, nt, pms, nds, ls, v, s', rfl, F, N, u, hv, hpos, q⟩ := h
  have hu := hr.units
  refine ⟨_, pss_cons (ps_asg (pe_call G_sides hr rfl g_sides k_sides b_sides .nil pass0 (pa_cons (pv 0) (pa_cons (pv 1) pa_nil))) (pg_tup rfl (pgs_cons (pg_name (i := 3) sc_bac_count.nd rfl (.inl rfl)) (pgs_cons (pg_name (i := 4) sc_bac_count.nd rfl (.inl rfl)) (pgs_cons (pg_name (i := 5) sc_bac_count.nd rfl (.inl rfl)) pgs_nil)))))
 (pss_one (ps_ret (pe_ifExp (pt_cmpR op_eq (pv 2) pe_int (nomark _)) (pv 5) (pv 3)))), ?_⟩
  obtain ⟨hpr, es⟩ := back_prod hpos
  rw [es] at q
  refine ⟨_, rfl, _, rfl, x, ni, nt, pms, nds, ls, v, rfl, F, N, u, hv, hpr, fun p H1 s1 h1 => ⟨p, _, rfl, SqT.of h1, rfl, _, _, rfl, _, _, rfl, _, _, rfl, rfl, ?_⟩⟩
  refine ⟨_, rfl, rfl, _, rfl, ?_⟩
  by_cases z : s' = 0
  · rw [if_pos z] at q
    exact iteD (congrArg V.int z) ⟨_, rfl, q _ s1⟩
  · rw [if_neg z] at q
    exact iteDN (fun h => z (V.int.inj h)) ⟨_, rfl, q _ s1⟩

end

/-! ### is a tuple a name of the job -/
theorem Nm.at0 (m : Nm) : atI m.enc 0 = some (.str m.kind) := atI_nat (j := 0) rfl
theorem Nm.re (m : Nm) (ns : List Int) (h : ns.length = m.nums.length) : ∃ m' : Nm, m'.kind = m.kind ∧ m'.nums = ns := by
  cases m with
  | par => exact match ns, h with | [a, b, c, d], _ => ⟨.par a b c d, rfl, rfl⟩
  | mom => exact match ns, h with | [a, b, c, d], _ => ⟨.mom a b c d, rfl, rfl⟩
  | val => exact match ns, h with | [a, b, c, d], _ => ⟨.val a b c d, rfl, rfl⟩
  | pre => exact match ns, h with | [a, b, c, d, e, f], _ => ⟨.pre a b c d e f, rfl, rfl⟩
  | inc => exact match ns, h with | [a, b, c, d, e], _ => ⟨.inc a b c d e, rfl, rfl⟩
  | bac => exact match ns, h with | [a, b, c, d, e, f, g], _ => ⟨.bac a b c d e f g, rfl, rfl⟩
  | grd => exact match ns, h with | [a, b, c, d, e, f], _ => ⟨.grd a b c d e f, rfl, rfl⟩
  | los => exact match ns, h with | [a, b, c], _ => ⟨.los a b c, rfl, rfl⟩
theorem Nm.enc_len (m : Nm) : m.enc.length = m.nums.length + 1 ∧ 3 ≤ m.nums.length ∧ m.nums.length ≤ 7 := by cases m <;> exact ⟨rfl, by simp [Nm.nums], by simp [Nm.nums]⟩
def posN (m : Nm) : Prop := ∀ z ∈ m.nums, 0 ≤ z
def cellR (pms : List (Int × Int × Str × Int)) (p i j : Int) : Prop := inR p pms.length ∧ (0 ≤ i ∧ i < (pget (sides pms) p).1) ∧ 0 ≤ j ∧ j < (pget (sides pms) p).2
def elemOk (nds : List Nd) (ls : List Int) (batch t v j : Int) : Prop := (0 ≤ t ∧ t < batch) ∧ inR v nds.length ∧ 0 ≤ j ∧ j < lget ls v
def preOk (ps : List (Int × Int)) (nds : List Nd) (ls : List Int) (batch t v j lo hi : Int) : Prop := elemOk nds ls batch t v j ∧ 0 < sumSz ps nds ls v ∧ rngOk lo hi (sumSz ps nds ls v)
def bacOk (ps : List (Int × Int)) (nds : List Nd) (ls : List Int) (batch t u s i lo hi : Int) : Prop := (0 ≤ t ∧ t < batch) ∧ inR u nds.length ∧ inR s (nth nds u).ops.length ∧ (0 ≤ i ∧ i < lget ls (opAt nds u s)) ∧ 0 < backSz ps nds ls u s ∧ rngOk lo hi (backSz ps nds ls u s)
def spIsName (K : PySem.W.Frag) (cs : Cs) : Sp := fun vs H Q _ => ∃ (q a : Addr) (ni nt : Int) (pms : List (Int × Int × Str × Int)) (nds : List Nd) (ls : List Int) (batch : Int) (m : Nm), vs = [.ref q, .ref a] ∧ JNet K cs H q ni nt pms nds ls batch ∧ Built ni nt pms nds ls ∧ SqT K H a m.enc ∧ posN m ∧
  ∀ (bv : Bool) (H' : Hp), Same H H' → (bv = true ↔ m.ok pms nds ls batch) → Q (.bl bv) H'
def spIsCell (K : PySem.W.Frag) (cs : Cs) : Sp := fun vs H Q _ => ∃ (q : Addr) (ni nt : Int) (pms : List (Int × Int × Str × Int)) (nds : List Nd) (ls : List Int) (batch p i j : Int), vs = [.ref q, .int p, .int i, .int j] ∧ JNet K cs H q ni nt pms nds ls batch ∧ (0 ≤ p ∧ 0 ≤ i ∧ 0 ≤ j) ∧
  ∀ (bv : Bool), (bv = true ↔ cellR pms p i j) → Q (.bl bv) H
def spIsElem (K : PySem.W.Frag) (cs : Cs) : Sp := fun vs H Q _ => ∃ (q : Addr) (ni nt : Int) (pms : List (Int × Int × Str × Int)) (nds : List Nd) (ls : List Int) (batch t v j : Int), vs = [.ref q, .int t, .int v, .int j] ∧ JNet K cs H q ni nt pms nds ls batch ∧ Built ni nt pms nds ls ∧ (0 ≤ t ∧ 0 ≤ v ∧ 0 ≤ j) ∧
  ∀ (bv : Bool), (bv = true ↔ elemOk nds ls batch t v j) → Q (.bl bv) H
def spIsPre (K : PySem.W.Frag) (cs : Cs) : Sp := fun vs H Q _ => ∃ (q : Addr) (ni nt : Int) (pms : List (Int × Int × Str × Int)) (nds : List Nd) (ls : List Int) (batch t v j lo hi : Int), vs = [.ref q, .int t, .int v, .int j, .int lo, .int hi] ∧ JNet K cs H q ni nt pms nds ls batch ∧ Built ni nt pms nds ls ∧ (0 ≤ t ∧ 0 ≤ v ∧ 0 ≤ j ∧ 0 ≤ lo) ∧
  ∀ (bv : Bool) (H' : Hp), Same H H' → (bv = true ↔ preOk (sides pms) nds ls batch t v j lo hi) → Q (.bl bv) H'
def spIsInc (K : PySem.W.Frag) (cs : Cs) : Sp := fun vs H Q _ => ∃ (q : Addr) (ni nt : Int) (pms : List (Int × Int × Str × Int)) (nds : List Nd) (ls : List Int) (batch t v j u : Int), vs = [.ref q, .int t, .int v, .int j, .int u] ∧ JNet K cs H q ni nt pms nds ls batch ∧ Built ni nt pms nds ls ∧ (0 ≤ t ∧ 0 ≤ v ∧ 0 ≤ j) ∧
  ∀ (bv : Bool), (bv = true ↔ (elemOk nds ls batch t v j ∧ v + 1 ≤ u ∧ u ≤ (nds.length : Int))) → Q (.bl bv) H
def spIsBac (K : PySem.W.Frag) (cs : Cs) : Sp := fun vs H Q _ => ∃ (q : Addr) (ni nt : Int) (pms : List (Int × Int × Str × Int)) (nds : List Nd) (ls : List Int) (batch t u s i lo hi : Int), vs = [.ref q, .int t, .int u, .int s, .int i, .int lo, .int hi] ∧ JNet K cs H q ni nt pms nds ls batch ∧ Built ni nt pms nds ls ∧ (0 ≤ t ∧ 0 ≤ u ∧ 0 ≤ s ∧ 0 ≤ i ∧ 0 ≤ lo) ∧
  ∀ (bv : Bool) (H' : Hp), Same H H' → (bv = true ↔ bacOk (sides pms) nds ls batch t u s i lo hi) → Q (.bl bv) H'
def spIsGrd (K : PySem.W.Frag) (cs : Cs) : Sp := fun vs H Q _ => ∃ (q : Addr) (ni nt : Int) (pms : List (Int × Int × Str × Int)) (nds : List Nd) (ls : List Int) (batch p i j lo hi : Int), vs = [.ref q, .int p, .int i, .int j, .int lo, .int hi] ∧ JNet K cs H q ni nt pms nds ls batch ∧ (0 ≤ p ∧ 0 ≤ i ∧ 0 ≤ j ∧ 0 ≤ lo) ∧
  ∀ (bv : Bool), (bv = true ↔ (cellR pms p i j ∧ rngOk lo hi batch)) → Q (.bl bv) H
def spIsLos (K : PySem.W.Frag) (cs : Cs) : Sp := fun vs H Q _ => ∃ (q : Addr) (ni nt : Int) (pms : List (Int × Int × Str × Int)) (nds : List Nd) (ls : List Int) (batch lo hi : Int), vs = [.ref q, .int lo, .int hi] ∧ JNet K cs H q ni nt pms nds ls batch ∧ 0 ≤ lo ∧
  ∀ (bv : Bool), (bv = true ↔ rngOk lo hi batch) → Q (.bl bv) H
/-! facts of sizes -/
def sumKs : List Str := ["lin", "mat", "matT", "sum"]
def bacKs : List Str := ["lin", "mat", "matT"]
theorem prod_kind {d : Nd} : d.kind ∈ bacKs ↔ d.prod = true := by cases d <;> (dsimp only [Nd.kind, Nd.prod]; decide)
theorem sum_kind {d : Nd} : d.kind ∈ sumKs ↔ (d.prod = true ∨ ∃ a, d = .sum a) := by
  cases d <;> first
    | exact ⟨fun h => absurd h (by dsimp only [Nd.kind]; decide), fun h => by rcases h with h | ⟨_, h⟩ <;> cases h⟩
    | exact ⟨fun _ => .inl rfl, fun _ => by dsimp only [Nd.kind]; decide⟩
    | exact ⟨fun _ => .inr ⟨_, rfl⟩, fun _ => by dsimp only [Nd.kind]; decide⟩
theorem lop_pos {ni nt : Int} {pms : List (Int × Int × Str × Int)} {nds : List Nd} {ls : List Int} (u : Built ni nt pms nds ls) {v : Int} (hv : inR v nds.length) : ∀ o ∈ (nth nds v).ops, inR o nds.length ∧ 1 ≤ lget ls o := fun o ho => by
  have w2 := (u.at hv).2.1 o ho
  have r : inR o nds.length := ⟨w2.1, by have := w2.2; have := hv.2; omega⟩
  exact ⟨r, (u.bnd _ (lget_mem (show inR o ls.length by rw [u.all]; exact r))).1⟩
theorem div_pos {n k : Int} (hk : 0 < k) (he : n % k = 0) (hn : 1 ≤ n) : 0 < n / k := by
  have e := Int.mul_ediv_add_emod n k
  rw [he] at e
  refine Decidable.byContradiction fun c => ?_
  have c1 : n / k ≤ 0 := by omega
  have := Int.mul_nonpos_of_nonneg_of_nonpos (Int.le_of_lt hk) c1
  omega
theorem back_pos {ni nt : Int} {pms : List (Int × Int × Str × Int)} {nds : List Nd} {ls : List Int} (u : Built ni nt pms nds ls) {v s : Int} (hv : inR v nds.length) (hp : (nth nds v).prod = true) (hs : inR s (nth nds v).ops.length) : 0 < backSz (sides pms) nds ls v s := by
  obtain ⟨w1, w2, w3⟩ := u.at hv
  have lp := lop_pos u hv
  obtain ⟨s0, s1⟩ := hs
  unfold backSz
  rcases Nd.prod_cases hp with ⟨p, a, e⟩ | ⟨k, a, b, e⟩
  · rw [e] at w1 s1 ⊢
    have s1 : s < 1 := s1
    have pg := u.pg (p := p) w1
    show 0 < (if s = 0 then (pget (sides pms) p).2 else (0 : Int))
    rw [if_pos (by omega)]
    omega
  · rcases e with e | e
    all_goals
      rw [e] at w3 lp ⊢
      simp only [Nd.len] at w3
      split at w3
      · rename_i hh
        have la := (lp a (.head _)).2
        have lb := (lp b (.tail _ (.head _))).2
        show 0 < lget ls (if s = 0 then b else a) / k
        split
        · exact div_pos hh.2.1 hh.2.2 lb
        · exact div_pos hh.1.1 hh.1.2 la
      · cases w3
theorem back_none {ps : List (Int × Int)} {nds : List Nd} {ls : List Int} {v s : Int} (hp : ¬ (nth nds v).prod = true) : backSz ps nds ls v s = 0 := by
  unfold backSz
  cases e : nth nds v <;> rw [e] at hp <;> first | rfl | exact absurd rfl hp
theorem sum_pos {ni nt : Int} {pms : List (Int × Int × Str × Int)} {nds : List Nd} {ls : List Int} (u : Built ni nt pms nds ls) {v : Int} (hv : inR v nds.length) : (nth nds v).kind ∈ sumKs ↔ 0 < sumSz (sides pms) nds ls v := by
  obtain ⟨w1, w2, w3⟩ := u.at hv
  have lp := lop_pos u hv
  unfold sumSz
  cases e : nth nds v with
  | lin p a =>
    rw [e] at w1
    have pg := u.pg (p := p) w1
    exact ⟨fun _ => (show 0 < (pget (sides pms) p).1 by omega), fun _ => by dsimp only [Nd.kind]; decide⟩
  | mat k a b =>
    rw [e] at w3
    simp only [Nd.len] at w3
    split at w3
    · rename_i hh; exact ⟨fun _ => hh.1.1, fun _ => by dsimp only [Nd.kind]; decide⟩
    · cases w3
  | matT k a b =>
    rw [e] at w3
    simp only [Nd.len] at w3
    split at w3
    · rename_i hh; exact ⟨fun _ => hh.1.1, fun _ => by dsimp only [Nd.kind]; decide⟩
    · cases w3
  | sum a =>
    rw [e] at lp
    have := (lp a (.head _)).2
    exact ⟨fun _ => (show 0 < lget ls a by omega), fun _ => by dsimp only [Nd.kind]; decide⟩
  | _ => exact ⟨fun h => absurd h (by dsimp only [Nd.kind]; decide), fun h => absurd h (Int.lt_irrefl 0)⟩
theorem op_get {nds : List Nd} {v s : Int} (hs : inR s (nth nds v).ops.length) : atI ((nth nds v).ops.map V.int) s = some (.int (opAt nds v s)) ∧ opAt nds v s ∈ (nth nds v).ops := by
  have hk : s.toNat < (nth nds v).ops.length := by have := hs.1; have := hs.2; omega
  refine ⟨at_ints hs, ?_⟩
  unfold opAt
  rw [List.getD_eq_getElem?_getD, List.getElem?_eq_getElem hk]
  exact List.getElem_mem hk

theorem ok_pos {pms : List (Int × Int × Str × Int)} {nds : List Nd} {ls : List Int} {batch : Int} {m : Nm} (h : m.ok pms nds ls batch) : posN m := by
  have tl : ∀ {x : Int} {l : List Int}, 0 ≤ x → (∀ z ∈ l, 0 ≤ z) → ∀ z ∈ x :: l, 0 ≤ z := fun hx hl z hz => by
    rcases List.mem_cons.mp hz with rfl | hz
    · exact hx
    · exact hl z hz
  have ni : ∀ z ∈ ([] : List Int), 0 ≤ z := fun _ h => by cases h
  cases m with
  | par n p i j => exact tl h.1 (tl h.2.1.1 (tl h.2.2.1.1 (tl h.2.2.2.1 ni)))
  | mom n p i j => exact tl h.1 (tl h.2.1.1 (tl h.2.2.1.1 (tl h.2.2.2.1 ni)))
  | val n t v j => exact tl h.1 (tl h.2.1.1 (tl h.2.2.1.1 (tl h.2.2.2.1 ni)))
  | pre n t v j lo hi => exact tl h.1.1 (tl h.1.2.1.1 (tl h.1.2.2.1.1 (tl h.1.2.2.2.1 (tl h.2.2.1 (tl (Int.le_trans h.2.2.1 h.2.2.2.1) ni)))))
  | inc n t v j u => exact tl h.1.1 (tl h.1.2.1.1 (tl h.1.2.2.1.1 (tl h.1.2.2.2.1 (tl (by have := h.1.2.2.1.1; have := h.2.1; omega) ni))))
  | bac n t u s j lo hi => exact tl h.1 (tl h.2.1.1 (tl h.2.2.1.1 (tl h.2.2.2.1.1 (tl h.2.2.2.2.1.1 (tl h.2.2.2.2.2.2.1 (tl (Int.le_trans h.2.2.2.2.2.2.1 h.2.2.2.2.2.2.2.1) ni))))))
  | grd n p i j lo hi => exact tl h.1.1 (tl h.1.2.1.1 (tl h.1.2.2.1.1 (tl h.1.2.2.2.1 (tl h.2.1 (tl (Int.le_trans h.2.1 h.2.2.1) ni)))))
  | los n lo hi => exact tl h.1 (tl h.2.1 (tl (Int.le_trans h.2.1 h.2.2.1) ni))
/-! the law's -/
def spLVCell (K : PySem.W.Frag) : Sp := fun vs H Q _ => ∃ (b r : Addr) (rs : List Int) (jb RL DL n PL NL LL a : Addr) (ni nt : Int) (pms : List (Int × Int × Str × Int)) (nds : List Nd) (ls : List Int) (seed batch factor point : Int) (rates : List (Int × Int)) (data : List (List Int × List Int)) (m : Nm) (p i j : Int), vs = [.ref jb, .ref a] ∧
  JobG H b r rs jb RL DL n PL NL LL ni nt pms nds ls seed batch factor point rates data ∧ SqT K H a m.enc ∧ (atI m.enc 2 = some (.int p) ∧ atI m.enc 3 = some (.int i) ∧ atI m.enc 4 = some (.int j)) ∧ (0 ≤ p ∧ 0 ≤ i ∧ 0 ≤ j) ∧
  ∀ (bv : Bool), (bv = true ↔ cellR pms p i j) → Q (.bl bv) H
def spLValid (K : PySem.W.Frag) : Sp := fun vs H Q _ => ∃ (b r : Addr) (rs : List Int) (jb RL DL n PL NL LL a : Addr) (ni nt : Int) (pms : List (Int × Int × Str × Int)) (nds : List Nd) (ls : List Int) (seed batch factor point : Int) (rates : List (Int × Int)) (data : List (List Int × List Int)) (m : Nm), vs = [.ref jb, .ref a] ∧
  JobG H b r rs jb RL DL n PL NL LL ni nt pms nds ls seed batch factor point rates data ∧ Built ni nt pms nds ls ∧ SqT K H a m.enc ∧ posN m ∧
  ∀ (bv : Bool) (H' : Hp), Same H H' → (bv = true ↔ m.ok pms nds ls batch) → Q (.bl bv) H'
def spNear : Sp := fun vs H Q _ => ∃ (b r : Addr) (rs : List Int) (a : Addr) (m : Nm), vs = [.ref b, .ref a] ∧ Box H b r rs ∧ H a = some (.tup m.enc) ∧ posN m ∧
  ∀ (p : Addr) (m' : Nm) (H' : Hp), Box H' b r rs → But b H H' → H' p = some (.tup m'.enc) → posN m' → Q (.ref p) H'
def szs : List (Key × V) := [(.inr "par", .int 5), (.inr "mom", .int 5), (.inr "val", .int 5), (.inr "pre", .int 7), (.inr "inc", .int 6), (.inr "bac", .int 8), (.inr "grd", .int 7), (.inr "los", .int 4)]
theorem szs_at (m : Nm) : valV (mergeK [] szs) (.inr m.kind) = some (.int (m.enc.length : Nat)) := by cases m <;> rfl
theorem refs_ne {as : List Addr} {r : Addr} {z : Int} (h : HO.lst (as.map V.ref) = HO.lst [V.ref r, V.int z]) : False := by
  have h := HO.lst.inj h
  rcases as with _ | ⟨x, _ | ⟨y, t⟩⟩
  · cases h
  · cases h
  · injection h with _ h
    injection h with h _
    cases h
/-- names that stand in the heap -/
def NmsAt (H : Hp) (as : List Addr) (ms : List Nm) : Prop := All2 (fun a m => H a = some (.tup m.enc) ∧ posN m) as ms
theorem NmsAt.but {H H' : Hp} {as : List Addr} {ms : List Nm} {b r : Addr} {rs : List Int} (h : NmsAt H as ms) (B : Box H b r rs) (e : But b H H') : NmsAt H' as ms := h.mono fun a m z => ⟨e _ _ (fun w => by obtain ⟨_, _, hb⟩ := B.ex; rw [w, hb] at z; cases z.1) z.1, z.2⟩
theorem NmsAt.mut {H : Hp} {as : List Addr} {ms : List Nm} {l : Addr} {xs ys : List V} (h : NmsAt H as ms) (hl : H l = some (.lst xs)) : NmsAt (upd H l (.lst ys)) as ms := h.mono fun a m z => ⟨by rw [upd_ne (fun w => by rw [w, hl] at z; cases z.1)]; exact z.1, z.2⟩

section
variable {P : Program} {w : World} {K : PySem.W.Frag} {mg : Str → Option Value} {cs : Cs} {base : Heap} {f : Addr} {fd : FuncData}
theorem ok__is_cell (F : Fun K "_is_cell" "_is_cell" s__is_cell f fd) (T : Txt K mg cs w)  :
    FnOk P w K mg base CX0 1 f fd ["job", "p", "i", "j"] (spIsCell K cs) := by
  refine F.ok sc__is_cell (fun vs H Q E h => ?_) (fun cdv A outer s H vs Q E hr h => ?_)
  · obtain ⟨q0, ni, nt, pms, nds, ls, batch, p, i, j, rfl, J, h0, q⟩ := h
    rfl
  obtain ⟨q0, ni, nt, pms, nds, ls, batch, p, i, j, rfl, J, h0, q⟩ := h
  have hu := hr.units
  refine ⟨_, pss_cons (ps_if (pt_cmpR op_ge (pv 1) (pe_callB (len_at (K := K) rfl) (by rfl) T.z_len PySem.boot_len (pa_cons (pe_fld_at (K := K) rfl (pe_fld_at (K := K) rfl (pv 0) rfl) rfl) pa_nil)) (nomark _)) (pss_one (ps_ret pe_bl)) pss_nil)
 (pss_cons (ps_set (i := 4) sc__is_cell.nd rfl (.inl rfl) (pe_ix (ixl_at (K := K) rfl) (pe_fld_at (K := K) rfl (pe_fld_at (K := K) rfl (pv 0) rfl) rfl) (pv 1) (fun _ _ => rfl)))
 (pss_one (ps_ret (pe_and (pe_cmpR op_lt (pv 2) (pe_fld_at (K := K) rfl (pv 4) rfl) (nomark _)) (pe_one (pe_cmpR op_lt (pv 3) (pe_fld_at (K := K) rfl (pv 4) rfl) (nomark _))))))), ?_⟩
  obtain ⟨p0, i0, j0⟩ := h0
  obtain ⟨dq, fq, x, j1, j2, j3, j4, j5⟩ := J.ex
  obtain ⟨dy, gs, PP, NN, pr, nr, g1, g2, g3, g4, g5, g6, g7, g8, g9⟩ := j4.ex
  have lpr : (((pr.map V.ref).length : Nat) : Int) = (pms.length : Int) := by rw [List.length_map, g7.length]
  refine ⟨_, rfl, _, rfl, q0, _, dq, fq, _, rfl, j1, T.C_Job, T.na_Job_net, j2, x, _, dy, gs, _, rfl, g1, T.C_Net, T.na_Net_parameters, g4, PP, _, rfl, .inl (SqL.of g6), _, _, rfl, rfl, _, rfl, ?_⟩
  rw [lpr]
  by_cases h : (pms.length : Int) ≤ p
  · exact iteD h (q false ⟨fun z => (by cases z), fun z => absurd z.1.2 (by omega)⟩)
  · refine iteDN h ?_
    have rp : inR p pms.length := ⟨p0, by omega⟩
    obtain ⟨pa, epa, dw, ws, hpa, p1, p2⟩ := at_pars (all_sides g7) (show inR p (sides pms).length by rw [sides_len]; exact rp)
    refine ⟨_, rfl, q0, _, dq, fq, _, rfl, j1, T.C_Job, T.na_Job_net, j2, x, _, dy, gs, _, rfl, g1, T.C_Net, T.na_Net_parameters, g4, _, rfl, PP, _, _, _, rfl, rfl, SqL.of g6, epa, ?_⟩
    refine ⟨_, rfl, _, rfl, pa, _, dw, ws, _, rfl, hpa, T.C_Parameter, T.na_Parameter_rows, p1, _, _, rfl, rfl, _, rfl, ?_⟩
    by_cases hi : i < (pget (sides pms) p).1
    · refine iteD hi ?_
      refine ⟨_, rfl, _, rfl, pa, _, dw, ws, _, rfl, hpa, T.C_Parameter, T.na_Parameter_cols, p2, _, _, rfl, rfl, q _ ?_⟩
      rw [decide_eq_true_iff]
      exact ⟨fun z => ⟨rp, ⟨i0, hi⟩, j0, z⟩, fun z => z.2.2.2⟩
    · exact iteDN hi (q false ⟨fun z => (by cases z), fun z => absurd z.2.1.2 hi⟩)
theorem ok__is_element (F : Fun K "_is_element" "_is_element" s__is_element f fd) (T : Txt K mg cs w)  :
    FnOk P w K mg base CX0 1 f fd ["job", "t", "v", "j"] (spIsElem K cs) := by
  refine F.ok sc__is_element (fun vs H Q E h => ?_) (fun cdv A outer s H vs Q E hr h => ?_)
  · obtain ⟨q0, ni, nt, pms, nds, ls, batch, t, v, j, rfl, J, u, h0, q⟩ := h
    rfl
  obtain ⟨q0, ni, nt, pms, nds, ls, batch, t, v, j, rfl, J, u, h0, q⟩ := h
  have hu := hr.units
  refine ⟨_, pss_one (ps_ret (pe_and (pe_cmpR op_lt (pv 1) (pe_fld_at (K := K) rfl (pv 0) rfl) (nomark _)) (pe_and (pe_cmpR op_lt (pv 2) (pe_callB (len_at (K := K) rfl) (by rfl) T.z_len PySem.boot_len (pa_cons (pe_fld_at (K := K) rfl (pe_fld_at (K := K) rfl (pv 0) rfl) rfl) pa_nil)) (nomark _)) (pe_one (pe_cmpR op_lt (pv 3) (pe_ix (ixl_at (K := K) rfl) (pe_fld_at (K := K) rfl (pe_fld_at (K := K) rfl (pv 0) rfl) rfl) (pv 2) (fun _ _ => rfl)) (nomark _)))))), ?_⟩
  obtain ⟨t0, v0, j0⟩ := h0
  obtain ⟨dq, fq, x, j1, j2, j3, j4, j5⟩ := J.ex
  obtain ⟨dz, hs, LL, k1, k2, k3⟩ := j5.ex
  have ll : (((ls.map V.int).length : Nat) : Int) = (nds.length : Int) := by rw [List.length_map, u.all]
  refine ⟨_, rfl, _, rfl, q0, _, dq, fq, _, rfl, j1, T.C_Job, T.na_Job_batch, j3, _, _, rfl, rfl, _, rfl, ?_⟩
  by_cases ht : t < batch
  · refine iteD ht ?_
    refine ⟨_, rfl, _, rfl, q0, _, dq, fq, _, rfl, j1, T.C_Job, T.na_Job_net, j2, x, _, dz, hs, _, rfl, k1, T.C_Net, T.na_Net_lengths, k2, LL, _, rfl, .inl (SqL.of k3), _, _, rfl, rfl, _, rfl, ?_⟩
    rw [ll]
    by_cases hv : v < (nds.length : Int)
    · refine iteD hv ?_
      have rv : inR v nds.length := ⟨v0, hv⟩
      refine ⟨_, rfl, _, rfl, q0, _, dq, fq, _, rfl, j1, T.C_Job, T.na_Job_net, j2, x, _, dz, hs, _, rfl, k1, T.C_Net, T.na_Net_lengths, k2, _, rfl, LL, _, _, _, rfl, rfl, SqL.of k3, at_ints (show inR v ls.length by rw [u.all]; exact rv), _, _, rfl, rfl, q _ ?_⟩
      rw [decide_eq_true_iff]
      exact ⟨fun z => ⟨⟨t0, ht⟩, rv, j0, z⟩, fun z => z.2.2.2⟩
    · exact iteDN hv (q false ⟨fun z => (by cases z), fun z => absurd z.2.1.2 hv⟩)
  · exact iteDN ht (q false ⟨fun z => (by cases z), fun z => absurd z.1.2 ht⟩)
theorem ok__is_pre (F : Fun K "_is_pre" "_is_pre" s__is_pre f fd) (T : Txt K mg cs w) (d__is_element : Def P w K mg base 1 "_is_element" ["job", "t", "v", "j"] (spIsElem K cs)) (d_pre_count : Def P w K mg base 4 "pre_count" ["net", "v"] (spPreC K cs)) :
    FnOk P w K mg base CX0 5 f fd ["job", "t", "v", "j", "lo", "hi"] (spIsPre K cs) := by
  obtain ⟨f0, fd0, G__is_element, b__is_element, g__is_element, k__is_element⟩ := d__is_element.ex
  obtain ⟨f1, fd1, G_pre_count, b_pre_count, g_pre_count, k_pre_count⟩ := d_pre_count.ex
  refine F.ok sc__is_pre (fun vs H Q E h => ?_) (fun cdv A outer s H vs Q E hr h => ?_)
  · obtain ⟨q0, ni, nt, pms, nds, ls, batch, t, v, j, lo, hi, rfl, J, u, h0, q⟩ := h
    rfl
  obtain ⟨q0, ni, nt, pms, nds, ls, batch, t, v, j, lo, hi, rfl, J, u, h0, q⟩ := h
  have hu := hr.units
  refine ⟨_, pss_cons (ps_if (PW.pt (pw_or (pt_not (pt_val (pe_call G__is_element (hr.mono (by decide)) rfl g__is_element k__is_element b__is_element .nil pass0 (pa_cons (pv 0) (pa_cons (pv 1) (pa_cons (pv 2) (pa_cons (pv 3) pa_nil))))))) (pw_or1 (pt_cmpR op_notIn_seq (pe_ix (ixt_at (K := K) rfl) (pe_ix (ixl_at (K := K) rfl) (pe_fld_at (K := K) rfl (pe_fld_at (K := K) rfl (pv 0) rfl) rfl) (pv 2) (fun _ _ => rfl)) pe_int (fun _ _ => rfl)) (pe_tup (pa_cons pe_str (pa_cons pe_str (pa_cons pe_str (pa_cons pe_str pa_nil))))) (by with_unfolding_all rfl))))) (pss_one (ps_ret pe_bl)) pss_nil)
 (pss_one (ps_ret (pe_chain op_le op_le (pv 4) (pv 5) (pe_call G_pre_count hr rfl g_pre_count k_pre_count b_pre_count .nil pass0 (pa_cons (pe_fld_at (K := K) rfl (pv 0) rfl) (pa_cons (pv 2) pa_nil)))))), ?_⟩
  obtain ⟨t0, v0, j0, l0⟩ := h0
  obtain ⟨dq, fq, x, j1, j2, j3, j4, j5⟩ := J.ex
  obtain ⟨dy, gs, PP, NN, pr, nr, g1, g2, g3, g4, g5, g6, g7, g8, g9⟩ := j4.ex
  refine ⟨_, rfl, _, rfl, _, rfl, _, rfl, q0, ni, nt, pms, nds, ls, batch, t, v, j, rfl, J, u, ⟨t0, v0, j0⟩, fun bv hb => ⟨_, rfl, ?_⟩⟩
  cases bv with
  | false => exact iteT (iteT (q false H (.refl H) ⟨fun z => (by cases z), fun z => (by have := hb.mpr z.1; cases this)⟩))
  | true =>
    refine iteF ?_
    have he := hb.mp rfl
    have rv := he.2.1
    obtain ⟨nd, ea, hnd⟩ := nodes_at g9 rv
    have k0 : atI (nth nds v).enc 0 = some (.str (nth nds v).kind) := (nth nds v).at0
    refine ⟨_, rfl, q0, _, dq, fq, _, rfl, j1, T.C_Job, T.na_Job_net, j2, x, _, dy, gs, _, rfl, g1, T.C_Net, T.na_Net_nodes, g5, _, rfl, NN, _, _, _, rfl, rfl, SqL.of g8, ea, nd, _, _, _, rfl, rfl, hnd, k0, by show 4 ≤ sizeLine; decide, fun pz npz => ?_⟩
    have sz := same_new npz (.tup [.str "lin", .str "mat", .str "matT", .str "sum"])
    refine ⟨pz, [.str "lin", .str "mat", .str "matT", .str "sum"], rfl, .inr (SqT.of upd_same), rfl, rfl, _, rfl, ?_⟩
    rw [if_pos rfl, show inV (.str (nth nds v).kind) [.str "lin", .str "mat", .str "matT", .str "sum"] = decide ((nth nds v).kind ∈ sumKs) from in_strs (ks := sumKs)]
    by_cases hk : (nth nds v).kind ∈ sumKs
    · refine iteNS hk ?_
      have pos := (sum_pos u rv).mp hk
      refine ⟨_, rfl, _, rfl, _, _, rfl, rfl, _, rfl, ?_⟩
      by_cases hl : lo ≤ hi
      · refine iteD hl ?_
        refine ⟨_, rfl, q0, _, dq, fq, _, rfl, sz _ _ j1, T.C_Job, T.na_Job_net, j2, _, rfl, x, ni, nt, pms, nds, ls, v, rfl, j4.same sz, j5.same sz, u, rv, pos, fun H1 s1 => ⟨_, _, rfl, rfl, q _ _ (sz.trans s1) ?_⟩⟩
        rw [decide_eq_true_iff]
        exact ⟨fun z => ⟨he, pos, l0, hl, z⟩, fun z => z.2.2.2.2⟩
      · exact iteDN hl (q false _ sz ⟨fun z => (by cases z), fun z => absurd z.2.2.2.1 hl⟩)
    · exact iteNN hk (q false _ sz ⟨fun z => (by cases z), fun z => absurd ((sum_pos u rv).mpr z.2.1) hk⟩)
theorem ok__is_inc (F : Fun K "_is_inc" "_is_inc" s__is_inc f fd) (T : Txt K mg cs w) (d__is_element : Def P w K mg base 1 "_is_element" ["job", "t", "v", "j"] (spIsElem K cs)) :
    FnOk P w K mg base CX0 2 f fd ["job", "t", "v", "j", "u"] (spIsInc K cs) := by
  obtain ⟨f0, fd0, G__is_element, b__is_element, g__is_element, k__is_element⟩ := d__is_element.ex
  refine F.ok sc__is_inc (fun vs H Q E h => ?_) (fun cdv A outer s H vs Q E hr h => ?_)
  · obtain ⟨q0, ni, nt, pms, nds, ls, batch, t, v, j, w', rfl, J, u, h0, q⟩ := h
    rfl
  obtain ⟨q0, ni, nt, pms, nds, ls, batch, t, v, j, w', rfl, J, u, h0, q⟩ := h
  have hu := hr.units
  refine ⟨_, pss_one (ps_ret (pe_and (pe_call G__is_element hr rfl g__is_element k__is_element b__is_element .nil pass0 (pa_cons (pv 0) (pa_cons (pv 1) (pa_cons (pv 2) (pa_cons (pv 3) pa_nil))))) (pe_one (pe_chain op_lt op_le (pv 2) (pv 4) (pe_callB (len_at (K := K) rfl) (by rfl) T.z_len PySem.boot_len (pa_cons (pe_fld_at (K := K) rfl (pe_fld_at (K := K) rfl (pv 0) rfl) rfl) pa_nil)))))), ?_⟩
  obtain ⟨t0, v0, j0⟩ := h0
  obtain ⟨dq, fq, x, j1, j2, j3, j4, j5⟩ := J.ex
  obtain ⟨dy, gs, PP, NN, pr, nr, g1, g2, g3, g4, g5, g6, g7, g8, g9⟩ := j4.ex
  have lnr : (((nr.map V.ref).length : Nat) : Int) = (nds.length : Int) := by rw [List.length_map, g9.length]
  refine ⟨_, rfl, _, rfl, _, rfl, _, rfl, q0, ni, nt, pms, nds, ls, batch, t, v, j, rfl, J, u, ⟨t0, v0, j0⟩, fun bv hb => ⟨_, rfl, ?_⟩⟩
  cases bv with
  | false => exact iteF (q false ⟨fun z => (by cases z), fun z => (by have := hb.mpr z.1; cases this)⟩)
  | true =>
    refine iteT ?_
    have he := hb.mp rfl
    refine ⟨_, rfl, _, rfl, _, _, rfl, rfl, _, rfl, ?_⟩
    by_cases hl : v < w'
    · refine iteD hl ?_
      refine ⟨_, rfl, q0, _, dq, fq, _, rfl, j1, T.C_Job, T.na_Job_net, j2, x, _, dy, gs, _, rfl, g1, T.C_Net, T.na_Net_nodes, g5, NN, _, rfl, .inl (SqL.of g8), _, _, rfl, rfl, ?_⟩
      rw [lnr]
      refine q _ ?_
      rw [decide_eq_true_iff]
      exact ⟨fun z => ⟨he, by omega, z⟩, fun z => z.2.2⟩
    · exact iteDN hl (q false ⟨fun z => (by cases z), fun z => absurd z.2.1 (by omega)⟩)
theorem ok__is_bac (F : Fun K "_is_bac" "_is_bac" s__is_bac f fd) (T : Txt K mg cs w) (d_operands : Def P w K mg base 1 "operands" ["node"] (spOps K)) (d_bac_count : Def P w K mg base 4 "bac_count" ["net", "u", "s"] (spBacC K cs)) :
    FnOk P w K mg base CX0 5 f fd ["job", "t", "u", "s", "i", "lo", "hi"] (spIsBac K cs) := by
  obtain ⟨f0, fd0, G_operands, b_operands, g_operands, k_operands⟩ := d_operands.ex
  obtain ⟨f1, fd1, G_bac_count, b_bac_count, g_bac_count, k_bac_count⟩ := d_bac_count.ex
  refine F.ok sc__is_bac (fun vs H Q E h => ?_) (fun cdv A outer s H vs Q E hr h => ?_)
  · obtain ⟨q0, ni, nt, pms, nds, ls, batch, t, v, s', i, lo, hi, rfl, J, u, h0, q⟩ := h
    rfl
  obtain ⟨q0, ni, nt, pms, nds, ls, batch, t, v, s', i, lo, hi, rfl, J, u, h0, q⟩ := h
  have hu := hr.units
  refine ⟨_, pss_cons (ps_if (PW.pt (pw_or (pt_cmpR op_ge (pv 1) (pe_fld_at (K := K) rfl (pv 0) rfl) (nomark _)) (pw_or (pt_cmpR op_ge (pv 2) (pe_callB (len_at (K := K) rfl) (by rfl) T.z_len PySem.boot_len (pa_cons (pe_fld_at (K := K) rfl (pe_fld_at (K := K) rfl (pv 0) rfl) rfl) pa_nil)) (nomark _)) (pw_or1 (pt_cmpR op_notIn_seq (pe_ix (ixt_at (K := K) rfl) (pe_ix (ixl_at (K := K) rfl) (pe_fld_at (K := K) rfl (pe_fld_at (K := K) rfl (pv 0) rfl) rfl) (pv 2) (fun _ _ => rfl)) pe_int (fun _ _ => rfl)) (pe_tup (pa_cons pe_str (pa_cons pe_str (pa_cons pe_str pa_nil)))) (by with_unfolding_all rfl)))))) (pss_one (ps_ret pe_bl)) pss_nil)
 (pss_cons (ps_set (i := 7) sc__is_bac.nd rfl (.inl rfl) (pe_call G_operands (hr.mono (by decide)) rfl g_operands k_operands b_operands .nil pass0 (pa_cons (pe_ix (ixl_at (K := K) rfl) (pe_fld_at (K := K) rfl (pe_fld_at (K := K) rfl (pv 0) rfl) rfl) (pv 2) (fun _ _ => rfl)) pa_nil)))
 (pss_cons (ps_if (PW.pt (pw_or (pt_cmpR op_ge (pv 3) (pe_callB (len_at (K := K) rfl) (by rfl) T.z_len PySem.boot_len (pa_cons (pv 7) pa_nil)) (nomark _)) (pw_or1 (pt_cmpR op_ge (pv 4) (pe_ix (ixl_at (K := K) rfl) (pe_fld_at (K := K) rfl (pe_fld_at (K := K) rfl (pv 0) rfl) rfl) (pe_ix (ixl_at (K := K) rfl) (pv 7) (pv 3) (fun _ _ => rfl)) (fun _ _ => rfl)) (nomark _))))) (pss_one (ps_ret pe_bl)) pss_nil)
 (pss_one (ps_ret (pe_chain op_le op_le (pv 5) (pv 6) (pe_call G_bac_count hr rfl g_bac_count k_bac_count b_bac_count .nil pass0 (pa_cons (pe_fld_at (K := K) rfl (pv 0) rfl) (pa_cons (pv 2) (pa_cons (pv 3) pa_nil))))))))), ?_⟩
  obtain ⟨t0, v0, s0, i0, l0⟩ := h0
  obtain ⟨dq, fq, x, j1, j2, j3, j4, j5⟩ := J.ex
  obtain ⟨dy, gs, PP, NN, pr, nr, g1, g2, g3, g4, g5, g6, g7, g8, g9⟩ := j4.ex
  obtain ⟨dz, hs, LL, k1, k2, k3⟩ := j5.ex
  have ll : (((ls.map V.int).length : Nat) : Int) = (nds.length : Int) := by rw [List.length_map, u.all]
  refine ⟨_, rfl, _, rfl, q0, _, dq, fq, _, rfl, j1, T.C_Job, T.na_Job_batch, j3, _, _, rfl, rfl, _, rfl, ?_⟩
  by_cases ht : batch ≤ t
  · exact iteD ht (iteT (q false H (.refl H) ⟨fun z => (by cases z), fun z => absurd z.1.2 (by omega)⟩))
  refine iteDN ht ?_
  refine ⟨_, rfl, _, rfl, q0, _, dq, fq, _, rfl, j1, T.C_Job, T.na_Job_net, j2, x, _, dz, hs, _, rfl, k1, T.C_Net, T.na_Net_lengths, k2, LL, _, rfl, .inl (SqL.of k3), _, _, rfl, rfl, _, rfl, ?_⟩
  rw [ll]
  by_cases hv : (nds.length : Int) ≤ v
  · exact iteD hv (iteT (q false H (.refl H) ⟨fun z => (by cases z), fun z => absurd z.2.1.2 (by omega)⟩))
  refine iteDN hv ?_
  have rv : inR v nds.length := ⟨v0, by omega⟩
  obtain ⟨nd, ea, hnd⟩ := nodes_at g9 rv
  have k0 : atI (nth nds v).enc 0 = some (.str (nth nds v).kind) := (nth nds v).at0
  refine ⟨_, rfl, q0, _, dq, fq, _, rfl, j1, T.C_Job, T.na_Job_net, j2, x, _, dy, gs, _, rfl, g1, T.C_Net, T.na_Net_nodes, g5, _, rfl, NN, _, _, _, rfl, rfl, SqL.of g8, ea, nd, _, _, _, rfl, rfl, hnd, k0, by show 3 ≤ sizeLine; decide, fun pz npz => ?_⟩
  have sz := same_new npz (.tup [.str "lin", .str "mat", .str "matT"])
  refine ⟨pz, [.str "lin", .str "mat", .str "matT"], rfl, .inr (SqT.of upd_same), rfl, rfl, _, rfl, ?_⟩
  rw [if_pos rfl, show inV (.str (nth nds v).kind) [.str "lin", .str "mat", .str "matT"] = decide ((nth nds v).kind ∈ bacKs) from in_strs (ks := bacKs)]
  by_cases hk : (nth nds v).kind ∈ bacKs
  case neg => exact iteNN hk (q false _ sz ⟨fun z => (by cases z), fun z => absurd z.2.2.2.2.1 (by rw [back_none fun hp => hk (prod_kind.mpr hp)]; exact Int.lt_irrefl 0)⟩)
  refine iteNS hk ?_
  have hp := prod_kind.mp hk
  refine ⟨_, rfl, q0, _, dq, fq, _, rfl, sz _ _ j1, T.C_Job, T.na_Job_net, j2, x, _, dy, gs, _, rfl, sz _ _ g1, T.C_Net, T.na_Net_nodes, g5, _, rfl, NN, _, _, _, rfl, rfl, SqL.of (sz _ _ g8), ea, nd, _, rfl, Same.seqT sz hnd, fun p1 H2 n1 s2 h2 => ?_⟩
  have s02 := sz.trans s2
  refine ⟨_, rfl, _, rfl, p1, _, rfl, .inl (SqL.of h2), _, _, rfl, rfl, _, rfl, ?_⟩
  rw [List.length_map]
  by_cases hso : ((nth nds v).ops.length : Int) ≤ s'
  · exact iteD hso (iteT (q false _ s02 ⟨fun z => (by cases z), fun z => absurd z.2.2.1.2 (by omega)⟩))
  refine iteDN hso ?_
  have rs : inR s' (nth nds v).ops.length := ⟨s0, by omega⟩
  obtain ⟨og, om⟩ := op_get rs
  have ro := (lop_pos u rv _ om).1
  refine ⟨_, rfl, _, rfl, q0, _, dq, fq, _, rfl, s02 _ _ j1, T.C_Job, T.na_Job_net, j2, x, _, dz, hs, _, rfl, s02 _ _ k1, T.C_Net, T.na_Net_lengths, k2, _, rfl, _, rfl, p1, _, _, _, rfl, rfl, SqL.of h2, og, LL, _, _, _, rfl, rfl, SqL.of (s02 _ _ k3), at_ints (show inR (opAt nds v s') ls.length by rw [u.all]; exact ro), _, _, rfl, rfl, _, rfl, ?_⟩
  by_cases hi' : lget ls (opAt nds v s') ≤ i
  · exact iteD hi' (q false _ s02 ⟨fun z => (by cases z), fun z => absurd z.2.2.2.1.2 (by omega)⟩)
  refine iteDN hi' ?_
  have pos := back_pos u rv hp rs
  refine ⟨_, rfl, _, rfl, _, _, rfl, rfl, _, rfl, ?_⟩
  by_cases hl : lo ≤ hi
  · refine iteD hl ?_
    refine ⟨_, rfl, q0, _, dq, fq, _, rfl, s02 _ _ j1, T.C_Job, T.na_Job_net, j2, _, rfl, _, rfl, x, ni, nt, pms, nds, ls, v, s', rfl, j4.same s02, j5.same s02, u, rv, pos, fun H3 s3 => ⟨_, _, rfl, rfl, q _ _ (s02.trans s3) ?_⟩⟩
    rw [decide_eq_true_iff]
    exact ⟨fun z => ⟨⟨t0, by omega⟩, rv, rs, ⟨i0, by omega⟩, pos, l0, hl, z⟩, fun z => z.2.2.2.2.2.2.2⟩
  · exact iteDN hl (q false _ s02 ⟨fun z => (by cases z), fun z => absurd z.2.2.2.2.2.2.1 hl⟩)
theorem ok__is_grd (F : Fun K "_is_grd" "_is_grd" s__is_grd f fd) (T : Txt K mg cs w) (d__is_cell : Def P w K mg base 1 "_is_cell" ["job", "p", "i", "j"] (spIsCell K cs)) (d__is_los : Def P w K mg base 1 "_is_los" ["job", "lo", "hi"] (spIsLos K cs)) :
    FnOk P w K mg base CX0 2 f fd ["job", "p", "i", "j", "lo", "hi"] (spIsGrd K cs) := by
  obtain ⟨f0, fd0, G__is_cell, b__is_cell, g__is_cell, k__is_cell⟩ := d__is_cell.ex
  obtain ⟨f1, fd1, G__is_los, b__is_los, g__is_los, k__is_los⟩ := d__is_los.ex
  refine F.ok sc__is_grd (fun vs H Q E h => ?_) (fun cdv A outer s H vs Q E hr h => ?_)
  · obtain ⟨q0, ni, nt, pms, nds, ls, batch, p, i, j, lo, hi, rfl, J, h0, q⟩ := h
    rfl
  obtain ⟨q0, ni, nt, pms, nds, ls, batch, p, i, j, lo, hi, rfl, J, h0, q⟩ := h
  have hu := hr.units
  refine ⟨_, pss_one (ps_ret (pe_and (pe_call G__is_cell hr rfl g__is_cell k__is_cell b__is_cell .nil pass0 (pa_cons (pv 0) (pa_cons (pv 1) (pa_cons (pv 2) (pa_cons (pv 3) pa_nil))))) (pe_one (pe_call G__is_los hr rfl g__is_los k__is_los b__is_los .nil pass0 (pa_cons (pv 0) (pa_cons (pv 4) (pa_cons (pv 5) pa_nil))))))), ?_⟩
  obtain ⟨p0, i0, j0, l0⟩ := h0
  refine ⟨_, rfl, _, rfl, _, rfl, _, rfl, q0, ni, nt, pms, nds, ls, batch, p, i, j, rfl, J, ⟨p0, i0, j0⟩, fun bv hb => ⟨_, rfl, ?_⟩⟩
  cases bv with
  | false => exact iteF (q false ⟨fun z => (by cases z), fun z => (by have := hb.mpr z.1; cases this)⟩)
  | true => exact iteT ⟨_, rfl, _, rfl, _, rfl, q0, ni, nt, pms, nds, ls, batch, lo, hi, rfl, J, l0, fun bv2 hb2 => q bv2 (by rw [hb2]; exact ⟨fun z => ⟨hb.mp rfl, z⟩, fun z => z.2⟩)⟩
theorem ok__is_los (F : Fun K "_is_los" "_is_los" s__is_los f fd) (T : Txt K mg cs w)  :
    FnOk P w K mg base CX0 1 f fd ["job", "lo", "hi"] (spIsLos K cs) := by
  refine F.ok sc__is_los (fun vs H Q E h => ?_) (fun cdv A outer s H vs Q E hr h => ?_)
  · obtain ⟨q0, ni, nt, pms, nds, ls, batch, lo, hi, rfl, J, l0, q⟩ := h
    rfl
  obtain ⟨q0, ni, nt, pms, nds, ls, batch, lo, hi, rfl, J, l0, q⟩ := h
  have hu := hr.units
  refine ⟨_, pss_one (ps_ret (pe_chain op_le op_le (pv 1) (pv 2) (pe_fld_at (K := K) rfl (pv 0) rfl))), ?_⟩
  obtain ⟨dq, fq, x, j1, j2, j3, j4, j5⟩ := J.ex
  refine ⟨_, rfl, _, rfl, _, _, rfl, rfl, _, rfl, ?_⟩
  by_cases h : lo ≤ hi
  · refine iteD h ?_
    refine ⟨_, rfl, q0, _, dq, fq, _, rfl, j1, T.C_Job, T.na_Job_batch, j3, _, _, rfl, rfl, q _ ?_⟩
    rw [decide_eq_true_iff]
    exact ⟨fun z => ⟨l0, h, z⟩, fun z => z.2.2⟩
  · exact iteDN h (q false ⟨fun z => (by cases z), fun z => absurd z.2.1 h⟩)
theorem name_rule (T : Txt K mg cs w) (d__is_cell : Def P w K mg base 1 "_is_cell" ["job", "p", "i", "j"] (spIsCell K cs)) (d__is_element : Def P w K mg base 1 "_is_element" ["job", "t", "v", "j"] (spIsElem K cs)) (d__is_pre : Def P w K mg base 5 "_is_pre" ["job", "t", "v", "j", "lo", "hi"] (spIsPre K cs)) (d__is_inc : Def P w K mg base 2 "_is_inc" ["job", "t", "v", "j", "u"] (spIsInc K cs)) (d__is_bac : Def P w K mg base 5 "_is_bac" ["job", "t", "u", "s", "i", "lo", "hi"] (spIsBac K cs)) (d__is_grd : Def P w K mg base 2 "_is_grd" ["job", "p", "i", "j", "lo", "hi"] (spIsGrd K cs)) (d__is_los : Def P w K mg base 1 "_is_los" ["job", "lo", "hi"] (spIsLos K cs)) (m : Nm) : ∃ (f : Addr) (sp : Sp), PySem.W.nsIn K cs.RULES m.kind = some (some (.ref f)) ∧ Held P w K mg base (6 - 1) f sp ∧
    ∀ (q : Addr) (H : Hp) (Q : VK) (E : XK) (ni nt : Int) (pms : List (Int × Int × Str × Int)) (nds : List Nd) (ls : List Int) (batch : Int), JNet K cs H q ni nt pms nds ls batch → Built ni nt pms nds ls → posN m → (∀ (bv : Bool) (H' : Hp), Same H H' → (bv = true ↔ m.ok pms nds ls batch) → Q (.bl bv) H') → sp (.ref q :: (m.nums.drop 1).map V.int) H Q E := by
  have hd : ∀ {x : Int} {l : List Int}, (∀ z ∈ x :: l, 0 ≤ z) → 0 ≤ x ∧ ∀ z ∈ l, 0 ≤ z := fun h => ⟨h _ (.head _), fun z hz => h z (.tail _ hz)⟩
  have an : ∀ {A B C : Prop}, A → ((C ↔ B) → (C ↔ (A ∧ B))) := fun a h => ⟨fun c => ⟨a, h.mp c⟩, fun c => h.mpr c.2⟩
  cases m with
  | par n p i j => exact ⟨cs.fn__is_cell, _, T.e_RULES_par, held_of d__is_cell T.f__is_cell (by decide), fun q0 H Q E ni nt pms nds ls batch J u hp q => by
      obtain ⟨a1, hp⟩ := hd hp; obtain ⟨a2, hp⟩ := hd hp; obtain ⟨a3, hp⟩ := hd hp; obtain ⟨a4, hp⟩ := hd hp
      exact ⟨q0, ni, nt, pms, nds, ls, batch, p, i, j, rfl, J, ⟨a2, a3, a4⟩, fun bv h => q bv H (.refl H) (an a1 h)⟩⟩
  | mom n p i j => exact ⟨cs.fn__is_cell, _, T.e_RULES_mom, held_of d__is_cell T.f__is_cell (by decide), fun q0 H Q E ni nt pms nds ls batch J u hp q => by
      obtain ⟨a1, hp⟩ := hd hp; obtain ⟨a2, hp⟩ := hd hp; obtain ⟨a3, hp⟩ := hd hp; obtain ⟨a4, hp⟩ := hd hp
      exact ⟨q0, ni, nt, pms, nds, ls, batch, p, i, j, rfl, J, ⟨a2, a3, a4⟩, fun bv h => q bv H (.refl H) (an a1 h)⟩⟩
  | val n t v j => exact ⟨cs.fn__is_element, _, T.e_RULES_val, held_of d__is_element T.f__is_element (by decide), fun q0 H Q E ni nt pms nds ls batch J u hp q => by
      obtain ⟨a1, hp⟩ := hd hp; obtain ⟨a2, hp⟩ := hd hp; obtain ⟨a3, hp⟩ := hd hp; obtain ⟨a4, hp⟩ := hd hp
      exact ⟨q0, ni, nt, pms, nds, ls, batch, t, v, j, rfl, J, u, ⟨a2, a3, a4⟩, fun bv h => q bv H (.refl H) (an a1 h)⟩⟩
  | pre n t v j lo hi => exact ⟨cs.fn__is_pre, _, T.e_RULES_pre, held_of d__is_pre T.f__is_pre (by decide), fun q0 H Q E ni nt pms nds ls batch J u hp q => by
      obtain ⟨a1, hp⟩ := hd hp; obtain ⟨a2, hp⟩ := hd hp; obtain ⟨a3, hp⟩ := hd hp; obtain ⟨a4, hp⟩ := hd hp; obtain ⟨a5, hp⟩ := hd hp
      exact ⟨q0, ni, nt, pms, nds, ls, batch, t, v, j, lo, hi, rfl, J, u, ⟨a2, a3, a4, a5⟩, fun bv H' s h => q bv H' s ⟨fun c => ⟨⟨a1, (h.mp c).1⟩, (h.mp c).2⟩, fun c => h.mpr ⟨c.1.2, c.2⟩⟩⟩⟩
  | inc n t v j w' => exact ⟨cs.fn__is_inc, _, T.e_RULES_inc, held_of d__is_inc T.f__is_inc (by decide), fun q0 H Q E ni nt pms nds ls batch J u hp q => by
      obtain ⟨a1, hp⟩ := hd hp; obtain ⟨a2, hp⟩ := hd hp; obtain ⟨a3, hp⟩ := hd hp; obtain ⟨a4, hp⟩ := hd hp
      exact ⟨q0, ni, nt, pms, nds, ls, batch, t, v, j, w', rfl, J, u, ⟨a2, a3, a4⟩, fun bv h => q bv H (.refl H) ⟨fun c => ⟨⟨a1, (h.mp c).1⟩, (h.mp c).2⟩, fun c => h.mpr ⟨c.1.2, c.2⟩⟩⟩⟩
  | bac n t v s i lo hi => exact ⟨cs.fn__is_bac, _, T.e_RULES_bac, held_of d__is_bac T.f__is_bac (by decide), fun q0 H Q E ni nt pms nds ls batch J u hp q => by
      obtain ⟨a1, hp⟩ := hd hp; obtain ⟨a2, hp⟩ := hd hp; obtain ⟨a3, hp⟩ := hd hp; obtain ⟨a4, hp⟩ := hd hp; obtain ⟨a5, hp⟩ := hd hp; obtain ⟨a6, hp⟩ := hd hp
      exact ⟨q0, ni, nt, pms, nds, ls, batch, t, v, s, i, lo, hi, rfl, J, u, ⟨a2, a3, a4, a5, a6⟩, fun bv H' s h => q bv H' s (an a1 h)⟩⟩
  | grd n p i j lo hi => exact ⟨cs.fn__is_grd, _, T.e_RULES_grd, held_of d__is_grd T.f__is_grd (by decide), fun q0 H Q E ni nt pms nds ls batch J u hp q => by
      obtain ⟨a1, hp⟩ := hd hp; obtain ⟨a2, hp⟩ := hd hp; obtain ⟨a3, hp⟩ := hd hp; obtain ⟨a4, hp⟩ := hd hp; obtain ⟨a5, hp⟩ := hd hp
      exact ⟨q0, ni, nt, pms, nds, ls, batch, p, i, j, lo, hi, rfl, J, ⟨a2, a3, a4, a5⟩, fun bv h => q bv H (.refl H) ⟨fun c => ⟨⟨a1, (h.mp c).1⟩, (h.mp c).2⟩, fun c => h.mpr ⟨c.1.2, c.2⟩⟩⟩⟩
  | los n lo hi => exact ⟨cs.fn__is_los, _, T.e_RULES_los, held_of d__is_los T.f__is_los (by decide), fun q0 H Q E ni nt pms nds ls batch J u hp q => by
      obtain ⟨a1, hp⟩ := hd hp; obtain ⟨a2, hp⟩ := hd hp
      exact ⟨q0, ni, nt, pms, nds, ls, batch, lo, hi, rfl, J, a2, fun bv h => q bv H (.refl H) (an a1 h)⟩⟩
theorem ok_is_name (F : Fun K "is_name" "is_name" s_is_name f fd) (T : Txt K mg cs w) (d__is_cell : Def P w K mg base 1 "_is_cell" ["job", "p", "i", "j"] (spIsCell K cs)) (d__is_element : Def P w K mg base 1 "_is_element" ["job", "t", "v", "j"] (spIsElem K cs)) (d__is_pre : Def P w K mg base 5 "_is_pre" ["job", "t", "v", "j", "lo", "hi"] (spIsPre K cs)) (d__is_inc : Def P w K mg base 2 "_is_inc" ["job", "t", "v", "j", "u"] (spIsInc K cs)) (d__is_bac : Def P w K mg base 5 "_is_bac" ["job", "t", "u", "s", "i", "lo", "hi"] (spIsBac K cs)) (d__is_grd : Def P w K mg base 2 "_is_grd" ["job", "p", "i", "j", "lo", "hi"] (spIsGrd K cs)) (d__is_los : Def P w K mg base 1 "_is_los" ["job", "lo", "hi"] (spIsLos K cs)) :
    FnOk P w K mg base CX0 6 f fd ["job", "name"] (spIsName K cs) := by
  obtain ⟨f0, fd0, G__is_cell, b__is_cell, g__is_cell, k__is_cell⟩ := d__is_cell.ex
  obtain ⟨f1, fd1, G__is_element, b__is_element, g__is_element, k__is_element⟩ := d__is_element.ex
  obtain ⟨f2, fd2, G__is_pre, b__is_pre, g__is_pre, k__is_pre⟩ := d__is_pre.ex
  obtain ⟨f3, fd3, G__is_inc, b__is_inc, g__is_inc, k__is_inc⟩ := d__is_inc.ex
  obtain ⟨f4, fd4, G__is_bac, b__is_bac, g__is_bac, k__is_bac⟩ := d__is_bac.ex
  obtain ⟨f5, fd5, G__is_grd, b__is_grd, g__is_grd, k__is_grd⟩ := d__is_grd.ex
  obtain ⟨f6, fd6, G__is_los, b__is_los, g__is_los, k__is_los⟩ := d__is_los.ex
  obtain ⟨_, _, kd_RULES⟩ := T.d_RULES
  refine F.ok sc_is_name (fun vs H Q E h => ?_) (fun cdv A outer s H vs Q E hr h => ?_)
  · obtain ⟨q0, a, ni, nt, pms, nds, ls, batch, m, rfl, J, u, hm, hp, q⟩ := h
    rfl
  obtain ⟨q0, a, ni, nt, pms, nds, ls, batch, m, rfl, J, u, hm, hp, q⟩ := h
  have hu := hr.units
  refine ⟨_, pss_cons (ps_set (i := 2) sc_is_name.nd rfl (.inl rfl) (pe_ix ix_kdict (pe_glob (v := .ref cs.RULES) rfl T.g_RULES rfl) (pe_ix (ixt_at (K := K) rfl) (pv 1) pe_int (fun _ _ => rfl)) (fun _ _ => rfl)))
 (pss_cons (ps_set (i := 3) sc_is_name.nd rfl (.inl rfl) (pe_slice (slt_at (K := K) rfl) (pv 1) (po_some pe_int) po_none))
 (pss_one (ps_ret (pe_callDS (k := 5) (i := 2) hr rfl (by first | exact Or.inl rfl | exact Or.inr (Or.inl rfl)) (pa_cons (pv 0) (StX.pa_star (pv 3) pa_nil)))))), ?_⟩
  obtain ⟨fr, sp, en, hheld, hsp⟩ := name_rule T d__is_cell d__is_element d__is_pre d__is_inc d__is_bac d__is_grd d__is_los m
  refine ⟨_, rfl, a, _, _, _, rfl, rfl, hm, m.at0, cs.RULES, m.kind, .ref fr, rfl, rfl, ⟨_, _, _, kd_RULES.at_, kd_RULES.lit, en, rfl⟩, ?_⟩
  have el := m.enc_len
  refine ⟨_, rfl, _, rfl, a, _, rfl, hm, ?_, fun tt nt' => ?_⟩
  · intro z
    have := z.1
    rw [show (2 : Int) = ((2 : Nat) : Int) from rfl, HT.sIx_nat] at this
    omega
  generalize eqH : upd H tt _ = H1
  obtain ⟨s1, k1⟩ := new_facts eqH nt'
  clear eqH
  refine ⟨fr, _, rfl, hheld, _, rfl, _, rfl, tt, _, rfl, .inl (SqT.of k1), ?_⟩
  have ea : cutV m.enc (some 2) none ++ [] = (m.nums.drop 1).map V.int := by
    rw [List.append_nil]
    show cutV m.enc (some ((2 : Nat) : Int)) none = _
    rw [cutV_from, List.map_drop]
    rfl
  show sp (.ref q0 :: (cutV m.enc (some 2) none ++ [])) H1 Q _
  rw [ea]
  exact hsp _ _ _ _ ni nt pms nds ls batch (J.same s1) u hp fun bv H' s2 h => q bv H' (s1.trans s2) h
theorem ok__law_valid_cell (F : Fun K "_law_valid_cell" "_law_valid_cell" s__law_valid_cell f fd) (T : Txt K mg cs w)  :
    FnOk P w K mg base CX0 1 f fd ["job", "name"] (spLVCell K) := by
  refine F.ok sc__law_valid_cell (fun vs H Q E h => ?_) (fun cdv A outer s H vs Q E hr h => ?_)
  · obtain ⟨b, r, rs, jb, RL, DL, n0, PL, NL, LL, a, ni, nt, pms, nds, ls, seed, batch, factor, point, rates, data, m, p, i, j, rfl, J, hm, ⟨e2, e3, e4⟩, ⟨p0, i0, j0⟩, q⟩ := h
    rfl
  obtain ⟨b, r, rs, jb, RL, DL, n0, PL, NL, LL, a, ni, nt, pms, nds, ls, seed, batch, factor, point, rates, data, m, p, i, j, rfl, J, hm, ⟨e2, e3, e4⟩, ⟨p0, i0, j0⟩, q⟩ := h
  have hu := hr.units
  refine ⟨_, pss_cons (ps_if (pt_cmpR op_ge (pe_ix (ixt_at (K := K) rfl) (pv 1) pe_int (fun _ _ => rfl)) (pe_callB (len_at (K := K) rfl) (by rfl) T.z_len PySem.boot_len (pa_cons (pe_ix (ixl_at (K := K) rfl) (pe_ix (ixl_at (K := K) rfl) (pv 0) pe_int (fun _ _ => rfl)) pe_int (fun _ _ => rfl)) pa_nil)) (nomark _)) (pss_one (ps_ret pe_bl)) pss_nil)
 (pss_cons (ps_set (i := 2) sc__law_valid_cell.nd rfl (.inl rfl) (pe_ix (ixl_at (K := K) rfl) (pe_ix (ixl_at (K := K) rfl) (pe_ix (ixl_at (K := K) rfl) (pv 0) pe_int (fun _ _ => rfl)) pe_int (fun _ _ => rfl)) (pe_ix (ixt_at (K := K) rfl) (pv 1) pe_int (fun _ _ => rfl)) (fun _ _ => rfl)))
 (pss_one (ps_ret (pe_and (pe_cmpR op_lt (pe_ix (ixt_at (K := K) rfl) (pv 1) pe_int (fun _ _ => rfl)) (pe_ix (ixt_at (K := K) rfl) (pv 2) pe_int (fun _ _ => rfl)) (nomark _)) (pe_one (pe_cmpR op_lt (pe_ix (ixt_at (K := K) rfl) (pv 1) pe_int (fun _ _ => rfl)) (pe_ix (ixt_at (K := K) rfl) (pv 2) pe_int (fun _ _ => rfl)) (nomark _))))))), ?_⟩
  have g := J.g
  obtain ⟨pr, q1, q2⟩ := g.par
  have lpr : (((pr.map V.ref).length : Nat) : Int) = (pms.length : Int) := by rw [List.length_map, q2.length]
  refine ⟨_, rfl, a, _, _, _, rfl, rfl, hm, e2, _, rfl, jb, _, _, _, rfl, rfl, SqL.of J.jl, rfl, n0, _, _, _, rfl, rfl, SqL.of g.net, rfl, PL, _, rfl, .inl (SqL.of q1), _, _, rfl, rfl, _, rfl, ?_⟩
  rw [lpr]
  by_cases h : (pms.length : Int) ≤ p
  · exact iteD h (q false ⟨fun z => (by cases z), fun z => absurd z.1.2 (by omega)⟩)
  · refine iteDN h ?_
    have rp : inR p pms.length := ⟨p0, by omega⟩
    obtain ⟨pr', pa, pf, mm, p1, ep, h4, h5, em⟩ := g.at rp
    refine ⟨_, rfl, jb, _, _, _, rfl, rfl, SqL.of J.jl, rfl, n0, _, _, _, rfl, rfl, SqL.of g.net, rfl, _, rfl, a, _, _, _, rfl, rfl, hm, e2, PL, _, _, _, rfl, rfl, SqL.of p1, ep, ?_⟩
    refine ⟨_, rfl, a, _, _, _, rfl, rfl, hm, e3, _, rfl, pa, _, _, _, rfl, rfl, SqT.of h4, rfl, _, _, rfl, rfl, _, rfl, ?_⟩
    by_cases hi : i < (pget (sides pms) p).1
    · refine iteD hi ?_
      refine ⟨_, rfl, a, _, _, _, rfl, rfl, hm, e4, _, rfl, pa, _, _, _, rfl, rfl, SqT.of h4, rfl, _, _, rfl, rfl, q _ ?_⟩
      rw [decide_eq_true_iff]
      exact ⟨fun z => ⟨rp, ⟨i0, hi⟩, j0, z⟩, fun z => z.2.2.2⟩
    · exact iteDN hi (q false ⟨fun z => (by cases z), fun z => absurd z.2.1.2 hi⟩)
theorem ok__law_near (F : Fun K "_law_near" "_law_near" s__law_near f fd) (T : Txt K mg cs w) (d__law_draw : Def P w K mg base 1 "_law_draw" ["box", "many"] (spDraw)) :
    FnOk P w K mg base CX0 2 f fd ["box", "name"] (spNear) := by
  obtain ⟨f0, fd0, G__law_draw, b__law_draw, g__law_draw, k__law_draw⟩ := d__law_draw.ex
  refine F.ok sc__law_near (fun vs H Q E h => ?_) (fun cdv A outer s H vs Q E hr h => ?_)
  · obtain ⟨b, r, rs, a, m, rfl, B, hm, hp, q⟩ := h
    rfl
  obtain ⟨b, r, rs, a, m, rfl, B, hm, hp, q⟩ := h
  have hu := hr.units
  refine ⟨_, pss_cons (ps_set (i := 2) sc__law_near.nd rfl (.inl rfl) (pe_op op_add pe_int (pe_call G__law_draw hr rfl g__law_draw k__law_draw b__law_draw .nil pass0 (pa_cons (pv 0) (pa_cons (pe_op op_sub (pe_callB (len_at (K := K) rfl) (by rfl) T.z_len PySem.boot_len (pa_cons (pv 1) pa_nil)) pe_int) pa_nil)))))
 (pss_cons (ps_set (i := 3) sc__law_near.nd rfl (.inl rfl) (pe_call G__law_draw hr rfl g__law_draw k__law_draw b__law_draw .nil pass0 (pa_cons (pv 0) (pa_cons pe_int pa_nil))))
 (C8.pss_cut (ps_if (pt_cmpR op_eq (pe_call G__law_draw hr rfl g__law_draw k__law_draw b__law_draw .nil pass0 (pa_cons (pv 0) (pa_cons pe_int pa_nil))) pe_int (nomark _)) (pss_one (ps_set (i := 3) sc__law_near.nd rfl (.inl rfl) (pe_op op_add (pe_op op_add (pe_ix (ixt_at (K := K) rfl) (pv 1) (pv 2) (fun _ _ => rfl)) pe_int) (pe_call G__law_draw hr rfl g__law_draw k__law_draw b__law_draw .nil pass0 (pa_cons (pv 0) (pa_cons pe_int pa_nil)))))) pss_nil)
 (pss_one (ps_ret (pe_op (catT_at (K := K) rfl) (pe_op (catT_at (K := K) rfl) (pe_slice (slt_at (K := K) rfl) (pv 1) po_none (po_some (pv 2))) (pe_tup (pa_cons (pv 3) pa_nil))) (pe_slice (slt_at (K := K) rfl) (pv 1) (po_some (pe_op op_add (pv 2) pe_int)) po_none)))))), ?_⟩
  obtain ⟨el, e3, e7⟩ := m.enc_len
  have ab : a ≠ b := fun z => by
    obtain ⟨w, _, h2⟩ := B.ex
    rw [z, h2] at hm
    cases hm
  refine ⟨_, rfl, _, rfl, a, _, rfl, .inr (SqT.of hm), _, _, rfl, rfl, b, r, rs, _, rfl, B, by omega, fun k H1 k0 k1 B1 e1 => ⟨_, _, rfl, rfl, ?_⟩⟩
  obtain ⟨kn, rfl⟩ : ∃ kn : Nat, k = (kn : Int) := ⟨k.toNat, by omega⟩
  have e1k : (1 : Int) + (kn : Int) = ((kn + 1 : Nat) : Int) := by omega
  have kl : kn < m.nums.length := by omega
  refine ⟨_, rfl, b, r, rs, 5, rfl, B1, by decide, fun z H2 z0 z1 B2 e2 => ?_⟩
  have e02 := e1.trans e2
  refine ⟨fun σ H' => ∃ z : Int, σ = [some (.ref b), some (.ref a), some (.int (1 + (kn : Int))), some (.int z)] ∧ 0 ≤ z ∧ Box H' b r rs ∧ But b H H', ?_, fun σ H' hM => ?_⟩
  · refine ⟨_, rfl, b, r, rs, 2, rfl, B2, by decide, fun d H3 d0 d1 B3 e3 => ⟨rfl, _, rfl, ?_⟩⟩
    have e03 := e02.trans e3
    refine ite2 (fun _ => ?_) (fun _ => ?_)
    · have en : (m.nums.map V.int)[kn]? = some (.int m.nums[kn]) := by rw [List.getElem?_map, List.getElem?_eq_getElem kl]; rfl
      have ix : atI m.enc (1 + (kn : Int)) = some (.int m.nums[kn]) := by rw [e1k]; exact atI_nat en
      have n0 := hp _ (List.getElem_mem kl)
      refine ⟨_, rfl, _, rfl, a, _, _, _, rfl, rfl, SqT.of (e03 _ _ ab hm), ix, _, _, rfl, rfl, _, rfl, b, r, rs, 3, rfl, B3, by decide, fun y H4 y0 y1 B4 e4 => ⟨_, _, rfl, rfl, ?_⟩⟩
      exact ⟨_, rfl, by omega, B4, e03.trans e4⟩
    · exact ⟨z, rfl, z0, B3, e03⟩
  obtain ⟨z, rfl, z0, B5, e5⟩ := hM
  rw [e1k]
  have hm5 := e5 _ _ ab hm
  refine ⟨_, rfl, _, rfl, _, rfl, a, _, rfl, SqT.of hm5, ?_, fun t1 n1 => ?_⟩
  · intro w
    have := w.2
    rw [HT.sIx_nat] at this
    omega
  rw [cutV_to (by omega)]
  generalize eqH : upd H' t1 _ = H6
  obtain ⟨s6, h6⟩ := new_facts eqH n1
  clear eqH
  refine ⟨_, rfl, by show 1 ≤ sizeLine; decide, fun t2 n2 => ?_⟩
  generalize eqH : upd H6 t2 _ = H7
  obtain ⟨s7, h7⟩ := new_facts eqH n2
  clear eqH
  have tk : m.enc.take (kn + 1) = .str m.kind :: (m.nums.take kn).map V.int := by rw [List.map_take]; rfl
  rw [tk] at h6
  refine ⟨t1, t2, _, _, rfl, rfl, SqT.of (s7 _ _ h6), SqT.of h7, (fun w => by cases w), small (by simp only [List.length_cons, List.length_map, List.length_take, List.length_nil]; omega), (fun w => by cases w), fun _ t3 n3 => ?_⟩
  generalize eqH : upd H7 t3 _ = H8
  obtain ⟨s8, h8⟩ := new_facts eqH n3
  clear eqH
  have s58 := s6.trans (s7.trans s8)
  refine ⟨_, rfl, _, rfl, _, _, rfl, rfl, _, rfl, a, _, rfl, SqT.of (s58 _ _ hm5), ?_, fun t4 n4 => ?_⟩
  · intro w
    have := w.1
    rw [show ((kn + 1 : Nat) : Int) + 1 = ((kn + 2 : Nat) : Int) by omega, HT.sIx_nat] at this
    omega
  rw [show ((kn + 1 : Nat) : Int) + 1 = ((kn + 2 : Nat) : Int) by omega, cutV_from]
  generalize eqH : upd H8 t4 _ = H9
  obtain ⟨s9, h9⟩ := new_facts eqH n4
  clear eqH
  have dp : m.enc.drop (kn + 2) = (m.nums.drop (kn + 1)).map V.int := by rw [List.map_drop]; rfl
  rw [dp] at h9
  obtain ⟨m', mk, mn⟩ := m.re (m.nums.take kn ++ z :: m.nums.drop (kn + 1)) (by simp only [List.length_append, List.length_cons, List.length_take, List.length_drop]; omega)
  have en : m'.enc = (.str m.kind :: (m.nums.take kn).map V.int ++ [.int z]) ++ (m.nums.drop (kn + 1)).map V.int := by
    unfold Nm.enc
    rw [mk, mn, List.map_append, List.map_cons]
    simp
  have pm : posN m' := fun x hx => by
    rw [mn] at hx
    rcases List.mem_append.mp hx with hx | hx
    · exact hp x (List.mem_of_mem_take hx)
    · rcases List.mem_cons.mp hx with rfl | hx
      · exact z0
      · exact hp x (List.mem_of_mem_drop hx)
  have s89 := s58.trans s9
  refine ⟨t3, t4, _, _, rfl, rfl, SqT.of (s9 _ _ h8), SqT.of h9, (fun w => by cases w), small (by simp only [List.length_append, List.length_cons, List.length_map, List.length_take, List.length_drop, List.length_nil]; omega), fun w => ?_, fun _ t5 n5 => ?_⟩
  · refine q t3 m' H9 (B5.same s89) (e5.trans (.of s89)) ?_ pm
    rw [en, w, List.append_nil]
    exact s9 _ _ h8
  · generalize eqH : upd H9 t5 _ = H10
    obtain ⟨s10, h10⟩ := new_facts eqH n5
    clear eqH
    exact q t5 m' H10 (B5.same (s89.trans s10)) (e5.trans (.of (s89.trans s10))) (by rw [en]; exact h10) pm
theorem ok__law_valid (F : Fun K "_law_valid" "_law_valid" s__law_valid f fd) (T : Txt K mg cs w) (d__law_valid_cell : Def P w K mg base 1 "_law_valid_cell" ["job", "name"] (spLVCell K)) (d__law_back_size : Def P w K mg base 1 "_law_back_size" ["net", "u", "s"] (spBackSz)) (d__law_operands : Def P w K mg base 1 "_law_operands" ["node"] (spOperands K)) (d__law_sum_size : Def P w K mg base 1 "_law_sum_size" ["net", "v"] (spSumSz)) :
    FnOk P w K mg base CX0 2 f fd ["job", "name"] (spLValid K) := by
  obtain ⟨f0, fd0, G__law_valid_cell, b__law_valid_cell, g__law_valid_cell, k__law_valid_cell⟩ := d__law_valid_cell.ex
  obtain ⟨f1, fd1, G__law_back_size, b__law_back_size, g__law_back_size, k__law_back_size⟩ := d__law_back_size.ex
  obtain ⟨f2, fd2, G__law_operands, b__law_operands, g__law_operands, k__law_operands⟩ := d__law_operands.ex
  obtain ⟨f3, fd3, G__law_sum_size, b__law_sum_size, g__law_sum_size, k__law_sum_size⟩ := d__law_sum_size.ex
  refine F.ok sc__law_valid (fun vs H Q E h => ?_) (fun cdv A outer s H vs Q E hr h => ?_)
  · obtain ⟨b, r, rs, jb, RL, DL, n0, PL, NL, LL, a, ni, nt, pms, nds, ls, seed, batch, factor, point, rates, data, m, rfl, J, u, hm, hp, q⟩ := h
    rfl
  obtain ⟨b, r, rs, jb, RL, DL, n0, PL, NL, LL, a, ni, nt, pms, nds, ls, seed, batch, factor, point, rates, data, m, rfl, J, u, hm, hp, q⟩ := h
  have hu := hr.units
  refine ⟨_, pss_cons (ps_set (i := 2) sc__law_valid.nd rfl (.inl rfl) (pe_ix (ixl_at (K := K) rfl) (pv 0) pe_int (fun _ _ => rfl)))
 (pss_cons (ps_set (i := 3) sc__law_valid.nd rfl (.inl rfl) (pe_disp (pps_cons pe_str pe_int (pps_cons pe_str pe_int (pps_cons pe_str pe_int (pps_cons pe_str pe_int (pps_cons pe_str pe_int (pps_cons pe_str pe_int (pps_cons pe_str pe_int (pps_cons pe_str pe_int pps_nil)))))))) (by rfl) (by rfl) (fun z => by cases z) (by decide)))
 (pss_cons (ps_if (PW.pt (pw_or (pt_cmp (pc_dnotin (Nat.lt_of_le_of_lt (Nat.add_le_add_left (by decide) _) hu) (pe_ix (ixt_at (K := K) rfl) (pv 1) pe_int (fun _ _ => rfl)) (pv 3))) (pw_or1 (pt_cmpR op_ne (pe_callB (len_at (K := K) rfl) (by rfl) T.z_len PySem.boot_len (pa_cons (pv 1) pa_nil)) (pe_dget (Nat.lt_of_le_of_lt (Nat.add_le_add_left (by decide) _) hu) (pv 3) (pe_ix (ixt_at (K := K) rfl) (pv 1) pe_int (fun _ _ => rfl)) (fun _ _ => rfl)) (nomark _))))) (pss_one (ps_ret pe_bl)) pss_nil)
 (pss_cons (ps_set (i := 4) sc__law_valid.nd rfl (.inl rfl) (pe_ix (ixt_at (K := K) rfl) (pv 1) pe_int (fun _ _ => rfl)))
 (pss_cons (ps_if (pt_cmpR op_in_seq (pv 4) (pe_tup (pa_cons pe_str (pa_cons pe_str pa_nil))) (by with_unfolding_all rfl)) (pss_one (ps_ret (pe_call G__law_valid_cell hr rfl g__law_valid_cell k__law_valid_cell b__law_valid_cell .nil pass0 (pa_cons (pv 0) (pa_cons (pv 1) pa_nil))))) pss_nil)
 (pss_cons (ps_if (pt_cmpR op_in_seq (pv 4) (pe_tup (pa_cons pe_str (pa_cons pe_str pa_nil))) (by with_unfolding_all rfl)) (pss_one (ps_ret (pe_and (pe_or (pe_cmpR op_eq (pv 4) pe_str (nomark _)) (pe_one (pe_call G__law_valid_cell hr rfl g__law_valid_cell k__law_valid_cell b__law_valid_cell .nil pass0 (pa_cons (pv 0) (pa_cons (pv 1) pa_nil))))) (pe_one (pe_chain op_le op_le (pe_ix (ixt_at (K := K) rfl) (pv 1) (pe_un un_neg pe_int) (fun _ _ => rfl)) (pe_ix (ixt_at (K := K) rfl) (pv 1) (pe_un un_neg pe_int) (fun _ _ => rfl)) (pe_ix (ixl_at (K := K) rfl) (pv 0) pe_int (fun _ _ => rfl))))))) pss_nil)
 (pss_cons (ps_if (PW.pt (pw_or (pt_cmpR op_ge (pe_ix (ixt_at (K := K) rfl) (pv 1) pe_int (fun _ _ => rfl)) (pe_ix (ixl_at (K := K) rfl) (pv 0) pe_int (fun _ _ => rfl)) (nomark _)) (pw_or1 (pt_cmpR op_ge (pe_ix (ixt_at (K := K) rfl) (pv 1) pe_int (fun _ _ => rfl)) (pe_callB (len_at (K := K) rfl) (by rfl) T.z_len PySem.boot_len (pa_cons (pe_ix (ixl_at (K := K) rfl) (pv 2) pe_int (fun _ _ => rfl)) pa_nil)) (nomark _))))) (pss_one (ps_ret pe_bl)) pss_nil)
 (pss_cons (ps_if (pt_cmpR op_eq (pv 4) pe_str (nomark _)) (pss_cons (ps_if (PW.pt (pw_or (pt_cmpR op_gt (pe_ix (ixt_at (K := K) rfl) (pv 1) pe_int (fun _ _ => rfl)) pe_int (nomark _)) (pw_or1 (pt_cmpR op_eq (pe_call G__law_back_size hr rfl g__law_back_size k__law_back_size b__law_back_size .nil pass0 (pa_cons (pv 2) (pa_cons (pe_ix (ixt_at (K := K) rfl) (pv 1) pe_int (fun _ _ => rfl)) (pa_cons pe_int pa_nil)))) pe_int (nomark _))))) (pss_one (ps_ret pe_bl)) pss_nil)
 (pss_cons (ps_set (i := 5) sc__law_valid.nd rfl (.inl rfl) (pe_call G__law_operands hr rfl g__law_operands k__law_operands b__law_operands .nil pass0 (pa_cons (pe_ix (ixl_at (K := K) rfl) (pe_ix (ixl_at (K := K) rfl) (pv 2) pe_int (fun _ _ => rfl)) (pe_ix (ixt_at (K := K) rfl) (pv 1) pe_int (fun _ _ => rfl)) (fun _ _ => rfl)) pa_nil)))
 (pss_cons (ps_if (PW.pt (pw_or (pt_cmpR op_ge (pe_ix (ixt_at (K := K) rfl) (pv 1) pe_int (fun _ _ => rfl)) (pe_callB (len_at (K := K) rfl) (by rfl) T.z_len PySem.boot_len (pa_cons (pv 5) pa_nil)) (nomark _)) (pw_or1 (pt_cmpR op_ge (pe_ix (ixt_at (K := K) rfl) (pv 1) pe_int (fun _ _ => rfl)) (pe_ix (ixl_at (K := K) rfl) (pe_ix (ixl_at (K := K) rfl) (pv 2) pe_int (fun _ _ => rfl)) (pe_ix (ixl_at (K := K) rfl) (pv 5) (pe_ix (ixt_at (K := K) rfl) (pv 1) pe_int (fun _ _ => rfl)) (fun _ _ => rfl)) (fun _ _ => rfl)) (nomark _))))) (pss_one (ps_ret pe_bl)) pss_nil)
 (pss_one (ps_ret (pe_chain op_le op_le (pe_ix (ixt_at (K := K) rfl) (pv 1) pe_int (fun _ _ => rfl)) (pe_ix (ixt_at (K := K) rfl) (pv 1) pe_int (fun _ _ => rfl)) (pe_call G__law_back_size hr rfl g__law_back_size k__law_back_size b__law_back_size .nil pass0 (pa_cons (pv 2) (pa_cons (pe_ix (ixt_at (K := K) rfl) (pv 1) pe_int (fun _ _ => rfl)) (pa_cons (pe_ix (ixt_at (K := K) rfl) (pv 1) pe_int (fun _ _ => rfl)) pa_nil)))))))))) pss_nil)
 (pss_cons (ps_if (pt_cmpR op_ge (pe_ix (ixt_at (K := K) rfl) (pv 1) pe_int (fun _ _ => rfl)) (pe_ix (ixl_at (K := K) rfl) (pe_ix (ixl_at (K := K) rfl) (pv 2) pe_int (fun _ _ => rfl)) (pe_ix (ixt_at (K := K) rfl) (pv 1) pe_int (fun _ _ => rfl)) (fun _ _ => rfl)) (nomark _)) (pss_one (ps_ret pe_bl)) pss_nil)
 (pss_cons (ps_if (pt_cmpR op_eq (pv 4) pe_str (nomark _)) (pss_one (ps_ret (pe_and (pe_cmpR op_gt (pe_call G__law_sum_size hr rfl g__law_sum_size k__law_sum_size b__law_sum_size .nil pass0 (pa_cons (pv 2) (pa_cons (pe_ix (ixt_at (K := K) rfl) (pv 1) pe_int (fun _ _ => rfl)) pa_nil))) pe_int (nomark _)) (pe_one (pe_chain op_le op_le (pe_ix (ixt_at (K := K) rfl) (pv 1) pe_int (fun _ _ => rfl)) (pe_ix (ixt_at (K := K) rfl) (pv 1) pe_int (fun _ _ => rfl)) (pe_call G__law_sum_size hr rfl g__law_sum_size k__law_sum_size b__law_sum_size .nil pass0 (pa_cons (pv 2) (pa_cons (pe_ix (ixt_at (K := K) rfl) (pv 1) pe_int (fun _ _ => rfl)) pa_nil)))))))) pss_nil)
 (pss_one (ps_ret (pe_or (pe_cmpR op_eq (pv 4) pe_str (nomark _)) (pe_one (pe_chain op_lt op_le (pe_ix (ixt_at (K := K) rfl) (pv 1) pe_int (fun _ _ => rfl)) (pe_ix (ixt_at (K := K) rfl) (pv 1) pe_int (fun _ _ => rfl)) (pe_callB (len_at (K := K) rfl) (by rfl) T.z_len PySem.boot_len (pa_cons (pe_ix (ixl_at (K := K) rfl) (pv 2) pe_int (fun _ _ => rfl)) pa_nil)))))))))))))))), ?_⟩
  obtain ⟨el, e3, e7⟩ := m.enc_len
  refine ⟨_, rfl, jb, _, _, _, rfl, rfl, SqL.of J.jl, rfl, fun d nd => ⟨upd_same, szs, rfl, by decide, ?_⟩⟩
  generalize eqH : upd (upd H d _) d _ = H1
  have s1 : Same H H1 := fun c o h => by rw [← eqH, upd_ne (ne_of_none h nd), upd_ne (ne_of_none h nd)]; exact h
  have hd : H1 d = some (.dK (mergeK [] szs)) := by rw [← eqH]; exact upd_same
  clear eqH
  have hm1 := Same.seqT s1 hm
  have dg := DGet.k (k := Sum.inr m.kind) hd
  rw [szs_at] at dg
  refine ⟨_, rfl, a, _, _, _, rfl, rfl, hm1, m.at0, _, rfl, d, _, rfl, dg, _, rfl, ?_⟩
  refine iteF ?_
  refine ⟨_, rfl, a, _, rfl, .inr hm1, _, rfl, _, rfl, a, _, _, _, rfl, rfl, hm1, m.at0, d, _, rfl, dg, rfl, _, rfl, iteNS rfl ?_⟩
  refine ⟨_, rfl, a, _, _, _, rfl, rfl, hm1, m.at0, ?_⟩
  have i0 : ∀ {H1 : Hp} (Q' : VK), Q' (.str m.kind) H1 → tVar 4 [some (.ref jb), some (.ref a), some (.ref n0), some (.ref d), some (.str m.kind), none] H1 Q' := fun Q' q' => ⟨_, rfl, q'⟩
  have hd2 : ∀ {x : Int} {l : List Int}, (∀ z ∈ x :: l, 0 ≤ z) → 0 ≤ x ∧ ∀ z ∈ l, 0 ≤ z := fun h => ⟨h _ (.head _), fun z hz => h z (.tail _ hz)⟩
  refine if_in ["par", "mom"] i0 (by decide) (fun h H2 s2 => ?_) (fun h H2 s2 => ?_)
  · have s02 := s1.trans s2
    obtain ⟨n, p, i, j, a2, a3, a4, n0', p0, i0', j0, hok⟩ : ∃ n p i j : Int, atI m.enc 2 = some (.int p) ∧ atI m.enc 3 = some (.int i) ∧ atI m.enc 4 = some (.int j) ∧ 0 ≤ n ∧ 0 ≤ p ∧ 0 ≤ i ∧ 0 ≤ j ∧ (m.ok pms nds ls batch ↔ 0 ≤ n ∧ cellR pms p i j) := by
      cases m with
      | par n p i j =>
        obtain ⟨b1, hp⟩ := hd2 hp; obtain ⟨b2, hp⟩ := hd2 hp; obtain ⟨b3, hp⟩ := hd2 hp; obtain ⟨b4, hp⟩ := hd2 hp
        exact ⟨n, p, i, j, rfl, rfl, rfl, b1, b2, b3, b4, Iff.rfl⟩
      | mom n p i j =>
        obtain ⟨b1, hp⟩ := hd2 hp; obtain ⟨b2, hp⟩ := hd2 hp; obtain ⟨b3, hp⟩ := hd2 hp; obtain ⟨b4, hp⟩ := hd2 hp
        exact ⟨n, p, i, j, rfl, rfl, rfl, b1, b2, b3, b4, Iff.rfl⟩
      | _ => exact absurd h (by dsimp only [Nm.kind]; decide)
    exact ⟨_, rfl, _, rfl, b, r, rs, jb, RL, DL, n0, PL, NL, LL, a, ni, nt, pms, nds, ls, seed, batch, factor, point, rates, data, m, p, i, j, rfl, J.same s02, Same.seqT s02 hm, ⟨a2, a3, a4⟩, ⟨p0, i0', j0⟩, fun bv hb => q bv H2 s02 (by rw [hok, hb]; exact ⟨fun z => ⟨n0', z⟩, fun z => z.2⟩)⟩
  refine if_in ["grd", "los"] i0 (by decide) (fun h' H3 s3 => ?_) (fun h' H3 s3 => ?_)
  · have s03 := s1.trans (s2.trans s3)
    have hm3 := Same.seqT s03 hm
    have J3 := J.same s03
    have rng : ∀ (lo hi : Int), atI m.enc (-2) = some (.int lo) → atI m.enc (-1) = some (.int hi) → 0 ≤ lo → (m.ok pms nds ls batch ↔ rngOk lo hi batch) → ∀ b0 : Bool, b0 = true → (if b0 = true then tChain (rI0 fun i j => V.bl (decide (i ≤ j))) (rI0 fun i j => V.bl (decide (i ≤ j))) (tOp (rIxT K) (tVar 1) (tUn (rU fun i => V.int (-i)) (tC (V.int 2)))) (tOp (rIxT K) (tVar 1) (tUn (rU fun i => V.int (-i)) (tC (V.int 1)))) (tOp (rIxL K) (tVar 0) (tC (V.int 2))) [some (.ref jb), some (.ref a), some (.ref n0), some (.ref d), some (.str m.kind), none] H3 (fun v H' => Q v H') else Q (.bl false) H3) := fun lo hi e1 e2 l0 hok b0 hb0 => by
      rw [hb0]
      refine iteT ?_
      refine ⟨_, rfl, 2, rfl, a, _, _, _, rfl, rfl, hm3, e1, _, rfl, 1, rfl, a, _, _, _, rfl, rfl, hm3, e2, _, _, rfl, rfl, _, rfl, ?_⟩
      by_cases hl : lo ≤ hi
      · refine iteD hl ?_
        refine ⟨_, rfl, jb, _, _, _, rfl, rfl, SqL.of J3.jl, rfl, _, _, rfl, rfl, q _ H3 s03 ?_⟩
        rw [decide_eq_true_iff, hok]
        exact ⟨fun z => ⟨l0, hl, z⟩, fun z => z.2.2⟩
      · exact iteDN hl (q false H3 s03 ⟨fun z => (by cases z), fun z => absurd (hok.mp z).2.1 hl⟩)
    cases m with
    | grd n p i j lo hi =>
      obtain ⟨b1, hp⟩ := hd2 hp; obtain ⟨b2, hp⟩ := hd2 hp; obtain ⟨b3, hp⟩ := hd2 hp; obtain ⟨b4, hp⟩ := hd2 hp; obtain ⟨b5, hp⟩ := hd2 hp
      refine ⟨_, rfl, rfl, _, rfl, iteDN (show ¬ V.str "grd" = V.str "los" by decide) ?_⟩
      refine ⟨_, rfl, _, rfl, b, r, rs, jb, RL, DL, n0, PL, NL, LL, a, ni, nt, pms, nds, ls, seed, batch, factor, point, rates, data, .grd n p i j lo hi, p, i, j, rfl, J3, hm3, ⟨rfl, rfl, rfl⟩, ⟨b2, b3, b4⟩, fun bv hb => ⟨_, rfl, ?_⟩⟩
      cases bv with
      | false => exact iteF (q false H3 s03 ⟨fun z => (by cases z), fun z => (by have := hb.mpr z.1.2; cases this)⟩)
      | true => exact rng lo hi rfl rfl b5 ⟨fun z => z.2, fun z => ⟨⟨b1, hb.mp rfl⟩, z⟩⟩ true rfl
    | los n lo hi =>
      obtain ⟨b1, hp⟩ := hd2 hp; obtain ⟨b2, hp⟩ := hd2 hp
      refine ⟨_, rfl, rfl, _, rfl, iteD rfl ?_⟩
      exact ⟨_, rfl, rng lo hi rfl rfl b2 ⟨fun z => z.2, fun z => ⟨b1, z⟩⟩ true rfl⟩
    | _ => exact absurd h' (by dsimp only [Nm.kind]; decide)
  have s03 := s1.trans (s2.trans s3)
  have hm3 := Same.seqT s03 hm
  have J3 := J.same s03
  have g := J3.g
  obtain ⟨nr, q1, q2⟩ := g.nod
  have lnr : (((nr.map V.ref).length : Nat) : Int) = (nds.length : Int) := by rw [List.length_map, q2.length]
  obtain ⟨n, t, v, a2, a3, n0', t0, v0, hok⟩ : ∃ n t v : Int, atI m.enc 2 = some (.int t) ∧ atI m.enc 3 = some (.int v) ∧ 0 ≤ n ∧ 0 ≤ t ∧ 0 ≤ v ∧ (m.ok pms nds ls batch → (0 ≤ t ∧ t < batch) ∧ inR v nds.length) := by
    cases m with
    | val n t v j =>
      obtain ⟨b1, hp⟩ := hd2 hp; obtain ⟨b2, hp⟩ := hd2 hp; obtain ⟨b3, hp⟩ := hd2 hp
      exact ⟨n, t, v, rfl, rfl, b1, b2, b3, fun z => ⟨z.2.1, z.2.2.1⟩⟩
    | pre n t v j lo hi =>
      obtain ⟨b1, hp⟩ := hd2 hp; obtain ⟨b2, hp⟩ := hd2 hp; obtain ⟨b3, hp⟩ := hd2 hp
      exact ⟨n, t, v, rfl, rfl, b1, b2, b3, fun z => ⟨z.1.2.1, z.1.2.2.1⟩⟩
    | inc n t v j w' =>
      obtain ⟨b1, hp⟩ := hd2 hp; obtain ⟨b2, hp⟩ := hd2 hp; obtain ⟨b3, hp⟩ := hd2 hp
      exact ⟨n, t, v, rfl, rfl, b1, b2, b3, fun z => ⟨z.1.2.1, z.1.2.2.1⟩⟩
    | bac n t v s i lo hi =>
      obtain ⟨b1, hp⟩ := hd2 hp; obtain ⟨b2, hp⟩ := hd2 hp; obtain ⟨b3, hp⟩ := hd2 hp
      exact ⟨n, t, v, rfl, rfl, b1, b2, b3, fun z => ⟨z.2.1, z.2.2.1⟩⟩
    | par n p i j => exact absurd (.head _) h
    | mom n p i j => exact absurd (.tail _ (.head _)) h
    | grd n p i j lo hi => exact absurd (.head _) h'
    | los n lo hi => exact absurd (.tail _ (.head _)) h'
  refine ⟨_, rfl, a, _, _, _, rfl, rfl, hm3, a2, _, rfl, jb, _, _, _, rfl, rfl, SqL.of J3.jl, rfl, _, _, rfl, rfl, _, rfl, ?_⟩
  by_cases ht : batch ≤ t
  · exact iteD ht (iteT (q false H3 s03 ⟨fun z => (by cases z), fun z => absurd (hok z).1.2 (by omega)⟩))
  refine iteDN ht ?_
  refine ⟨_, rfl, a, _, _, _, rfl, rfl, hm3, a3, _, rfl, n0, _, _, _, rfl, rfl, SqL.of g.net, rfl, NL, _, rfl, .inl (SqL.of q1), _, _, rfl, rfl, _, rfl, ?_⟩
  rw [lnr]
  by_cases hv : (nds.length : Int) ≤ v
  · exact iteD hv (q false H3 s03 ⟨fun z => (by cases z), fun z => absurd (hok z).2.2 (by omega)⟩)
  refine iteDN hv ?_
  have rv : inR v nds.length := ⟨v0, by omega⟩
  have rl : inR v ls.length := by rw [u.all]; exact rv
  refine if_is "bac" i0 (fun hk => ?_) (fun hk => ?_)
  · obtain ⟨n', t', v', s', i, lo, hi, rfl⟩ : ∃ n t v s i lo hi, m = .bac n t v s i lo hi := by
      cases m <;> first | exact ⟨_, _, _, _, _, _, _, rfl⟩ | exact absurd hk (by dsimp only [Nm.kind]; decide)
    cases a2
    cases a3
    obtain ⟨b1, hp⟩ := hd2 hp; obtain ⟨b2, hp⟩ := hd2 hp; obtain ⟨b3, hp⟩ := hd2 hp; obtain ⟨b4, hp⟩ := hd2 hp; obtain ⟨b5, hp⟩ := hd2 hp; obtain ⟨b6, hp⟩ := hd2 hp
    have nop : ∀ {H' : Hp}, Same H H' → ¬ bacOk (sides pms) nds ls batch t v s' i lo hi → Q (.bl false) H' := fun e hn => q false _ e ⟨fun z => (by cases z), fun z => absurd z.2 hn⟩
    refine ⟨_, rfl, a, _, _, _, rfl, rfl, hm3, rfl, _, _, rfl, rfl, _, rfl, ?_⟩
    have two : ¬ 1 < s' → s' = 0 ∨ s' = 1 := fun z => by omega
    by_cases hs1 : 1 < s'
    · refine iteD hs1 (iteT (nop s03 fun z => ?_))
      have h2 := z.2.2.1.2
      have lo2 : (nth nds v).ops.length ≤ 2 := by cases nth nds v <;> simp [Nd.ops]
      omega
    refine iteDN hs1 ?_
    refine ⟨_, rfl, _, rfl, a, _, _, _, rfl, rfl, hm3, rfl, b, r, rs, n0, PL, NL, LL, ni, nt, pms, nds, ls, v, 0, rfl, g, u, rv, .inl rfl, fun H4 s4 => ⟨rfl, _, rfl, ?_⟩⟩
    have s04 := s03.trans s4
    have hm4 := Same.seqT s04 hm
    have J4 := J.same s04
    by_cases hpr : (nth nds v).prod = true
    case neg =>
      rw [back_none hpr]
      exact iteD rfl (nop s04 fun z => absurd z.2.2.2.2.1 (by rw [back_none hpr]; exact Int.lt_irrefl 0))
    have ops1 : 1 ≤ (nth nds v).ops.length := by
      rcases Nd.prod_cases hpr with ⟨p, a, e⟩ | ⟨k, a, b, e | e⟩ <;> rw [e] <;> simp [Nd.ops]
    have bp0 := back_pos u rv hpr (s := 0) ⟨Int.le_refl 0, by omega⟩
    refine iteDN (fun z => by have := V.int.inj z; omega) ?_
    obtain ⟨nr4, nd, n14, ea, hnd⟩ := J4.g.nd rv
    refine ⟨_, rfl, n0, _, _, _, rfl, rfl, SqL.of J4.g.net, rfl, _, rfl, a, _, _, _, rfl, rfl, hm4, rfl, NL, _, _, _, rfl, rfl, SqL.of n14, ea, nd, _, rfl, SqT.of hnd, fun p1 H5 np1 s5 k5 => ?_⟩
    have s05 := s04.trans s5
    have hm5 := Same.seqT s05 hm
    have J5 := J.same s05
    refine ⟨_, rfl, a, _, _, _, rfl, rfl, hm5, rfl, _, rfl, p1, _, rfl, .inl (SqL.of k5), _, _, rfl, rfl, _, rfl, ?_⟩
    rw [List.length_map]
    by_cases hso : ((nth nds v).ops.length : Int) ≤ s'
    · exact iteD hso (iteT (nop s05 fun z => absurd z.2.2.1.2 (by omega)))
    refine iteDN hso ?_
    have rso : inR s' (nth nds v).ops.length := ⟨b4, by omega⟩
    obtain ⟨og, om⟩ := op_get rso
    have ro := (lop_pos u rv _ om).1
    refine ⟨_, rfl, a, _, _, _, rfl, rfl, hm5, rfl, _, rfl, n0, _, _, _, rfl, rfl, SqL.of J5.g.net, rfl, _, rfl, _, rfl, a, _, _, _, rfl, rfl, hm5, rfl, p1, _, _, _, rfl, rfl, SqL.of k5, og, LL, _, _, _, rfl, rfl, SqL.of J5.g.len, at_ints (show inR (opAt nds v s') ls.length by rw [u.all]; exact ro), _, _, rfl, rfl, _, rfl, ?_⟩
    by_cases hi' : lget ls (opAt nds v s') ≤ i
    · exact iteD hi' (nop s05 fun z => absurd z.2.2.2.1.2 (by omega))
    refine iteDN hi' ?_
    have pos := back_pos u rv hpr rso
    refine ⟨_, rfl, a, _, _, _, rfl, rfl, hm5, rfl, _, rfl, a, _, _, _, rfl, rfl, hm5, rfl, _, _, rfl, rfl, _, rfl, ?_⟩
    by_cases hl : lo ≤ hi
    · refine iteD hl ?_
      refine ⟨_, rfl, _, rfl, a, _, _, _, rfl, rfl, hm5, rfl, _, rfl, a, _, _, _, rfl, rfl, hm5, rfl, b, r, rs, n0, PL, NL, LL, ni, nt, pms, nds, ls, v, s', rfl, J5.g, u, rv, two hs1, fun H6 s6 => ⟨_, _, rfl, rfl, q _ _ (s05.trans s6) ?_⟩⟩
      rw [decide_eq_true_iff]
      exact ⟨fun z => ⟨b1, ⟨t0, by omega⟩, rv, rso, ⟨b5, by omega⟩, pos, b6, hl, z⟩, fun z => z.2.2.2.2.2.2.2.2⟩
    · exact iteDN hl (nop s05 fun z => absurd z.2.2.2.2.2.2.1 hl)
  obtain ⟨j, a4, j0, hok2⟩ : ∃ j : Int, atI m.enc 4 = some (.int j) ∧ 0 ≤ j ∧ (m.ok pms nds ls batch → j < lget ls v) := by
    cases m with
    | val n t v j =>
      cases a3
      obtain ⟨b1, hp⟩ := hd2 hp; obtain ⟨b2, hp⟩ := hd2 hp; obtain ⟨b3, hp⟩ := hd2 hp; obtain ⟨b4, hp⟩ := hd2 hp
      exact ⟨j, rfl, b4, fun z => z.2.2.2.2⟩
    | pre n t v j lo hi =>
      cases a3
      obtain ⟨b1, hp⟩ := hd2 hp; obtain ⟨b2, hp⟩ := hd2 hp; obtain ⟨b3, hp⟩ := hd2 hp; obtain ⟨b4, hp⟩ := hd2 hp
      exact ⟨j, rfl, b4, fun z => z.1.2.2.2.2⟩
    | inc n t v j w' =>
      cases a3
      obtain ⟨b1, hp⟩ := hd2 hp; obtain ⟨b2, hp⟩ := hd2 hp; obtain ⟨b3, hp⟩ := hd2 hp; obtain ⟨b4, hp⟩ := hd2 hp
      exact ⟨j, rfl, b4, fun z => z.1.2.2.2.2⟩
    | bac n t v s i lo hi => exact absurd rfl hk
    | par n p i j => exact absurd (.head _) h
    | mom n p i j => exact absurd (.tail _ (.head _)) h
    | grd n p i j lo hi => exact absurd (.head _) h'
    | los n lo hi => exact absurd (.tail _ (.head _)) h'
  refine ⟨_, rfl, a, _, _, _, rfl, rfl, hm3, a4, _, rfl, n0, _, _, _, rfl, rfl, SqL.of g.net, rfl, _, rfl, a, _, _, _, rfl, rfl, hm3, a3, LL, _, _, _, rfl, rfl, SqL.of g.len, at_ints rl, _, _, rfl, rfl, _, rfl, ?_⟩
  by_cases hj : lget ls v ≤ j
  · exact iteD hj (q false H3 s03 ⟨fun z => (by cases z), fun z => absurd (hok2 z) (by omega)⟩)
  refine iteDN hj ?_
  have elm : (0 ≤ t ∧ t < batch) ∧ inR v nds.length ∧ 0 ≤ j ∧ j < lget ls v := ⟨⟨t0, by omega⟩, rv, j0, by omega⟩
  refine if_is "pre" i0 (fun hk2 => ?_) (fun hk2 => ?_)
  · obtain ⟨n', t', v', j', lo, hi, rfl⟩ : ∃ n t v j lo hi, m = .pre n t v j lo hi := by
      cases m <;> first | exact ⟨_, _, _, _, _, _, rfl⟩ | exact absurd hk2 (by dsimp only [Nm.kind]; decide)
    cases a2
    cases a3
    cases a4
    obtain ⟨b1, hp⟩ := hd2 hp; obtain ⟨b2, hp⟩ := hd2 hp; obtain ⟨b3, hp⟩ := hd2 hp; obtain ⟨b4, hp⟩ := hd2 hp; obtain ⟨b5, hp⟩ := hd2 hp
    refine ⟨_, rfl, _, rfl, a, _, _, _, rfl, rfl, hm3, rfl, b, r, rs, n0, PL, NL, LL, ni, nt, pms, nds, ls, v, rfl, g, u, rv, fun H4 s4 => ⟨_, _, rfl, rfl, _, rfl, ?_⟩⟩
    have s04 := s03.trans s4
    have hm4 := Same.seqT s04 hm
    have J4 := J.same s04
    by_cases pos : 0 < sumSz (sides pms) nds ls v
    · refine iteD pos ?_
      refine ⟨_, rfl, a, _, _, _, rfl, rfl, hm4, rfl, _, rfl, a, _, _, _, rfl, rfl, hm4, rfl, _, _, rfl, rfl, _, rfl, ?_⟩
      by_cases hl : lo ≤ hi
      · refine iteD hl ?_
        refine ⟨_, rfl, _, rfl, a, _, _, _, rfl, rfl, hm4, rfl, b, r, rs, n0, PL, NL, LL, ni, nt, pms, nds, ls, v, rfl, J4.g, u, rv, fun H5 s5 => ⟨_, _, rfl, rfl, q _ _ (s04.trans s5) ?_⟩⟩
        rw [decide_eq_true_iff]
        exact ⟨fun z => ⟨⟨b1, elm⟩, pos, b5, hl, z⟩, fun z => z.2.2.2.2⟩
      · exact iteDN hl (q false _ s04 ⟨fun z => (by cases z), fun z => absurd z.2.2.2.1 hl⟩)
    · exact iteDN pos (q false _ s04 ⟨fun z => (by cases z), fun z => absurd z.2.1 pos⟩)
  cases m with
  | val n' t' v' j' =>
    cases a2
    cases a3
    cases a4
    obtain ⟨b1, hp⟩ := hd2 hp
    exact ⟨_, rfl, rfl, _, rfl, iteD rfl (q true H3 s03 ⟨fun _ => ⟨b1, elm⟩, fun _ => rfl⟩)⟩
  | inc n' t' v' j' w' =>
    cases a2
    cases a3
    cases a4
    obtain ⟨b1, hp⟩ := hd2 hp
    refine ⟨_, rfl, rfl, _, rfl, iteDN (show ¬ V.str "inc" = V.str "val" by decide) ?_⟩
    refine ⟨_, rfl, a, _, _, _, rfl, rfl, hm3, rfl, _, rfl, a, _, _, _, rfl, rfl, hm3, rfl, _, _, rfl, rfl, _, rfl, ?_⟩
    by_cases hl : v < w'
    · refine iteD hl ?_
      refine ⟨_, rfl, n0, _, _, _, rfl, rfl, SqL.of g.net, rfl, NL, _, rfl, .inl (SqL.of q1), _, _, rfl, rfl, q _ H3 s03 ?_⟩
      rw [decide_eq_true_iff, lnr]
      exact ⟨fun z => ⟨⟨b1, elm⟩, by omega, z⟩, fun z => z.2.2⟩
    · exact iteDN hl (q false H3 s03 ⟨fun z => (by cases z), fun z => absurd z.2.1 (by omega)⟩)
  | bac n t v s i lo hi => exact absurd rfl hk
  | pre n t v j lo hi => exact absurd rfl hk2
  | par n p i j => exact absurd (.head _) h
  | mom n p i j => exact absurd (.tail _ (.head _)) h
  | grd n p i j lo hi => exact absurd (.head _) h'
  | los n lo hi => exact absurd (.tail _ (.head _)) h'
theorem ok_law (F : Fun K "law" "law" s_law f fd) (T : Txt K mg cs w) (d__law_row : Def P w K mg base 2 "_law_row" ["script", "first", "last"] (spRow K)) (d__law_job : Def P w K mg base 5 "_law_job" ["box", "most"] (spSJob)) (d__law_built : Def P w K mg base 7 "_law_built" ["job"] (spBuilt K cs)) (d__law_any_name : Def P w K mg base 4 "_law_any_name" ["box", "job", "most"] (spAnyName)) (d__law_near : Def P w K mg base 2 "_law_near" ["box", "name"] (spNear)) (d_is_name : Def P w K mg base 6 "is_name" ["job", "name"] (spIsName K cs)) (d__law_valid : Def P w K mg base 2 "_law_valid" ["job", "name"] (spLValid K)) :
    FnOk P w K mg base CX0 8 f fd ["script"] (spLaw K) := by
  obtain ⟨f0, fd0, G__law_row, b__law_row, g__law_row, k__law_row⟩ := d__law_row.ex
  obtain ⟨f1, fd1, G__law_job, b__law_job, g__law_job, k__law_job⟩ := d__law_job.ex
  obtain ⟨f2, fd2, G__law_built, b__law_built, g__law_built, k__law_built⟩ := d__law_built.ex
  obtain ⟨f3, fd3, G__law_any_name, b__law_any_name, g__law_any_name, k__law_any_name⟩ := d__law_any_name.ex
  obtain ⟨f4, fd4, G__law_near, b__law_near, g__law_near, k__law_near⟩ := d__law_near.ex
  obtain ⟨f5, fd5, G_is_name, b_is_name, g_is_name, k_is_name⟩ := d_is_name.ex
  obtain ⟨f6, fd6, G__law_valid, b__law_valid, g__law_valid, k__law_valid⟩ := d__law_valid.ex
  refine F.ok sc_law (fun vs H Q E h => ?_) (fun cdv A outer s H vs Q E hr h => ?_)
  · obtain ⟨a, ns, rfl, hS, h63, q⟩ := h
    rfl
  obtain ⟨a, ns, rfl, hS, h63, q⟩ := h
  have hu := hr.units
  refine ⟨_, pss_cons (ps_set (i := 1) sc_law.nd rfl (.inl rfl) (pe_lst (pa_cons (pe_call G__law_row (hr.mono (by decide)) rfl g__law_row k__law_row b__law_row .nil pass0 (pa_cons (pv 0) (pa_cons pe_int (pa_cons pe_int pa_nil)))) (pa_cons pe_int pa_nil))))
 (pss_cons (ps_set (i := 2) sc_law.nd rfl (.inl rfl) (pe_call G__law_job (hr.mono (by decide)) rfl g__law_job k__law_job b__law_job .nil pass0 (pa_cons (pv 1) (pa_cons pe_int pa_nil))))
 (pss_cons (ps_set (i := 3) sc_law.nd rfl (.inl rfl) (pe_call G__law_built hr rfl g__law_built k__law_built b__law_built .nil pass0 (pa_cons (pv 2) pa_nil)))
 (pss_cons (ps_set (i := 4) sc_law.nd rfl (.inl rfl) (pe_lst pa_nil))
 (pss_cons (ps_for PassesOwn.never rfl (pi_range1 rfl T.z_range (pa_cons pe_int pa_nil)) (pg_name (i := 5) sc_law.nd rfl (.inl rfl)) (pss_cons (ps_set (i := 6) sc_law.nd rfl (.inl rfl) (pe_call G__law_any_name (hr.mono (by decide)) rfl g__law_any_name k__law_any_name b__law_any_name .nil pass0 (pa_cons (pv 1) (pa_cons (pv 2) (pa_cons pe_int pa_nil)))))
 (pss_cons (ps_if (pt_cmpR op_gt (pe_op op_mod (pv 5) pe_int) pe_int (nomark _)) (pss_one (ps_set (i := 6) sc_law.nd rfl (.inl rfl) (pe_call G__law_near (hr.mono (by decide)) rfl g__law_near k__law_near b__law_near .nil pass0 (pa_cons (pv 1) (pa_cons (pv 6) pa_nil))))) pss_nil)
 (pss_cons (ps_if (pt_cmpR op_eq (pe_op op_mod (pv 5) pe_int) pe_int (nomark _)) (pss_one (ps_set (i := 6) sc_law.nd rfl (.inl rfl) (pe_call G__law_near (hr.mono (by decide)) rfl g__law_near k__law_near b__law_near .nil pass0 (pa_cons (pv 1) (pa_cons (pv 6) pa_nil))))) pss_nil)
 (pss_one (ps_expr (pe_bm PySem.F.plainAttrs_list PySem.F.slot_list_append PySem.F.type_list_append mt_append (pv 4) (pa_cons (pv 6) pa_nil))))))))
 (pss_cons (ps_for PassesOwn.never rfl (pi_list (pe_op op_cat (pv 4) (pe_slice sl_list (pv 4) po_none (po_some pe_int)))) (pg_name (i := 6) sc_law.nd rfl (.inl rfl)) (pss_cons (ps_set (i := 7) sc_law.nd rfl (.inl rfl) (pe_call G_is_name (hr.mono (by decide)) rfl g_is_name k_is_name b_is_name .nil pass0 (pa_cons (pv 3) (pa_cons (pv 6) pa_nil))))
 (pss_one (ps_if (PW.pt (pw_or (pt_not (pt_val (pe_callB call_isi (by rfl) T.z_isinstance (by decide +kernel) (pa_cons (pv 7) (pa_cons (pe_bltn (v := .ty "bool") rfl T.z_bool PyProof.Rows.boot_bool rfl) pa_nil))))) (pw_or1 (pt_cmpR op_ne (pv 7) (pe_call G__law_valid (hr.mono (by decide)) rfl g__law_valid k__law_valid b__law_valid .nil pass0 (pa_cons (pv 2) (pa_cons (pv 6) pa_nil))) (nomark _))))) (pss_one (ps_ret pe_bl)) pss_nil))))
 (pss_one (ps_ret pe_bl))))))), ?_⟩
  refine ⟨_, rfl, a, ns, 0, 16, rfl, hS, by decide, by decide, by decide, fun r rs H1 nr sm hr1 => ?_⟩
  refine ⟨by show 2 ≤ sizeLine; decide, fun b nb => ?_⟩
  generalize eqH : upd H1 b _ = H2
  obtain ⟨s2, hb2⟩ := new_facts eqH nb
  clear eqH
  have B0 : Box H2 b r rs := ⟨⟨0, by decide, hb2⟩, s2 _ _ hr1⟩
  refine ⟨_, rfl, b, r, rs, 5, rfl, B0, by decide, by decide, fun jb RL DL n PL NL LL ni nt pms nds ls seed batch factor point rates data H4 J u sml hlast ok e4 => ?_⟩
  have few := sml.few
  refine ⟨_, rfl, b, r, rs, jb, RL, DL, n, PL, NL, LL, ni, nt, pms, nds, ls, seed, batch, factor, point, rates, data, rfl, J, u.ok (by omega), by have := u.few; omega, u.len, fun q0 H5 s5 O5 => ?_⟩
  have J5 := J.same s5
  have JN5 := O5.j
  obtain ⟨rr, hrr⟩ := sml.inp
  have l1 : 1 ≤ nds.length := by rw [hrr]; exact Nat.succ_pos _
  have n9 : nds.length ≤ 1000 := by omega
  have b1 := ok.b1
  have b3 := ok.b3
  refine ⟨Nat.zero_le _, fun l0 nl0 => ?_⟩
  generalize eqH : upd H5 l0 _ = H6
  obtain ⟨s6, hl6⟩ := new_facts eqH nl0
  clear eqH
  refine ⟨12, rfl, by decide, by decide, ?_⟩
  refine for_range (n := 12) (fun (t : Nat) σ H => ∃ (y5 y6 : Option V) (as : List Addr) (ms : List Nm), σ = [some (.ref a), some (.ref b), some (.ref jb), some (.ref q0), some (.ref l0), y5, y6, none] ∧ Box H b r rs ∧ But b H5 H ∧ H l0 = some (.lst (as.map V.ref)) ∧ NmsAt H as ms ∧ as.length = t) ⟨_, _, [], [], rfl, (J5.same s6).g.box, .of s6, hl6, .nil, rfl⟩ (fun t σ H' ht hP => ?_) (fun σ H' hP => ?_)
  · obtain ⟨y5, y6, as, ms, rfl, B6, e6, hl, hN, ln⟩ := hP
    have fin : ∀ {y5' : Option V} (x : Addr) (m : Nm) (H8 : Hp), Box H8 b r rs → But b H' H8 → H8 x = some (.tup m.enc) → posN m → H8 l0 = some (.lst (as.map V.ref)) ∧ ∃ (y5 y6 : Option V) (as' : List Addr) (ms' : List Nm), [some (.ref a), some (.ref b), some (.ref jb), some (.ref q0), some (.ref l0), y5', some (.ref x), none] = [some (V.ref a), some (.ref b), some (.ref jb), some (.ref q0), some (.ref l0), y5, y6, none] ∧ Box (upd H8 l0 (.lst (as.map V.ref ++ [.ref x]))) b r rs ∧ But b H5 (upd H8 l0 (.lst (as.map V.ref ++ [.ref x]))) ∧ (upd H8 l0 (.lst (as.map V.ref ++ [.ref x]))) l0 = some (.lst (as'.map V.ref)) ∧ NmsAt (upd H8 l0 (.lst (as.map V.ref ++ [.ref x]))) as' ms' ∧ as'.length = t + 1 := fun x m H8 B8 e8 hx hp => by
      have lb : l0 ≠ b := fun w => by obtain ⟨_, _, hb⟩ := B6.ex; rw [w, hb] at hl; exact refs_ne (Option.some.inj hl).symm
      have hl8 := e8 _ _ lb hl
      refine ⟨hl8, _, _, as ++ [x], ms ++ [m], rfl, B8.mut J5.g.box nl0, (e6.trans e8).mut nl0, by rw [upd_same, List.map_append]; rfl, ?_, by rw [List.length_append, ln]; rfl⟩
      exact ((hN.but B6 e8).mut hl8).app' (.cons ⟨by rw [upd_ne (fun w => by rw [w, hl8] at hx; cases hx)]; exact hx, hp⟩ .nil)
    refine ⟨_, rfl, _, rfl, b, r, rs, jb, RL, DL, n, PL, NL, LL, ni, nt, pms, nds, ls, seed, batch, factor, point, rates, data, 4, rfl, J5.but B6 e6, u, sml.p1, l1, n9, b1, by decide, fun x m H7 B7 e7 hx mok => ?_⟩
    have hp := ok_pos mok
    refine ⟨_, rfl, _, _, rfl, rfl, (by decide : (0 : Int) < 3), _, _, rfl, rfl, _, rfl, ?_⟩
    by_cases c0 : 0 < (0 + (t : Int)) % 3
    · refine iteD c0 ?_
      refine ⟨_, rfl, _, rfl, b, r, rs, x, m, rfl, B7, hx, hp, fun x2 m2 H8 B8 e8 hx2 hp2 => ?_⟩
      refine ⟨_, rfl, _, _, rfl, rfl, (by decide : (0 : Int) < 3), rfl, _, rfl, ?_⟩
      by_cases c2 : (0 + (t : Int)) % 3 = 2
      · refine iteD (congrArg V.int c2) ?_
        refine ⟨_, rfl, _, rfl, b, r, rs, x2, m2, rfl, B8, hx2, hp2, fun x3 m3 H9 B9 e9 hx3 hp3 => ?_⟩
        obtain ⟨hl9, inv⟩ := fin x3 m3 H9 B9 ((e7.trans e8).trans e9) hx3 hp3
        exact ⟨_, rfl, .inl ⟨rfl, _, .inl (.inl hl9)⟩, _, rfl, l0, _, _, rfl, rfl, hl9, smaller (by rw [List.length_map]; omega), inv⟩
      · refine iteDN (fun z => c2 (V.int.inj z)) ?_
        obtain ⟨hl9, inv⟩ := fin x2 m2 H8 B8 (e7.trans e8) hx2 hp2
        exact ⟨_, rfl, .inl ⟨rfl, _, .inl (.inl hl9)⟩, _, rfl, l0, _, _, rfl, rfl, hl9, smaller (by rw [List.length_map]; omega), inv⟩
    · refine iteDN c0 ?_
      refine ⟨_, rfl, _, _, rfl, rfl, (by decide : (0 : Int) < 3), rfl, _, rfl, ?_⟩
      refine iteDN (fun z => by have := V.int.inj z; omega) ?_
      obtain ⟨hl9, inv⟩ := fin x m H7 B7 e7 hx hp
      exact ⟨_, rfl, .inl ⟨rfl, _, .inl (.inl hl9)⟩, _, rfl, l0, _, _, rfl, rfl, hl9, smaller (by rw [List.length_map]; omega), inv⟩
  obtain ⟨y5, y6, as, ms, rfl, B6, e6, hl, hN, ln⟩ := hP
  have J6 := J5.but B6 e6
  have JN6 := JN5.but J5.g.box e6
  refine ⟨_, rfl, _, rfl, _, rfl, l0, _, rfl, SqL.of hl, fun p1 np1 => ?_⟩
  generalize eqH : upd H' p1 _ = H7
  obtain ⟨s7, h7⟩ := new_facts eqH np1
  clear eqH
  have ec : cutV (as.map V.ref) none (some 4) = (as.take 4).map V.ref := by
    show cutV (as.map V.ref) none (some ((4 : Nat) : Int)) = _
    rw [cutV_to (by rw [List.length_map, ln]; decide), List.map_take]
  rw [ec] at h7
  refine ⟨l0, p1, _, _, rfl, rfl, s7 _ _ hl, h7, Nat.le_trans (m := 200000) (by rw [List.length_map, List.length_map, List.length_take]; omega) (by decide), fun p2 np2 => ?_⟩
  generalize eqH : upd H7 p2 _ = H8
  obtain ⟨s8, h8⟩ := new_facts eqH np2
  clear eqH
  rw [← List.map_append] at h8
  have s68 := s7.trans s8
  have hN2 : NmsAt H8 (as ++ as.take 4) (ms ++ ms.take 4) := (hN.app' (hN.take' 4)).mono fun a m z => ⟨s68 _ _ z.1, z.2⟩
  refine ⟨p2, rfl, ⟨_, SqL.of h8⟩, ?_⟩
  refine for_list (xs := (as ++ as.take 4).map V.ref) (fun (i : Nat) σ H'' => ∃ (y6 y7 : Option V), σ = [some (.ref a), some (.ref b), some (.ref jb), some (.ref q0), some (.ref l0), y5, y6, y7] ∧ Same H8 H'') ⟨_, _, rfl, .refl _⟩ (fun i σ H'' _ hP => ?_) (fun i v σ H'' hv hP => ?_) (fun σ H'' hP => ?_)
  · obtain ⟨y6, y7, rfl, e⟩ := hP
    exact SqL.of (e _ _ h8)
  · obtain ⟨y6, y7, rfl, e⟩ := hP
    rw [List.getElem?_map] at hv
    obtain ⟨x, hx, rfl⟩ := Option.map_eq_some_iff.mp hv
    obtain ⟨m, hm, hxm⟩ : ∃ m, (ms ++ ms.take 4)[i]? = some m ∧ H8 x = some (.tup m.enc) ∧ posN m := by
      have hi : i < (ms ++ ms.take 4).length := by rw [← hN2.length]; exact (List.getElem?_eq_some_iff.mp hx).1
      have em := List.getElem?_eq_getElem hi
      obtain ⟨x', ex, z⟩ := hN2.get em
      rw [hx] at ex
      cases ex
      exact ⟨_, em, z⟩
    have s9 := s68.trans e
    have hx9 := e _ _ hxm.1
    refine ⟨_, rfl, _, rfl, q0, x, ni, nt, pms, nds, ls, batch, m, rfl, JN6.same s9, u, SqT.of hx9, hxm.2, fun bv H10 s10 hbv => ?_⟩
    refine ⟨_, rfl, _, _, _, _, true, rfl, .ty _, .base (.bl _), kit_ty (by decide +kernel), _, rfl, iteF ?_⟩
    have s10' := s9.trans s10
    refine ⟨_, rfl, _, rfl, _, rfl, b, r, rs, jb, RL, DL, n, PL, NL, LL, x, ni, nt, pms, nds, ls, seed, batch, factor, point, rates, data, m, rfl, J6.same s10', u, SqT.of (s10 _ _ hx9), hxm.2, fun bv2 H11 s11 hbv2 => ?_⟩
    have eb : bv = bv2 := by
      cases bv <;> cases bv2 <;> first | rfl | (exfalso; have := hbv.mpr (hbv2.mp rfl); cases this) | (exfalso; have := hbv2.mpr (hbv.mp rfl); cases this)
    refine ⟨rfl, _, rfl, iteNS (by rw [eb]) ?_⟩
    exact ⟨_, _, rfl, e.trans (s10.trans s11)⟩
  · exact q _

end
theorem all_mk {l : PySem.W.OpenLaw} {w : World} {K : PySem.W.Frag} {h : Heap} {mg : Str → Option Value} {fa : Addr} (X : K.In h) (G : h.Ns mainGlobals mg) (hfa : mg "law" = some (.ref fa))
    {C_Parameter : Addr} (ac_Parameter : PySem.W.nsIn K mainGlobals "Parameter" = some (some (.ref C_Parameter)))
    (pg_Parameter : PySem.W.plainGet K C_Parameter Str.empty = true) (hd_Parameter : PySem.W.hasDictIn K C_Parameter = true) (po_Parameter : PySem.W.plainOver K C_Parameter = true) (sa_Parameter : PySem.W.findIn K (.ref C_Parameter) "__setattr__" = some (some (.builtin "object.__setattr__"))) (mk_Parameter : PySem.W.makesIn K C_Parameter = true) (kc_Parameter : PySem.W.keepIn K (.ref C_Parameter) = true)
    (na_Parameter_rows : PySem.W.findIn K (.ref C_Parameter) "rows" = some none)
    (na_Parameter_cols : PySem.W.findIn K (.ref C_Parameter) "cols" = some none)
    (na_Parameter_fill : PySem.W.findIn K (.ref C_Parameter) "fill" = some none)
    {C_Net : Addr} (ac_Net : PySem.W.nsIn K mainGlobals "Net" = some (some (.ref C_Net)))
    (pg_Net : PySem.W.plainGet K C_Net Str.empty = true) (hd_Net : PySem.W.hasDictIn K C_Net = true) (po_Net : PySem.W.plainOver K C_Net = true) (sa_Net : PySem.W.findIn K (.ref C_Net) "__setattr__" = some (some (.builtin "object.__setattr__"))) (mk_Net : PySem.W.makesIn K C_Net = true) (kc_Net : PySem.W.keepIn K (.ref C_Net) = true)
    (na_Net_inputs : PySem.W.findIn K (.ref C_Net) "inputs" = some none)
    (na_Net_targets : PySem.W.findIn K (.ref C_Net) "targets" = some none)
    (na_Net_parameters : PySem.W.findIn K (.ref C_Net) "parameters" = some none)
    (na_Net_nodes : PySem.W.findIn K (.ref C_Net) "nodes" = some none)
    (na_Net_lengths : PySem.W.findIn K (.ref C_Net) "lengths" = some none)
    {C_Job : Addr} (ac_Job : PySem.W.nsIn K mainGlobals "Job" = some (some (.ref C_Job)))
    (pg_Job : PySem.W.plainGet K C_Job Str.empty = true) (hd_Job : PySem.W.hasDictIn K C_Job = true) (po_Job : PySem.W.plainOver K C_Job = true) (sa_Job : PySem.W.findIn K (.ref C_Job) "__setattr__" = some (some (.builtin "object.__setattr__"))) (mk_Job : PySem.W.makesIn K C_Job = true) (kc_Job : PySem.W.keepIn K (.ref C_Job) = true)
    (na_Job_net : PySem.W.findIn K (.ref C_Job) "net" = some none)
    (na_Job_seed : PySem.W.findIn K (.ref C_Job) "seed" = some none)
    (na_Job_batch : PySem.W.findIn K (.ref C_Job) "batch" = some none)
    (na_Job_factor : PySem.W.findIn K (.ref C_Job) "factor" = some none)
    (na_Job_point : PySem.W.findIn K (.ref C_Job) "point" = some none)
    (na_Job_rates : PySem.W.findIn K (.ref C_Job) "rates" = some none)
    (na_Job_data : PySem.W.findIn K (.ref C_Job) "data" = some none)
    {f_0 : Addr} {od_0 an_0 : Option Addr} {sl_0 : Array (Option Value)} {oc_0 kV_0 dc_0 pm_0 cd_0 ct_0 : Value}
    (a_0 : PySem.W.nsIn K mainGlobals "_law_sum_size" = some (some (.ref f_0)))
    (l_0 : K.lookup f_0 = some ⟨oc_0, od_0, .func (PySem.W.fnOf "_law_sum_size" "_law_sum_size" (defArgs s__law_sum_size) (defBody s__law_sum_size) (defScope s__law_sum_size) .none kV_0 dc_0 pm_0 an_0 cd_0 ct_0), sl_0⟩) (c_0 : PySem.W.codeIn K cd_0 "_law_sum_size" = true) (k_0 : PySem.W.keepIn K (.ref f_0) = true)
    {f_1 : Addr} {od_1 an_1 : Option Addr} {sl_1 : Array (Option Value)} {oc_1 kV_1 dc_1 pm_1 cd_1 ct_1 : Value}
    (a_1 : PySem.W.nsIn K mainGlobals "_law_operands" = some (some (.ref f_1)))
    (l_1 : K.lookup f_1 = some ⟨oc_1, od_1, .func (PySem.W.fnOf "_law_operands" "_law_operands" (defArgs s__law_operands) (defBody s__law_operands) (defScope s__law_operands) .none kV_1 dc_1 pm_1 an_1 cd_1 ct_1), sl_1⟩) (c_1 : PySem.W.codeIn K cd_1 "_law_operands" = true) (k_1 : PySem.W.keepIn K (.ref f_1) = true)
    {f_2 : Addr} {od_2 an_2 : Option Addr} {sl_2 : Array (Option Value)} {oc_2 kV_2 dc_2 pm_2 cd_2 ct_2 : Value}
    (a_2 : PySem.W.nsIn K mainGlobals "_law_back_size" = some (some (.ref f_2)))
    (l_2 : K.lookup f_2 = some ⟨oc_2, od_2, .func (PySem.W.fnOf "_law_back_size" "_law_back_size" (defArgs s__law_back_size) (defBody s__law_back_size) (defScope s__law_back_size) .none kV_2 dc_2 pm_2 an_2 cd_2 ct_2), sl_2⟩) (c_2 : PySem.W.codeIn K cd_2 "_law_back_size" = true) (k_2 : PySem.W.keepIn K (.ref f_2) = true)
    {f_3 : Addr} {od_3 an_3 : Option Addr} {sl_3 : Array (Option Value)} {oc_3 kV_3 dc_3 pm_3 cd_3 ct_3 : Value}
    (a_3 : PySem.W.nsIn K mainGlobals "_law_valid_cell" = some (some (.ref f_3)))
    (l_3 : K.lookup f_3 = some ⟨oc_3, od_3, .func (PySem.W.fnOf "_law_valid_cell" "_law_valid_cell" (defArgs s__law_valid_cell) (defBody s__law_valid_cell) (defScope s__law_valid_cell) .none kV_3 dc_3 pm_3 an_3 cd_3 ct_3), sl_3⟩) (c_3 : PySem.W.codeIn K cd_3 "_law_valid_cell" = true) (k_3 : PySem.W.keepIn K (.ref f_3) = true)
    {f_4 : Addr} {od_4 an_4 : Option Addr} {sl_4 : Array (Option Value)} {oc_4 kV_4 dc_4 pm_4 cd_4 ct_4 : Value}
    (a_4 : PySem.W.nsIn K mainGlobals "_is_los" = some (some (.ref f_4)))
    (l_4 : K.lookup f_4 = some ⟨oc_4, od_4, .func (PySem.W.fnOf "_is_los" "_is_los" (defArgs s__is_los) (defBody s__is_los) (defScope s__is_los) .none kV_4 dc_4 pm_4 an_4 cd_4 ct_4), sl_4⟩) (c_4 : PySem.W.codeIn K cd_4 "_is_los" = true) (k_4 : PySem.W.keepIn K (.ref f_4) = true)
    {f_5 : Addr} {od_5 an_5 : Option Addr} {sl_5 : Array (Option Value)} {oc_5 kV_5 dc_5 pm_5 cd_5 ct_5 : Value}
    (a_5 : PySem.W.nsIn K mainGlobals "_is_cell" = some (some (.ref f_5)))
    (l_5 : K.lookup f_5 = some ⟨oc_5, od_5, .func (PySem.W.fnOf "_is_cell" "_is_cell" (defArgs s__is_cell) (defBody s__is_cell) (defScope s__is_cell) .none kV_5 dc_5 pm_5 an_5 cd_5 ct_5), sl_5⟩) (c_5 : PySem.W.codeIn K cd_5 "_is_cell" = true) (k_5 : PySem.W.keepIn K (.ref f_5) = true)
    {f_6 : Addr} {od_6 an_6 : Option Addr} {sl_6 : Array (Option Value)} {oc_6 kV_6 dc_6 pm_6 cd_6 ct_6 : Value}
    (a_6 : PySem.W.nsIn K mainGlobals "operands" = some (some (.ref f_6)))
    (l_6 : K.lookup f_6 = some ⟨oc_6, od_6, .func (PySem.W.fnOf "operands" "operands" (defArgs s_operands) (defBody s_operands) (defScope s_operands) .none kV_6 dc_6 pm_6 an_6 cd_6 ct_6), sl_6⟩) (c_6 : PySem.W.codeIn K cd_6 "operands" = true) (k_6 : PySem.W.keepIn K (.ref f_6) = true)
    {f_7 : Addr} {od_7 an_7 : Option Addr} {sl_7 : Array (Option Value)} {oc_7 kV_7 dc_7 pm_7 cd_7 ct_7 : Value}
    (a_7 : PySem.W.nsIn K mainGlobals "_is_element" = some (some (.ref f_7)))
    (l_7 : K.lookup f_7 = some ⟨oc_7, od_7, .func (PySem.W.fnOf "_is_element" "_is_element" (defArgs s__is_element) (defBody s__is_element) (defScope s__is_element) .none kV_7 dc_7 pm_7 an_7 cd_7 ct_7), sl_7⟩) (c_7 : PySem.W.codeIn K cd_7 "_is_element" = true) (k_7 : PySem.W.keepIn K (.ref f_7) = true)
    {f_8 : Addr} {od_8 an_8 : Option Addr} {sl_8 : Array (Option Value)} {oc_8 kV_8 dc_8 pm_8 cd_8 ct_8 : Value}
    (a_8 : PySem.W.nsIn K mainGlobals "_law_draw" = some (some (.ref f_8)))
    (l_8 : K.lookup f_8 = some ⟨oc_8, od_8, .func (PySem.W.fnOf "_law_draw" "_law_draw" (defArgs s__law_draw) (defBody s__law_draw) (defScope s__law_draw) .none kV_8 dc_8 pm_8 an_8 cd_8 ct_8), sl_8⟩) (c_8 : PySem.W.codeIn K cd_8 "_law_draw" = true) (k_8 : PySem.W.keepIn K (.ref f_8) = true)
    {f_9 : Addr} {od_9 an_9 : Option Addr} {sl_9 : Array (Option Value)} {oc_9 kV_9 dc_9 pm_9 cd_9 ct_9 : Value}
    (a_9 : PySem.W.nsIn K mainGlobals "is_inside" = some (some (.ref f_9)))
    (l_9 : K.lookup f_9 = some ⟨oc_9, od_9, .func (PySem.W.fnOf "is_inside" "is_inside" (defArgs s_is_inside) (defBody s_is_inside) (defScope s_is_inside) .none kV_9 dc_9 pm_9 an_9 cd_9 ct_9), sl_9⟩) (c_9 : PySem.W.codeIn K cd_9 "is_inside" = true) (k_9 : PySem.W.keepIn K (.ref f_9) = true)
    {f_10 : Addr} {od_10 an_10 : Option Addr} {sl_10 : Array (Option Value)} {oc_10 kV_10 dc_10 pm_10 cd_10 ct_10 : Value}
    (a_10 : PySem.W.nsIn K mainGlobals "_of_join" = some (some (.ref f_10)))
    (l_10 : K.lookup f_10 = some ⟨oc_10, od_10, .func (PySem.W.fnOf "_of_join" "_of_join" (defArgs s__of_join) (defBody s__of_join) (defScope s__of_join) .none kV_10 dc_10 pm_10 an_10 cd_10 ct_10), sl_10⟩) (c_10 : PySem.W.codeIn K cd_10 "_of_join" = true) (k_10 : PySem.W.keepIn K (.ref f_10) = true)
    {f_11 : Addr} {od_11 an_11 : Option Addr} {sl_11 : Array (Option Value)} {oc_11 kV_11 dc_11 pm_11 cd_11 ct_11 : Value}
    (a_11 : PySem.W.nsIn K mainGlobals "_of_sum" = some (some (.ref f_11)))
    (l_11 : K.lookup f_11 = some ⟨oc_11, od_11, .func (PySem.W.fnOf "_of_sum" "_of_sum" (defArgs s__of_sum) (defBody s__of_sum) (defScope s__of_sum) .none kV_11 dc_11 pm_11 an_11 cd_11 ct_11), sl_11⟩) (c_11 : PySem.W.codeIn K cd_11 "_of_sum" = true) (k_11 : PySem.W.keepIn K (.ref f_11) = true)
    {f_12 : Addr} {od_12 an_12 : Option Addr} {sl_12 : Array (Option Value)} {oc_12 kV_12 dc_12 pm_12 cd_12 ct_12 : Value}
    (a_12 : PySem.W.nsIn K mainGlobals "_of_drop" = some (some (.ref f_12)))
    (l_12 : K.lookup f_12 = some ⟨oc_12, od_12, .func (PySem.W.fnOf "_of_drop" "_of_drop" (defArgs s__of_drop) (defBody s__of_drop) (defScope s__of_drop) .none kV_12 dc_12 pm_12 an_12 cd_12 ct_12), sl_12⟩) (c_12 : PySem.W.codeIn K cd_12 "_of_drop" = true) (k_12 : PySem.W.keepIn K (.ref f_12) = true)
    {f_13 : Addr} {od_13 an_13 : Option Addr} {sl_13 : Array (Option Value)} {oc_13 kV_13 dc_13 pm_13 cd_13 ct_13 : Value}
    (a_13 : PySem.W.nsIn K mainGlobals "_of_relu" = some (some (.ref f_13)))
    (l_13 : K.lookup f_13 = some ⟨oc_13, od_13, .func (PySem.W.fnOf "_of_relu" "_of_relu" (defArgs s__of_relu) (defBody s__of_relu) (defScope s__of_relu) .none kV_13 dc_13 pm_13 an_13 cd_13 ct_13), sl_13⟩) (c_13 : PySem.W.codeIn K cd_13 "_of_relu" = true) (k_13 : PySem.W.keepIn K (.ref f_13) = true)
    {f_14 : Addr} {od_14 an_14 : Option Addr} {sl_14 : Array (Option Value)} {oc_14 kV_14 dc_14 pm_14 cd_14 ct_14 : Value}
    (a_14 : PySem.W.nsIn K mainGlobals "_of_shift" = some (some (.ref f_14)))
    (l_14 : K.lookup f_14 = some ⟨oc_14, od_14, .func (PySem.W.fnOf "_of_shift" "_of_shift" (defArgs s__of_shift) (defBody s__of_shift) (defScope s__of_shift) .none kV_14 dc_14 pm_14 an_14 cd_14 ct_14), sl_14⟩) (c_14 : PySem.W.codeIn K cd_14 "_of_shift" = true) (k_14 : PySem.W.keepIn K (.ref f_14) = true)
    {f_15 : Addr} {od_15 an_15 : Option Addr} {sl_15 : Array (Option Value)} {oc_15 kV_15 dc_15 pm_15 cd_15 ct_15 : Value}
    (a_15 : PySem.W.nsIn K mainGlobals "is_word" = some (some (.ref f_15)))
    (l_15 : K.lookup f_15 = some ⟨oc_15, od_15, .func (PySem.W.fnOf "is_word" "is_word" (defArgs s_is_word) (defBody s_is_word) (defScope s_is_word) .none kV_15 dc_15 pm_15 an_15 cd_15 ct_15), sl_15⟩) (c_15 : PySem.W.codeIn K cd_15 "is_word" = true) (k_15 : PySem.W.keepIn K (.ref f_15) = true)
    {f_16 : Addr} {od_16 an_16 : Option Addr} {sl_16 : Array (Option Value)} {oc_16 kV_16 dc_16 pm_16 cd_16 ct_16 : Value}
    (a_16 : PySem.W.nsIn K mainGlobals "_of_pair" = some (some (.ref f_16)))
    (l_16 : K.lookup f_16 = some ⟨oc_16, od_16, .func (PySem.W.fnOf "_of_pair" "_of_pair" (defArgs s__of_pair) (defBody s__of_pair) (defScope s__of_pair) .none kV_16 dc_16 pm_16 an_16 cd_16 ct_16), sl_16⟩) (c_16 : PySem.W.codeIn K cd_16 "_of_pair" = true) (k_16 : PySem.W.keepIn K (.ref f_16) = true)
    {f_17 : Addr} {od_17 an_17 : Option Addr} {sl_17 : Array (Option Value)} {oc_17 kV_17 dc_17 pm_17 cd_17 ct_17 : Value}
    (a_17 : PySem.W.nsIn K mainGlobals "is_multiple" = some (some (.ref f_17)))
    (l_17 : K.lookup f_17 = some ⟨oc_17, od_17, .func (PySem.W.fnOf "is_multiple" "is_multiple" (defArgs s_is_multiple) (defBody s_is_multiple) (defScope s_is_multiple) .none kV_17 dc_17 pm_17 an_17 cd_17 ct_17), sl_17⟩) (c_17 : PySem.W.codeIn K cd_17 "is_multiple" = true) (k_17 : PySem.W.keepIn K (.ref f_17) = true)
    {f_18 : Addr} {od_18 an_18 : Option Addr} {sl_18 : Array (Option Value)} {oc_18 kV_18 dc_18 pm_18 cd_18 ct_18 : Value}
    (a_18 : PySem.W.nsIn K mainGlobals "_of_targets" = some (some (.ref f_18)))
    (l_18 : K.lookup f_18 = some ⟨oc_18, od_18, .func (PySem.W.fnOf "_of_targets" "_of_targets" (defArgs s__of_targets) (defBody s__of_targets) (defScope s__of_targets) .none kV_18 dc_18 pm_18 an_18 cd_18 ct_18), sl_18⟩) (c_18 : PySem.W.codeIn K cd_18 "_of_targets" = true) (k_18 : PySem.W.keepIn K (.ref f_18) = true)
    {f_19 : Addr} {od_19 an_19 : Option Addr} {sl_19 : Array (Option Value)} {oc_19 kV_19 dc_19 pm_19 cd_19 ct_19 : Value}
    (a_19 : PySem.W.nsIn K mainGlobals "_of_inputs" = some (some (.ref f_19)))
    (l_19 : K.lookup f_19 = some ⟨oc_19, od_19, .func (PySem.W.fnOf "_of_inputs" "_of_inputs" (defArgs s__of_inputs) (defBody s__of_inputs) (defScope s__of_inputs) .none kV_19 dc_19 pm_19 an_19 cd_19 ct_19), sl_19⟩) (c_19 : PySem.W.codeIn K cd_19 "_of_inputs" = true) (k_19 : PySem.W.keepIn K (.ref f_19) = true)
    {f_20 : Addr} {od_20 an_20 : Option Addr} {sl_20 : Array (Option Value)} {oc_20 kV_20 dc_20 pm_20 cd_20 ct_20 : Value}
    (a_20 : PySem.W.nsIn K mainGlobals "_names_exist" = some (some (.ref f_20)))
    (l_20 : K.lookup f_20 = some ⟨oc_20, od_20, .func (PySem.W.fnOf "_names_exist" "_names_exist" (defArgs s__names_exist) (defBody s__names_exist) (defScope s__names_exist) .none kV_20 dc_20 pm_20 an_20 cd_20 ct_20), sl_20⟩) (c_20 : PySem.W.codeIn K cd_20 "_names_exist" = true) (k_20 : PySem.W.keepIn K (.ref f_20) = true)
    {f_21 : Addr} {od_21 an_21 : Option Addr} {sl_21 : Array (Option Value)} {oc_21 kV_21 dc_21 pm_21 cd_21 ct_21 : Value}
    (a_21 : PySem.W.findIn K (.ref C_Job) "__init__" = some (some (.ref f_21))) (i_21 : PySem.W.isFn K (.ref f_21) = true)
    (l_21 : K.lookup f_21 = some ⟨oc_21, od_21, .func (PySem.W.fnOf "__init__" "Job.__init__" (defArgs s_Job___init__) (defBody s_Job___init__) (defScope s_Job___init__) .none kV_21 dc_21 pm_21 an_21 cd_21 ct_21), sl_21⟩) (c_21 : PySem.W.codeIn K cd_21 "Job.__init__" = true) (k_21 : PySem.W.keepIn K (.ref f_21) = true)
    {f_22 : Addr} {od_22 an_22 : Option Addr} {sl_22 : Array (Option Value)} {oc_22 kV_22 dc_22 pm_22 cd_22 ct_22 : Value}
    (a_22 : PySem.W.findIn K (.ref C_Parameter) "__init__" = some (some (.ref f_22))) (i_22 : PySem.W.isFn K (.ref f_22) = true)
    (l_22 : K.lookup f_22 = some ⟨oc_22, od_22, .func (PySem.W.fnOf "__init__" "Parameter.__init__" (defArgs s_Parameter___init__) (defBody s_Parameter___init__) (defScope s_Parameter___init__) .none kV_22 dc_22 pm_22 an_22 cd_22 ct_22), sl_22⟩) (c_22 : PySem.W.codeIn K cd_22 "Parameter.__init__" = true) (k_22 : PySem.W.keepIn K (.ref f_22) = true)
    {f_23 : Addr} {od_23 an_23 : Option Addr} {sl_23 : Array (Option Value)} {oc_23 kV_23 dc_23 pm_23 cd_23 ct_23 : Value}
    (a_23 : PySem.W.nsIn K mainGlobals "_law_wrap" = some (some (.ref f_23)))
    (l_23 : K.lookup f_23 = some ⟨oc_23, od_23, .func (PySem.W.fnOf "_law_wrap" "_law_wrap" (defArgs s__law_wrap) (defBody s__law_wrap) (defScope s__law_wrap) .none kV_23 dc_23 pm_23 an_23 cd_23 ct_23), sl_23⟩) (c_23 : PySem.W.codeIn K cd_23 "_law_wrap" = true) (k_23 : PySem.W.keepIn K (.ref f_23) = true)
    {f_24 : Addr} {od_24 an_24 : Option Addr} {sl_24 : Array (Option Value)} {oc_24 kV_24 dc_24 pm_24 cd_24 ct_24 : Value}
    (a_24 : PySem.W.nsIn K mainGlobals "_law_length" = some (some (.ref f_24)))
    (l_24 : K.lookup f_24 = some ⟨oc_24, od_24, .func (PySem.W.fnOf "_law_length" "_law_length" (defArgs s__law_length) (defBody s__law_length) (defScope s__law_length) .none kV_24 dc_24 pm_24 an_24 cd_24 ct_24), sl_24⟩) (c_24 : PySem.W.codeIn K cd_24 "_law_length" = true) (k_24 : PySem.W.keepIn K (.ref f_24) = true)
    {f_25 : Addr} {od_25 an_25 : Option Addr} {sl_25 : Array (Option Value)} {oc_25 kV_25 dc_25 pm_25 cd_25 ct_25 : Value}
    (a_25 : PySem.W.nsIn K mainGlobals "_law_cell" = some (some (.ref f_25)))
    (l_25 : K.lookup f_25 = some ⟨oc_25, od_25, .func (PySem.W.fnOf "_law_cell" "_law_cell" (defArgs s__law_cell) (defBody s__law_cell) (defScope s__law_cell) .none kV_25 dc_25 pm_25 an_25 cd_25 ct_25), sl_25⟩) (c_25 : PySem.W.codeIn K cd_25 "_law_cell" = true) (k_25 : PySem.W.keepIn K (.ref f_25) = true)
    {f_26 : Addr} {od_26 an_26 : Option Addr} {sl_26 : Array (Option Value)} {oc_26 kV_26 dc_26 pm_26 cd_26 ct_26 : Value}
    (a_26 : PySem.W.nsIn K mainGlobals "_law_valid" = some (some (.ref f_26)))
    (l_26 : K.lookup f_26 = some ⟨oc_26, od_26, .func (PySem.W.fnOf "_law_valid" "_law_valid" (defArgs s__law_valid) (defBody s__law_valid) (defScope s__law_valid) .none kV_26 dc_26 pm_26 an_26 cd_26 ct_26), sl_26⟩) (c_26 : PySem.W.codeIn K cd_26 "_law_valid" = true) (k_26 : PySem.W.keepIn K (.ref f_26) = true)
    {f_27 : Addr} {od_27 an_27 : Option Addr} {sl_27 : Array (Option Value)} {oc_27 kV_27 dc_27 pm_27 cd_27 ct_27 : Value}
    (a_27 : PySem.W.nsIn K mainGlobals "_is_grd" = some (some (.ref f_27)))
    (l_27 : K.lookup f_27 = some ⟨oc_27, od_27, .func (PySem.W.fnOf "_is_grd" "_is_grd" (defArgs s__is_grd) (defBody s__is_grd) (defScope s__is_grd) .none kV_27 dc_27 pm_27 an_27 cd_27 ct_27), sl_27⟩) (c_27 : PySem.W.codeIn K cd_27 "_is_grd" = true) (k_27 : PySem.W.keepIn K (.ref f_27) = true)
    {f_28 : Addr} {od_28 an_28 : Option Addr} {sl_28 : Array (Option Value)} {oc_28 kV_28 dc_28 pm_28 cd_28 ct_28 : Value}
    (a_28 : PySem.W.nsIn K mainGlobals "row_length" = some (some (.ref f_28)))
    (l_28 : K.lookup f_28 = some ⟨oc_28, od_28, .func (PySem.W.fnOf "row_length" "row_length" (defArgs s_row_length) (defBody s_row_length) (defScope s_row_length) .none kV_28 dc_28 pm_28 an_28 cd_28 ct_28), sl_28⟩) (c_28 : PySem.W.codeIn K cd_28 "row_length" = true) (k_28 : PySem.W.keepIn K (.ref f_28) = true)
    {f_29 : Addr} {od_29 an_29 : Option Addr} {sl_29 : Array (Option Value)} {oc_29 kV_29 dc_29 pm_29 cd_29 ct_29 : Value}
    (a_29 : PySem.W.nsIn K mainGlobals "_is_inc" = some (some (.ref f_29)))
    (l_29 : K.lookup f_29 = some ⟨oc_29, od_29, .func (PySem.W.fnOf "_is_inc" "_is_inc" (defArgs s__is_inc) (defBody s__is_inc) (defScope s__is_inc) .none kV_29 dc_29 pm_29 an_29 cd_29 ct_29), sl_29⟩) (c_29 : PySem.W.codeIn K cd_29 "_is_inc" = true) (k_29 : PySem.W.keepIn K (.ref f_29) = true)
    {f_30 : Addr} {od_30 an_30 : Option Addr} {sl_30 : Array (Option Value)} {oc_30 kV_30 dc_30 pm_30 cd_30 ct_30 : Value}
    (a_30 : PySem.W.nsIn K mainGlobals "_law_near" = some (some (.ref f_30)))
    (l_30 : K.lookup f_30 = some ⟨oc_30, od_30, .func (PySem.W.fnOf "_law_near" "_law_near" (defArgs s__law_near) (defBody s__law_near) (defScope s__law_near) .none kV_30 dc_30 pm_30 an_30 cd_30 ct_30), sl_30⟩) (c_30 : PySem.W.codeIn K cd_30 "_law_near" = true) (k_30 : PySem.W.keepIn K (.ref f_30) = true)
    {f_31 : Addr} {od_31 an_31 : Option Addr} {sl_31 : Array (Option Value)} {oc_31 kV_31 dc_31 pm_31 cd_31 ct_31 : Value}
    (a_31 : PySem.W.nsIn K mainGlobals "_law_range" = some (some (.ref f_31)))
    (l_31 : K.lookup f_31 = some ⟨oc_31, od_31, .func (PySem.W.fnOf "_law_range" "_law_range" (defArgs s__law_range) (defBody s__law_range) (defScope s__law_range) .none kV_31 dc_31 pm_31 an_31 cd_31 ct_31), sl_31⟩) (c_31 : PySem.W.codeIn K cd_31 "_law_range" = true) (k_31 : PySem.W.keepIn K (.ref f_31) = true)
    {f_32 : Addr} {od_32 an_32 : Option Addr} {sl_32 : Array (Option Value)} {oc_32 kV_32 dc_32 pm_32 cd_32 ct_32 : Value}
    (a_32 : PySem.W.nsIn K mainGlobals "_law_cell_name" = some (some (.ref f_32)))
    (l_32 : K.lookup f_32 = some ⟨oc_32, od_32, .func (PySem.W.fnOf "_law_cell_name" "_law_cell_name" (defArgs s__law_cell_name) (defBody s__law_cell_name) (defScope s__law_cell_name) .none kV_32 dc_32 pm_32 an_32 cd_32 ct_32), sl_32⟩) (c_32 : PySem.W.codeIn K cd_32 "_law_cell_name" = true) (k_32 : PySem.W.keepIn K (.ref f_32) = true)
    {f_33 : Addr} {od_33 an_33 : Option Addr} {sl_33 : Array (Option Value)} {oc_33 kV_33 dc_33 pm_33 cd_33 ct_33 : Value}
    (a_33 : PySem.W.nsIn K mainGlobals "_of_take" = some (some (.ref f_33)))
    (l_33 : K.lookup f_33 = some ⟨oc_33, od_33, .func (PySem.W.fnOf "_of_take" "_of_take" (defArgs s__of_take) (defBody s__of_take) (defScope s__of_take) .none kV_33 dc_33 pm_33 an_33 cd_33 ct_33), sl_33⟩) (c_33 : PySem.W.codeIn K cd_33 "_of_take" = true) (k_33 : PySem.W.keepIn K (.ref f_33) = true)
    {f_34 : Addr} {od_34 an_34 : Option Addr} {sl_34 : Array (Option Value)} {oc_34 kV_34 dc_34 pm_34 cd_34 ct_34 : Value}
    (a_34 : PySem.W.nsIn K mainGlobals "_of_scale" = some (some (.ref f_34)))
    (l_34 : K.lookup f_34 = some ⟨oc_34, od_34, .func (PySem.W.fnOf "_of_scale" "_of_scale" (defArgs s__of_scale) (defBody s__of_scale) (defScope s__of_scale) .none kV_34 dc_34 pm_34 an_34 cd_34 ct_34), sl_34⟩) (c_34 : PySem.W.codeIn K cd_34 "_of_scale" = true) (k_34 : PySem.W.keepIn K (.ref f_34) = true)
    {f_35 : Addr} {od_35 an_35 : Option Addr} {sl_35 : Array (Option Value)} {oc_35 kV_35 dc_35 pm_35 cd_35 ct_35 : Value}
    (a_35 : PySem.W.nsIn K mainGlobals "_of_lower" = some (some (.ref f_35)))
    (l_35 : K.lookup f_35 = some ⟨oc_35, od_35, .func (PySem.W.fnOf "_of_lower" "_of_lower" (defArgs s__of_lower) (defBody s__of_lower) (defScope s__of_lower) .none kV_35 dc_35 pm_35 an_35 cd_35 ct_35), sl_35⟩) (c_35 : PySem.W.codeIn K cd_35 "_of_lower" = true) (k_35 : PySem.W.keepIn K (.ref f_35) = true)
    {f_36 : Addr} {od_36 an_36 : Option Addr} {sl_36 : Array (Option Value)} {oc_36 kV_36 dc_36 pm_36 cd_36 ct_36 : Value}
    (a_36 : PySem.W.nsIn K mainGlobals "_of_mat" = some (some (.ref f_36)))
    (l_36 : K.lookup f_36 = some ⟨oc_36, od_36, .func (PySem.W.fnOf "_of_mat" "_of_mat" (defArgs s__of_mat) (defBody s__of_mat) (defScope s__of_mat) .none kV_36 dc_36 pm_36 an_36 cd_36 ct_36), sl_36⟩) (c_36 : PySem.W.codeIn K cd_36 "_of_mat" = true) (k_36 : PySem.W.keepIn K (.ref f_36) = true)
    {f_37 : Addr} {od_37 an_37 : Option Addr} {sl_37 : Array (Option Value)} {oc_37 kV_37 dc_37 pm_37 cd_37 ct_37 : Value}
    (a_37 : PySem.W.nsIn K mainGlobals "_of_embed" = some (some (.ref f_37)))
    (l_37 : K.lookup f_37 = some ⟨oc_37, od_37, .func (PySem.W.fnOf "_of_embed" "_of_embed" (defArgs s__of_embed) (defBody s__of_embed) (defScope s__of_embed) .none kV_37 dc_37 pm_37 an_37 cd_37 ct_37), sl_37⟩) (c_37 : PySem.W.codeIn K cd_37 "_of_embed" = true) (k_37 : PySem.W.keepIn K (.ref f_37) = true)
    {f_38 : Addr} {od_38 an_38 : Option Addr} {sl_38 : Array (Option Value)} {oc_38 kV_38 dc_38 pm_38 cd_38 ct_38 : Value}
    (a_38 : PySem.W.nsIn K mainGlobals "_of_bias" = some (some (.ref f_38)))
    (l_38 : K.lookup f_38 = some ⟨oc_38, od_38, .func (PySem.W.fnOf "_of_bias" "_of_bias" (defArgs s__of_bias) (defBody s__of_bias) (defScope s__of_bias) .none kV_38 dc_38 pm_38 an_38 cd_38 ct_38), sl_38⟩) (c_38 : PySem.W.codeIn K cd_38 "_of_bias" = true) (k_38 : PySem.W.keepIn K (.ref f_38) = true)
    {f_39 : Addr} {od_39 an_39 : Option Addr} {sl_39 : Array (Option Value)} {oc_39 kV_39 dc_39 pm_39 cd_39 ct_39 : Value}
    (a_39 : PySem.W.nsIn K mainGlobals "_of_lin" = some (some (.ref f_39)))
    (l_39 : K.lookup f_39 = some ⟨oc_39, od_39, .func (PySem.W.fnOf "_of_lin" "_of_lin" (defArgs s__of_lin) (defBody s__of_lin) (defScope s__of_lin) .none kV_39 dc_39 pm_39 an_39 cd_39 ct_39), sl_39⟩) (c_39 : PySem.W.codeIn K cd_39 "_of_lin" = true) (k_39 : PySem.W.keepIn K (.ref f_39) = true)
    {f_40 : Addr} {od_40 an_40 : Option Addr} {sl_40 : Array (Option Value)} {oc_40 kV_40 dc_40 pm_40 cd_40 ct_40 : Value}
    (a_40 : PySem.W.nsIn K mainGlobals "_law_word" = some (some (.ref f_40)))
    (l_40 : K.lookup f_40 = some ⟨oc_40, od_40, .func (PySem.W.fnOf "_law_word" "_law_word" (defArgs s__law_word) (defBody s__law_word) (defScope s__law_word) .none kV_40 dc_40 pm_40 an_40 cd_40 ct_40), sl_40⟩) (c_40 : PySem.W.codeIn K cd_40 "_law_word" = true) (k_40 : PySem.W.keepIn K (.ref f_40) = true)
    {f_41 : Addr} {od_41 an_41 : Option Addr} {sl_41 : Array (Option Value)} {oc_41 kV_41 dc_41 pm_41 cd_41 ct_41 : Value}
    (a_41 : PySem.W.nsIn K mainGlobals "_law_row" = some (some (.ref f_41)))
    (l_41 : K.lookup f_41 = some ⟨oc_41, od_41, .func (PySem.W.fnOf "_law_row" "_law_row" (defArgs s__law_row) (defBody s__law_row) (defScope s__law_row) .none kV_41 dc_41 pm_41 an_41 cd_41 ct_41), sl_41⟩) (c_41 : PySem.W.codeIn K cd_41 "_law_row" = true) (k_41 : PySem.W.keepIn K (.ref f_41) = true)
    {f_42 : Addr} {od_42 an_42 : Option Addr} {sl_42 : Array (Option Value)} {oc_42 kV_42 dc_42 pm_42 cd_42 ct_42 : Value}
    (a_42 : PySem.W.nsIn K mainGlobals "sides" = some (some (.ref f_42)))
    (l_42 : K.lookup f_42 = some ⟨oc_42, od_42, .func (PySem.W.fnOf "sides" "sides" (defArgs s_sides) (defBody s_sides) (defScope s_sides) .none kV_42 dc_42 pm_42 an_42 cd_42 ct_42), sl_42⟩) (c_42 : PySem.W.codeIn K cd_42 "sides" = true) (k_42 : PySem.W.keepIn K (.ref f_42) = true)
    {f_43 : Addr} {od_43 an_43 : Option Addr} {sl_43 : Array (Option Value)} {oc_43 kV_43 dc_43 pm_43 cd_43 ct_43 : Value}
    (a_43 : PySem.W.nsIn K mainGlobals "_law_name" = some (some (.ref f_43)))
    (l_43 : K.lookup f_43 = some ⟨oc_43, od_43, .func (PySem.W.fnOf "_law_name" "_law_name" (defArgs s__law_name) (defBody s__law_name) (defScope s__law_name) .none kV_43 dc_43 pm_43 an_43 cd_43 ct_43), sl_43⟩) (c_43 : PySem.W.codeIn K cd_43 "_law_name" = true) (k_43 : PySem.W.keepIn K (.ref f_43) = true)
    {f_44 : Addr} {od_44 an_44 : Option Addr} {sl_44 : Array (Option Value)} {oc_44 kV_44 dc_44 pm_44 cd_44 ct_44 : Value}
    (a_44 : PySem.W.nsIn K mainGlobals "length_of" = some (some (.ref f_44)))
    (l_44 : K.lookup f_44 = some ⟨oc_44, od_44, .func (PySem.W.fnOf "length_of" "length_of" (defArgs s_length_of) (defBody s_length_of) (defScope s_length_of) .none kV_44 dc_44 pm_44 an_44 cd_44 ct_44), sl_44⟩) (c_44 : PySem.W.codeIn K cd_44 "length_of" = true) (k_44 : PySem.W.keepIn K (.ref f_44) = true)
    {f_45 : Addr} {od_45 an_45 : Option Addr} {sl_45 : Array (Option Value)} {oc_45 kV_45 dc_45 pm_45 cd_45 ct_45 : Value}
    (a_45 : PySem.W.nsIn K mainGlobals "_law_try" = some (some (.ref f_45)))
    (l_45 : K.lookup f_45 = some ⟨oc_45, od_45, .func (PySem.W.fnOf "_law_try" "_law_try" (defArgs s__law_try) (defBody s__law_try) (defScope s__law_try) .none kV_45 dc_45 pm_45 an_45 cd_45 ct_45), sl_45⟩) (c_45 : PySem.W.codeIn K cd_45 "_law_try" = true) (k_45 : PySem.W.keepIn K (.ref f_45) = true)
    {f_46 : Addr} {od_46 an_46 : Option Addr} {sl_46 : Array (Option Value)} {oc_46 kV_46 dc_46 pm_46 cd_46 ct_46 : Value}
    (a_46 : PySem.W.nsIn K mainGlobals "_law_fill" = some (some (.ref f_46)))
    (l_46 : K.lookup f_46 = some ⟨oc_46, od_46, .func (PySem.W.fnOf "_law_fill" "_law_fill" (defArgs s__law_fill) (defBody s__law_fill) (defScope s__law_fill) .none kV_46 dc_46 pm_46 an_46 cd_46 ct_46), sl_46⟩) (c_46 : PySem.W.codeIn K cd_46 "_law_fill" = true) (k_46 : PySem.W.keepIn K (.ref f_46) = true)
    {f_47 : Addr} {od_47 an_47 : Option Addr} {sl_47 : Array (Option Value)} {oc_47 kV_47 dc_47 pm_47 cd_47 ct_47 : Value}
    (a_47 : PySem.W.nsIn K mainGlobals "bac_count" = some (some (.ref f_47)))
    (l_47 : K.lookup f_47 = some ⟨oc_47, od_47, .func (PySem.W.fnOf "bac_count" "bac_count" (defArgs s_bac_count) (defBody s_bac_count) (defScope s_bac_count) .none kV_47 dc_47 pm_47 an_47 cd_47 ct_47), sl_47⟩) (c_47 : PySem.W.codeIn K cd_47 "bac_count" = true) (k_47 : PySem.W.keepIn K (.ref f_47) = true)
    {f_48 : Addr} {od_48 an_48 : Option Addr} {sl_48 : Array (Option Value)} {oc_48 kV_48 dc_48 pm_48 cd_48 ct_48 : Value}
    (a_48 : PySem.W.nsIn K mainGlobals "pre_count" = some (some (.ref f_48)))
    (l_48 : K.lookup f_48 = some ⟨oc_48, od_48, .func (PySem.W.fnOf "pre_count" "pre_count" (defArgs s_pre_count) (defBody s_pre_count) (defScope s_pre_count) .none kV_48 dc_48 pm_48 an_48 cd_48 ct_48), sl_48⟩) (c_48 : PySem.W.codeIn K cd_48 "pre_count" = true) (k_48 : PySem.W.keepIn K (.ref f_48) = true)
    {f_49 : Addr} {od_49 an_49 : Option Addr} {sl_49 : Array (Option Value)} {oc_49 kV_49 dc_49 pm_49 cd_49 ct_49 : Value}
    (a_49 : PySem.W.nsIn K mainGlobals "_law_any_name" = some (some (.ref f_49)))
    (l_49 : K.lookup f_49 = some ⟨oc_49, od_49, .func (PySem.W.fnOf "_law_any_name" "_law_any_name" (defArgs s__law_any_name) (defBody s__law_any_name) (defScope s__law_any_name) .none kV_49 dc_49 pm_49 an_49 cd_49 ct_49), sl_49⟩) (c_49 : PySem.W.codeIn K cd_49 "_law_any_name" = true) (k_49 : PySem.W.keepIn K (.ref f_49) = true)
    {f_50 : Addr} {od_50 an_50 : Option Addr} {sl_50 : Array (Option Value)} {oc_50 kV_50 dc_50 pm_50 cd_50 ct_50 : Value}
    (a_50 : PySem.W.nsIn K mainGlobals "_lengths" = some (some (.ref f_50)))
    (l_50 : K.lookup f_50 = some ⟨oc_50, od_50, .func (PySem.W.fnOf "_lengths" "_lengths" (defArgs s__lengths) (defBody s__lengths) (defScope s__lengths) .none kV_50 dc_50 pm_50 an_50 cd_50 ct_50), sl_50⟩) (c_50 : PySem.W.codeIn K cd_50 "_lengths" = true) (k_50 : PySem.W.keepIn K (.ref f_50) = true)
    {f_51 : Addr} {od_51 an_51 : Option Addr} {sl_51 : Array (Option Value)} {oc_51 kV_51 dc_51 pm_51 cd_51 ct_51 : Value}
    (a_51 : PySem.W.nsIn K mainGlobals "_law_small_net" = some (some (.ref f_51)))
    (l_51 : K.lookup f_51 = some ⟨oc_51, od_51, .func (PySem.W.fnOf "_law_small_net" "_law_small_net" (defArgs s__law_small_net) (defBody s__law_small_net) (defScope s__law_small_net) .none kV_51 dc_51 pm_51 an_51 cd_51 ct_51), sl_51⟩) (c_51 : PySem.W.codeIn K cd_51 "_law_small_net" = true) (k_51 : PySem.W.keepIn K (.ref f_51) = true)
    {f_52 : Addr} {od_52 an_52 : Option Addr} {sl_52 : Array (Option Value)} {oc_52 kV_52 dc_52 pm_52 cd_52 ct_52 : Value}
    (a_52 : PySem.W.nsIn K mainGlobals "_is_bac" = some (some (.ref f_52)))
    (l_52 : K.lookup f_52 = some ⟨oc_52, od_52, .func (PySem.W.fnOf "_is_bac" "_is_bac" (defArgs s__is_bac) (defBody s__is_bac) (defScope s__is_bac) .none kV_52 dc_52 pm_52 an_52 cd_52 ct_52), sl_52⟩) (c_52 : PySem.W.codeIn K cd_52 "_is_bac" = true) (k_52 : PySem.W.keepIn K (.ref f_52) = true)
    {f_53 : Addr} {od_53 an_53 : Option Addr} {sl_53 : Array (Option Value)} {oc_53 kV_53 dc_53 pm_53 cd_53 ct_53 : Value}
    (a_53 : PySem.W.nsIn K mainGlobals "_is_pre" = some (some (.ref f_53)))
    (l_53 : K.lookup f_53 = some ⟨oc_53, od_53, .func (PySem.W.fnOf "_is_pre" "_is_pre" (defArgs s__is_pre) (defBody s__is_pre) (defScope s__is_pre) .none kV_53 dc_53 pm_53 an_53 cd_53 ct_53), sl_53⟩) (c_53 : PySem.W.codeIn K cd_53 "_is_pre" = true) (k_53 : PySem.W.keepIn K (.ref f_53) = true)
    {f_54 : Addr} {od_54 an_54 : Option Addr} {sl_54 : Array (Option Value)} {oc_54 kV_54 dc_54 pm_54 cd_54 ct_54 : Value}
    (a_54 : PySem.W.findIn K (.ref C_Net) "__init__" = some (some (.ref f_54))) (i_54 : PySem.W.isFn K (.ref f_54) = true)
    (l_54 : K.lookup f_54 = some ⟨oc_54, od_54, .func (PySem.W.fnOf "__init__" "Net.__init__" (defArgs s_Net___init__) (defBody s_Net___init__) (defScope s_Net___init__) .none kV_54 dc_54 pm_54 an_54 cd_54 ct_54), sl_54⟩) (c_54 : PySem.W.codeIn K cd_54 "Net.__init__" = true) (k_54 : PySem.W.keepIn K (.ref f_54) = true)
    {f_55 : Addr} {od_55 an_55 : Option Addr} {sl_55 : Array (Option Value)} {oc_55 kV_55 dc_55 pm_55 cd_55 ct_55 : Value}
    (a_55 : PySem.W.nsIn K mainGlobals "_law_job" = some (some (.ref f_55)))
    (l_55 : K.lookup f_55 = some ⟨oc_55, od_55, .func (PySem.W.fnOf "_law_job" "_law_job" (defArgs s__law_job) (defBody s__law_job) (defScope s__law_job) .none kV_55 dc_55 pm_55 an_55 cd_55 ct_55), sl_55⟩) (c_55 : PySem.W.codeIn K cd_55 "_law_job" = true) (k_55 : PySem.W.keepIn K (.ref f_55) = true)
    {f_56 : Addr} {od_56 an_56 : Option Addr} {sl_56 : Array (Option Value)} {oc_56 kV_56 dc_56 pm_56 cd_56 ct_56 : Value}
    (a_56 : PySem.W.nsIn K mainGlobals "is_name" = some (some (.ref f_56)))
    (l_56 : K.lookup f_56 = some ⟨oc_56, od_56, .func (PySem.W.fnOf "is_name" "is_name" (defArgs s_is_name) (defBody s_is_name) (defScope s_is_name) .none kV_56 dc_56 pm_56 an_56 cd_56 ct_56), sl_56⟩) (c_56 : PySem.W.codeIn K cd_56 "is_name" = true) (k_56 : PySem.W.keepIn K (.ref f_56) = true)
    {f_57 : Addr} {od_57 an_57 : Option Addr} {sl_57 : Array (Option Value)} {oc_57 kV_57 dc_57 pm_57 cd_57 ct_57 : Value}
    (a_57 : PySem.W.nsIn K mainGlobals "_law_built" = some (some (.ref f_57)))
    (l_57 : K.lookup f_57 = some ⟨oc_57, od_57, .func (PySem.W.fnOf "_law_built" "_law_built" (defArgs s__law_built) (defBody s__law_built) (defScope s__law_built) .none kV_57 dc_57 pm_57 an_57 cd_57 ct_57), sl_57⟩) (c_57 : PySem.W.codeIn K cd_57 "_law_built" = true) (k_57 : PySem.W.keepIn K (.ref f_57) = true)
    {f_58 : Addr} {od_58 an_58 : Option Addr} {sl_58 : Array (Option Value)} {oc_58 kV_58 dc_58 pm_58 cd_58 ct_58 : Value}
    (a_58 : PySem.W.nsIn K mainGlobals "law" = some (some (.ref f_58)))
    (l_58 : K.lookup f_58 = some ⟨oc_58, od_58, .func (PySem.W.fnOf "law" "law" (defArgs s_law) (defBody s_law) (defScope s_law) .none kV_58 dc_58 pm_58 an_58 cd_58 ct_58), sl_58⟩) (c_58 : PySem.W.codeIn K cd_58 "law" = true) (k_58 : PySem.W.keepIn K (.ref f_58) = true)
    {A_OPERAND_PLACES : Addr} (ga_OPERAND_PLACES : PySem.W.nsIn K mainGlobals "OPERAND_PLACES" = some (some (.ref A_OPERAND_PLACES)))
    {es_OPERAND_PLACES : Array DictEntry} {n_OPERAND_PLACES : Nat} (l_OPERAND_PLACES : K.lookup A_OPERAND_PLACES = some ⟨.type "dict", none, .dict es_OPERAND_PLACES n_OPERAND_PLACES, #[]⟩) (lit_OPERAND_PLACES : PySem.W.KeysLit w.params es_OPERAND_PLACES.toList) (low_OPERAND_PLACES : (A_OPERAND_PLACES == sysModules) = false)
    {t_OPERAND_PLACES_input : Addr} (en_OPERAND_PLACES_input : PySem.W.nsIn K A_OPERAND_PLACES "input" = some (some (.ref t_OPERAND_PLACES_input)))
    {od_OPERAND_PLACES_input : Option Addr} {its_OPERAND_PLACES_input : Array Value} {n_OPERAND_PLACES_input : Nat} {sl_OPERAND_PLACES_input : Array (Option Value)} (l_OPERAND_PLACES_input : K.lookup t_OPERAND_PLACES_input = some ⟨.type "tuple", od_OPERAND_PLACES_input, .seq its_OPERAND_PLACES_input n_OPERAND_PLACES_input, sl_OPERAND_PLACES_input⟩) (z_OPERAND_PLACES_input : its_OPERAND_PLACES_input.size ≤ sizeLine) (v_OPERAND_PLACES_input : Vals [] its_OPERAND_PLACES_input.toList)
    {t_OPERAND_PLACES_target : Addr} (en_OPERAND_PLACES_target : PySem.W.nsIn K A_OPERAND_PLACES "target" = some (some (.ref t_OPERAND_PLACES_target)))
    {od_OPERAND_PLACES_target : Option Addr} {its_OPERAND_PLACES_target : Array Value} {n_OPERAND_PLACES_target : Nat} {sl_OPERAND_PLACES_target : Array (Option Value)} (l_OPERAND_PLACES_target : K.lookup t_OPERAND_PLACES_target = some ⟨.type "tuple", od_OPERAND_PLACES_target, .seq its_OPERAND_PLACES_target n_OPERAND_PLACES_target, sl_OPERAND_PLACES_target⟩) (z_OPERAND_PLACES_target : its_OPERAND_PLACES_target.size ≤ sizeLine) (v_OPERAND_PLACES_target : Vals [] its_OPERAND_PLACES_target.toList)
    {t_OPERAND_PLACES_lin : Addr} (en_OPERAND_PLACES_lin : PySem.W.nsIn K A_OPERAND_PLACES "lin" = some (some (.ref t_OPERAND_PLACES_lin)))
    {od_OPERAND_PLACES_lin : Option Addr} {its_OPERAND_PLACES_lin : Array Value} {n_OPERAND_PLACES_lin : Nat} {sl_OPERAND_PLACES_lin : Array (Option Value)} (l_OPERAND_PLACES_lin : K.lookup t_OPERAND_PLACES_lin = some ⟨.type "tuple", od_OPERAND_PLACES_lin, .seq its_OPERAND_PLACES_lin n_OPERAND_PLACES_lin, sl_OPERAND_PLACES_lin⟩) (z_OPERAND_PLACES_lin : its_OPERAND_PLACES_lin.size ≤ sizeLine) (v_OPERAND_PLACES_lin : Vals [.int (2)] its_OPERAND_PLACES_lin.toList)
    {t_OPERAND_PLACES_bias : Addr} (en_OPERAND_PLACES_bias : PySem.W.nsIn K A_OPERAND_PLACES "bias" = some (some (.ref t_OPERAND_PLACES_bias)))
    {od_OPERAND_PLACES_bias : Option Addr} {its_OPERAND_PLACES_bias : Array Value} {n_OPERAND_PLACES_bias : Nat} {sl_OPERAND_PLACES_bias : Array (Option Value)} (l_OPERAND_PLACES_bias : K.lookup t_OPERAND_PLACES_bias = some ⟨.type "tuple", od_OPERAND_PLACES_bias, .seq its_OPERAND_PLACES_bias n_OPERAND_PLACES_bias, sl_OPERAND_PLACES_bias⟩) (z_OPERAND_PLACES_bias : its_OPERAND_PLACES_bias.size ≤ sizeLine) (v_OPERAND_PLACES_bias : Vals [.int (2)] its_OPERAND_PLACES_bias.toList)
    {t_OPERAND_PLACES_embed : Addr} (en_OPERAND_PLACES_embed : PySem.W.nsIn K A_OPERAND_PLACES "embed" = some (some (.ref t_OPERAND_PLACES_embed)))
    {od_OPERAND_PLACES_embed : Option Addr} {its_OPERAND_PLACES_embed : Array Value} {n_OPERAND_PLACES_embed : Nat} {sl_OPERAND_PLACES_embed : Array (Option Value)} (l_OPERAND_PLACES_embed : K.lookup t_OPERAND_PLACES_embed = some ⟨.type "tuple", od_OPERAND_PLACES_embed, .seq its_OPERAND_PLACES_embed n_OPERAND_PLACES_embed, sl_OPERAND_PLACES_embed⟩) (z_OPERAND_PLACES_embed : its_OPERAND_PLACES_embed.size ≤ sizeLine) (v_OPERAND_PLACES_embed : Vals [] its_OPERAND_PLACES_embed.toList)
    {t_OPERAND_PLACES_mat : Addr} (en_OPERAND_PLACES_mat : PySem.W.nsIn K A_OPERAND_PLACES "mat" = some (some (.ref t_OPERAND_PLACES_mat)))
    {od_OPERAND_PLACES_mat : Option Addr} {its_OPERAND_PLACES_mat : Array Value} {n_OPERAND_PLACES_mat : Nat} {sl_OPERAND_PLACES_mat : Array (Option Value)} (l_OPERAND_PLACES_mat : K.lookup t_OPERAND_PLACES_mat = some ⟨.type "tuple", od_OPERAND_PLACES_mat, .seq its_OPERAND_PLACES_mat n_OPERAND_PLACES_mat, sl_OPERAND_PLACES_mat⟩) (z_OPERAND_PLACES_mat : its_OPERAND_PLACES_mat.size ≤ sizeLine) (v_OPERAND_PLACES_mat : Vals [.int (2), .int (3)] its_OPERAND_PLACES_mat.toList)
    {t_OPERAND_PLACES_matT : Addr} (en_OPERAND_PLACES_matT : PySem.W.nsIn K A_OPERAND_PLACES "matT" = some (some (.ref t_OPERAND_PLACES_matT)))
    {od_OPERAND_PLACES_matT : Option Addr} {its_OPERAND_PLACES_matT : Array Value} {n_OPERAND_PLACES_matT : Nat} {sl_OPERAND_PLACES_matT : Array (Option Value)} (l_OPERAND_PLACES_matT : K.lookup t_OPERAND_PLACES_matT = some ⟨.type "tuple", od_OPERAND_PLACES_matT, .seq its_OPERAND_PLACES_matT n_OPERAND_PLACES_matT, sl_OPERAND_PLACES_matT⟩) (z_OPERAND_PLACES_matT : its_OPERAND_PLACES_matT.size ≤ sizeLine) (v_OPERAND_PLACES_matT : Vals [.int (2), .int (3)] its_OPERAND_PLACES_matT.toList)
    {t_OPERAND_PLACES_lower : Addr} (en_OPERAND_PLACES_lower : PySem.W.nsIn K A_OPERAND_PLACES "lower" = some (some (.ref t_OPERAND_PLACES_lower)))
    {od_OPERAND_PLACES_lower : Option Addr} {its_OPERAND_PLACES_lower : Array Value} {n_OPERAND_PLACES_lower : Nat} {sl_OPERAND_PLACES_lower : Array (Option Value)} (l_OPERAND_PLACES_lower : K.lookup t_OPERAND_PLACES_lower = some ⟨.type "tuple", od_OPERAND_PLACES_lower, .seq its_OPERAND_PLACES_lower n_OPERAND_PLACES_lower, sl_OPERAND_PLACES_lower⟩) (z_OPERAND_PLACES_lower : its_OPERAND_PLACES_lower.size ≤ sizeLine) (v_OPERAND_PLACES_lower : Vals [.int (2)] its_OPERAND_PLACES_lower.toList)
    {t_OPERAND_PLACES_add : Addr} (en_OPERAND_PLACES_add : PySem.W.nsIn K A_OPERAND_PLACES "add" = some (some (.ref t_OPERAND_PLACES_add)))
    {od_OPERAND_PLACES_add : Option Addr} {its_OPERAND_PLACES_add : Array Value} {n_OPERAND_PLACES_add : Nat} {sl_OPERAND_PLACES_add : Array (Option Value)} (l_OPERAND_PLACES_add : K.lookup t_OPERAND_PLACES_add = some ⟨.type "tuple", od_OPERAND_PLACES_add, .seq its_OPERAND_PLACES_add n_OPERAND_PLACES_add, sl_OPERAND_PLACES_add⟩) (z_OPERAND_PLACES_add : its_OPERAND_PLACES_add.size ≤ sizeLine) (v_OPERAND_PLACES_add : Vals [.int (1), .int (2)] its_OPERAND_PLACES_add.toList)
    {t_OPERAND_PLACES_sub : Addr} (en_OPERAND_PLACES_sub : PySem.W.nsIn K A_OPERAND_PLACES "sub" = some (some (.ref t_OPERAND_PLACES_sub)))
    {od_OPERAND_PLACES_sub : Option Addr} {its_OPERAND_PLACES_sub : Array Value} {n_OPERAND_PLACES_sub : Nat} {sl_OPERAND_PLACES_sub : Array (Option Value)} (l_OPERAND_PLACES_sub : K.lookup t_OPERAND_PLACES_sub = some ⟨.type "tuple", od_OPERAND_PLACES_sub, .seq its_OPERAND_PLACES_sub n_OPERAND_PLACES_sub, sl_OPERAND_PLACES_sub⟩) (z_OPERAND_PLACES_sub : its_OPERAND_PLACES_sub.size ≤ sizeLine) (v_OPERAND_PLACES_sub : Vals [.int (1), .int (2)] its_OPERAND_PLACES_sub.toList)
    {t_OPERAND_PLACES_mul : Addr} (en_OPERAND_PLACES_mul : PySem.W.nsIn K A_OPERAND_PLACES "mul" = some (some (.ref t_OPERAND_PLACES_mul)))
    {od_OPERAND_PLACES_mul : Option Addr} {its_OPERAND_PLACES_mul : Array Value} {n_OPERAND_PLACES_mul : Nat} {sl_OPERAND_PLACES_mul : Array (Option Value)} (l_OPERAND_PLACES_mul : K.lookup t_OPERAND_PLACES_mul = some ⟨.type "tuple", od_OPERAND_PLACES_mul, .seq its_OPERAND_PLACES_mul n_OPERAND_PLACES_mul, sl_OPERAND_PLACES_mul⟩) (z_OPERAND_PLACES_mul : its_OPERAND_PLACES_mul.size ≤ sizeLine) (v_OPERAND_PLACES_mul : Vals [.int (1), .int (2)] its_OPERAND_PLACES_mul.toList)
    {t_OPERAND_PLACES_scale : Addr} (en_OPERAND_PLACES_scale : PySem.W.nsIn K A_OPERAND_PLACES "scale" = some (some (.ref t_OPERAND_PLACES_scale)))
    {od_OPERAND_PLACES_scale : Option Addr} {its_OPERAND_PLACES_scale : Array Value} {n_OPERAND_PLACES_scale : Nat} {sl_OPERAND_PLACES_scale : Array (Option Value)} (l_OPERAND_PLACES_scale : K.lookup t_OPERAND_PLACES_scale = some ⟨.type "tuple", od_OPERAND_PLACES_scale, .seq its_OPERAND_PLACES_scale n_OPERAND_PLACES_scale, sl_OPERAND_PLACES_scale⟩) (z_OPERAND_PLACES_scale : its_OPERAND_PLACES_scale.size ≤ sizeLine) (v_OPERAND_PLACES_scale : Vals [.int (2)] its_OPERAND_PLACES_scale.toList)
    {t_OPERAND_PLACES_shift : Addr} (en_OPERAND_PLACES_shift : PySem.W.nsIn K A_OPERAND_PLACES "shift" = some (some (.ref t_OPERAND_PLACES_shift)))
    {od_OPERAND_PLACES_shift : Option Addr} {its_OPERAND_PLACES_shift : Array Value} {n_OPERAND_PLACES_shift : Nat} {sl_OPERAND_PLACES_shift : Array (Option Value)} (l_OPERAND_PLACES_shift : K.lookup t_OPERAND_PLACES_shift = some ⟨.type "tuple", od_OPERAND_PLACES_shift, .seq its_OPERAND_PLACES_shift n_OPERAND_PLACES_shift, sl_OPERAND_PLACES_shift⟩) (z_OPERAND_PLACES_shift : its_OPERAND_PLACES_shift.size ≤ sizeLine) (v_OPERAND_PLACES_shift : Vals [.int (2)] its_OPERAND_PLACES_shift.toList)
    {t_OPERAND_PLACES_relu : Addr} (en_OPERAND_PLACES_relu : PySem.W.nsIn K A_OPERAND_PLACES "relu" = some (some (.ref t_OPERAND_PLACES_relu)))
    {od_OPERAND_PLACES_relu : Option Addr} {its_OPERAND_PLACES_relu : Array Value} {n_OPERAND_PLACES_relu : Nat} {sl_OPERAND_PLACES_relu : Array (Option Value)} (l_OPERAND_PLACES_relu : K.lookup t_OPERAND_PLACES_relu = some ⟨.type "tuple", od_OPERAND_PLACES_relu, .seq its_OPERAND_PLACES_relu n_OPERAND_PLACES_relu, sl_OPERAND_PLACES_relu⟩) (z_OPERAND_PLACES_relu : its_OPERAND_PLACES_relu.size ≤ sizeLine) (v_OPERAND_PLACES_relu : Vals [.int (1)] its_OPERAND_PLACES_relu.toList)
    {t_OPERAND_PLACES_drop : Addr} (en_OPERAND_PLACES_drop : PySem.W.nsIn K A_OPERAND_PLACES "drop" = some (some (.ref t_OPERAND_PLACES_drop)))
    {od_OPERAND_PLACES_drop : Option Addr} {its_OPERAND_PLACES_drop : Array Value} {n_OPERAND_PLACES_drop : Nat} {sl_OPERAND_PLACES_drop : Array (Option Value)} (l_OPERAND_PLACES_drop : K.lookup t_OPERAND_PLACES_drop = some ⟨.type "tuple", od_OPERAND_PLACES_drop, .seq its_OPERAND_PLACES_drop n_OPERAND_PLACES_drop, sl_OPERAND_PLACES_drop⟩) (z_OPERAND_PLACES_drop : its_OPERAND_PLACES_drop.size ≤ sizeLine) (v_OPERAND_PLACES_drop : Vals [.int (2)] its_OPERAND_PLACES_drop.toList)
    {t_OPERAND_PLACES_sum : Addr} (en_OPERAND_PLACES_sum : PySem.W.nsIn K A_OPERAND_PLACES "sum" = some (some (.ref t_OPERAND_PLACES_sum)))
    {od_OPERAND_PLACES_sum : Option Addr} {its_OPERAND_PLACES_sum : Array Value} {n_OPERAND_PLACES_sum : Nat} {sl_OPERAND_PLACES_sum : Array (Option Value)} (l_OPERAND_PLACES_sum : K.lookup t_OPERAND_PLACES_sum = some ⟨.type "tuple", od_OPERAND_PLACES_sum, .seq its_OPERAND_PLACES_sum n_OPERAND_PLACES_sum, sl_OPERAND_PLACES_sum⟩) (z_OPERAND_PLACES_sum : its_OPERAND_PLACES_sum.size ≤ sizeLine) (v_OPERAND_PLACES_sum : Vals [.int (1)] its_OPERAND_PLACES_sum.toList)
    {t_OPERAND_PLACES_join : Addr} (en_OPERAND_PLACES_join : PySem.W.nsIn K A_OPERAND_PLACES "join" = some (some (.ref t_OPERAND_PLACES_join)))
    {od_OPERAND_PLACES_join : Option Addr} {its_OPERAND_PLACES_join : Array Value} {n_OPERAND_PLACES_join : Nat} {sl_OPERAND_PLACES_join : Array (Option Value)} (l_OPERAND_PLACES_join : K.lookup t_OPERAND_PLACES_join = some ⟨.type "tuple", od_OPERAND_PLACES_join, .seq its_OPERAND_PLACES_join n_OPERAND_PLACES_join, sl_OPERAND_PLACES_join⟩) (z_OPERAND_PLACES_join : its_OPERAND_PLACES_join.size ≤ sizeLine) (v_OPERAND_PLACES_join : Vals [.int (1), .int (2)] its_OPERAND_PLACES_join.toList)
    {t_OPERAND_PLACES_take : Addr} (en_OPERAND_PLACES_take : PySem.W.nsIn K A_OPERAND_PLACES "take" = some (some (.ref t_OPERAND_PLACES_take)))
    {od_OPERAND_PLACES_take : Option Addr} {its_OPERAND_PLACES_take : Array Value} {n_OPERAND_PLACES_take : Nat} {sl_OPERAND_PLACES_take : Array (Option Value)} (l_OPERAND_PLACES_take : K.lookup t_OPERAND_PLACES_take = some ⟨.type "tuple", od_OPERAND_PLACES_take, .seq its_OPERAND_PLACES_take n_OPERAND_PLACES_take, sl_OPERAND_PLACES_take⟩) (z_OPERAND_PLACES_take : its_OPERAND_PLACES_take.size ≤ sizeLine) (v_OPERAND_PLACES_take : Vals [.int (3)] its_OPERAND_PLACES_take.toList)
    {A_WITH_PARAMETER : Addr} (ga_WITH_PARAMETER : PySem.W.nsIn K mainGlobals "WITH_PARAMETER" = some (some (.ref A_WITH_PARAMETER)))
    {od_WITH_PARAMETER : Option Addr} {its_WITH_PARAMETER : Array Value} {n_WITH_PARAMETER : Nat} {sl_WITH_PARAMETER : Array (Option Value)} (l_WITH_PARAMETER : K.lookup A_WITH_PARAMETER = some ⟨.type "tuple", od_WITH_PARAMETER, .seq its_WITH_PARAMETER n_WITH_PARAMETER, sl_WITH_PARAMETER⟩) (z_WITH_PARAMETER : its_WITH_PARAMETER.size ≤ sizeLine) (v_WITH_PARAMETER : Vals [.str "lin", .str "bias", .str "embed"] its_WITH_PARAMETER.toList)
    {A_LENGTHS : Addr} (ga_LENGTHS : PySem.W.nsIn K mainGlobals "LENGTHS" = some (some (.ref A_LENGTHS)))
    {es_LENGTHS : Array DictEntry} {n_LENGTHS : Nat} (l_LENGTHS : K.lookup A_LENGTHS = some ⟨.type "dict", none, .dict es_LENGTHS n_LENGTHS, #[]⟩) (lit_LENGTHS : PySem.W.KeysLit w.params es_LENGTHS.toList) (low_LENGTHS : (A_LENGTHS == sysModules) = false)
    (en_LENGTHS_input : PySem.W.nsIn K A_LENGTHS "input" = some (some (.ref f_19)))
    (en_LENGTHS_target : PySem.W.nsIn K A_LENGTHS "target" = some (some (.ref f_18)))
    (en_LENGTHS_lin : PySem.W.nsIn K A_LENGTHS "lin" = some (some (.ref f_39)))
    (en_LENGTHS_bias : PySem.W.nsIn K A_LENGTHS "bias" = some (some (.ref f_38)))
    (en_LENGTHS_embed : PySem.W.nsIn K A_LENGTHS "embed" = some (some (.ref f_37)))
    (en_LENGTHS_mat : PySem.W.nsIn K A_LENGTHS "mat" = some (some (.ref f_36)))
    (en_LENGTHS_matT : PySem.W.nsIn K A_LENGTHS "matT" = some (some (.ref f_36)))
    (en_LENGTHS_lower : PySem.W.nsIn K A_LENGTHS "lower" = some (some (.ref f_35)))
    (en_LENGTHS_add : PySem.W.nsIn K A_LENGTHS "add" = some (some (.ref f_16)))
    (en_LENGTHS_sub : PySem.W.nsIn K A_LENGTHS "sub" = some (some (.ref f_16)))
    (en_LENGTHS_mul : PySem.W.nsIn K A_LENGTHS "mul" = some (some (.ref f_16)))
    (en_LENGTHS_scale : PySem.W.nsIn K A_LENGTHS "scale" = some (some (.ref f_34)))
    (en_LENGTHS_shift : PySem.W.nsIn K A_LENGTHS "shift" = some (some (.ref f_14)))
    (en_LENGTHS_relu : PySem.W.nsIn K A_LENGTHS "relu" = some (some (.ref f_13)))
    (en_LENGTHS_drop : PySem.W.nsIn K A_LENGTHS "drop" = some (some (.ref f_12)))
    (en_LENGTHS_sum : PySem.W.nsIn K A_LENGTHS "sum" = some (some (.ref f_11)))
    (en_LENGTHS_join : PySem.W.nsIn K A_LENGTHS "join" = some (some (.ref f_10)))
    (en_LENGTHS_take : PySem.W.nsIn K A_LENGTHS "take" = some (some (.ref f_33)))
    {A_OWN_ROWS : Addr} (ga_OWN_ROWS : PySem.W.nsIn K mainGlobals "OWN_ROWS" = some (some (.ref A_OWN_ROWS)))
    {od_OWN_ROWS : Option Addr} {its_OWN_ROWS : Array Value} {n_OWN_ROWS : Nat} {sl_OWN_ROWS : Array (Option Value)} (l_OWN_ROWS : K.lookup A_OWN_ROWS = some ⟨.type "tuple", od_OWN_ROWS, .seq its_OWN_ROWS n_OWN_ROWS, sl_OWN_ROWS⟩) (z_OWN_ROWS : its_OWN_ROWS.size ≤ sizeLine) (v_OWN_ROWS : Vals [.str "input", .str "target", .str "sum", .str "join", .str "take"] its_OWN_ROWS.toList)
    {A_RULES : Addr} (ga_RULES : PySem.W.nsIn K mainGlobals "RULES" = some (some (.ref A_RULES)))
    {es_RULES : Array DictEntry} {n_RULES : Nat} (l_RULES : K.lookup A_RULES = some ⟨.type "dict", none, .dict es_RULES n_RULES, #[]⟩) (lit_RULES : PySem.W.KeysLit w.params es_RULES.toList) (low_RULES : (A_RULES == sysModules) = false)
    (en_RULES_par : PySem.W.nsIn K A_RULES "par" = some (some (.ref f_5)))
    (en_RULES_mom : PySem.W.nsIn K A_RULES "mom" = some (some (.ref f_5)))
    (en_RULES_val : PySem.W.nsIn K A_RULES "val" = some (some (.ref f_7)))
    (en_RULES_pre : PySem.W.nsIn K A_RULES "pre" = some (some (.ref f_53)))
    (en_RULES_inc : PySem.W.nsIn K A_RULES "inc" = some (some (.ref f_29)))
    (en_RULES_bac : PySem.W.nsIn K A_RULES "bac" = some (some (.ref f_52)))
    (en_RULES_grd : PySem.W.nsIn K A_RULES "grd" = some (some (.ref f_27)))
    (en_RULES_los : PySem.W.nsIn K A_RULES "los" = some (some (.ref f_4)))
    (z_abs : PySem.W.nsIn K mainGlobals "abs" = some none)
    (z_all : PySem.W.nsIn K mainGlobals "all" = some none)
    (z_bool : PySem.W.nsIn K mainGlobals "bool" = some none)
    (z_int : PySem.W.nsIn K mainGlobals "int" = some none)
    (z_isinstance : PySem.W.nsIn K mainGlobals "isinstance" = some none)
    (z_len : PySem.W.nsIn K mainGlobals "len" = some none)
    (z_list : PySem.W.nsIn K mainGlobals "list" = some none)
    (z_range : PySem.W.nsIn K mainGlobals "range" = some none)
    {t_MOST_SHIFT : Tok} (g_MOST_SHIFT : PySem.W.nsIn K mainGlobals "MOST_SHIFT" = some (some (.int (31) t_MOST_SHIFT)))
    {t_LEAST_DIVISOR : Tok} (g_LEAST_DIVISOR : PySem.W.nsIn K mainGlobals "LEAST_DIVISOR" = some (some (.int (2) t_LEAST_DIVISOR)))
    {t_GREATEST_NUMBER : Tok} (g_GREATEST_NUMBER : PySem.W.nsIn K mainGlobals "GREATEST_NUMBER" = some (some (.int (4294967295) t_GREATEST_NUMBER)))
    {t_LEAST : Tok} (g_LEAST : PySem.W.nsIn K mainGlobals "LEAST" = some (some (.int (-2147483648) t_LEAST)))
    {t_GREATEST : Tok} (g_GREATEST : PySem.W.nsIn K mainGlobals "GREATEST" = some (some (.int (2147483647) t_GREATEST)))
    : ∃ fd : FuncData, (∀ (s : Shared) (v : Value), BindsTo s fd ⟨[v], []⟩ [("script", v)]) ∧ ∀ base : Heap, K.In base → base.Ns mainGlobals mg → FnOk l.prog w K mg base CX0 8 fa fd ["script"] (spLaw K) := by
  have e := hfa.symm.trans (PySem.W.mg_of X G a_58)
  cases e
  let cs : Cs := ⟨C_Parameter, C_Net, C_Job, A_OPERAND_PLACES, A_WITH_PARAMETER, A_LENGTHS, A_OWN_ROWS, A_RULES, f_19, f_18, f_39, f_38, f_37, f_36, f_35, f_16, f_34, f_14, f_13, f_12, f_11, f_10, f_33, f_5, f_7, f_53, f_29, f_52, f_27, f_4⟩
  have T : Txt K mg cs w := ⟨PySem.W.mg_none_of X G z_abs, PySem.W.mg_none_of X G z_all, PySem.W.mg_none_of X G z_bool, PySem.W.mg_none_of X G z_int, PySem.W.mg_none_of X G z_isinstance, PySem.W.mg_none_of X G z_len, PySem.W.mg_none_of X G z_list, PySem.W.mg_none_of X G z_range, ⟨_, PySem.W.mg_of X G g_MOST_SHIFT⟩, ⟨_, PySem.W.mg_of X G g_LEAST_DIVISOR⟩, ⟨_, PySem.W.mg_of X G g_GREATEST_NUMBER⟩, ⟨_, PySem.W.mg_of X G g_LEAST⟩, ⟨_, PySem.W.mg_of X G g_GREATEST⟩, PySem.W.mg_of X G ga_OPERAND_PLACES, ⟨_, _, l_OPERAND_PLACES, lit_OPERAND_PLACES, low_OPERAND_PLACES⟩, ⟨_, en_OPERAND_PLACES_input, _, _, _, l_OPERAND_PLACES_input, rfl, rfl, z_OPERAND_PLACES_input, v_OPERAND_PLACES_input⟩, ⟨_, en_OPERAND_PLACES_target, _, _, _, l_OPERAND_PLACES_target, rfl, rfl, z_OPERAND_PLACES_target, v_OPERAND_PLACES_target⟩, ⟨_, en_OPERAND_PLACES_lin, _, _, _, l_OPERAND_PLACES_lin, rfl, rfl, z_OPERAND_PLACES_lin, v_OPERAND_PLACES_lin⟩, ⟨_, en_OPERAND_PLACES_bias, _, _, _, l_OPERAND_PLACES_bias, rfl, rfl, z_OPERAND_PLACES_bias, v_OPERAND_PLACES_bias⟩, ⟨_, en_OPERAND_PLACES_embed, _, _, _, l_OPERAND_PLACES_embed, rfl, rfl, z_OPERAND_PLACES_embed, v_OPERAND_PLACES_embed⟩, ⟨_, en_OPERAND_PLACES_mat, _, _, _, l_OPERAND_PLACES_mat, rfl, rfl, z_OPERAND_PLACES_mat, v_OPERAND_PLACES_mat⟩, ⟨_, en_OPERAND_PLACES_matT, _, _, _, l_OPERAND_PLACES_matT, rfl, rfl, z_OPERAND_PLACES_matT, v_OPERAND_PLACES_matT⟩, ⟨_, en_OPERAND_PLACES_lower, _, _, _, l_OPERAND_PLACES_lower, rfl, rfl, z_OPERAND_PLACES_lower, v_OPERAND_PLACES_lower⟩, ⟨_, en_OPERAND_PLACES_add, _, _, _, l_OPERAND_PLACES_add, rfl, rfl, z_OPERAND_PLACES_add, v_OPERAND_PLACES_add⟩, ⟨_, en_OPERAND_PLACES_sub, _, _, _, l_OPERAND_PLACES_sub, rfl, rfl, z_OPERAND_PLACES_sub, v_OPERAND_PLACES_sub⟩, ⟨_, en_OPERAND_PLACES_mul, _, _, _, l_OPERAND_PLACES_mul, rfl, rfl, z_OPERAND_PLACES_mul, v_OPERAND_PLACES_mul⟩, ⟨_, en_OPERAND_PLACES_scale, _, _, _, l_OPERAND_PLACES_scale, rfl, rfl, z_OPERAND_PLACES_scale, v_OPERAND_PLACES_scale⟩, ⟨_, en_OPERAND_PLACES_shift, _, _, _, l_OPERAND_PLACES_shift, rfl, rfl, z_OPERAND_PLACES_shift, v_OPERAND_PLACES_shift⟩, ⟨_, en_OPERAND_PLACES_relu, _, _, _, l_OPERAND_PLACES_relu, rfl, rfl, z_OPERAND_PLACES_relu, v_OPERAND_PLACES_relu⟩, ⟨_, en_OPERAND_PLACES_drop, _, _, _, l_OPERAND_PLACES_drop, rfl, rfl, z_OPERAND_PLACES_drop, v_OPERAND_PLACES_drop⟩, ⟨_, en_OPERAND_PLACES_sum, _, _, _, l_OPERAND_PLACES_sum, rfl, rfl, z_OPERAND_PLACES_sum, v_OPERAND_PLACES_sum⟩, ⟨_, en_OPERAND_PLACES_join, _, _, _, l_OPERAND_PLACES_join, rfl, rfl, z_OPERAND_PLACES_join, v_OPERAND_PLACES_join⟩, ⟨_, en_OPERAND_PLACES_take, _, _, _, l_OPERAND_PLACES_take, rfl, rfl, z_OPERAND_PLACES_take, v_OPERAND_PLACES_take⟩, PySem.W.mg_of X G ga_WITH_PARAMETER, ⟨_, _, _, l_WITH_PARAMETER, rfl, rfl, z_WITH_PARAMETER, v_WITH_PARAMETER⟩, PySem.W.mg_of X G ga_LENGTHS, ⟨_, _, l_LENGTHS, lit_LENGTHS, low_LENGTHS⟩, en_LENGTHS_input, en_LENGTHS_target, en_LENGTHS_lin, en_LENGTHS_bias, en_LENGTHS_embed, en_LENGTHS_mat, en_LENGTHS_matT, en_LENGTHS_lower, en_LENGTHS_add, en_LENGTHS_sub, en_LENGTHS_mul, en_LENGTHS_scale, en_LENGTHS_shift, en_LENGTHS_relu, en_LENGTHS_drop, en_LENGTHS_sum, en_LENGTHS_join, en_LENGTHS_take, PySem.W.mg_of X G ga_OWN_ROWS, ⟨_, _, _, l_OWN_ROWS, rfl, rfl, z_OWN_ROWS, v_OWN_ROWS⟩, PySem.W.mg_of X G ga_RULES, ⟨_, _, l_RULES, lit_RULES, low_RULES⟩, en_RULES_par, en_RULES_mom, en_RULES_val, en_RULES_pre, en_RULES_inc, en_RULES_bac, en_RULES_grd, en_RULES_los, PySem.W.mg_of X G a_19, PySem.W.mg_of X G a_18, PySem.W.mg_of X G a_39, PySem.W.mg_of X G a_38, PySem.W.mg_of X G a_37, PySem.W.mg_of X G a_36, PySem.W.mg_of X G a_35, PySem.W.mg_of X G a_16, PySem.W.mg_of X G a_34, PySem.W.mg_of X G a_14, PySem.W.mg_of X G a_13, PySem.W.mg_of X G a_12, PySem.W.mg_of X G a_11, PySem.W.mg_of X G a_10, PySem.W.mg_of X G a_33, PySem.W.mg_of X G a_5, PySem.W.mg_of X G a_7, PySem.W.mg_of X G a_53, PySem.W.mg_of X G a_29, PySem.W.mg_of X G a_52, PySem.W.mg_of X G a_27, PySem.W.mg_of X G a_4, ⟨pg_Parameter, hd_Parameter, po_Parameter, sa_Parameter⟩, PySem.W.mg_of X G ac_Parameter, ⟨mk_Parameter, kc_Parameter⟩, na_Parameter_rows, na_Parameter_cols, na_Parameter_fill, ⟨pg_Net, hd_Net, po_Net, sa_Net⟩, PySem.W.mg_of X G ac_Net, ⟨mk_Net, kc_Net⟩, na_Net_inputs, na_Net_targets, na_Net_parameters, na_Net_nodes, na_Net_lengths, ⟨pg_Job, hd_Job, po_Job, sa_Job⟩, PySem.W.mg_of X G ac_Job, ⟨mk_Job, kc_Job⟩, na_Job_net, na_Job_seed, na_Job_batch, na_Job_factor, na_Job_point, na_Job_rates, na_Job_data⟩
  refine ⟨PySem.W.fnOf "law" "law" (defArgs s_law) (defBody s_law) (defScope s_law) .none kV_58 dc_58 pm_58 an_58 cd_58 ct_58, fun s v => .of_eq rfl, fun base _ _ => ?_⟩
  have F_0 := fun_mk (st := s__law_sum_size) l_0 c_0 k_0
  have B_0 : Binds K _ ["net", "v"] [] := F_0.binds (ps := ["net", "v"]) fun _ _ _ _ _ _ us hl => match us, hl with | [_, _], _ => rfl
  have O_0 := ok__law_sum_size (P := l.prog) (w := w) (base := base) F_0 T 
  have D__law_sum_size : Def l.prog w K mg base 1 "_law_sum_size" ["net", "v"] (spSumSz) := ⟨_, _, O_0, B_0, PySem.W.mg_of X G a_0, k_0⟩
  have F_1 := fun_mk (st := s__law_operands) l_1 c_1 k_1
  have B_1 : Binds K _ ["node"] [] := F_1.binds (ps := ["node"]) fun _ _ _ _ _ _ us hl => match us, hl with | [_], _ => rfl
  have O_1 := ok__law_operands (P := l.prog) (w := w) (base := base) F_1 T 
  have D__law_operands : Def l.prog w K mg base 1 "_law_operands" ["node"] (spOperands K) := ⟨_, _, O_1, B_1, PySem.W.mg_of X G a_1, k_1⟩
  have F_2 := fun_mk (st := s__law_back_size) l_2 c_2 k_2
  have B_2 : Binds K _ ["net", "u", "s"] [] := F_2.binds (ps := ["net", "u", "s"]) fun _ _ _ _ _ _ us hl => match us, hl with | [_, _, _], _ => rfl
  have O_2 := ok__law_back_size (P := l.prog) (w := w) (base := base) F_2 T 
  have D__law_back_size : Def l.prog w K mg base 1 "_law_back_size" ["net", "u", "s"] (spBackSz) := ⟨_, _, O_2, B_2, PySem.W.mg_of X G a_2, k_2⟩
  have F_3 := fun_mk (st := s__law_valid_cell) l_3 c_3 k_3
  have B_3 : Binds K _ ["job", "name"] [] := F_3.binds (ps := ["job", "name"]) fun _ _ _ _ _ _ us hl => match us, hl with | [_, _], _ => rfl
  have O_3 := ok__law_valid_cell (P := l.prog) (w := w) (base := base) F_3 T 
  have D__law_valid_cell : Def l.prog w K mg base 1 "_law_valid_cell" ["job", "name"] (spLVCell K) := ⟨_, _, O_3, B_3, PySem.W.mg_of X G a_3, k_3⟩
  have F_4 := fun_mk (st := s__is_los) l_4 c_4 k_4
  have B_4 : Binds K _ ["job", "lo", "hi"] [] := F_4.binds (ps := ["job", "lo", "hi"]) fun _ _ _ _ _ _ us hl => match us, hl with | [_, _, _], _ => rfl
  have O_4 := ok__is_los (P := l.prog) (w := w) (base := base) F_4 T 
  have D__is_los : Def l.prog w K mg base 1 "_is_los" ["job", "lo", "hi"] (spIsLos K cs) := ⟨_, _, O_4, B_4, PySem.W.mg_of X G a_4, k_4⟩
  have F_5 := fun_mk (st := s__is_cell) l_5 c_5 k_5
  have B_5 : Binds K _ ["job", "p", "i", "j"] [] := F_5.binds (ps := ["job", "p", "i", "j"]) fun _ _ _ _ _ _ us hl => match us, hl with | [_, _, _, _], _ => rfl
  have O_5 := ok__is_cell (P := l.prog) (w := w) (base := base) F_5 T 
  have D__is_cell : Def l.prog w K mg base 1 "_is_cell" ["job", "p", "i", "j"] (spIsCell K cs) := ⟨_, _, O_5, B_5, PySem.W.mg_of X G a_5, k_5⟩
  have F_6 := fun_mk (st := s_operands) l_6 c_6 k_6
  have B_6 : Binds K _ ["node"] [] := F_6.binds (ps := ["node"]) fun _ _ _ _ _ _ us hl => match us, hl with | [_], _ => rfl
  have O_6 := ok_operands (P := l.prog) (w := w) (base := base) F_6 T 
  have D_operands : Def l.prog w K mg base 1 "operands" ["node"] (spOps K) := ⟨_, _, O_6, B_6, PySem.W.mg_of X G a_6, k_6⟩
  have F_7 := fun_mk (st := s__is_element) l_7 c_7 k_7
  have B_7 : Binds K _ ["job", "t", "v", "j"] [] := F_7.binds (ps := ["job", "t", "v", "j"]) fun _ _ _ _ _ _ us hl => match us, hl with | [_, _, _, _], _ => rfl
  have O_7 := ok__is_element (P := l.prog) (w := w) (base := base) F_7 T 
  have D__is_element : Def l.prog w K mg base 1 "_is_element" ["job", "t", "v", "j"] (spIsElem K cs) := ⟨_, _, O_7, B_7, PySem.W.mg_of X G a_7, k_7⟩
  have F_8 := fun_mk (st := s__law_draw) l_8 c_8 k_8
  have B_8 : Binds K _ ["box", "many"] [] := F_8.binds (ps := ["box", "many"]) fun _ _ _ _ _ _ us hl => match us, hl with | [_, _], _ => rfl
  have O_8 := ok__law_draw (P := l.prog) (w := w) (base := base) F_8 T 
  have D__law_draw : Def l.prog w K mg base 1 "_law_draw" ["box", "many"] (spDraw) := ⟨_, _, O_8, B_8, PySem.W.mg_of X G a_8, k_8⟩
  have F_9 := fun_mk (st := s_is_inside) l_9 c_9 k_9
  have B_9 : Binds K _ ["lo", "n", "length"] [] := F_9.binds (ps := ["lo", "n", "length"]) fun _ _ _ _ _ _ us hl => match us, hl with | [_, _, _], _ => rfl
  have O_9 := ok_is_inside (P := l.prog) (w := w) (base := base) F_9 T 
  have D_is_inside : Def l.prog w K mg base 1 "is_inside" ["lo", "n", "length"] (spInside) := ⟨_, _, O_9, B_9, PySem.W.mg_of X G a_9, k_9⟩
  have F_10 := fun_mk (st := s__of_join) l_10 c_10 k_10
  have B_10 : Binds K _ ["net", "known", "node"] [] := F_10.binds (ps := ["net", "known", "node"]) fun _ _ _ _ _ _ us hl => match us, hl with | [_, _, _], _ => rfl
  have O_10 := ok__of_join (P := l.prog) (w := w) (base := base) F_10 T 
  have D__of_join : Def l.prog w K mg base 1 "_of_join" ["net", "known", "node"] (spRule K cs fun d => ∃ a b, d = .join a b) := ⟨_, _, O_10, B_10, PySem.W.mg_of X G a_10, k_10⟩
  have F_11 := fun_mk (st := s__of_sum) l_11 c_11 k_11
  have B_11 : Binds K _ ["net", "known", "node"] [] := F_11.binds (ps := ["net", "known", "node"]) fun _ _ _ _ _ _ us hl => match us, hl with | [_, _, _], _ => rfl
  have O_11 := ok__of_sum (P := l.prog) (w := w) (base := base) F_11 T 
  have D__of_sum : Def l.prog w K mg base 1 "_of_sum" ["net", "known", "node"] (spRule K cs fun d => ∃ a, d = .sum a) := ⟨_, _, O_11, B_11, PySem.W.mg_of X G a_11, k_11⟩
  have F_12 := fun_mk (st := s__of_drop) l_12 c_12 k_12
  have B_12 : Binds K _ ["net", "known", "node"] [] := F_12.binds (ps := ["net", "known", "node"]) fun _ _ _ _ _ _ us hl => match us, hl with | [_, _, _], _ => rfl
  have O_12 := ok__of_drop (P := l.prog) (w := w) (base := base) F_12 T 
  have D__of_drop : Def l.prog w K mg base 1 "_of_drop" ["net", "known", "node"] (spRule K cs fun d => ∃ m a, d = .drop m a) := ⟨_, _, O_12, B_12, PySem.W.mg_of X G a_12, k_12⟩
  have F_13 := fun_mk (st := s__of_relu) l_13 c_13 k_13
  have B_13 : Binds K _ ["net", "known", "node"] [] := F_13.binds (ps := ["net", "known", "node"]) fun _ _ _ _ _ _ us hl => match us, hl with | [_, _, _], _ => rfl
  have O_13 := ok__of_relu (P := l.prog) (w := w) (base := base) F_13 T 
  have D__of_relu : Def l.prog w K mg base 1 "_of_relu" ["net", "known", "node"] (spRule K cs fun d => ∃ a, d = .relu a) := ⟨_, _, O_13, B_13, PySem.W.mg_of X G a_13, k_13⟩
  have F_14 := fun_mk (st := s__of_shift) l_14 c_14 k_14
  have B_14 : Binds K _ ["net", "known", "node"] [] := F_14.binds (ps := ["net", "known", "node"]) fun _ _ _ _ _ _ us hl => match us, hl with | [_, _, _], _ => rfl
  have O_14 := ok__of_shift (P := l.prog) (w := w) (base := base) F_14 T 
  have D__of_shift : Def l.prog w K mg base 1 "_of_shift" ["net", "known", "node"] (spRule K cs fun d => ∃ k a, d = .shift k a) := ⟨_, _, O_14, B_14, PySem.W.mg_of X G a_14, k_14⟩
  have F_15 := fun_mk (st := s_is_word) l_15 c_15 k_15
  have B_15 : Binds K _ ["n"] [] := F_15.binds (ps := ["n"]) fun _ _ _ _ _ _ us hl => match us, hl with | [_], _ => rfl
  have O_15 := ok_is_word (P := l.prog) (w := w) (base := base) F_15 T 
  have D_is_word : Def l.prog w K mg base 1 "is_word" ["n"] (spIsWord) := ⟨_, _, O_15, B_15, PySem.W.mg_of X G a_15, k_15⟩
  have F_16 := fun_mk (st := s__of_pair) l_16 c_16 k_16
  have B_16 : Binds K _ ["net", "known", "node"] [] := F_16.binds (ps := ["net", "known", "node"]) fun _ _ _ _ _ _ us hl => match us, hl with | [_, _, _], _ => rfl
  have O_16 := ok__of_pair (P := l.prog) (w := w) (base := base) F_16 T 
  have D__of_pair : Def l.prog w K mg base 1 "_of_pair" ["net", "known", "node"] (spRule K cs fun d => ∃ a b, d = .add a b ∨ d = .sub a b ∨ d = .mul a b) := ⟨_, _, O_16, B_16, PySem.W.mg_of X G a_16, k_16⟩
  have F_17 := fun_mk (st := s_is_multiple) l_17 c_17 k_17
  have B_17 : Binds K _ ["n", "c"] [] := F_17.binds (ps := ["n", "c"]) fun _ _ _ _ _ _ us hl => match us, hl with | [_, _], _ => rfl
  have O_17 := ok_is_multiple (P := l.prog) (w := w) (base := base) F_17 T 
  have D_is_multiple : Def l.prog w K mg base 1 "is_multiple" ["n", "c"] (spMult) := ⟨_, _, O_17, B_17, PySem.W.mg_of X G a_17, k_17⟩
  have F_18 := fun_mk (st := s__of_targets) l_18 c_18 k_18
  have B_18 : Binds K _ ["net", "known", "node"] [] := F_18.binds (ps := ["net", "known", "node"]) fun _ _ _ _ _ _ us hl => match us, hl with | [_, _, _], _ => rfl
  have O_18 := ok__of_targets (P := l.prog) (w := w) (base := base) F_18 T 
  have D__of_targets : Def l.prog w K mg base 1 "_of_targets" ["net", "known", "node"] (spRule K cs (· = .target)) := ⟨_, _, O_18, B_18, PySem.W.mg_of X G a_18, k_18⟩
  have F_19 := fun_mk (st := s__of_inputs) l_19 c_19 k_19
  have B_19 : Binds K _ ["net", "known", "node"] [] := F_19.binds (ps := ["net", "known", "node"]) fun _ _ _ _ _ _ us hl => match us, hl with | [_, _, _], _ => rfl
  have O_19 := ok__of_inputs (P := l.prog) (w := w) (base := base) F_19 T 
  have D__of_inputs : Def l.prog w K mg base 1 "_of_inputs" ["net", "known", "node"] (spRule K cs (· = .input)) := ⟨_, _, O_19, B_19, PySem.W.mg_of X G a_19, k_19⟩
  have F_20 := fun_mk (st := s__names_exist) l_20 c_20 k_20
  have B_20 : Binds K _ ["net", "known", "node"] [] := F_20.binds (ps := ["net", "known", "node"]) fun _ _ _ _ _ _ us hl => match us, hl with | [_, _, _], _ => rfl
  have O_20 := ok__names_exist (P := l.prog) (w := w) (base := base) F_20 T 
  have D__names_exist : Def l.prog w K mg base 1 "_names_exist" ["net", "known", "node"] (spNames K cs) := ⟨_, _, O_20, B_20, PySem.W.mg_of X G a_20, k_20⟩
  have F_21 := fun_mk (st := s_Job___init__) l_21 c_21 k_21
  have B_21 : Binds K _ ["self", "net", "seed", "batch", "factor", "point", "rates", "data"] [] := F_21.binds (ps := ["self", "net", "seed", "batch", "factor", "point", "rates", "data"]) fun _ _ _ _ _ _ us hl => match us, hl with | [_, _, _, _, _, _, _, _], _ => rfl
  have O_21 := ok_Job___init__ (P := l.prog) (w := w) (base := base) F_21 T 
  have D_Job___init__ : IDef l.prog w K mg base 1 C_Job ["self", "net", "seed", "batch", "factor", "point", "rates", "data"] (spJobInit cs) := ⟨_, _, O_21, B_21, ⟨mk_Job, a_21, i_21, kc_Job⟩⟩
  have F_22 := fun_mk (st := s_Parameter___init__) l_22 c_22 k_22
  have B_22 : Binds K _ ["self", "rows", "cols", "fill"] [] := F_22.binds (ps := ["self", "rows", "cols", "fill"]) fun _ _ _ _ _ _ us hl => match us, hl with | [_, _, _, _], _ => rfl
  have O_22 := ok_Parameter___init__ (P := l.prog) (w := w) (base := base) F_22 T 
  have D_Parameter___init__ : IDef l.prog w K mg base 1 C_Parameter ["self", "rows", "cols", "fill"] (spParInit cs) := ⟨_, _, O_22, B_22, ⟨mk_Parameter, a_22, i_22, kc_Parameter⟩⟩
  have F_23 := fun_mk (st := s__law_wrap) l_23 c_23 k_23
  have B_23 : Binds K _ ["n"] [] := F_23.binds (ps := ["n"]) fun _ _ _ _ _ _ us hl => match us, hl with | [_], _ => rfl
  have O_23 := ok__law_wrap (P := l.prog) (w := w) (base := base) F_23 T 
  have D__law_wrap : Def l.prog w K mg base 1 "_law_wrap" ["n"] (spWrap) := ⟨_, _, O_23, B_23, PySem.W.mg_of X G a_23, k_23⟩
  have F_24 := fun_mk (st := s__law_length) l_24 c_24 k_24
  have B_24 : Binds K _ ["net", "node"] [] := F_24.binds (ps := ["net", "node"]) fun _ _ _ _ _ _ us hl => match us, hl with | [_, _], _ => rfl
  have O_24 := ok__law_length (P := l.prog) (w := w) (base := base) F_24 T 
  have D__law_length : Def l.prog w K mg base 1 "_law_length" ["net", "node"] (spLLen) := ⟨_, _, O_24, B_24, PySem.W.mg_of X G a_24, k_24⟩
  have F_25 := fun_mk (st := s__law_cell) l_25 c_25 k_25
  have B_25 : Binds K _ ["script", "k"] [] := F_25.binds (ps := ["script", "k"]) fun _ _ _ _ _ _ us hl => match us, hl with | [_, _], _ => rfl
  have O_25 := ok__law_cell (P := l.prog) (w := w) (base := base) F_25 T 
  have D__law_cell : Def l.prog w K mg base 1 "_law_cell" ["script", "k"] (spCell K) := ⟨_, _, O_25, B_25, PySem.W.mg_of X G a_25, k_25⟩
  have F_26 := fun_mk (st := s__law_valid) l_26 c_26 k_26
  have B_26 : Binds K _ ["job", "name"] [] := F_26.binds (ps := ["job", "name"]) fun _ _ _ _ _ _ us hl => match us, hl with | [_, _], _ => rfl
  have O_26 := ok__law_valid (P := l.prog) (w := w) (base := base) F_26 T (d__law_valid_cell := D__law_valid_cell) (d__law_back_size := D__law_back_size) (d__law_operands := D__law_operands) (d__law_sum_size := D__law_sum_size)
  have D__law_valid : Def l.prog w K mg base 2 "_law_valid" ["job", "name"] (spLValid K) := ⟨_, _, O_26, B_26, PySem.W.mg_of X G a_26, k_26⟩
  have F_27 := fun_mk (st := s__is_grd) l_27 c_27 k_27
  have B_27 : Binds K _ ["job", "p", "i", "j", "lo", "hi"] [] := F_27.binds (ps := ["job", "p", "i", "j", "lo", "hi"]) fun _ _ _ _ _ _ us hl => match us, hl with | [_, _, _, _, _, _], _ => rfl
  have O_27 := ok__is_grd (P := l.prog) (w := w) (base := base) F_27 T (d__is_cell := D__is_cell) (d__is_los := D__is_los)
  have D__is_grd : Def l.prog w K mg base 2 "_is_grd" ["job", "p", "i", "j", "lo", "hi"] (spIsGrd K cs) := ⟨_, _, O_27, B_27, PySem.W.mg_of X G a_27, k_27⟩
  have F_28 := fun_mk (st := s_row_length) l_28 c_28 k_28
  have B_28 : Binds K _ ["net", "v"] [] := F_28.binds (ps := ["net", "v"]) fun _ _ _ _ _ _ us hl => match us, hl with | [_, _], _ => rfl
  have O_28 := ok_row_length (P := l.prog) (w := w) (base := base) F_28 T (d_operands := D_operands)
  have D_row_length : Def l.prog w K mg base 2 "row_length" ["net", "v"] (spRowLen K cs) := ⟨_, _, O_28, B_28, PySem.W.mg_of X G a_28, k_28⟩
  have F_29 := fun_mk (st := s__is_inc) l_29 c_29 k_29
  have B_29 : Binds K _ ["job", "t", "v", "j", "u"] [] := F_29.binds (ps := ["job", "t", "v", "j", "u"]) fun _ _ _ _ _ _ us hl => match us, hl with | [_, _, _, _, _], _ => rfl
  have O_29 := ok__is_inc (P := l.prog) (w := w) (base := base) F_29 T (d__is_element := D__is_element)
  have D__is_inc : Def l.prog w K mg base 2 "_is_inc" ["job", "t", "v", "j", "u"] (spIsInc K cs) := ⟨_, _, O_29, B_29, PySem.W.mg_of X G a_29, k_29⟩
  have F_30 := fun_mk (st := s__law_near) l_30 c_30 k_30
  have B_30 : Binds K _ ["box", "name"] [] := F_30.binds (ps := ["box", "name"]) fun _ _ _ _ _ _ us hl => match us, hl with | [_, _], _ => rfl
  have O_30 := ok__law_near (P := l.prog) (w := w) (base := base) F_30 T (d__law_draw := D__law_draw)
  have D__law_near : Def l.prog w K mg base 2 "_law_near" ["box", "name"] (spNear) := ⟨_, _, O_30, B_30, PySem.W.mg_of X G a_30, k_30⟩
  have F_31 := fun_mk (st := s__law_range) l_31 c_31 k_31
  have B_31 : Binds K _ ["box", "most"] [] := F_31.binds (ps := ["box", "most"]) fun _ _ _ _ _ _ us hl => match us, hl with | [_, _], _ => rfl
  have O_31 := ok__law_range (P := l.prog) (w := w) (base := base) F_31 T (d__law_draw := D__law_draw)
  have D__law_range : Def l.prog w K mg base 2 "_law_range" ["box", "most"] (spRange) := ⟨_, _, O_31, B_31, PySem.W.mg_of X G a_31, k_31⟩
  have F_32 := fun_mk (st := s__law_cell_name) l_32 c_32 k_32
  have B_32 : Binds K _ ["box", "job", "kind", "n"] [] := F_32.binds (ps := ["box", "job", "kind", "n"]) fun _ _ _ _ _ _ us hl => match us, hl with | [_, _, _, _], _ => rfl
  have O_32 := ok__law_cell_name (P := l.prog) (w := w) (base := base) F_32 T (d__law_draw := D__law_draw)
  have D__law_cell_name : Def l.prog w K mg base 2 "_law_cell_name" ["box", "job", "kind", "n"] (spCellName) := ⟨_, _, O_32, B_32, PySem.W.mg_of X G a_32, k_32⟩
  have F_33 := fun_mk (st := s__of_take) l_33 c_33 k_33
  have B_33 : Binds K _ ["net", "known", "node"] [] := F_33.binds (ps := ["net", "known", "node"]) fun _ _ _ _ _ _ us hl => match us, hl with | [_, _, _], _ => rfl
  have O_33 := ok__of_take (P := l.prog) (w := w) (base := base) F_33 T (d_is_inside := D_is_inside)
  have D__of_take : Def l.prog w K mg base 2 "_of_take" ["net", "known", "node"] (spRule K cs fun d => ∃ lo n a, d = .take lo n a) := ⟨_, _, O_33, B_33, PySem.W.mg_of X G a_33, k_33⟩
  have F_34 := fun_mk (st := s__of_scale) l_34 c_34 k_34
  have B_34 : Binds K _ ["net", "known", "node"] [] := F_34.binds (ps := ["net", "known", "node"]) fun _ _ _ _ _ _ us hl => match us, hl with | [_, _, _], _ => rfl
  have O_34 := ok__of_scale (P := l.prog) (w := w) (base := base) F_34 T (d_is_word := D_is_word)
  have D__of_scale : Def l.prog w K mg base 2 "_of_scale" ["net", "known", "node"] (spRule K cs fun d => ∃ w a, d = .scale w a) := ⟨_, _, O_34, B_34, PySem.W.mg_of X G a_34, k_34⟩
  have F_35 := fun_mk (st := s__of_lower) l_35 c_35 k_35
  have B_35 : Binds K _ ["net", "known", "node"] [] := F_35.binds (ps := ["net", "known", "node"]) fun _ _ _ _ _ _ us hl => match us, hl with | [_, _, _], _ => rfl
  have O_35 := ok__of_lower (P := l.prog) (w := w) (base := base) F_35 T (d_is_multiple := D_is_multiple)
  have D__of_lower : Def l.prog w K mg base 2 "_of_lower" ["net", "known", "node"] (spRule K cs fun d => ∃ c a, d = .lower c a) := ⟨_, _, O_35, B_35, PySem.W.mg_of X G a_35, k_35⟩
  have F_36 := fun_mk (st := s__of_mat) l_36 c_36 k_36
  have B_36 : Binds K _ ["net", "known", "node"] [] := F_36.binds (ps := ["net", "known", "node"]) fun _ _ _ _ _ _ us hl => match us, hl with | [_, _, _], _ => rfl
  have O_36 := ok__of_mat (P := l.prog) (w := w) (base := base) F_36 T (d_is_multiple := D_is_multiple)
  have D__of_mat : Def l.prog w K mg base 2 "_of_mat" ["net", "known", "node"] (spRule K cs fun d => ∃ k a b, d = .mat k a b ∨ d = .matT k a b) := ⟨_, _, O_36, B_36, PySem.W.mg_of X G a_36, k_36⟩
  have F_37 := fun_mk (st := s__of_embed) l_37 c_37 k_37
  have B_37 : Binds K _ ["net", "known", "node"] [] := F_37.binds (ps := ["net", "known", "node"]) fun _ _ _ _ _ _ us hl => match us, hl with | [_, _, _], _ => rfl
  have O_37 := ok__of_embed (P := l.prog) (w := w) (base := base) F_37 T (d_is_inside := D_is_inside)
  have D__of_embed : Def l.prog w K mg base 2 "_of_embed" ["net", "known", "node"] (spRule K cs fun d => ∃ p lo n, d = .embed p lo n) := ⟨_, _, O_37, B_37, PySem.W.mg_of X G a_37, k_37⟩
  have F_38 := fun_mk (st := s__of_bias) l_38 c_38 k_38
  have B_38 : Binds K _ ["net", "known", "node"] [] := F_38.binds (ps := ["net", "known", "node"]) fun _ _ _ _ _ _ us hl => match us, hl with | [_, _, _], _ => rfl
  have O_38 := ok__of_bias (P := l.prog) (w := w) (base := base) F_38 T (d_is_multiple := D_is_multiple)
  have D__of_bias : Def l.prog w K mg base 2 "_of_bias" ["net", "known", "node"] (spRule K cs fun d => ∃ p a, d = .bias p a) := ⟨_, _, O_38, B_38, PySem.W.mg_of X G a_38, k_38⟩
  have F_39 := fun_mk (st := s__of_lin) l_39 c_39 k_39
  have B_39 : Binds K _ ["net", "known", "node"] [] := F_39.binds (ps := ["net", "known", "node"]) fun _ _ _ _ _ _ us hl => match us, hl with | [_, _, _], _ => rfl
  have O_39 := ok__of_lin (P := l.prog) (w := w) (base := base) F_39 T (d_is_multiple := D_is_multiple)
  have D__of_lin : Def l.prog w K mg base 2 "_of_lin" ["net", "known", "node"] (spRule K cs fun d => ∃ p a, d = .lin p a) := ⟨_, _, O_39, B_39, PySem.W.mg_of X G a_39, k_39⟩
  have F_40 := fun_mk (st := s__law_word) l_40 c_40 k_40
  have B_40 : Binds K _ ["box"] [] := F_40.binds (ps := ["box"]) fun _ _ _ _ _ _ us hl => match us, hl with | [_], _ => rfl
  have O_40 := ok__law_word (P := l.prog) (w := w) (base := base) F_40 T (d__law_draw := D__law_draw) (d__law_wrap := D__law_wrap)
  have D__law_word : Def l.prog w K mg base 2 "_law_word" ["box"] (spWord) := ⟨_, _, O_40, B_40, PySem.W.mg_of X G a_40, k_40⟩
  have F_41 := fun_mk (st := s__law_row) l_41 c_41 k_41
  have B_41 : Binds K _ ["script", "first", "last"] [] := F_41.binds (ps := ["script", "first", "last"]) fun _ _ _ _ _ _ us hl => match us, hl with | [_, _, _], _ => rfl
  have O_41 := ok__law_row (P := l.prog) (w := w) (base := base) F_41 T (d__law_cell := D__law_cell)
  have D__law_row : Def l.prog w K mg base 2 "_law_row" ["script", "first", "last"] (spRow K) := ⟨_, _, O_41, B_41, PySem.W.mg_of X G a_41, k_41⟩
  have F_42 := fun_mk (st := s_sides) l_42 c_42 k_42
  have B_42 : Binds K _ ["net", "v"] [] := F_42.binds (ps := ["net", "v"]) fun _ _ _ _ _ _ us hl => match us, hl with | [_, _], _ => rfl
  have O_42 := ok_sides (P := l.prog) (w := w) (base := base) F_42 T (d_operands := D_operands) (d_row_length := D_row_length)
  have D_sides : Def l.prog w K mg base 3 "sides" ["net", "v"] (spSides K cs) := ⟨_, _, O_42, B_42, PySem.W.mg_of X G a_42, k_42⟩
  have F_43 := fun_mk (st := s__law_name) l_43 c_43 k_43
  have B_43 : Binds K _ ["box", "job", "kind", "n"] [] := F_43.binds (ps := ["box", "job", "kind", "n"]) fun _ _ _ _ _ _ us hl => match us, hl with | [_, _, _, _], _ => rfl
  have O_43 := ok__law_name (P := l.prog) (w := w) (base := base) F_43 T (d__law_draw := D__law_draw) (d__law_cell_name := D__law_cell_name) (d__law_range := D__law_range) (d__law_sum_size := D__law_sum_size) (d__law_back_size := D__law_back_size) (d__law_operands := D__law_operands)
  have D__law_name : Def l.prog w K mg base 3 "_law_name" ["box", "job", "kind", "n"] (spName) := ⟨_, _, O_43, B_43, PySem.W.mg_of X G a_43, k_43⟩
  have F_44 := fun_mk (st := s_length_of) l_44 c_44 k_44
  have B_44 : Binds K _ ["net", "known", "node"] [] := F_44.binds (ps := ["net", "known", "node"]) fun _ _ _ _ _ _ us hl => match us, hl with | [_, _, _], _ => rfl
  have O_44 := ok_length_of (P := l.prog) (w := w) (base := base) F_44 T (d__names_exist := D__names_exist) (d__of_inputs := D__of_inputs) (d__of_targets := D__of_targets) (d__of_lin := D__of_lin) (d__of_bias := D__of_bias) (d__of_embed := D__of_embed) (d__of_mat := D__of_mat) (d__of_lower := D__of_lower) (d__of_pair := D__of_pair) (d__of_scale := D__of_scale) (d__of_shift := D__of_shift) (d__of_relu := D__of_relu) (d__of_drop := D__of_drop) (d__of_sum := D__of_sum) (d__of_join := D__of_join) (d__of_take := D__of_take)
  have D_length_of : Def l.prog w K mg base 3 "length_of" ["net", "known", "node"] (spLength K cs) := ⟨_, _, O_44, B_44, PySem.W.mg_of X G a_44, k_44⟩
  have F_45 := fun_mk (st := s__law_try) l_45 c_45 k_45
  have B_45 : Binds K _ ["box", "net"] [] := F_45.binds (ps := ["box", "net"]) fun _ _ _ _ _ _ us hl => match us, hl with | [_, _], _ => rfl
  have O_45 := ok__law_try (P := l.prog) (w := w) (base := base) F_45 T (d__law_draw := D__law_draw) (d__law_word := D__law_word)
  have D__law_try : Def l.prog w K mg base 3 "_law_try" ["box", "net"] (spTry) := ⟨_, _, O_45, B_45, PySem.W.mg_of X G a_45, k_45⟩
  have F_46 := fun_mk (st := s__law_fill) l_46 c_46 k_46
  have B_46 : Binds K _ ["box"] [] := F_46.binds (ps := ["box"]) fun _ _ _ _ _ _ us hl => match us, hl with | [_], _ => rfl
  have O_46 := ok__law_fill (P := l.prog) (w := w) (base := base) F_46 T (d__law_draw := D__law_draw) (d__law_word := D__law_word)
  have D__law_fill : Def l.prog w K mg base 3 "_law_fill" ["box"] (spFill) := ⟨_, _, O_46, B_46, PySem.W.mg_of X G a_46, k_46⟩
  have F_47 := fun_mk (st := s_bac_count) l_47 c_47 k_47
  have B_47 : Binds K _ ["net", "u", "s"] [] := F_47.binds (ps := ["net", "u", "s"]) fun _ _ _ _ _ _ us hl => match us, hl with | [_, _, _], _ => rfl
  have O_47 := ok_bac_count (P := l.prog) (w := w) (base := base) F_47 T (d_sides := D_sides)
  have D_bac_count : Def l.prog w K mg base 4 "bac_count" ["net", "u", "s"] (spBacC K cs) := ⟨_, _, O_47, B_47, PySem.W.mg_of X G a_47, k_47⟩
  have F_48 := fun_mk (st := s_pre_count) l_48 c_48 k_48
  have B_48 : Binds K _ ["net", "v"] [] := F_48.binds (ps := ["net", "v"]) fun _ _ _ _ _ _ us hl => match us, hl with | [_, _], _ => rfl
  have O_48 := ok_pre_count (P := l.prog) (w := w) (base := base) F_48 T (d_sides := D_sides)
  have D_pre_count : Def l.prog w K mg base 4 "pre_count" ["net", "v"] (spPreC K cs) := ⟨_, _, O_48, B_48, PySem.W.mg_of X G a_48, k_48⟩
  have F_49 := fun_mk (st := s__law_any_name) l_49 c_49 k_49
  have B_49 : Binds K _ ["box", "job", "most"] [] := F_49.binds (ps := ["box", "job", "most"]) fun _ _ _ _ _ _ us hl => match us, hl with | [_, _, _], _ => rfl
  have O_49 := ok__law_any_name (P := l.prog) (w := w) (base := base) F_49 T (d__law_name := D__law_name) (d__law_draw := D__law_draw)
  have D__law_any_name : Def l.prog w K mg base 4 "_law_any_name" ["box", "job", "most"] (spAnyName) := ⟨_, _, O_49, B_49, PySem.W.mg_of X G a_49, k_49⟩
  have F_50 := fun_mk (st := s__lengths) l_50 c_50 k_50
  have B_50 : Binds K _ ["net"] [] := F_50.binds (ps := ["net"]) fun _ _ _ _ _ _ us hl => match us, hl with | [_], _ => rfl
  have O_50 := ok__lengths (P := l.prog) (w := w) (base := base) F_50 T (d_length_of := D_length_of)
  have D__lengths : Def l.prog w K mg base 4 "_lengths" ["net"] (spLengths K cs) := ⟨_, _, O_50, B_50, PySem.W.mg_of X G a_50, k_50⟩
  have F_51 := fun_mk (st := s__law_small_net) l_51 c_51 k_51
  have B_51 : Binds K _ ["box", "most"] [] := F_51.binds (ps := ["box", "most"]) fun _ _ _ _ _ _ us hl => match us, hl with | [_, _], _ => rfl
  have O_51 := ok__law_small_net (P := l.prog) (w := w) (base := base) F_51 T (d__law_draw := D__law_draw) (d__law_fill := D__law_fill) (d__law_try := D__law_try) (d__law_length := D__law_length)
  have D__law_small_net : Def l.prog w K mg base 4 "_law_small_net" ["box", "most"] (spSNet) := ⟨_, _, O_51, B_51, PySem.W.mg_of X G a_51, k_51⟩
  have F_52 := fun_mk (st := s__is_bac) l_52 c_52 k_52
  have B_52 : Binds K _ ["job", "t", "u", "s", "i", "lo", "hi"] [] := F_52.binds (ps := ["job", "t", "u", "s", "i", "lo", "hi"]) fun _ _ _ _ _ _ us hl => match us, hl with | [_, _, _, _, _, _, _], _ => rfl
  have O_52 := ok__is_bac (P := l.prog) (w := w) (base := base) F_52 T (d_operands := D_operands) (d_bac_count := D_bac_count)
  have D__is_bac : Def l.prog w K mg base 5 "_is_bac" ["job", "t", "u", "s", "i", "lo", "hi"] (spIsBac K cs) := ⟨_, _, O_52, B_52, PySem.W.mg_of X G a_52, k_52⟩
  have F_53 := fun_mk (st := s__is_pre) l_53 c_53 k_53
  have B_53 : Binds K _ ["job", "t", "v", "j", "lo", "hi"] [] := F_53.binds (ps := ["job", "t", "v", "j", "lo", "hi"]) fun _ _ _ _ _ _ us hl => match us, hl with | [_, _, _, _, _, _], _ => rfl
  have O_53 := ok__is_pre (P := l.prog) (w := w) (base := base) F_53 T (d__is_element := D__is_element) (d_pre_count := D_pre_count)
  have D__is_pre : Def l.prog w K mg base 5 "_is_pre" ["job", "t", "v", "j", "lo", "hi"] (spIsPre K cs) := ⟨_, _, O_53, B_53, PySem.W.mg_of X G a_53, k_53⟩
  have F_54 := fun_mk (st := s_Net___init__) l_54 c_54 k_54
  have B_54 : Binds K _ ["self", "inputs", "targets", "parameters", "nodes"] [] := F_54.binds (ps := ["self", "inputs", "targets", "parameters", "nodes"]) fun _ _ _ _ _ _ us hl => match us, hl with | [_, _, _, _, _], _ => rfl
  have O_54 := ok_Net___init__ (P := l.prog) (w := w) (base := base) F_54 T (d__lengths := D__lengths)
  have D_Net___init__ : IDef l.prog w K mg base 5 C_Net ["self", "inputs", "targets", "parameters", "nodes"] (spNetInit K cs) := ⟨_, _, O_54, B_54, ⟨mk_Net, a_54, i_54, kc_Net⟩⟩
  have F_55 := fun_mk (st := s__law_job) l_55 c_55 k_55
  have B_55 : Binds K _ ["box", "most"] [] := F_55.binds (ps := ["box", "most"]) fun _ _ _ _ _ _ us hl => match us, hl with | [_, _], _ => rfl
  have O_55 := ok__law_job (P := l.prog) (w := w) (base := base) F_55 T (d__law_small_net := D__law_small_net) (d__law_draw := D__law_draw) (d__law_word := D__law_word)
  have D__law_job : Def l.prog w K mg base 5 "_law_job" ["box", "most"] (spSJob) := ⟨_, _, O_55, B_55, PySem.W.mg_of X G a_55, k_55⟩
  have F_56 := fun_mk (st := s_is_name) l_56 c_56 k_56
  have B_56 : Binds K _ ["job", "name"] [] := F_56.binds (ps := ["job", "name"]) fun _ _ _ _ _ _ us hl => match us, hl with | [_, _], _ => rfl
  have O_56 := ok_is_name (P := l.prog) (w := w) (base := base) F_56 T (d__is_cell := D__is_cell) (d__is_element := D__is_element) (d__is_pre := D__is_pre) (d__is_inc := D__is_inc) (d__is_bac := D__is_bac) (d__is_grd := D__is_grd) (d__is_los := D__is_los)
  have D_is_name : Def l.prog w K mg base 6 "is_name" ["job", "name"] (spIsName K cs) := ⟨_, _, O_56, B_56, PySem.W.mg_of X G a_56, k_56⟩
  have F_57 := fun_mk (st := s__law_built) l_57 c_57 k_57
  have B_57 : Binds K _ ["job"] [] := F_57.binds (ps := ["job"]) fun _ _ _ _ _ _ us hl => match us, hl with | [_], _ => rfl
  have O_57 := ok__law_built (P := l.prog) (w := w) (base := base) F_57 T (d_Parameter___init__ := D_Parameter___init__) (d_Job___init__ := D_Job___init__) (d_Net___init__ := D_Net___init__)
  have D__law_built : Def l.prog w K mg base 7 "_law_built" ["job"] (spBuilt K cs) := ⟨_, _, O_57, B_57, PySem.W.mg_of X G a_57, k_57⟩
  exact ok_law (fun_mk (st := s_law) l_58 c_58 k_58) T (d__law_row := D__law_row) (d__law_job := D__law_job) (d__law_built := D__law_built) (d__law_any_name := D__law_any_name) (d__law_near := D__law_near) (d_is_name := D_is_name) (d__law_valid := D__law_valid)
end My
open PySem PySem.W PyProof.Rows
set_option maxHeartbeats 0 in
theorem PySem.Challenge.cw_asifone_k38_names_of_a_job_holds : PySem.Challenge.rw_asifone_k38_names_of_a_job.Holds := by
  w_on; o_law; k_head; (case hw => w_witness2)
  k_fill
  refine L2.walk_of (l := PySem.Challenge.rw_asifone_k38_names_of_a_job) (n := 63) (k := 8) (x := "script") (CX := fun _ => L2.CX0) (sp := fun w => My.spLaw _) rfl (by decide) rfl ⟨rfl, by decide, by decide⟩ (fun w h Y => PySem.W.kIn_of Y) ?F (fun _ _ a ns hl _ hS => ⟨a, ns, rfl, hS, hl, fun _ => rfl⟩) (fun _ _ _ _ _ h => h)
  case F =>
    intro w mg fa h KX G hmg
    refine' My.all_mk KX G hmg ?ac_Parameter ?pg_Parameter ?hd_Parameter ?po_Parameter ?sa_Parameter ?mk_Parameter ?kc_Parameter ?na_Parameter_rows ?na_Parameter_cols ?na_Parameter_fill ?ac_Net ?pg_Net ?hd_Net ?po_Net ?sa_Net ?mk_Net ?kc_Net ?na_Net_inputs ?na_Net_targets ?na_Net_parameters ?na_Net_nodes ?na_Net_lengths ?ac_Job ?pg_Job ?hd_Job ?po_Job ?sa_Job ?mk_Job ?kc_Job ?na_Job_net ?na_Job_seed ?na_Job_batch ?na_Job_factor ?na_Job_point ?na_Job_rates ?na_Job_data ?a_0 ?l_0 ?c_0 ?k_0 ?a_1 ?l_1 ?c_1 ?k_1 ?a_2 ?l_2 ?c_2 ?k_2 ?a_3 ?l_3 ?c_3 ?k_3 ?a_4 ?l_4 ?c_4 ?k_4 ?a_5 ?l_5 ?c_5 ?k_5 ?a_6 ?l_6 ?c_6 ?k_6 ?a_7 ?l_7 ?c_7 ?k_7 ?a_8 ?l_8 ?c_8 ?k_8 ?a_9 ?l_9 ?c_9 ?k_9 ?a_10 ?l_10 ?c_10 ?k_10 ?a_11 ?l_11 ?c_11 ?k_11 ?a_12 ?l_12 ?c_12 ?k_12 ?a_13 ?l_13 ?c_13 ?k_13 ?a_14 ?l_14 ?c_14 ?k_14 ?a_15 ?l_15 ?c_15 ?k_15 ?a_16 ?l_16 ?c_16 ?k_16 ?a_17 ?l_17 ?c_17 ?k_17 ?a_18 ?l_18 ?c_18 ?k_18 ?a_19 ?l_19 ?c_19 ?k_19 ?a_20 ?l_20 ?c_20 ?k_20 ?a_21 ?i_21 ?l_21 ?c_21 ?k_21 ?a_22 ?i_22 ?l_22 ?c_22 ?k_22 ?a_23 ?l_23 ?c_23 ?k_23 ?a_24 ?l_24 ?c_24 ?k_24 ?a_25 ?l_25 ?c_25 ?k_25 ?a_26 ?l_26 ?c_26 ?k_26 ?a_27 ?l_27 ?c_27 ?k_27 ?a_28 ?l_28 ?c_28 ?k_28 ?a_29 ?l_29 ?c_29 ?k_29 ?a_30 ?l_30 ?c_30 ?k_30 ?a_31 ?l_31 ?c_31 ?k_31 ?a_32 ?l_32 ?c_32 ?k_32 ?a_33 ?l_33 ?c_33 ?k_33 ?a_34 ?l_34 ?c_34 ?k_34 ?a_35 ?l_35 ?c_35 ?k_35 ?a_36 ?l_36 ?c_36 ?k_36 ?a_37 ?l_37 ?c_37 ?k_37 ?a_38 ?l_38 ?c_38 ?k_38 ?a_39 ?l_39 ?c_39 ?k_39 ?a_40 ?l_40 ?c_40 ?k_40 ?a_41 ?l_41 ?c_41 ?k_41 ?a_42 ?l_42 ?c_42 ?k_42 ?a_43 ?l_43 ?c_43 ?k_43 ?a_44 ?l_44 ?c_44 ?k_44 ?a_45 ?l_45 ?c_45 ?k_45 ?a_46 ?l_46 ?c_46 ?k_46 ?a_47 ?l_47 ?c_47 ?k_47 ?a_48 ?l_48 ?c_48 ?k_48 ?a_49 ?l_49 ?c_49 ?k_49 ?a_50 ?l_50 ?c_50 ?k_50 ?a_51 ?l_51 ?c_51 ?k_51 ?a_52 ?l_52 ?c_52 ?k_52 ?a_53 ?l_53 ?c_53 ?k_53 ?a_54 ?i_54 ?l_54 ?c_54 ?k_54 ?a_55 ?l_55 ?c_55 ?k_55 ?a_56 ?l_56 ?c_56 ?k_56 ?a_57 ?l_57 ?c_57 ?k_57 ?a_58 ?l_58 ?c_58 ?k_58 ?ga_OPERAND_PLACES ?l_OPERAND_PLACES ?lit_OPERAND_PLACES ?low_OPERAND_PLACES ?en_OPERAND_PLACES_input ?l_OPERAND_PLACES_input ?z_OPERAND_PLACES_input ?v_OPERAND_PLACES_input ?en_OPERAND_PLACES_target ?l_OPERAND_PLACES_target ?z_OPERAND_PLACES_target ?v_OPERAND_PLACES_target ?en_OPERAND_PLACES_lin ?l_OPERAND_PLACES_lin ?z_OPERAND_PLACES_lin ?v_OPERAND_PLACES_lin ?en_OPERAND_PLACES_bias ?l_OPERAND_PLACES_bias ?z_OPERAND_PLACES_bias ?v_OPERAND_PLACES_bias ?en_OPERAND_PLACES_embed ?l_OPERAND_PLACES_embed ?z_OPERAND_PLACES_embed ?v_OPERAND_PLACES_embed ?en_OPERAND_PLACES_mat ?l_OPERAND_PLACES_mat ?z_OPERAND_PLACES_mat ?v_OPERAND_PLACES_mat ?en_OPERAND_PLACES_matT ?l_OPERAND_PLACES_matT ?z_OPERAND_PLACES_matT ?v_OPERAND_PLACES_matT ?en_OPERAND_PLACES_lower ?l_OPERAND_PLACES_lower ?z_OPERAND_PLACES_lower ?v_OPERAND_PLACES_lower ?en_OPERAND_PLACES_add ?l_OPERAND_PLACES_add ?z_OPERAND_PLACES_add ?v_OPERAND_PLACES_add ?en_OPERAND_PLACES_sub ?l_OPERAND_PLACES_sub ?z_OPERAND_PLACES_sub ?v_OPERAND_PLACES_sub ?en_OPERAND_PLACES_mul ?l_OPERAND_PLACES_mul ?z_OPERAND_PLACES_mul ?v_OPERAND_PLACES_mul ?en_OPERAND_PLACES_scale ?l_OPERAND_PLACES_scale ?z_OPERAND_PLACES_scale ?v_OPERAND_PLACES_scale ?en_OPERAND_PLACES_shift ?l_OPERAND_PLACES_shift ?z_OPERAND_PLACES_shift ?v_OPERAND_PLACES_shift ?en_OPERAND_PLACES_relu ?l_OPERAND_PLACES_relu ?z_OPERAND_PLACES_relu ?v_OPERAND_PLACES_relu ?en_OPERAND_PLACES_drop ?l_OPERAND_PLACES_drop ?z_OPERAND_PLACES_drop ?v_OPERAND_PLACES_drop ?en_OPERAND_PLACES_sum ?l_OPERAND_PLACES_sum ?z_OPERAND_PLACES_sum ?v_OPERAND_PLACES_sum ?en_OPERAND_PLACES_join ?l_OPERAND_PLACES_join ?z_OPERAND_PLACES_join ?v_OPERAND_PLACES_join ?en_OPERAND_PLACES_take ?l_OPERAND_PLACES_take ?z_OPERAND_PLACES_take ?v_OPERAND_PLACES_take ?ga_WITH_PARAMETER ?l_WITH_PARAMETER ?z_WITH_PARAMETER ?v_WITH_PARAMETER ?ga_LENGTHS ?l_LENGTHS ?lit_LENGTHS ?low_LENGTHS ?en_LENGTHS_input ?en_LENGTHS_target ?en_LENGTHS_lin ?en_LENGTHS_bias ?en_LENGTHS_embed ?en_LENGTHS_mat ?en_LENGTHS_matT ?en_LENGTHS_lower ?en_LENGTHS_add ?en_LENGTHS_sub ?en_LENGTHS_mul ?en_LENGTHS_scale ?en_LENGTHS_shift ?en_LENGTHS_relu ?en_LENGTHS_drop ?en_LENGTHS_sum ?en_LENGTHS_join ?en_LENGTHS_take ?ga_OWN_ROWS ?l_OWN_ROWS ?z_OWN_ROWS ?v_OWN_ROWS ?ga_RULES ?l_RULES ?lit_RULES ?low_RULES ?en_RULES_par ?en_RULES_mom ?en_RULES_val ?en_RULES_pre ?en_RULES_inc ?en_RULES_bac ?en_RULES_grd ?en_RULES_los ?z_abs ?z_all ?z_bool ?z_int ?z_isinstance ?z_len ?z_list ?z_range ?g_MOST_SHIFT ?g_LEAST_DIVISOR ?g_GREATEST_NUMBER ?g_LEAST ?g_GREATEST
    (case ac_Parameter => k_is)
    (case pg_Parameter => k_is)
    (case hd_Parameter => k_is)
    (case po_Parameter => k_is)
    (case sa_Parameter => k_is)
    (case mk_Parameter => k_is)
    (case kc_Parameter => k_is)
    (case na_Parameter_rows => k_is)
    (case na_Parameter_cols => k_is)
    (case na_Parameter_fill => k_is)
    (case ac_Net => k_is)
    (case pg_Net => k_is)
    (case hd_Net => k_is)
    (case po_Net => k_is)
    (case sa_Net => k_is)
    (case mk_Net => k_is)
    (case kc_Net => k_is)
    (case na_Net_inputs => k_is)
    (case na_Net_targets => k_is)
    (case na_Net_parameters => k_is)
    (case na_Net_nodes => k_is)
    (case na_Net_lengths => k_is)
    (case ac_Job => k_is)
    (case pg_Job => k_is)
    (case hd_Job => k_is)
    (case po_Job => k_is)
    (case sa_Job => k_is)
    (case mk_Job => k_is)
    (case kc_Job => k_is)
    (case na_Job_net => k_is)
    (case na_Job_seed => k_is)
    (case na_Job_batch => k_is)
    (case na_Job_factor => k_is)
    (case na_Job_point => k_is)
    (case na_Job_rates => k_is)
    (case na_Job_data => k_is)
    (case a_0 => k_is)
    (case l_0 => k_is)
    (case c_0 => k_is)
    (case k_0 => k_is)
    (case a_1 => k_is)
    (case l_1 => k_is)
    (case c_1 => k_is)
    (case k_1 => k_is)
    (case a_2 => k_is)
    (case l_2 => k_is)
    (case c_2 => k_is)
    (case k_2 => k_is)
    (case a_3 => k_is)
    (case l_3 => k_is)
    (case c_3 => k_is)
    (case k_3 => k_is)
    (case a_4 => k_is)
    (case l_4 => k_is)
    (case c_4 => k_is)
    (case k_4 => k_is)
    (case a_5 => k_is)
    (case l_5 => k_is)
    (case c_5 => k_is)
    (case k_5 => k_is)
    (case a_6 => k_is)
    (case l_6 => k_is)
    (case c_6 => k_is)
    (case k_6 => k_is)
    (case a_7 => k_is)
    (case l_7 => k_is)
    (case c_7 => k_is)
    (case k_7 => k_is)
    (case a_8 => k_is)
    (case l_8 => k_is)
    (case c_8 => k_is)
    (case k_8 => k_is)
    (case a_9 => k_is)
    (case l_9 => k_is)
    (case c_9 => k_is)
    (case k_9 => k_is)
    (case a_10 => k_is)
    (case l_10 => k_is)
    (case c_10 => k_is)
    (case k_10 => k_is)
    (case a_11 => k_is)
    (case l_11 => k_is)
    (case c_11 => k_is)
    (case k_11 => k_is)
    (case a_12 => k_is)
    (case l_12 => k_is)
    (case c_12 => k_is)
    (case k_12 => k_is)
    (case a_13 => k_is)
    (case l_13 => k_is)
    (case c_13 => k_is)
    (case k_13 => k_is)
    (case a_14 => k_is)
    (case l_14 => k_is)
    (case c_14 => k_is)
    (case k_14 => k_is)
    (case a_15 => k_is)
    (case l_15 => k_is)
    (case c_15 => k_is)
    (case k_15 => k_is)
    (case a_16 => k_is)
    (case l_16 => k_is)
    (case c_16 => k_is)
    (case k_16 => k_is)
    (case a_17 => k_is)
    (case l_17 => k_is)
    (case c_17 => k_is)
    (case k_17 => k_is)
    (case a_18 => k_is)
    (case l_18 => k_is)
    (case c_18 => k_is)
    (case k_18 => k_is)
    (case a_19 => k_is)
    (case l_19 => k_is)
    (case c_19 => k_is)
    (case k_19 => k_is)
    (case a_20 => k_is)
    (case l_20 => k_is)
    (case c_20 => k_is)
    (case k_20 => k_is)
    (case a_21 => k_is)
    (case i_21 => k_is)
    (case l_21 => k_is)
    (case c_21 => k_is)
    (case k_21 => k_is)
    (case a_22 => k_is)
    (case i_22 => k_is)
    (case l_22 => k_is)
    (case c_22 => k_is)
    (case k_22 => k_is)
    (case a_23 => k_is)
    (case l_23 => k_is)
    (case c_23 => k_is)
    (case k_23 => k_is)
    (case a_24 => k_is)
    (case l_24 => k_is)
    (case c_24 => k_is)
    (case k_24 => k_is)
    (case a_25 => k_is)
    (case l_25 => k_is)
    (case c_25 => k_is)
    (case k_25 => k_is)
    (case a_26 => k_is)
    (case l_26 => k_is)
    (case c_26 => k_is)
    (case k_26 => k_is)
    (case a_27 => k_is)
    (case l_27 => k_is)
    (case c_27 => k_is)
    (case k_27 => k_is)
    (case a_28 => k_is)
    (case l_28 => k_is)
    (case c_28 => k_is)
    (case k_28 => k_is)
    (case a_29 => k_is)
    (case l_29 => k_is)
    (case c_29 => k_is)
    (case k_29 => k_is)
    (case a_30 => k_is)
    (case l_30 => k_is)
    (case c_30 => k_is)
    (case k_30 => k_is)
    (case a_31 => k_is)
    (case l_31 => k_is)
    (case c_31 => k_is)
    (case k_31 => k_is)
    (case a_32 => k_is)
    (case l_32 => k_is)
    (case c_32 => k_is)
    (case k_32 => k_is)
    (case a_33 => k_is)
    (case l_33 => k_is)
    (case c_33 => k_is)
    (case k_33 => k_is)
    (case a_34 => k_is)
    (case l_34 => k_is)
    (case c_34 => k_is)
    (case k_34 => k_is)
    (case a_35 => k_is)
    (case l_35 => k_is)
    (case c_35 => k_is)
    (case k_35 => k_is)
    (case a_36 => k_is)
    (case l_36 => k_is)
    (case c_36 => k_is)
    (case k_36 => k_is)
    (case a_37 => k_is)
    (case l_37 => k_is)
    (case c_37 => k_is)
    (case k_37 => k_is)
    (case a_38 => k_is)
    (case l_38 => k_is)
    (case c_38 => k_is)
    (case k_38 => k_is)
    (case a_39 => k_is)
    (case l_39 => k_is)
    (case c_39 => k_is)
    (case k_39 => k_is)
    (case a_40 => k_is)
    (case l_40 => k_is)
    (case c_40 => k_is)
    (case k_40 => k_is)
    (case a_41 => k_is)
    (case l_41 => k_is)
    (case c_41 => k_is)
    (case k_41 => k_is)
    (case a_42 => k_is)
    (case l_42 => k_is)
    (case c_42 => k_is)
    (case k_42 => k_is)
    (case a_43 => k_is)
    (case l_43 => k_is)
    (case c_43 => k_is)
    (case k_43 => k_is)
    (case a_44 => k_is)
    (case l_44 => k_is)
    (case c_44 => k_is)
    (case k_44 => k_is)
    (case a_45 => k_is)
    (case l_45 => k_is)
    (case c_45 => k_is)
    (case k_45 => k_is)
    (case a_46 => k_is)
    (case l_46 => k_is)
    (case c_46 => k_is)
    (case k_46 => k_is)
    (case a_47 => k_is)
    (case l_47 => k_is)
    (case c_47 => k_is)
    (case k_47 => k_is)
    (case a_48 => k_is)
    (case l_48 => k_is)
    (case c_48 => k_is)
    (case k_48 => k_is)
    (case a_49 => k_is)
    (case l_49 => k_is)
    (case c_49 => k_is)
    (case k_49 => k_is)
    (case a_50 => k_is)
    (case l_50 => k_is)
    (case c_50 => k_is)
    (case k_50 => k_is)
    (case a_51 => k_is)
    (case l_51 => k_is)
    (case c_51 => k_is)
    (case k_51 => k_is)
    (case a_52 => k_is)
    (case l_52 => k_is)
    (case c_52 => k_is)
    (case k_52 => k_is)
    (case a_53 => k_is)
    (case l_53 => k_is)
    (case c_53 => k_is)
    (case k_53 => k_is)
    (case a_54 => k_is)
    (case i_54 => k_is)
    (case l_54 => k_is)
    (case c_54 => k_is)
    (case k_54 => k_is)
    (case a_55 => k_is)
    (case l_55 => k_is)
    (case c_55 => k_is)
    (case k_55 => k_is)
    (case a_56 => k_is)
    (case l_56 => k_is)
    (case c_56 => k_is)
    (case k_56 => k_is)
    (case a_57 => k_is)
    (case l_57 => k_is)
    (case c_57 => k_is)
    (case k_57 => k_is)
    (case a_58 => k_is)
    (case l_58 => k_is)
    (case c_58 => k_is)
    (case k_58 => k_is)
    (case ga_OPERAND_PLACES => k_is)
    (case l_OPERAND_PLACES => k_is)
    (case lit_OPERAND_PLACES => repeat (first | exact True.intro | refine ⟨⟨_, _, rfl, rfl⟩, ?_⟩))
    (case low_OPERAND_PLACES => rfl)
    (case en_OPERAND_PLACES_input => k_is)
    (case l_OPERAND_PLACES_input => k_is)
    (case z_OPERAND_PLACES_input => decide)
    (case v_OPERAND_PLACES_input => repeat (first | exact .nil | refine .cons ⟨_, rfl⟩ ?_))
    (case en_OPERAND_PLACES_target => k_is)
    (case l_OPERAND_PLACES_target => k_is)
    (case z_OPERAND_PLACES_target => decide)
    (case v_OPERAND_PLACES_target => repeat (first | exact .nil | refine .cons ⟨_, rfl⟩ ?_))
    (case en_OPERAND_PLACES_lin => k_is)
    (case l_OPERAND_PLACES_lin => k_is)
    (case z_OPERAND_PLACES_lin => decide)
    (case v_OPERAND_PLACES_lin => repeat (first | exact .nil | refine .cons ⟨_, rfl⟩ ?_))
    (case en_OPERAND_PLACES_bias => k_is)
    (case l_OPERAND_PLACES_bias => k_is)
    (case z_OPERAND_PLACES_bias => decide)
    (case v_OPERAND_PLACES_bias => repeat (first | exact .nil | refine .cons ⟨_, rfl⟩ ?_))
    (case en_OPERAND_PLACES_embed => k_is)
    (case l_OPERAND_PLACES_embed => k_is)
    (case z_OPERAND_PLACES_embed => decide)
    (case v_OPERAND_PLACES_embed => repeat (first | exact .nil | refine .cons ⟨_, rfl⟩ ?_))
    (case en_OPERAND_PLACES_mat => k_is)
    (case l_OPERAND_PLACES_mat => k_is)
    (case z_OPERAND_PLACES_mat => decide)
    (case v_OPERAND_PLACES_mat => repeat (first | exact .nil | refine .cons ⟨_, rfl⟩ ?_))
    (case en_OPERAND_PLACES_matT => k_is)
    (case l_OPERAND_PLACES_matT => k_is)
    (case z_OPERAND_PLACES_matT => decide)
    (case v_OPERAND_PLACES_matT => repeat (first | exact .nil | refine .cons ⟨_, rfl⟩ ?_))
    (case en_OPERAND_PLACES_lower => k_is)
    (case l_OPERAND_PLACES_lower => k_is)
    (case z_OPERAND_PLACES_lower => decide)
    (case v_OPERAND_PLACES_lower => repeat (first | exact .nil | refine .cons ⟨_, rfl⟩ ?_))
    (case en_OPERAND_PLACES_add => k_is)
    (case l_OPERAND_PLACES_add => k_is)
    (case z_OPERAND_PLACES_add => decide)
    (case v_OPERAND_PLACES_add => repeat (first | exact .nil | refine .cons ⟨_, rfl⟩ ?_))
    (case en_OPERAND_PLACES_sub => k_is)
    (case l_OPERAND_PLACES_sub => k_is)
    (case z_OPERAND_PLACES_sub => decide)
    (case v_OPERAND_PLACES_sub => repeat (first | exact .nil | refine .cons ⟨_, rfl⟩ ?_))
    (case en_OPERAND_PLACES_mul => k_is)
    (case l_OPERAND_PLACES_mul => k_is)
    (case z_OPERAND_PLACES_mul => decide)
    (case v_OPERAND_PLACES_mul => repeat (first | exact .nil | refine .cons ⟨_, rfl⟩ ?_))
    (case en_OPERAND_PLACES_scale => k_is)
    (case l_OPERAND_PLACES_scale => k_is)
    (case z_OPERAND_PLACES_scale => decide)
    (case v_OPERAND_PLACES_scale => repeat (first | exact .nil | refine .cons ⟨_, rfl⟩ ?_))
    (case en_OPERAND_PLACES_shift => k_is)
    (case l_OPERAND_PLACES_shift => k_is)
    (case z_OPERAND_PLACES_shift => decide)
    (case v_OPERAND_PLACES_shift => repeat (first | exact .nil | refine .cons ⟨_, rfl⟩ ?_))
    (case en_OPERAND_PLACES_relu => k_is)
    (case l_OPERAND_PLACES_relu => k_is)
    (case z_OPERAND_PLACES_relu => decide)
    (case v_OPERAND_PLACES_relu => repeat (first | exact .nil | refine .cons ⟨_, rfl⟩ ?_))
    (case en_OPERAND_PLACES_drop => k_is)
    (case l_OPERAND_PLACES_drop => k_is)
    (case z_OPERAND_PLACES_drop => decide)
    (case v_OPERAND_PLACES_drop => repeat (first | exact .nil | refine .cons ⟨_, rfl⟩ ?_))
    (case en_OPERAND_PLACES_sum => k_is)
    (case l_OPERAND_PLACES_sum => k_is)
    (case z_OPERAND_PLACES_sum => decide)
    (case v_OPERAND_PLACES_sum => repeat (first | exact .nil | refine .cons ⟨_, rfl⟩ ?_))
    (case en_OPERAND_PLACES_join => k_is)
    (case l_OPERAND_PLACES_join => k_is)
    (case z_OPERAND_PLACES_join => decide)
    (case v_OPERAND_PLACES_join => repeat (first | exact .nil | refine .cons ⟨_, rfl⟩ ?_))
    (case en_OPERAND_PLACES_take => k_is)
    (case l_OPERAND_PLACES_take => k_is)
    (case z_OPERAND_PLACES_take => decide)
    (case v_OPERAND_PLACES_take => repeat (first | exact .nil | refine .cons ⟨_, rfl⟩ ?_))
    (case ga_WITH_PARAMETER => k_is)
    (case l_WITH_PARAMETER => k_is)
    (case z_WITH_PARAMETER => decide)
    (case v_WITH_PARAMETER => repeat (first | exact .nil | refine .cons ⟨_, rfl⟩ ?_))
    (case ga_LENGTHS => k_is)
    (case l_LENGTHS => k_is)
    (case lit_LENGTHS => repeat (first | exact True.intro | refine ⟨⟨_, _, rfl, rfl⟩, ?_⟩))
    (case low_LENGTHS => rfl)
    (case en_LENGTHS_input => k_is)
    (case en_LENGTHS_target => k_is)
    (case en_LENGTHS_lin => k_is)
    (case en_LENGTHS_bias => k_is)
    (case en_LENGTHS_embed => k_is)
    (case en_LENGTHS_mat => k_is)
    (case en_LENGTHS_matT => k_is)
    (case en_LENGTHS_lower => k_is)
    (case en_LENGTHS_add => k_is)
    (case en_LENGTHS_sub => k_is)
    (case en_LENGTHS_mul => k_is)
    (case en_LENGTHS_scale => k_is)
    (case en_LENGTHS_shift => k_is)
    (case en_LENGTHS_relu => k_is)
    (case en_LENGTHS_drop => k_is)
    (case en_LENGTHS_sum => k_is)
    (case en_LENGTHS_join => k_is)
    (case en_LENGTHS_take => k_is)
    (case ga_OWN_ROWS => k_is)
    (case l_OWN_ROWS => k_is)
    (case z_OWN_ROWS => decide)
    (case v_OWN_ROWS => repeat (first | exact .nil | refine .cons ⟨_, rfl⟩ ?_))
    (case ga_RULES => k_is)
    (case l_RULES => k_is)
    (case lit_RULES => repeat (first | exact True.intro | refine ⟨⟨_, _, rfl, rfl⟩, ?_⟩))
    (case low_RULES => rfl)
    (case en_RULES_par => k_is)
    (case en_RULES_mom => k_is)
    (case en_RULES_val => k_is)
    (case en_RULES_pre => k_is)
    (case en_RULES_inc => k_is)
    (case en_RULES_bac => k_is)
    (case en_RULES_grd => k_is)
    (case en_RULES_los => k_is)
    (case z_abs => k_is)
    (case z_all => k_is)
    (case z_bool => k_is)
    (case z_int => k_is)
    (case z_isinstance => k_is)
    (case z_len => k_is)
    (case z_list => k_is)
    (case z_range => k_is)
    (case g_MOST_SHIFT => k_is)
    (case g_LEAST_DIVISOR => k_is)
    (case g_GREATEST_NUMBER => k_is)
    (case g_LEAST => k_is)
    (case g_GREATEST => k_is)
