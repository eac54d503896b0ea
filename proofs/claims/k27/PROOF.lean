import PyProof.Rows.All
import Wide.All
import OpenK.AllK
import Wide.FinOn
import HandS.ForMost
import HandS.IsInst
import HandS.More
import HandS.CallLocal
import HandS.Codes
import HandS.Wide
import HandS.TupLe
import HandS.Walk
import HandS.Defaults
import PySem.Challenge.RW_asifone_k27_rates_and_jobs
set_option Elab.async false
set_option linter.all false
set_option maxRecDepth 100000
set_option maxHeartbeats 4000000












namespace My
open PySem PySem.Spec PyProof.Rows L2
def topS (i : Nat) : Stmt := PySem.Challenge.pw_asifone_k27_rates_and_jobs.main.body.getD i (.Pass ⟨0, 0, 0, 0⟩)
abbrev s_is_word : Stmt := topS 16
abbrev s_is_multiple : Stmt := topS 18
abbrev s_is_inside : Stmt := topS 19
abbrev s_length_of : Stmt := topS 20
abbrev s__names_exist : Stmt := topS 21
abbrev s__of_inputs : Stmt := topS 22
abbrev s__of_targets : Stmt := topS 23
abbrev s__of_lin : Stmt := topS 24
abbrev s__of_bias : Stmt := topS 25
abbrev s__of_embed : Stmt := topS 26
abbrev s__of_mat : Stmt := topS 27
abbrev s__of_lower : Stmt := topS 28
abbrev s__of_pair : Stmt := topS 29
abbrev s__of_scale : Stmt := topS 30
abbrev s__of_shift : Stmt := topS 31
abbrev s__of_relu : Stmt := topS 32
abbrev s__of_drop : Stmt := topS 33
abbrev s__of_sum : Stmt := topS 34
abbrev s__of_join : Stmt := topS 35
abbrev s__of_take : Stmt := topS 36
abbrev s_Parameter___init__ : Stmt := inClass (topS 39) 0
abbrev s_Net___init__ : Stmt := inClass (topS 40) 0
abbrev s_is_net : Stmt := topS 41
abbrev s__lengths : Stmt := topS 42
abbrev s__has_good_parameters : Stmt := topS 43
abbrev s__is_good : Stmt := topS 44
abbrev s__has_good_nodes : Stmt := topS 45
abbrev s_Job___init__ : Stmt := inClass (topS 47) 0
abbrev s_is_job : Stmt := topS 48
abbrev s_rate_at : Stmt := topS 49
abbrev s__has_good_rates : Stmt := topS 50
abbrev s__has_good_data : Stmt := topS 51
abbrev s__law_cell : Stmt := topS 53
abbrev s__law_row : Stmt := topS 54
abbrev s__law_draw : Stmt := topS 55
abbrev s__law_wrap : Stmt := topS 56
abbrev s__law_divided : Stmt := topS 57
abbrev s__law_word : Stmt := topS 58
abbrev s__law_mixed : Stmt := topS 59
abbrev s__law_is_integer : Stmt := topS 60
abbrev s__law_same_words : Stmt := topS 61
abbrev s__law_divisors : Stmt := topS 62
abbrev s__law_parameter : Stmt := topS 63
abbrev s__law_embed : Stmt := topS 64
abbrev s__law_with_parameter : Stmt := topS 65
abbrev s__law_of_two : Stmt := topS 66
abbrev s__law_of_one : Stmt := topS 67
abbrev s__law_node : Stmt := topS 68
abbrev s__law_net : Stmt := topS 69
abbrev s__law_kinds : Stmt := topS 70
abbrev s__law_net_object : Stmt := topS 71
abbrev s__law_sample : Stmt := topS 72
abbrev s__law_job : Stmt := topS 73
abbrev s__law_job_object : Stmt := topS 74
abbrev s__law_order : Stmt := topS 75
abbrev s__law_sample_at : Stmt := topS 76
abbrev s__law_rate : Stmt := topS 77
abbrev s__law_spoilt : Stmt := topS 78
abbrev s_law : Stmt := topS 79
theorem sc_is_word : FnScope ["n"] ["n"] (defScope s_is_word) := ⟨rfl, rfl, rfl, by decide +kernel, rfl, by decide +kernel, by decide +kernel⟩
theorem sc_is_multiple : FnScope ["n", "c"] ["n", "c"] (defScope s_is_multiple) := ⟨rfl, rfl, rfl, by decide +kernel, rfl, by decide +kernel, by decide +kernel⟩
theorem sc_is_inside : FnScope ["lo", "n", "length"] ["lo", "n", "length"] (defScope s_is_inside) := ⟨rfl, rfl, rfl, by decide +kernel, rfl, by decide +kernel, by decide +kernel⟩
theorem sc_length_of : FnScope ["net", "known", "node", "rule"] ["net", "known", "node"] (defScope s_length_of) := ⟨rfl, rfl, rfl, by decide +kernel, rfl, by decide +kernel, by decide +kernel⟩
theorem sc__names_exist : FnScope ["net", "known", "node", "kind", "at"] ["net", "known", "node"] (defScope s__names_exist) := ⟨rfl, rfl, rfl, by decide +kernel, rfl, by decide +kernel, by decide +kernel⟩
theorem sc__of_inputs : FnScope ["net", "known", "node"] ["net", "known", "node"] (defScope s__of_inputs) := ⟨rfl, rfl, rfl, by decide +kernel, rfl, by decide +kernel, by decide +kernel⟩
theorem sc__of_targets : FnScope ["net", "known", "node"] ["net", "known", "node"] (defScope s__of_targets) := ⟨rfl, rfl, rfl, by decide +kernel, rfl, by decide +kernel, by decide +kernel⟩
theorem sc__of_lin : FnScope ["net", "known", "node", "_", "p", "a", "parameter"] ["net", "known", "node"] (defScope s__of_lin) := ⟨rfl, rfl, rfl, by decide +kernel, rfl, by decide +kernel, by decide +kernel⟩
theorem sc__of_bias : FnScope ["net", "known", "node", "_", "p", "a", "parameter"] ["net", "known", "node"] (defScope s__of_bias) := ⟨rfl, rfl, rfl, by decide +kernel, rfl, by decide +kernel, by decide +kernel⟩
theorem sc__of_embed : FnScope ["net", "known", "node", "_", "p", "lo", "n"] ["net", "known", "node"] (defScope s__of_embed) := ⟨rfl, rfl, rfl, by decide +kernel, rfl, by decide +kernel, by decide +kernel⟩
theorem sc__of_mat : FnScope ["net", "known", "node", "_", "k", "a", "b"] ["net", "known", "node"] (defScope s__of_mat) := ⟨rfl, rfl, rfl, by decide +kernel, rfl, by decide +kernel, by decide +kernel⟩
theorem sc__of_lower : FnScope ["net", "known", "node", "_", "c", "a"] ["net", "known", "node"] (defScope s__of_lower) := ⟨rfl, rfl, rfl, by decide +kernel, rfl, by decide +kernel, by decide +kernel⟩
theorem sc__of_pair : FnScope ["net", "known", "node", "_", "a", "b"] ["net", "known", "node"] (defScope s__of_pair) := ⟨rfl, rfl, rfl, by decide +kernel, rfl, by decide +kernel, by decide +kernel⟩
theorem sc__of_scale : FnScope ["net", "known", "node", "_", "w", "a"] ["net", "known", "node"] (defScope s__of_scale) := ⟨rfl, rfl, rfl, by decide +kernel, rfl, by decide +kernel, by decide +kernel⟩
theorem sc__of_shift : FnScope ["net", "known", "node", "_", "k", "a"] ["net", "known", "node"] (defScope s__of_shift) := ⟨rfl, rfl, rfl, by decide +kernel, rfl, by decide +kernel, by decide +kernel⟩
theorem sc__of_relu : FnScope ["net", "known", "node"] ["net", "known", "node"] (defScope s__of_relu) := ⟨rfl, rfl, rfl, by decide +kernel, rfl, by decide +kernel, by decide +kernel⟩
theorem sc__of_drop : FnScope ["net", "known", "node", "_", "m", "a"] ["net", "known", "node"] (defScope s__of_drop) := ⟨rfl, rfl, rfl, by decide +kernel, rfl, by decide +kernel, by decide +kernel⟩
theorem sc__of_sum : FnScope ["net", "known", "node"] ["net", "known", "node"] (defScope s__of_sum) := ⟨rfl, rfl, rfl, by decide +kernel, rfl, by decide +kernel, by decide +kernel⟩
theorem sc__of_join : FnScope ["net", "known", "node", "_", "a", "b"] ["net", "known", "node"] (defScope s__of_join) := ⟨rfl, rfl, rfl, by decide +kernel, rfl, by decide +kernel, by decide +kernel⟩
theorem sc__of_take : FnScope ["net", "known", "node", "_", "lo", "n", "a"] ["net", "known", "node"] (defScope s__of_take) := ⟨rfl, rfl, rfl, by decide +kernel, rfl, by decide +kernel, by decide +kernel⟩
theorem sc_Parameter___init__ : FnScope ["self", "rows", "cols", "fill"] ["self", "rows", "cols", "fill"] (defScope s_Parameter___init__) := ⟨rfl, rfl, rfl, by decide +kernel, rfl, by decide +kernel, by decide +kernel⟩
theorem sc_Net___init__ : FnScope ["self", "inputs", "targets", "parameters", "nodes"] ["self", "inputs", "targets", "parameters", "nodes"] (defScope s_Net___init__) := ⟨rfl, rfl, rfl, by decide +kernel, rfl, by decide +kernel, by decide +kernel⟩
theorem sc_is_net : FnScope ["net"] ["net"] (defScope s_is_net) := ⟨rfl, rfl, rfl, by decide +kernel, rfl, by decide +kernel, by decide +kernel⟩
theorem sc__lengths : FnScope ["net", "known", "node", "length"] ["net"] (defScope s__lengths) := ⟨rfl, rfl, rfl, by decide +kernel, rfl, by decide +kernel, by decide +kernel⟩
theorem sc__has_good_parameters : FnScope ["net", "parameter"] ["net"] (defScope s__has_good_parameters) := ⟨rfl, rfl, rfl, by decide +kernel, rfl, by decide +kernel, by decide +kernel⟩
theorem sc__is_good : FnScope ["parameter", "kind", "number"] ["parameter"] (defScope s__is_good) := ⟨rfl, rfl, rfl, by decide +kernel, rfl, by decide +kernel, by decide +kernel⟩
theorem sc__has_good_nodes : FnScope ["net", "known", "length"] ["net"] (defScope s__has_good_nodes) := ⟨rfl, rfl, rfl, by decide +kernel, rfl, by decide +kernel, by decide +kernel⟩
theorem sc_Job___init__ : FnScope ["self", "net", "seed", "batch", "factor", "point", "rates", "data", "given", "wanted"] ["self", "net", "seed", "batch", "factor", "point", "rates", "data"] (defScope s_Job___init__) := ⟨rfl, rfl, rfl, by decide +kernel, rfl, by decide +kernel, by decide +kernel⟩
theorem sc_is_job : FnScope ["job"] ["job"] (defScope s_is_job) := ⟨rfl, rfl, rfl, by decide +kernel, rfl, by decide +kernel, by decide +kernel⟩
theorem sc_rate_at : FnScope ["job", "step", "rate", "start", "word"] ["job", "step"] (defScope s_rate_at) := ⟨rfl, rfl, rfl, by decide +kernel, rfl, by decide +kernel, by decide +kernel⟩
theorem sc__has_good_rates : FnScope ["job", "step", "word"] ["job"] (defScope s__has_good_rates) := ⟨rfl, rfl, rfl, by decide +kernel, rfl, by decide +kernel, by decide +kernel⟩
theorem sc__has_good_data : FnScope ["job", "given", "wanted", "word"] ["job"] (defScope s__has_good_data) := ⟨rfl, rfl, rfl, by decide +kernel, rfl, by decide +kernel, by decide +kernel⟩
theorem sc__law_cell : FnScope ["script", "k"] ["script", "k"] (defScope s__law_cell) := ⟨rfl, rfl, rfl, by decide +kernel, rfl, by decide +kernel, by decide +kernel⟩
theorem sc__law_row : FnScope ["script", "first", "last", "row", "k", "cell", "turn"] ["script", "first", "last"] (defScope s__law_row) := ⟨rfl, rfl, rfl, by decide +kernel, rfl, by decide +kernel, by decide +kernel⟩
theorem sc__law_draw : FnScope ["box", "many", "at"] ["box", "many"] (defScope s__law_draw) := ⟨rfl, rfl, rfl, by decide +kernel, rfl, by decide +kernel, by decide +kernel⟩
theorem sc__law_wrap : FnScope ["n"] ["n"] (defScope s__law_wrap) := ⟨rfl, rfl, rfl, by decide +kernel, rfl, by decide +kernel, by decide +kernel⟩
theorem sc__law_divided : FnScope ["a", "k"] ["a", "k"] (defScope s__law_divided) := ⟨rfl, rfl, rfl, by decide +kernel, rfl, by decide +kernel, by decide +kernel⟩
theorem sc__law_word : FnScope ["box", "kind", "n", "turn"] ["box"] (defScope s__law_word) := ⟨rfl, rfl, rfl, by decide +kernel, rfl, by decide +kernel, by decide +kernel⟩
theorem sc__law_mixed : FnScope ["seed", "numbers", "word", "n"] ["seed", "numbers"] (defScope s__law_mixed) := ⟨rfl, rfl, rfl, by decide +kernel, rfl, by decide +kernel, by decide +kernel⟩
theorem sc__law_is_integer : FnScope ["told"] ["told"] (defScope s__law_is_integer) := ⟨rfl, rfl, rfl, by decide +kernel, rfl, by decide +kernel, by decide +kernel⟩
theorem sc__law_same_words : FnScope ["told", "due", "k"] ["told", "due"] (defScope s__law_same_words) := ⟨rfl, rfl, rfl, by decide +kernel, rfl, by decide +kernel, by decide +kernel⟩
theorem sc__law_divisors : FnScope ["n", "most", "d"] ["n", "most"] (defScope s__law_divisors) := ⟨rfl, rfl, rfl, by decide +kernel, rfl, by decide +kernel, by decide +kernel⟩
theorem sc__law_parameter : FnScope ["box", "net", "rows", "cols", "fitting", "p"] ["box", "net", "rows", "cols"] (defScope s__law_parameter) := ⟨rfl, rfl, rfl, by decide +kernel, rfl, by decide +kernel, by decide +kernel⟩
theorem sc__law_embed : FnScope ["box", "net", "low", "many", "p"] ["box", "net"] (defScope s__law_embed) := ⟨rfl, rfl, rfl, by decide +kernel, rfl, by decide +kernel, by decide +kernel⟩
theorem sc__law_with_parameter : FnScope ["box", "net", "kind", "a", "length", "sides", "p", "rows", "cols"] ["box", "net", "kind", "a"] (defScope s__law_with_parameter) := ⟨rfl, rfl, rfl, by decide +kernel, rfl, by decide +kernel, by decide +kernel⟩
theorem sc__law_of_two : FnScope ["box", "net", "kind", "a", "length", "b", "sides", "k", "fitting"] ["box", "net", "kind", "a"] (defScope s__law_of_two) := ⟨rfl, rfl, rfl, by decide +kernel, rfl, by decide +kernel, by decide +kernel⟩
theorem sc__law_of_one : FnScope ["box", "net", "kind", "a", "length", "sides", "low", "many"] ["box", "net", "kind", "a"] (defScope s__law_of_one) := ⟨rfl, rfl, rfl, by decide +kernel, rfl, by decide +kernel, by decide +kernel⟩
theorem sc__law_node : FnScope ["box", "net", "kinds", "kind", "a", "found"] ["box", "net", "kinds"] (defScope s__law_node) := ⟨rfl, rfl, rfl, by decide +kernel, rfl, by decide +kernel, by decide +kernel⟩
theorem sc__law_net : FnScope ["box", "kinds", "most", "net", "k", "found"] ["box", "kinds", "most"] (defScope s__law_net) := ⟨rfl, rfl, rfl, by decide +kernel, rfl, by decide +kernel, by decide +kernel⟩
theorem sc__law_kinds : FnScope [] [] (defScope s__law_kinds) := ⟨rfl, rfl, rfl, by decide +kernel, rfl, by decide +kernel, by decide +kernel⟩
theorem sc__law_net_object : FnScope ["net", "x"] ["net"] (defScope s__law_net_object) := ⟨rfl, rfl, rfl, by decide +kernel, rfl, by decide +kernel, by decide +kernel⟩
theorem sc__law_sample : FnScope ["box", "net", "j"] ["box", "net"] (defScope s__law_sample) := ⟨rfl, rfl, rfl, by decide +kernel, rfl, by decide +kernel, by decide +kernel⟩
theorem sc__law_job : FnScope ["box", "kinds", "most", "net", "rates", "k", "point", "data"] ["box", "kinds", "most"] (defScope s__law_job) := ⟨rfl, rfl, rfl, by decide +kernel, rfl, by decide +kernel, by decide +kernel⟩
theorem sc__law_job_object : FnScope ["job", "data", "sample"] ["job"] (defScope s__law_job_object) := ⟨rfl, rfl, rfl, by decide +kernel, rfl, by decide +kernel, by decide +kernel⟩
theorem sc__law_order : FnScope ["job", "epoch", "order", "i"] ["job", "epoch"] (defScope s__law_order) := ⟨rfl, rfl, rfl, by decide +kernel, rfl, by decide +kernel, by decide +kernel⟩
theorem sc__law_sample_at : FnScope ["job", "spot"] ["job", "spot"] (defScope s__law_sample_at) := ⟨rfl, rfl, rfl, by decide +kernel, rfl, by decide +kernel, by decide +kernel⟩
theorem sc__law_rate : FnScope ["job", "step", "rate", "pair"] ["job", "step"] (defScope s__law_rate) := ⟨rfl, rfl, rfl, by decide +kernel, rfl, by decide +kernel, by decide +kernel⟩
theorem sc__law_spoilt : FnScope ["box", "job", "other", "kind", "at", "sample", "k"] ["box", "job"] (defScope s__law_spoilt) := ⟨rfl, rfl, rfl, by decide +kernel, rfl, by decide +kernel, by decide +kernel⟩
theorem sc_law : FnScope ["script", "box", "job", "made", "steps", "pair", "step", "told"] ["script"] (defScope s_law) := ⟨rfl, rfl, rfl, by decide +kernel, rfl, by decide +kernel, by decide +kernel⟩
/-! ### steps of a reading: one name looked up, one value seen -/
local macro_rules | `(tactic| walk_at "st") => `(tactic| first
  | refine ⟨_, rfl, ?_⟩
  | refine ⟨_, _, rfl, rfl, ?_⟩
  | refine ⟨rfl, ?_⟩
  | refine ⟨Or.inl ⟨by decide, by decide⟩, ?_⟩
  | refine ⟨Or.inr ⟨by decide, by decide⟩, ?_⟩
  | refine ⟨(by decide : (0 : Int) < _), ?_⟩
  | refine ⟨(by decide : (0 : Int) ≤ _), ?_⟩
  | refine ⟨_, _, (rfl : (_ : List V) = _), ?_⟩
  | refine ⟨_, _, _, (rfl : (_ : List V) = _), ?_⟩
  | refine ⟨⟨by decide, by decide⟩, ?_⟩
  | refine ⟨⟨by decide, by decide, by decide⟩, ?_⟩
  | refine Or.inl ⟨_, rfl, ?_⟩
  | refine Or.inr ⟨_, rfl, ?_⟩)
local macro_rules | `(tactic| walk_at "go") => `(tactic| repeat walk_at "st")


theorem iteD {c A B : Prop} [Decidable c] (hc : c) (h : A) : if decide c = true then A else B := by
  rw [decide_eq_true hc]
  exact iteT h
theorem iteNN {c A B : Prop} [Decidable c] (hc : ¬ c) (h : A) : if (!decide c) = true then A else B := by
  rw [decide_eq_false hc]
  exact iteT h
theorem iteDN {c A B : Prop} [Decidable c] (hc : ¬ c) (h : B) : if decide c = true then A else B := by
  rw [decide_eq_false hc]
  exact iteF h
/-! ### rules with the written part named (a comprehension's element stands over another context) -/
section
variable {X : Cx} {K : PySem.W.Frag}
def rLenK (K : PySem.W.Frag) : List V → Hp → VK → Prop := fun xs H Q => ∃ p ys, xs = [.ref p] ∧ (SqL K H p ys ∨ SqT K H p ys) ∧ Q (.int ys.length) H
theorem pe_fld_at {e : PySem.Expr} {f : Str} {pos : Pos} {ta : TE} (h : X.K = K) (he : PE X e ta) (hb : attributeBase e f X.env (eval e X.env) = eval e X.env) : PE X (.Attribute e f pos) (tFld K ta f) := by subst h; exact pe_fld he hb
theorem len_at (h : X.K = K) : CallR X (.builtin "len") (rLenK K) := by subst h; exact call_len_seq
theorem list_at (h : X.K = K) : CallR X (.type "list") (fun xs H Q => ∃ p ys, xs = [.ref p] ∧ (SqL K H p ys ∨ SqT K H p ys) ∧ ∀ l : Addr, H l = none → Q (.ref l) (upd H l (.lst ys))) := by subst h; exact call_list_of
theorem pil_at {l tg : PySem.Expr} {tl : TE} (h : X.K = K) (hl : PE X l tl) : PI X tg l (iList K tl) := by subst h; exact pi_list hl
theorem pit_at {l tg : PySem.Expr} {tl : TE} (h : X.K = K) (hl : PE X l tl) : PI X tg l (iTup K tl) := by subst h; exact pi_tup hl
theorem all_at (h : X.K = K) (hc : X.calm = true := by rfl) : CallR X (.builtin "all") (rAll K) := by subst h; exact cr_all hc
theorem any_at (h : X.K = K) (hc : X.calm = true := by rfl) : CallR X (.builtin "any") (rAny K) := by subst h; exact cr_any hc
theorem sum_at (h : X.K = K) (hc : X.calm = true := by rfl) : CallR X (.builtin "sum") (rSum K) := by subst h; exact cr_sum hc
theorem max_at (h : X.K = K) (hc : X.calm = true := by rfl) : CallR X (.builtin "max") (rMax K) := by subst h; exact cr_max hc
theorem ixl_at (h : X.K = K) : IxR X (rIxL K) := by subst h; exact ix_list
theorem ixt_at (h : X.K = K) : IxR X (rIxT K) := by subst h; exact ix_tup
end
/-! ### heaps: all is as it was but the object at b -/
def But (b : Addr) (H H' : Hp) : Prop := ∀ c o, c ≠ b → H c = some o → H' c = some o
theorem But.refl (b : Addr) (H : Hp) : But b H H := fun _ _ _ h => h
theorem But.trans {b : Addr} {H H1 H2 : Hp} (x : But b H H1) (y : But b H1 H2) : But b H H2 := fun c o n h => y c o n (x c o n h)
theorem But.of {b : Addr} {H H' : Hp} (e : Same H H') : But b H H' := fun c o _ h => e c o h
theorem same_new {H : Hp} {p : Addr} (h : H p = none) (o : HO) : Same H (upd H p o) := fun b u q => by rw [upd_ne (ne_of_none q h)]; exact q
theorem new_facts {H H' : Hp} {p : Addr} {o : HO} (e : upd H p o = H') (np : H p = none) : Same H H' ∧ H' p = some o := by
  subst e
  exact ⟨same_new np o, upd_same⟩
theorem same_mut {H H' : Hp} {o : Addr} {u : HO} (e : Same H H') (no : H o = none) : Same H (upd H' o u) := fun b x h => by rw [upd_ne (ne_of_none h no)]; exact e _ _ h
theorem map_more {H : Hp} {o : Addr} (rs : List Int) (x : Int) : (upd H o (.lst (rs.map V.int ++ [V.int x]))) o = some (.lst ((rs ++ [x]).map V.int)) := by
  rw [upd_same, List.map_append]
  rfl
theorem small {n : Nat} (h : n ≤ 100000) : n ≤ sizeLine := Nat.le_trans h (by decide)
theorem smaller {n : Nat} (h : n < 100000) : n < sizeLine := Nat.lt_of_lt_of_le h (by decide)

/-! ### the box that numbers are drawn from: a list of a row and a place -/
structure Box (H : Hp) (b r : Addr) (rs : List Int) : Prop where
  ex : ∃ at' : Int, 0 ≤ at' ∧ H b = some (.lst [.ref r, .int at'])
  row : H r = some (.lst (rs.map V.int))
theorem Box.ne {H : Hp} {b r : Addr} {rs : List Int} (B : Box H b r rs) : r ≠ b := fun e => by
  obtain ⟨z, _, h⟩ := B.ex
  have q := B.row
  rw [e, h] at q
  cases rs with
  | nil => cases q
  | cons x t => cases q
theorem Box.far {H : Hp} {b r l : Addr} {rs ns : List Int} (B : Box H b r rs) (h : H l = some (.lst (ns.map V.int))) : l ≠ b := fun e => by
  obtain ⟨z, _, hb⟩ := B.ex
  rw [e, hb] at h
  cases ns with
  | nil => cases h
  | cons x t => cases h
theorem Box.farS {K : PySem.W.Frag} {H H' : Hp} {b r a : Addr} {rs ns : List Int} (B : Box H b r rs) (e : But b H H') (h : SqL K H a (ns.map V.int)) : SqL K H' a (ns.map V.int) := by
  rcases h with (h | ⟨o, h⟩) | h
  · exact .inl (.inl (e _ _ (B.far h) h))
  · refine .inl (.inr ⟨o, e _ _ (fun z => ?_) h⟩)
    obtain ⟨_, _, hb⟩ := B.ex
    rw [z, hb] at h
    cases h
  · exact .inr h
theorem Box.same {H H' : Hp} {b r : Addr} {rs : List Int} (B : Box H b r rs) (e : Same H H') : Box H' b r rs := by
  obtain ⟨z, h0, h⟩ := B.ex
  exact ⟨⟨z, h0, e _ _ h⟩, e _ _ B.row⟩

theorem But.mut {b l : Addr} {H H' : Hp} {o : HO} (e : But b H H') (h : H l = none) : But b H (upd H' l o) := fun c x n hc => by
  rw [upd_ne (ne_of_none hc h)]
  exact e c x n hc
theorem But.mut' {l : Addr} {H H' : Hp} {o : HO} (e : But l H H') (_ : H l = none) : But l H (upd H' l o) := fun c x n hc => by
  rw [upd_ne n]
  exact e c x n hc
theorem Box.mut {b r l : Addr} {H H' : Hp} {rs : List Int} {o : HO} (B : Box H' b r rs) (B0 : Box H b r rs) (h : H l = none) : Box (upd H' l o) b r rs := by
  obtain ⟨z, h0, hb⟩ := B.ex
  obtain ⟨_, _, hb0⟩ := B0.ex
  exact ⟨⟨z, h0, by rw [upd_ne (ne_of_none hb0 h)]; exact hb⟩, by rw [upd_ne (ne_of_none B0.row h)]; exact B.row⟩
theorem map_get {ns : List Int} {i : Nat} {x : V} (h : (ns.map V.int)[i]? = some x) : ∃ n, x = .int n ∧ ns[i]? = some n := by
  rw [List.getElem?_map] at h
  cases e : ns[i]? with
  | none => rw [e] at h; cases h
  | some n => rw [e] at h; exact ⟨n, (Option.some.inj h).symm, rfl⟩
/-! ### lists of ints compared -/
theorem dp_ints {K : PySem.W.Frag} {H : Hp} : ∀ ns : List Int, DpAll K H (ns.map V.int) (ns.map PyData.int)
  | [] => .nil
  | n :: r => .cons (.int n) (dp_ints r)
theorem can_ints : ∀ ns : List Int, PyData.canLayAll0 (ns.map PyData.int) = true
  | [] => rfl
  | n :: r => by
    show (PyData.canLay0 (.int n) && PyData.canLayAll0 (r.map PyData.int)) = true
    rw [can_ints r]
    rfl
theorem shaped_ns (ns : List Int) : SeqAt.shaped (.list (ns.map PyData.int)) = true := PySem.W.shaped_ints ns
theorem eqv_ns (ns : List Int) : PyData.eqv (.list (ns.map PyData.int)) (.list (ns.map PyData.int)) = true := PySem.SeqAt.eqv_refl _ (can_ints ns)
theorem shaped_tup (m n : Int) : SeqAt.shaped (.tuple ([m, n].map PyData.int)) = true := by
  simp [SeqAt.shaped, PyData.canLay0, PyData.canLayAll0, PyData.depth, PyData.depthAll]
theorem eqv_tup (m n : Int) : PyData.eqv (.tuple ([m, n].map PyData.int)) (.tuple ([m, n].map PyData.int)) = true := PySem.SeqAt.eqv_refl _ (can_ints [m, n])
theorem eq_ints {K : PySem.W.Frag} {H : Hp} {p q : Addr} {ns : List Int} {Q : VK} (hp : SqL K H p (ns.map V.int)) (hq : SqL K H q (ns.map V.int)) (k : Q (.bl true) H) : rEqD K (.ref p) (.ref q) H Q :=
  ⟨_, _, .lst hp (dp_ints ns), .lst hq (dp_ints ns), shaped_ns ns, shaped_ns ns, by rw [eqv_ns]; exact k⟩
theorem ne_ints {K : PySem.W.Frag} {H : Hp} {p q : Addr} {ns : List Int} {Q : VK} (hp : SqL K H p (ns.map V.int)) (hq : SqL K H q (ns.map V.int)) (k : Q (.bl false) H) : rNeD K (.ref p) (.ref q) H Q :=
  ⟨_, _, .lst hp (dp_ints ns), .lst hq (dp_ints ns), shaped_ns ns, shaped_ns ns, by rw [eqv_ns]; exact k⟩

theorem eq_pair {K : PySem.W.Frag} {H : Hp} {p q : Addr} {m n : Int} {Q : VK} (hp : SqT K H p [.int m, .int n]) (hq : SqT K H q [.int m, .int n]) (k : Q (.bl true) H) : rEqD K (.ref p) (.ref q) H Q :=
  ⟨_, _, .tup hp (dp_ints [m, n]), .tup hq (dp_ints [m, n]), shaped_tup m n, shaped_tup m n, by rw [eqv_tup]; exact k⟩
theorem ne_pair {K : PySem.W.Frag} {H : Hp} {p q : Addr} {m n : Int} {Q : VK} (hp : SqT K H p [.int m, .int n]) (hq : SqT K H q [.int m, .int n]) (k : Q (.bl false) H) : rNeD K (.ref p) (.ref q) H Q :=
  ⟨_, _, .tup hp (dp_ints [m, n]), .tup hq (dp_ints [m, n]), shaped_tup m n, shaped_tup m n, by rw [eqv_tup]; exact k⟩

/-! ### the numbers of words -/
def wr (n : Int) : Int := (n + 2147483648) % 4294967296 - 2147483648
theorem wr_lo (n : Int) : -2147483648 ≤ wr n := by unfold wr; omega
theorem wr_hi (n : Int) : wr n ≤ 2147483647 := by unfold wr; omega
theorem wr_same {n : Int} (h : -2147483648 ≤ n) (h2 : n ≤ 2147483647) : wr n = n := by unfold wr; omega

/-! ### promises -/
def spCell (K : PySem.W.Frag) : Sp := fun vs H Q _ => ∃ (a : Addr) (ns : List Int) (k : Int), vs = [.ref a, .int k] ∧ SqL K H a (ns.map V.int) ∧ 0 ≤ k ∧ ∀ n : Int, Q (.int n) H
def spRow (K : PySem.W.Frag) : Sp := fun vs H Q _ => ∃ (a : Addr) (ns : List Int) (i j : Int), vs = [.ref a, .int i, .int j] ∧ SqL K H a (ns.map V.int) ∧ 0 ≤ i ∧ i ≤ j ∧ j ≤ 100 ∧
  ∀ (p : Addr) (rs : List Int) (H' : Hp), H p = none → Same H H' → H' p = some (.lst (rs.map V.int)) → Q (.ref p) H'
def spDraw : Sp := fun vs H Q _ => ∃ (b r : Addr) (rs : List Int) (many : Int), vs = [.ref b, .int many] ∧ Box H b r rs ∧ 0 < many ∧
  ∀ (v : Int) (H' : Hp), 0 ≤ v → v < many → Box H' b r rs → But b H H' → Q (.int v) H'
def spWrap : Sp := fun vs H Q _ => ∃ n : Int, vs = [.int n] ∧ Q (.int (wr n)) H
def spWord : Sp := fun vs H Q _ => ∃ (b r : Addr) (rs : List Int), vs = [.ref b] ∧ Box H b r rs ∧
  ∀ (v : Int) (H' : Hp), -2147483648 ≤ v → v ≤ 2147483647 → Box H' b r rs → But b H H' → Q (.int v) H'
def spIsInt : Sp := fun vs H Q _ => ∃ n : Int, vs = [.int n] ∧ Q (.bl true) H
def spLaw (K : PySem.W.Frag) : Sp := fun vs H Q _ => ∃ (a : Addr) (ns : List Int), vs = [.ref a] ∧ SqL K H a (ns.map V.int) ∧ ns.length ≤ 63 ∧ ∀ H', Q (.bl true) H'
/-- a def of the text that keeps a promise, with all that a caller asks -/
structure Def (P : Program) (w : World) (K : PySem.W.Frag) (mg : Str → Option Value) (base : Heap) (k : Nat) (x : Str) (ps : List Str) (sp : Sp) : Prop where
  ex : ∃ (f : Addr) (fd : FuncData), FnOk P w K mg base CX0 k f fd ps sp ∧ Binds K fd ps [] ∧ mg x = some (.ref f) ∧ PySem.W.keepIn K (.ref f) = true
/-- a method of a class of the text; its __init__ -/
structure MDef (P : Program) (w : World) (K : PySem.W.Frag) (mg : Str → Option Value) (base : Heap) (k : Nat) (C : Addr) (m : Str) (ps : List Str) (sp : Sp) : Prop where
  ex : ∃ (f : Addr) (fd : FuncData), FnOk P w K mg base CX0 k f fd ps sp ∧ Binds K fd ps [] ∧ Meth K C m f
structure IDef (P : Program) (w : World) (K : PySem.W.Frag) (mg : Str → Option Value) (base : Heap) (k : Nat) (C : Addr) (ps : List Str) (sp : Sp) : Prop where
  ex : ∃ (f : Addr) (fd : FuncData), FnOk P w K mg base CX0 k f fd ps sp ∧ Binds K fd ps [] ∧ Mk K C f
structure Cs where
  Parameter : Addr
  Net : Addr
  Job : Addr
  OPERAND_PLACES : Addr
  WITH_PARAMETER : Addr
  LENGTHS : Addr
  fn__of_inputs : Addr
  fn__of_targets : Addr
  fn__of_lin : Addr
  fn__of_bias : Addr
  fn__of_embed : Addr
  fn__of_mat : Addr
  fn__of_lower : Addr
  fn__of_pair : Addr
  fn__of_scale : Addr
  fn__of_shift : Addr
  fn__of_relu : Addr
  fn__of_drop : Addr
  fn__of_sum : Addr
  fn__of_join : Addr
  fn__of_take : Addr
/-- a tuple of the top -/
def KTup (K : PySem.W.Frag) (t : Addr) (xs : List V) : Prop := ∃ (o : Obj) (its : Array Value) (n : Nat), K.lookup t = some o ∧ o.cls = .type "tuple" ∧ o.data = .seq its n ∧ its.size ≤ sizeLine ∧ Vals xs its.toList
theorem KTup.sq {K : PySem.W.Frag} {t : Addr} {xs : List V} (h : KTup K t xs) (H : Hp) : SqT K H t xs := .inr h
structure Txt (K : PySem.W.Frag) (mg : Str → Option Value) (cs : Cs) (w : World) : Prop where
  z_abs : mg "abs" = none
  z_all : mg "all" = none
  z_bool : mg "bool" = none
  z_int : mg "int" = none
  z_isinstance : mg "isinstance" = none
  z_len : mg "len" = none
  z_list : mg "list" = none
  z_max : mg "max" = none
  z_range : mg "range" = none
  g_MOST_PLACES : ∃ t, mg "MOST_PLACES" = some (.int (8) t)
  g_MOST_PARAMETERS : ∃ t, mg "MOST_PARAMETERS" = some (.int (8) t)
  g_MOST_SIDE : ∃ t, mg "MOST_SIDE" = some (.int (6) t)
  g_MOST_NODES : ∃ t, mg "MOST_NODES" = some (.int (24) t)
  g_MOST_LENGTH : ∃ t, mg "MOST_LENGTH" = some (.int (12) t)
  g_MOST_SHIFT : ∃ t, mg "MOST_SHIFT" = some (.int (31) t)
  g_MOST_BATCH : ∃ t, mg "MOST_BATCH" = some (.int (4) t)
  g_MOST_RATES : ∃ t, mg "MOST_RATES" = some (.int (4) t)
  g_MOST_SAMPLES : ∃ t, mg "MOST_SAMPLES" = some (.int (12) t)
  g_LEAST_DIVISOR : ∃ t, mg "LEAST_DIVISOR" = some (.int (2) t)
  g_GREATEST_NUMBER : ∃ t, mg "GREATEST_NUMBER" = some (.int (4294967295) t)
  g_LEAST : ∃ t, mg "LEAST" = some (.int (-2147483648) t)
  g_GREATEST : ∃ t, mg "GREATEST" = some (.int (2147483647) t)
  g_OPERAND_PLACES : mg "OPERAND_PLACES" = some (.ref cs.OPERAND_PLACES)
  d_OPERAND_PLACES : ∃ es n, KDict K w cs.OPERAND_PLACES es n
  e_OPERAND_PLACES_input : ∃ t, PySem.W.nsIn K cs.OPERAND_PLACES "input" = some (some (.ref t)) ∧ KTup K t []
  e_OPERAND_PLACES_target : ∃ t, PySem.W.nsIn K cs.OPERAND_PLACES "target" = some (some (.ref t)) ∧ KTup K t []
  e_OPERAND_PLACES_lin : ∃ t, PySem.W.nsIn K cs.OPERAND_PLACES "lin" = some (some (.ref t)) ∧ KTup K t [.int (2)]
  e_OPERAND_PLACES_bias : ∃ t, PySem.W.nsIn K cs.OPERAND_PLACES "bias" = some (some (.ref t)) ∧ KTup K t [.int (2)]
  e_OPERAND_PLACES_embed : ∃ t, PySem.W.nsIn K cs.OPERAND_PLACES "embed" = some (some (.ref t)) ∧ KTup K t []
  e_OPERAND_PLACES_mat : ∃ t, PySem.W.nsIn K cs.OPERAND_PLACES "mat" = some (some (.ref t)) ∧ KTup K t [.int (2), .int (3)]
  e_OPERAND_PLACES_matT : ∃ t, PySem.W.nsIn K cs.OPERAND_PLACES "matT" = some (some (.ref t)) ∧ KTup K t [.int (2), .int (3)]
  e_OPERAND_PLACES_lower : ∃ t, PySem.W.nsIn K cs.OPERAND_PLACES "lower" = some (some (.ref t)) ∧ KTup K t [.int (2)]
  e_OPERAND_PLACES_add : ∃ t, PySem.W.nsIn K cs.OPERAND_PLACES "add" = some (some (.ref t)) ∧ KTup K t [.int (1), .int (2)]
  e_OPERAND_PLACES_sub : ∃ t, PySem.W.nsIn K cs.OPERAND_PLACES "sub" = some (some (.ref t)) ∧ KTup K t [.int (1), .int (2)]
  e_OPERAND_PLACES_mul : ∃ t, PySem.W.nsIn K cs.OPERAND_PLACES "mul" = some (some (.ref t)) ∧ KTup K t [.int (1), .int (2)]
  e_OPERAND_PLACES_scale : ∃ t, PySem.W.nsIn K cs.OPERAND_PLACES "scale" = some (some (.ref t)) ∧ KTup K t [.int (2)]
  e_OPERAND_PLACES_shift : ∃ t, PySem.W.nsIn K cs.OPERAND_PLACES "shift" = some (some (.ref t)) ∧ KTup K t [.int (2)]
  e_OPERAND_PLACES_relu : ∃ t, PySem.W.nsIn K cs.OPERAND_PLACES "relu" = some (some (.ref t)) ∧ KTup K t [.int (1)]
  e_OPERAND_PLACES_drop : ∃ t, PySem.W.nsIn K cs.OPERAND_PLACES "drop" = some (some (.ref t)) ∧ KTup K t [.int (2)]
  e_OPERAND_PLACES_sum : ∃ t, PySem.W.nsIn K cs.OPERAND_PLACES "sum" = some (some (.ref t)) ∧ KTup K t [.int (1)]
  e_OPERAND_PLACES_join : ∃ t, PySem.W.nsIn K cs.OPERAND_PLACES "join" = some (some (.ref t)) ∧ KTup K t [.int (1), .int (2)]
  e_OPERAND_PLACES_take : ∃ t, PySem.W.nsIn K cs.OPERAND_PLACES "take" = some (some (.ref t)) ∧ KTup K t [.int (3)]
  g_WITH_PARAMETER : mg "WITH_PARAMETER" = some (.ref cs.WITH_PARAMETER)
  t_WITH_PARAMETER : KTup K cs.WITH_PARAMETER [.str "lin", .str "bias", .str "embed"]
  g_LENGTHS : mg "LENGTHS" = some (.ref cs.LENGTHS)
  d_LENGTHS : ∃ es n, KDict K w cs.LENGTHS es n
  e_LENGTHS_input : PySem.W.nsIn K cs.LENGTHS "input" = some (some (.ref cs.fn__of_inputs))
  e_LENGTHS_target : PySem.W.nsIn K cs.LENGTHS "target" = some (some (.ref cs.fn__of_targets))
  e_LENGTHS_lin : PySem.W.nsIn K cs.LENGTHS "lin" = some (some (.ref cs.fn__of_lin))
  e_LENGTHS_bias : PySem.W.nsIn K cs.LENGTHS "bias" = some (some (.ref cs.fn__of_bias))
  e_LENGTHS_embed : PySem.W.nsIn K cs.LENGTHS "embed" = some (some (.ref cs.fn__of_embed))
  e_LENGTHS_mat : PySem.W.nsIn K cs.LENGTHS "mat" = some (some (.ref cs.fn__of_mat))
  e_LENGTHS_matT : PySem.W.nsIn K cs.LENGTHS "matT" = some (some (.ref cs.fn__of_mat))
  e_LENGTHS_lower : PySem.W.nsIn K cs.LENGTHS "lower" = some (some (.ref cs.fn__of_lower))
  e_LENGTHS_add : PySem.W.nsIn K cs.LENGTHS "add" = some (some (.ref cs.fn__of_pair))
  e_LENGTHS_sub : PySem.W.nsIn K cs.LENGTHS "sub" = some (some (.ref cs.fn__of_pair))
  e_LENGTHS_mul : PySem.W.nsIn K cs.LENGTHS "mul" = some (some (.ref cs.fn__of_pair))
  e_LENGTHS_scale : PySem.W.nsIn K cs.LENGTHS "scale" = some (some (.ref cs.fn__of_scale))
  e_LENGTHS_shift : PySem.W.nsIn K cs.LENGTHS "shift" = some (some (.ref cs.fn__of_shift))
  e_LENGTHS_relu : PySem.W.nsIn K cs.LENGTHS "relu" = some (some (.ref cs.fn__of_relu))
  e_LENGTHS_drop : PySem.W.nsIn K cs.LENGTHS "drop" = some (some (.ref cs.fn__of_drop))
  e_LENGTHS_sum : PySem.W.nsIn K cs.LENGTHS "sum" = some (some (.ref cs.fn__of_sum))
  e_LENGTHS_join : PySem.W.nsIn K cs.LENGTHS "join" = some (some (.ref cs.fn__of_join))
  e_LENGTHS_take : PySem.W.nsIn K cs.LENGTHS "take" = some (some (.ref cs.fn__of_take))
  f__of_inputs : mg "_of_inputs" = some (.ref cs.fn__of_inputs)
  f__of_targets : mg "_of_targets" = some (.ref cs.fn__of_targets)
  f__of_lin : mg "_of_lin" = some (.ref cs.fn__of_lin)
  f__of_bias : mg "_of_bias" = some (.ref cs.fn__of_bias)
  f__of_embed : mg "_of_embed" = some (.ref cs.fn__of_embed)
  f__of_mat : mg "_of_mat" = some (.ref cs.fn__of_mat)
  f__of_lower : mg "_of_lower" = some (.ref cs.fn__of_lower)
  f__of_pair : mg "_of_pair" = some (.ref cs.fn__of_pair)
  f__of_scale : mg "_of_scale" = some (.ref cs.fn__of_scale)
  f__of_shift : mg "_of_shift" = some (.ref cs.fn__of_shift)
  f__of_relu : mg "_of_relu" = some (.ref cs.fn__of_relu)
  f__of_drop : mg "_of_drop" = some (.ref cs.fn__of_drop)
  f__of_sum : mg "_of_sum" = some (.ref cs.fn__of_sum)
  f__of_join : mg "_of_join" = some (.ref cs.fn__of_join)
  f__of_take : mg "_of_take" = some (.ref cs.fn__of_take)
  C_Parameter : Cls K cs.Parameter
  c_Parameter : mg "Parameter" = some (.ref cs.Parameter)
  mk_Parameter : PySem.W.makesIn K cs.Parameter = true ∧ PySem.W.keepIn K (.ref cs.Parameter) = true
  na_Parameter_rows : NoAttr K cs.Parameter "rows"
  na_Parameter_cols : NoAttr K cs.Parameter "cols"
  na_Parameter_fill : NoAttr K cs.Parameter "fill"
  C_Net : Cls K cs.Net
  c_Net : mg "Net" = some (.ref cs.Net)
  mk_Net : PySem.W.makesIn K cs.Net = true ∧ PySem.W.keepIn K (.ref cs.Net) = true
  na_Net_inputs : NoAttr K cs.Net "inputs"
  na_Net_targets : NoAttr K cs.Net "targets"
  na_Net_parameters : NoAttr K cs.Net "parameters"
  na_Net_nodes : NoAttr K cs.Net "nodes"
  na_Net_lengths : NoAttr K cs.Net "lengths"
  C_Job : Cls K cs.Job
  c_Job : mg "Job" = some (.ref cs.Job)
  mk_Job : PySem.W.makesIn K cs.Job = true ∧ PySem.W.keepIn K (.ref cs.Job) = true
  na_Job_net : NoAttr K cs.Job "net"
  na_Job_seed : NoAttr K cs.Job "seed"
  na_Job_batch : NoAttr K cs.Job "batch"
  na_Job_factor : NoAttr K cs.Job "factor"
  na_Job_point : NoAttr K cs.Job "point"
  na_Job_rates : NoAttr K cs.Job "rates"
  na_Job_data : NoAttr K cs.Job "data"

/-! ### a call of a local name that holds one of several defs: the reading says which -/
def tCallD (P : Program) (w : World) (K : PySem.W.Frag) (mg : Str → Option Value) (base : Heap) (k i : Nat) (t : TA) : TE := fun σ H Q => ∃ f sp, σ[i]? = some (some (.ref f)) ∧ Held P w K mg base k f sp ∧ t σ H fun vs H1 => sp vs H1 Q (fun _ _ _ => False)
section
variable {X : Cx} {k i : Nat} {x : Str} {p pos : Pos} {e : PySem.Expr} {es : List PySem.Expr} {t : TA}
theorem pe_callD (hr : Room k X.A) (hN : X.N[i]? = some x) (hv : Vis X.env.scope x) (ha : PA X (e :: es) t)
    (hdb : (x == ("__debug__" : Str)) = false := by decide) (hcd : (x == ("__classdict__" : Str)) = false := by decide)
    (he : starEach (e :: es) X.env = (false, eval e X.env) :: starEach es X.env := by rfl) (hpl : (backTo pos (starEach es X.env)).any (·.1) = false := by rfl) :
    PE X (.Call (.Name x p) (e :: es) [] pos) (tCallD X.prog X.w X.K X.mg X.base k i t) := by
  refine ⟨fun pins s σ H Q I h => ?_⟩
  obtain ⟨f, sp, hs, hS, ht⟩ := h
  obtain ⟨fd, ps, F, hk, hb⟩ := hS.ex
  refine (pe_callL (i := i) (f := f) (sp := sp) (dvs := []) (E := fun _ _ _ => False) F hr hN hv hk hb .nil (fun _ _ _ _ _ _ _ z => z.elim) ha hdb hcd he hpl).run pins s σ H Q I ⟨hs, ?_⟩
  have e0 : (fun (vs : List V) (H1 : Hp) => sp (vs ++ []) H1 Q (fun _ _ _ => False)) = fun vs H1 => sp vs H1 Q (fun _ _ _ => False) := by
    funext vs H1
    rw [List.append_nil]
  show t σ H (fun vs H1 => sp (vs ++ []) H1 Q (fun _ _ _ => False))
  rw [e0]
  exact ht
end

/-! ### nodes, what they require and how long they are: the mathematics -/
inductive Nd where
  | input | target
  | lin (p a : Int) | bias (p a : Int) | embed (p lo n : Int)
  | mat (k a b : Int) | matT (k a b : Int) | lower (c a : Int)
  | add (a b : Int) | sub (a b : Int) | mul (a b : Int)
  | scale (w a : Int) | shift (k a : Int) | relu (a : Int) | drop (m a : Int) | sum (a : Int)
  | join (a b : Int) | take (lo n a : Int)
def Nd.kind : Nd → Str
  | .input => "input" | .target => "target" | .lin .. => "lin" | .bias .. => "bias" | .embed .. => "embed" | .mat .. => "mat" | .matT .. => "matT" | .lower .. => "lower"
  | .add .. => "add" | .sub .. => "sub" | .mul .. => "mul" | .scale .. => "scale" | .shift .. => "shift" | .relu .. => "relu" | .drop .. => "drop" | .sum .. => "sum" | .join .. => "join" | .take .. => "take"
def Nd.nums : Nd → List Int
  | .input => [] | .target => [] | .lin p a => [p, a] | .bias p a => [p, a] | .embed p lo n => [p, lo, n] | .mat k a b => [k, a, b] | .matT k a b => [k, a, b] | .lower c a => [c, a]
  | .add a b => [a, b] | .sub a b => [a, b] | .mul a b => [a, b] | .scale w a => [w, a] | .shift k a => [k, a] | .relu a => [a] | .drop m a => [m, a] | .sum a => [a] | .join a b => [a, b] | .take lo n a => [lo, n, a]
/-- the node as a tuple -/
def Nd.enc (d : Nd) : List V := .str d.kind :: d.nums.map V.int
/-- its operands, and where they stand -/
def Nd.ops : Nd → List Int
  | .input => [] | .target => [] | .lin _ a => [a] | .bias _ a => [a] | .embed .. => [] | .mat _ a b => [a, b] | .matT _ a b => [a, b] | .lower _ a => [a]
  | .add a b => [a, b] | .sub a b => [a, b] | .mul a b => [a, b] | .scale _ a => [a] | .shift _ a => [a] | .relu a => [a] | .drop _ a => [a] | .sum a => [a] | .join a b => [a, b] | .take _ _ a => [a]
def Nd.places : Nd → List Int
  | .input => [] | .target => [] | .lin .. => [2] | .bias .. => [2] | .embed .. => [] | .mat .. => [2, 3] | .matT .. => [2, 3] | .lower .. => [2]
  | .add .. => [1, 2] | .sub .. => [1, 2] | .mul .. => [1, 2] | .scale .. => [2] | .shift .. => [2] | .relu .. => [1] | .drop .. => [2] | .sum .. => [1] | .join .. => [1, 2] | .take .. => [3]
theorem Nd.place_op (d : Nd) : ∀ (i : Nat) (z : Int), d.places[i]? = some z → ∃ o, d.ops[i]? = some o ∧ atI d.enc z = some (.int o) := by
  intro i z h
  cases d <;> rcases i with _ | _ | i <;> first | (cases h; done) | (injection h with h; subst h; exact ⟨_, rfl, rfl⟩) | (exfalso; simp [Nd.places] at h)
theorem Nd.len_ops (d : Nd) : d.ops.length = d.places.length := by cases d <;> rfl
/-- its parameter -/
def Nd.par : Nd → Option Int
  | .lin p _ => some p | .bias p _ => some p | .embed p .. => some p
  | _ => none
def inR (i : Int) (n : Nat) : Prop := 0 ≤ i ∧ i < (n : Int)
instance (i : Int) (n : Nat) : Decidable (inR i n) := by unfold inR; infer_instance
/-- names of operands and of the parameter that exist -/
def parIn (o : Option Int) (np : Nat) : Prop := match o with
  | none => True
  | some p => inR p np
instance (o : Option Int) (np : Nat) : Decidable (parIn o np) := by unfold parIn; cases o <;> infer_instance
def Nd.fits (d : Nd) (np nk : Nat) : Prop := parIn d.par np ∧ ∀ o ∈ d.ops, inR o nk
instance (d : Nd) (np nk : Nat) : Decidable (d.fits np nk) := by unfold Nd.fits; infer_instance
def lget (ls : List Int) (a : Int) : Int := ls.getD a.toNat 0
def pget (ps : List (Int × Int)) (p : Int) : Int × Int := ps.getD p.toNat (0, 0)
def mult (n c : Int) : Prop := 0 < c ∧ n % c = 0
instance (n c : Int) : Decidable (mult n c) := by unfold mult; infer_instance
def inside (lo n l : Int) : Prop := 1 ≤ n ∧ 0 ≤ lo ∧ lo + n ≤ l
instance (lo n l : Int) : Decidable (inside lo n l) := by unfold inside; infer_instance
def Nd.len (ni nt : Int) (ps : List (Int × Int)) (ls : List Int) : Nd → Option Int
  | .input => some ni
  | .target => some nt
  | .lin p a => if mult (lget ls a) (pget ps p).1 then some (lget ls a / (pget ps p).1 * (pget ps p).2) else none
  | .bias p a => if (pget ps p).1 = 1 ∧ mult (lget ls a) (pget ps p).2 then some (lget ls a) else none
  | .embed p lo n => if inside lo n ni then some (n * (pget ps p).2) else none
  | .mat k a b => if mult (lget ls a) k ∧ mult (lget ls b) k then some (lget ls a / k * (lget ls b / k)) else none
  | .matT k a b => if mult (lget ls a) k ∧ mult (lget ls b) k then some (lget ls a / k * (lget ls b / k)) else none
  | .lower c a => if mult (lget ls a) c then some (lget ls a) else none
  | .add a b => if lget ls a = lget ls b then some (lget ls a) else none
  | .sub a b => if lget ls a = lget ls b then some (lget ls a) else none
  | .mul a b => if lget ls a = lget ls b then some (lget ls a) else none
  | .scale w a => if -2147483648 ≤ w ∧ w ≤ 2147483647 then some (lget ls a) else none
  | .shift k a => if 0 ≤ k ∧ k ≤ 31 then some (lget ls a) else none
  | .relu a => some (lget ls a)
  | .drop m a => if 2 ≤ m ∧ m ≤ 4294967295 then some (lget ls a) else none
  | .sum _ => some 1
  | .join a b => some (lget ls a + lget ls b)
  | .take lo n a => if inside lo n (lget ls a) then some n else none
def optV : Option Int → V
  | none => .non
  | some n => .int n
def spIsIntO : Sp := fun vs H Q _ => ∃ x : Option Int, vs = [optV x] ∧ Q (.bl x.isSome) H
def Nd.lenOf (ni nt : Int) (ps : List (Int × Int)) (ls : List Int) (d : Nd) : Option Int := if d.fits ps.length ls.length then d.len ni nt ps ls else none

/-! ### objects of the text that hold networks -/
inductive All2 {α β : Type} (R : α → β → Prop) : List α → List β → Prop
  | nil : All2 R [] []
  | cons {a : α} {b : β} {as : List α} {bs : List β} : R a b → All2 R as bs → All2 R (a :: as) (b :: bs)
theorem All2.length {α β : Type} {R : α → β → Prop} {as : List α} {bs : List β} (h : All2 R as bs) : as.length = bs.length := by
  induction h with
  | nil => rfl
  | cons _ _ ih => rw [List.length_cons, List.length_cons, ih]
theorem All2.get {α β : Type} {R : α → β → Prop} {as : List α} {bs : List β} (h : All2 R as bs) : ∀ {i : Nat} {b : β}, bs[i]? = some b → ∃ a, as[i]? = some a ∧ R a b := by
  induction h with
  | nil => intro i b e; cases e
  | cons r _ ih =>
    intro i b e
    cases i with
    | zero => cases e; exact ⟨_, rfl, r⟩
    | succ i => exact ih e
theorem All2.mono {α β : Type} {R S : α → β → Prop} {as : List α} {bs : List β} (f : ∀ a b, R a b → S a b) (h : All2 R as bs) : All2 S as bs := by
  induction h with
  | nil => exact .nil
  | cons r _ ih => exact .cons (f _ _ r) ih
theorem All2.snoc {α β : Type} {R : α → β → Prop} {as : List α} {bs : List β} {a : α} {b : β} (h : All2 R as bs) (r : R a b) : All2 R (as ++ [a]) (bs ++ [b]) := by
  induction h with
  | nil => exact .cons r .nil
  | cons r' _ ih => exact .cons r' ih

/-- a Parameter of these sides -/
def ParV (cs : Cs) (H : Hp) (a : Addr) (rc : Int × Int) : Prop := ∃ dx fs, H a = some (.ins cs.Parameter dx fs) ∧ fs.lookup ("rows" : Str) = some (.int rc.1) ∧ fs.lookup ("cols" : Str) = some (.int rc.2)
/-- a Net with these lengths of samples and these parameters -/
structure NetV (cs : Cs) (H : Hp) (q : Addr) (ni nt : Int) (ps : List (Int × Int)) : Prop where
  ex : ∃ dx fs P pr, H q = some (.ins cs.Net dx fs) ∧ fs.lookup ("inputs" : Str) = some (.int ni) ∧ fs.lookup ("targets" : Str) = some (.int nt) ∧ fs.lookup ("parameters" : Str) = some (.ref P) ∧
    H P = some (.lst (pr.map V.ref)) ∧ All2 (ParV cs H) pr ps
theorem ParV.same {cs : Cs} {H H' : Hp} {a : Addr} {rc : Int × Int} (e : Same H H') (h : ParV cs H a rc) : ParV cs H' a rc := by
  obtain ⟨dx, fs, h1, h2⟩ := h
  exact ⟨dx, fs, e _ _ h1, h2⟩
theorem NetV.same {cs : Cs} {H H' : Hp} {q : Addr} {ni nt : Int} {ps : List (Int × Int)} (e : Same H H') (h : NetV cs H q ni nt ps) : NetV cs H' q ni nt ps := by
  obtain ⟨dx, fs, P, pr, h1, h2, h3, h4, h5, h6⟩ := h.ex
  exact ⟨dx, fs, P, pr, e _ _ h1, h2, h3, h4, e _ _ h5, h6.mono fun _ _ r => r.same e⟩
/-- an item of a list of ints at an index that is in it -/
theorem at_ints {ls : List Int} {a : Int} (h : inR a ls.length) : atI (ls.map V.int) a = some (.int (lget ls a)) := by
  obtain ⟨h0, h1⟩ := h
  have hk : a.toNat < ls.length := by omega
  have ek : a = ((a.toNat : Nat) : Int) := by omega
  have z : atI (ls.map V.int) ((a.toNat : Nat) : Int) = some (.int ls[a.toNat]) := atI_nat (by rw [List.getElem?_map, List.getElem?_eq_getElem hk] <;> rfl)
  rw [← ek] at z
  rw [z]
  unfold lget
  rw [List.getD_eq_getElem?_getD, List.getElem?_eq_getElem hk]
  rfl
theorem at_pars {cs : Cs} {H : Hp} {pr : List Addr} {ps : List (Int × Int)} {p : Int} (h : All2 (ParV cs H) pr ps) (hp : inR p ps.length) : ∃ a, atI (pr.map V.ref) p = some (.ref a) ∧ ParV cs H a (pget ps p) := by
  obtain ⟨h0, h1⟩ := hp
  have hk : p.toNat < ps.length := by omega
  have ek : p = ((p.toNat : Nat) : Int) := by omega
  have g : ps[p.toNat]? = some (pget ps p) := by
    unfold pget
    rw [List.getD_eq_getElem?_getD, List.getElem?_eq_getElem hk]
    rfl
  obtain ⟨a, ea, r⟩ := h.get g
  refine ⟨a, ?_, r⟩
  have z : atI (pr.map V.ref) ((p.toNat : Nat) : Int) = some (.ref a) := atI_nat (by rw [List.getElem?_map, ea] <;> rfl)
  rwa [← ek] at z
def sides (pms : List (Int × Int × Str × Int)) : List (Int × Int) := pms.map fun m => (m.1, m.2.1)
theorem sides_len (pms : List (Int × Int × Str × Int)) : (sides pms).length = pms.length := List.length_map _
theorem sides_app (a b : List (Int × Int × Str × Int)) : sides (a ++ b) = sides a ++ sides b := List.map_append
/-- promises -/
def spMult : Sp := fun vs H Q _ => ∃ n c : Int, vs = [.int n, .int c] ∧ Q (.bl (decide (mult n c))) H
def spInside : Sp := fun vs H Q _ => ∃ lo n l : Int, vs = [.int lo, .int n, .int l] ∧ Q (.bl (decide (inside lo n l))) H
def spIsWord : Sp := fun vs H Q _ => ∃ n : Int, vs = [.int n] ∧ Q (.bl (decide (-2147483648 ≤ n ∧ n ≤ 2147483647))) H
def Nd.tame : Nd → Prop
  | .mat k _ _ => k < 1000000
  | .matT k _ _ => k < 1000000
  | _ => True
/-- far more than any length -/
@[irreducible] def capE : Nat := 8192
theorem capE_eq : capE = 8192 := by unfold capE; rfl
@[irreducible] def cap : Nat := 2 ^ capE
theorem cap_eq : cap = 2 ^ capE := by unfold cap; rfl
theorem cap_of {i : Int} {b : Nat} (h : i.natAbs < 2 ^ b) (hb : b ≤ 8192) : i.natAbs < cap := by
  rw [cap_eq]
  exact Nat.lt_of_lt_of_le h (Nat.pow_le_pow_right (by decide) (by rw [capE_eq]; exact hb))
theorem cap_small {i : Int} (h0 : -1000000 ≤ i) (h1 : i ≤ 1000000) : i.natAbs < cap := cap_of (b := 20) (Nat.lt_of_le_of_lt (show i.natAbs ≤ 1000000 by omega) (by decide)) (by decide)
theorem cap_mul {i j : Int} (hi : i.natAbs < cap) (hj : j.natAbs < cap) : L2.CMulW i j := by
  rw [cap_eq] at hi hj
  exact wide_mul hi hj (by rw [capE_eq]; decide) (by rw [capE_eq]; decide) (by rw [capE_eq]; decide)
structure Tame (ps : List (Int × Int)) (ls : List Int) : Prop where
  par : ∀ rc ∈ ps, 0 ≤ rc.1 ∧ rc.1 < 1000 ∧ 0 ≤ rc.2 ∧ rc.2 < 1000
  len : ∀ l ∈ ls, 0 ≤ l ∧ l.natAbs < cap
theorem lget_mem {ls : List Int} {a : Int} (h : inR a ls.length) : lget ls a ∈ ls := by
  obtain ⟨h0, h1⟩ := h
  have hk : a.toNat < ls.length := by omega
  unfold lget
  rw [List.getD_eq_getElem?_getD, List.getElem?_eq_getElem hk]
  exact List.getElem_mem hk
theorem pget_mem {ps : List (Int × Int)} {p : Int} (h : inR p ps.length) : pget ps p ∈ ps := by
  obtain ⟨h0, h1⟩ := h
  have hk : p.toNat < ps.length := by omega
  unfold pget
  rw [List.getD_eq_getElem?_getD, List.getElem?_eq_getElem hk]
  exact List.getElem_mem hk
theorem ediv_bd {l k : Int} (h0 : 0 ≤ l) (h1 : l.natAbs < cap) (hk : 0 < k) : 0 ≤ l / k ∧ (l / k).natAbs < cap := by
  have a := Int.ediv_nonneg h0 (Int.le_of_lt hk)
  have b := Int.ediv_le_self k h0
  exact ⟨a, by omega⟩
def spRule (K : PySem.W.Frag) (cs : Cs) (fam : Nd → Prop) : Sp := fun vs H Q _ => ∃ (q l a : Addr) (ni nt : Int) (ps : List (Int × Int)) (ls : List Int) (d : Nd), vs = [.ref q, .ref l, .ref a] ∧ fam d ∧ NetV cs H q ni nt ps ∧ SqL K H l (ls.map V.int) ∧ SqT K H a d.enc ∧
  d.fits ps.length ls.length ∧ Tame ps ls ∧ d.tame ∧ Q (optV (d.len ni nt ps ls)) H
def spNames (K : PySem.W.Frag) (cs : Cs) : Sp := fun vs H Q _ => ∃ (q l a : Addr) (ni nt : Int) (ps : List (Int × Int)) (ls : List Int) (d : Nd), vs = [.ref q, .ref l, .ref a] ∧ NetV cs H q ni nt ps ∧ SqL K H l (ls.map V.int) ∧ SqT K H a d.enc ∧
  ∀ H', Same H H' → Q (.bl (decide (d.fits ps.length ls.length))) H'
def spLength (K : PySem.W.Frag) (cs : Cs) : Sp := fun vs H Q _ => ∃ (q l a : Addr) (ni nt : Int) (ps : List (Int × Int)) (ls : List Int) (d : Nd), vs = [.ref q, .ref l, .ref a] ∧ NetV cs H q ni nt ps ∧ SqL K H l (ls.map V.int) ∧ SqT K H a d.enc ∧ Tame ps ls ∧ d.tame ∧
  ∀ H', Same H H' → Q (optV (d.lenOf ni nt ps ls)) H'
theorem Same.seqT {K : PySem.W.Frag} {H H' : Hp} {a : Addr} {xs : List V} (e : Same H H') (h : SqT K H a xs) : SqT K H' a xs := by
  rcases h with (h | ⟨o, h⟩) | h
  · exact .inl (.inl (e _ _ h))
  · exact .inl (.inr ⟨o, e _ _ h⟩)
  · exact .inr h
theorem all_dec {α : Type} (p : α → Prop) [DecidablePred p] : ∀ xs : List α, (xs.all fun x => decide (p x)) = decide (∀ x ∈ xs, p x)
  | [] => by simp
  | x :: r => by
    rw [List.all_cons, all_dec p r]
    simp [List.forall_mem_cons]
theorem But.seqL {K : PySem.W.Frag} {D : Addr} {H H' : Hp} {a : Addr} {xs : List V} (e : But D H H') (n : H D = none) (h : SqL K H a xs) : SqL K H' a xs := by
  rcases h with (h | ⟨o, h⟩) | h
  · exact .inl (.inl (e _ _ (ne_of_none h n) h))
  · exact .inl (.inr ⟨o, e _ _ (ne_of_none h n) h⟩)
  · exact .inr h
theorem But.seqT {K : PySem.W.Frag} {D : Addr} {H H' : Hp} {a : Addr} {xs : List V} (e : But D H H') (n : H D = none) (h : SqT K H a xs) : SqT K H' a xs := by
  rcases h with (h | ⟨o, h⟩) | h
  · exact .inl (.inl (e _ _ (ne_of_none h n) h))
  · exact .inl (.inr ⟨o, e _ _ (ne_of_none h n) h⟩)
  · exact .inr h
theorem But.same {D : Addr} {H H' : Hp} (e : But D H H') (n : H D = none) : Same H H' := fun c o h => e c o (ne_of_none h n) h
/-- the lengths up to the first node that has none -/
def lensFrom (ni nt : Int) (ps : List (Int × Int)) : List Int → List Nd → List Int
  | ks, [] => ks
  | ks, d :: r => match d.lenOf ni nt ps ks with
    | none => ks
    | some n => lensFrom ni nt ps (ks ++ [n]) r
theorem lensFrom_pre (ni nt : Int) (ps : List (Int × Int)) : ∀ (nds : List Nd) (ks : List Int), ∃ r, lensFrom ni nt ps ks nds = ks ++ r
  | [], ks => ⟨[], (List.append_nil ks).symm⟩
  | d :: t, ks => by
    unfold lensFrom
    cases d.lenOf ni nt ps ks with
    | none => exact ⟨[], (List.append_nil ks).symm⟩
    | some n =>
      obtain ⟨r, e⟩ := lensFrom_pre ni nt ps t (ks ++ [n])
      exact ⟨[n] ++ r, by show lensFrom ni nt ps (ks ++ [n]) t = _; rw [e, List.append_assoc]⟩
theorem lensFrom_len (ni nt : Int) (ps : List (Int × Int)) : ∀ (nds : List Nd) (ks : List Int), (lensFrom ni nt ps ks nds).length ≤ ks.length + nds.length
  | [], ks => Nat.le_refl _
  | d :: t, ks => by
    unfold lensFrom
    cases d.lenOf ni nt ps ks with
    | none => exact Nat.le_add_right _ _
    | some n =>
      have e := lensFrom_len ni nt ps t (ks ++ [n])
      rw [List.length_append, List.length_singleton] at e
      show (lensFrom ni nt ps (ks ++ [n]) t).length ≤ _
      rw [List.length_cons]
      omega
def NdV (K : PySem.W.Frag) (H : Hp) (a : Addr) (d : Nd) : Prop := SqT K H a d.enc
structure NetN (K : PySem.W.Frag) (cs : Cs) (H : Hp) (q : Addr) (nds : List Nd) : Prop where
  ex : ∃ dx fs N nr, H q = some (.ins cs.Net dx fs) ∧ fs.lookup ("nodes" : Str) = some (.ref N) ∧ H N = some (.lst (nr.map V.ref)) ∧ All2 (NdV K H) nr nds
structure NetL (cs : Cs) (H : Hp) (q : Addr) (ls : List Int) : Prop where
  ex : ∃ dx fs L, H q = some (.ins cs.Net dx fs) ∧ fs.lookup ("lengths" : Str) = some (.ref L) ∧ H L = some (.lst (ls.map V.int))
theorem NetN.same {K : PySem.W.Frag} {cs : Cs} {H H' : Hp} {q : Addr} {nds : List Nd} (e : Same H H') (h : NetN K cs H q nds) : NetN K cs H' q nds := by
  obtain ⟨dx, fs, N, nr, h1, h2, h3, h4⟩ := h.ex
  exact ⟨dx, fs, N, nr, e _ _ h1, h2, e _ _ h3, h4.mono fun _ _ r => Same.seqT e r⟩
theorem NetL.same {cs : Cs} {H H' : Hp} {q : Addr} {ls : List Int} (e : Same H H') (h : NetL cs H q ls) : NetL cs H' q ls := by
  obtain ⟨dx, fs, L, h1, h2, h3⟩ := h.ex
  exact ⟨dx, fs, L, e _ _ h1, h2, e _ _ h3⟩
/-- all numbers of a network within what the machine's products bear -/
structure NetOk (ni nt : Int) (ps : List (Int × Int)) (nds : List Nd) : Prop where
  par : ∀ rc ∈ ps, 0 ≤ rc.1 ∧ rc.1 < 1000 ∧ 0 ≤ rc.2 ∧ rc.2 < 1000
  len : ∀ l ∈ lensFrom ni nt ps [] nds, 0 ≤ l ∧ l.natAbs < cap
  nod : ∀ d ∈ nds, d.tame
  few : nds.length ≤ 1000
def spLengths (K : PySem.W.Frag) (cs : Cs) : Sp := fun vs H Q _ => ∃ (q : Addr) (ni nt : Int) (ps : List (Int × Int)) (nds : List Nd), vs = [.ref q] ∧ NetV cs H q ni nt ps ∧ NetN K cs H q nds ∧ NetOk ni nt ps nds ∧
  ∀ (p : Addr) (H' : Hp), H p = none → Same H H' → H' p = some (.lst ((lensFrom ni nt ps [] nds).map V.int)) → Q (.ref p) H'
def spParInit (cs : Cs) : Sp := fun vs H Q _ => ∃ (x dx : Addr) (r c : Int) (fill : V), vs = [.ref x, .int r, .int c, fill] ∧ H x = some (.ins cs.Parameter dx []) ∧
  ∀ H' fs, But x H H' → H' x = some (.ins cs.Parameter dx fs) → fs.lookup ("rows" : Str) = some (.int r) → fs.lookup ("cols" : Str) = some (.int c) → fs.lookup ("fill" : Str) = some fill → Q .non H'
/-- a Parameter with its fill -/
def ParP (cs : Cs) (H : Hp) (a : Addr) (m : Int × Int × Str × Int) : Prop := ∃ dx fs f, H a = some (.ins cs.Parameter dx fs) ∧ fs.lookup ("rows" : Str) = some (.int m.1) ∧ fs.lookup ("cols" : Str) = some (.int m.2.1) ∧ fs.lookup ("fill" : Str) = some (.ref f) ∧ H f = some (.tup [.str m.2.2.1, .int m.2.2.2])
theorem ParP.v {cs : Cs} {H : Hp} {a : Addr} {m : Int × Int × Str × Int} (h : ParP cs H a m) : ParV cs H a (m.1, m.2.1) := by
  obtain ⟨dx, fs, f, h1, h2, h3, _⟩ := h
  exact ⟨dx, fs, h1, h2, h3⟩
theorem ParP.same {cs : Cs} {H H' : Hp} {a : Addr} {m : Int × Int × Str × Int} (e : Same H H') (h : ParP cs H a m) : ParP cs H' a m := by
  obtain ⟨dx, fs, f, h1, h2, h3, h4, h5⟩ := h
  exact ⟨dx, fs, f, e _ _ h1, h2, h3, h4, e _ _ h5⟩
theorem ParP.but {cs : Cs} {x C dx : Addr} {H H' : Hp} {a : Addr} {m : Int × Int × Str × Int} (e : But x H H') (hx : H x = some (.ins C dx [])) (h : ParP cs H a m) : ParP cs H' a m := by
  obtain ⟨dy, fs, f, h1, h2, h3, h4, h5⟩ := h
  refine ⟨dy, fs, f, e _ _ (fun z => ?_) h1, h2, h3, h4, e _ _ (fun z => ?_) h5⟩
  · rw [z, hx] at h1
    cases h1
    cases h2
  · rw [z, hx] at h5
    cases h5
theorem all_sides {cs : Cs} {H : Hp} {pr : List Addr} {pms : List (Int × Int × Str × Int)} (h : All2 (ParP cs H) pr pms) : All2 (ParV cs H) pr (sides pms) := by
  induction h with
  | nil => exact .nil
  | cons r _ ih => exact .cons r.v ih
structure NetF (K : PySem.W.Frag) (cs : Cs) (H : Hp) (q : Addr) (ni nt : Int) (pms : List (Int × Int × Str × Int)) (nds : List Nd) : Prop where
  ex : ∃ dx fs PP NN pr nr, H q = some (.ins cs.Net dx fs) ∧ fs.lookup ("inputs" : Str) = some (.int ni) ∧ fs.lookup ("targets" : Str) = some (.int nt) ∧ fs.lookup ("parameters" : Str) = some (.ref PP) ∧ fs.lookup ("nodes" : Str) = some (.ref NN) ∧
    H PP = some (.lst (pr.map V.ref)) ∧ All2 (ParP cs H) pr pms ∧ H NN = some (.lst (nr.map V.ref)) ∧ All2 (NdV K H) nr nds
theorem NetF.v {K : PySem.W.Frag} {cs : Cs} {H : Hp} {q : Addr} {ni nt : Int} {pms : List (Int × Int × Str × Int)} {nds : List Nd} (h : NetF K cs H q ni nt pms nds) : NetV cs H q ni nt (sides pms) := by
  obtain ⟨dx, fs, PP, NN, pr, nr, h1, h2, h3, h4, h5, h6, h7, h8, h9⟩ := h.ex
  exact ⟨dx, fs, PP, pr, h1, h2, h3, h4, h6, all_sides h7⟩
theorem NetF.n {K : PySem.W.Frag} {cs : Cs} {H : Hp} {q : Addr} {ni nt : Int} {pms : List (Int × Int × Str × Int)} {nds : List Nd} (h : NetF K cs H q ni nt pms nds) : NetN K cs H q nds := by
  obtain ⟨dx, fs, PP, NN, pr, nr, h1, h2, h3, h4, h5, h6, h7, h8, h9⟩ := h.ex
  exact ⟨dx, fs, NN, nr, h1, h5, h8, h9⟩
theorem NetF.same {K : PySem.W.Frag} {cs : Cs} {H H' : Hp} {q : Addr} {ni nt : Int} {pms : List (Int × Int × Str × Int)} {nds : List Nd} (e : Same H H') (h : NetF K cs H q ni nt pms nds) : NetF K cs H' q ni nt pms nds := by
  obtain ⟨dx, fs, PP, NN, pr, nr, h1, h2, h3, h4, h5, h6, h7, h8, h9⟩ := h.ex
  exact ⟨dx, fs, PP, NN, pr, nr, e _ _ h1, h2, h3, h4, h5, e _ _ h6, h7.mono fun _ _ r => r.same e, e _ _ h8, h9.mono fun _ _ r => Same.seqT e r⟩
def spNetInit (K : PySem.W.Frag) (cs : Cs) : Sp := fun vs H Q _ => ∃ (x dx PP NN : Addr) (ni nt : Int) (pms : List (Int × Int × Str × Int)) (nds : List Nd) (pr nr : List Addr), vs = [.ref x, .int ni, .int nt, .ref PP, .ref NN] ∧ H x = some (.ins cs.Net dx []) ∧
  SqL K H PP (pr.map V.ref) ∧ All2 (ParP cs H) pr pms ∧ SqL K H NN (nr.map V.ref) ∧ All2 (NdV K H) nr nds ∧ NetOk ni nt (sides pms) nds ∧
  ∀ H', But x H H' → NetF K cs H' x ni nt pms nds → NetL cs H' x (lensFrom ni nt (sides pms) [] nds) → Q .non H'
theorem put_le {f : Str} {v : V} {fs : List (Str × V)} {n : Nat} (h : fs.length ≤ n) : (putF f v fs).length ≤ n + 1 := by
  have := length_putF f v fs
  omega
theorem put_lt {fs : List (Str × V)} {n : Nat} (h : fs.length ≤ n) (hn : n < 1000 := by decide) : fs.length < 1000 := Nat.lt_of_le_of_lt h hn
theorem put_no : ([] : List (Str × V)).length ≤ 0 := Nat.le_refl 0
theorem But.seqI {K : PySem.W.Frag} {x a C dx : Addr} {fs : List (Str × V)} {H H' : Hp} {xs : List V} (e : But x H H') (hx : H x = some (.ins C dx fs)) (h : SqL K H a xs) : SqL K H' a xs := by
  rcases h with (h | ⟨o, h⟩) | h
  · exact .inl (.inl (e _ _ (ne_of h hx (by intro z; cases z)) h))
  · exact .inl (.inr ⟨o, e _ _ (ne_of h hx (by intro z; cases z)) h⟩)
  · exact .inr h
theorem But.seqTI {K : PySem.W.Frag} {x a C dx : Addr} {fs : List (Str × V)} {H H' : Hp} {xs : List V} (e : But x H H') (hx : H x = some (.ins C dx fs)) (h : SqT K H a xs) : SqT K H' a xs := by
  rcases h with (h | ⟨o, h⟩) | h
  · exact .inl (.inl (e _ _ (ne_of h hx (by intro z; cases z)) h))
  · exact .inl (.inr ⟨o, e _ _ (ne_of h hx (by intro z; cases z)) h⟩)
  · exact .inr h
theorem ParV.but {cs : Cs} {x C dx : Addr} {H H' : Hp} {a : Addr} {rc : Int × Int} (e : But x H H') (hx : H x = some (.ins C dx [])) (h : ParV cs H a rc) : ParV cs H' a rc := by
  obtain ⟨dy, fs, h1, h2, h3⟩ := h
  refine ⟨dy, fs, e _ _ (fun z => ?_) h1, h2, h3⟩
  rw [z, hx] at h1
  cases h1
  cases h2

/-! ### the laws' generator of networks: the state -/
def PmV (H : Hp) (a : Addr) (m : Int × Int × Str × Int) : Prop := ∃ f, H a = some (.tup [.int m.1, .int m.2.1, .ref f]) ∧ H f = some (.tup [.str m.2.2.1, .int m.2.2.2])
def NdT (H : Hp) (a : Addr) (d : Nd) : Prop := H a = some (.tup d.enc)
def PmOk (m : Int × Int × Str × Int) : Prop := 1 ≤ m.1 ∧ m.1 ≤ 6 ∧ 1 ≤ m.2.1 ∧ m.2.1 ≤ 6 ∧ ((m.2.2.1 = "same" ∧ -2147483648 ≤ m.2.2.2 ∧ m.2.2.2 ≤ 2147483647) ∨ (m.2.2.1 = "mixed" ∧ 0 ≤ m.2.2.2 ∧ m.2.2.2 ≤ 31))
/-- all is as it was but what stands at these -/
def Exc (S : List Addr) (H H' : Hp) : Prop := ∀ c o, c ∉ S → H c = some o → H' c = some o
theorem Exc.refl (S : List Addr) (H : Hp) : Exc S H H := fun _ _ _ h => h
theorem Exc.trans {S : List Addr} {H H1 H2 : Hp} (x : Exc S H H1) (y : Exc S H1 H2) : Exc S H H2 := fun c o n h => y c o n (x c o n h)
theorem Exc.of {S : List Addr} {H H' : Hp} (e : Same H H') : Exc S H H' := fun c o _ h => e c o h
theorem Exc.but {S : List Addr} {b : Addr} {H H' : Hp} (e : But b H H') (h : b ∈ S) : Exc S H H' := fun c o n hc => e c o (fun z => n (z ▸ h)) hc
theorem Exc.wide {S S' : List Addr} {H H' : Hp} (e : Exc S H H') (h : ∀ x ∈ S, x ∈ S') : Exc S' H H' := fun c o n hc => e c o (fun z => n (h _ z)) hc
theorem Exc.mut {S : List Addr} {l : Addr} {H H' : Hp} {o : HO} (e : Exc S H H') (h : l ∈ S) : Exc S H (upd H' l o) := fun c x n hc => by
  rw [upd_ne (show c ≠ l from fun z => n (by rw [z]; exact h))]
  exact e c x n hc
structure Dis (b r n PL NL LL : Addr) : Prop where
  bn : b ≠ n
  bp : b ≠ PL
  bd : b ≠ NL
  bl : b ≠ LL
  rp : r ≠ PL
  rd : r ≠ NL
  rl : r ≠ LL
  np : n ≠ PL
  nd : n ≠ NL
  nl : n ≠ LL
  pd : PL ≠ NL
  pl : PL ≠ LL
  dl : NL ≠ LL
structure G (H : Hp) (b r : Addr) (rs : List Int) (n PL NL LL : Addr) (ni nt : Int) (pms : List (Int × Int × Str × Int)) (nds : List Nd) (ls : List Int) : Prop where
  box : Box H b r rs
  net : H n = some (.lst [.int ni, .int nt, .ref PL, .ref NL, .ref LL])
  par : ∃ pr, H PL = some (.lst (pr.map V.ref)) ∧ All2 (PmV H) pr pms
  nod : ∃ nr, H NL = some (.lst (nr.map V.ref)) ∧ All2 (NdT H) nr nds
  len : H LL = some (.lst (ls.map V.int))
  dis : Dis b r n PL NL LL
theorem PmV.exc {S : List Addr} {H H' : Hp} {a : Addr} {m : Int × Int × Str × Int} (e : Exc S H H') (hS : ∀ c ∈ S, ∃ xs, H c = some (.lst xs)) (h : PmV H a m) : PmV H' a m := by
  obtain ⟨f, h1, h2⟩ := h
  refine ⟨f, e _ _ (fun z => ?_) h1, e _ _ (fun z => ?_) h2⟩
  · obtain ⟨xs, y⟩ := hS _ z
    rw [h1] at y
    cases y
  · obtain ⟨xs, y⟩ := hS _ z
    rw [h2] at y
    cases y
theorem NdT.exc {S : List Addr} {H H' : Hp} {a : Addr} {d : Nd} (e : Exc S H H') (hS : ∀ c ∈ S, ∃ xs, H c = some (.lst xs)) (h : NdT H a d) : NdT H' a d := by
  refine e _ _ (fun z => ?_) h
  obtain ⟨xs, y⟩ := hS _ z
  rw [show H a = _ from h] at y
  cases y
section
variable {H H' : Hp} {b r : Addr} {rs : List Int} {n PL NL LL : Addr} {ni nt : Int} {pms : List (Int × Int × Str × Int)} {nds : List Nd} {ls : List Int}
theorem G.blst (g : G H b r rs n PL NL LL ni nt pms nds ls) : ∃ xs, H b = some (.lst xs) := by
  obtain ⟨z, _, h⟩ := g.box.ex
  exact ⟨_, h⟩
/-- behind a draw -/
theorem G.but (g : G H b r rs n PL NL LL ni nt pms nds ls) (B : Box H' b r rs) (e : But b H H') : G H' b r rs n PL NL LL ni nt pms nds ls := by
  have hS : ∀ c ∈ [b], ∃ xs, H c = some (.lst xs) := fun c hc => by
    rw [List.mem_singleton] at hc
    subst hc
    exact g.blst
  have x : Exc [b] H H' := .but e (.head _)
  obtain ⟨pr, p1, p2⟩ := g.par
  obtain ⟨nr, n1, n2⟩ := g.nod
  exact ⟨B, e _ _ g.dis.bn.symm g.net, ⟨pr, e _ _ g.dis.bp.symm p1, p2.mono fun _ _ q => q.exc x hS⟩, ⟨nr, e _ _ g.dis.bd.symm n1, n2.mono fun _ _ q => NdT.exc x hS q⟩, e _ _ g.dis.bl.symm g.len, g.dis⟩
theorem G.same (g : G H b r rs n PL NL LL ni nt pms nds ls) (e : Same H H') : G H' b r rs n PL NL LL ni nt pms nds ls := by
  obtain ⟨pr, p1, p2⟩ := g.par
  obtain ⟨nr, n1, n2⟩ := g.nod
  have x : Exc [] H H' := .of e
  have hS : ∀ c ∈ ([] : List Addr), ∃ xs, H c = some (.lst xs) := fun c hc => by cases hc
  exact ⟨g.box.same e, e _ _ g.net, ⟨pr, e _ _ p1, p2.mono fun _ _ q => q.exc x hS⟩, ⟨nr, e _ _ n1, n2.mono fun _ _ q => NdT.exc x hS q⟩, e _ _ g.len, g.dis⟩
end
section
variable {H H' : Hp} {b r : Addr} {rs : List Int} {n PL NL LL : Addr} {ni nt : Int} {pms : List (Int × Int × Str × Int)} {nds : List Nd} {ls : List Int}
theorem Box.off {o : HO} {l : Addr} (B : Box H b r rs) (hb : b ≠ l) (hr : r ≠ l) : Box (upd H l o) b r rs := by
  obtain ⟨z, h0, h⟩ := B.ex
  exact ⟨⟨z, h0, by rw [upd_ne hb]; exact h⟩, by rw [upd_ne hr]; exact B.row⟩
theorem exc_one (l : Addr) (o : HO) : Exc [l] H (upd H l o) := fun c x nm h => by
  rw [upd_ne (show c ≠ l from fun z => nm (by rw [z]; exact .head _))]
  exact h
theorem one_lst {l : Addr} {xs : List V} (h : H l = some (.lst xs)) : ∀ c ∈ [l], ∃ ys, H c = some (.lst ys) := fun c hc => by
  rw [List.mem_singleton] at hc
  subst hc
  exact ⟨_, h⟩
/-- one more parameter -/
theorem G.addPm (g : G H b r rs n PL NL LL ni nt pms nds ls) {pr : List Addr} {a : Addr} {m : Int × Int × Str × Int} (p1 : H PL = some (.lst (pr.map V.ref))) (p2 : All2 (PmV H) pr pms) (hm : PmV H a m) :
    G (upd H PL (.lst (pr.map V.ref ++ [.ref a]))) b r rs n PL NL LL ni nt (pms ++ [m]) nds ls := by
  have x := exc_one (H := H) PL (.lst (pr.map V.ref ++ [.ref a]))
  have hS := one_lst p1
  obtain ⟨nr, n1, n2⟩ := g.nod
  refine ⟨g.box.off g.dis.bp g.dis.rp, by rw [upd_ne g.dis.np]; exact g.net, ⟨pr ++ [a], by rw [upd_same, List.map_append]; rfl, (p2.mono fun _ _ q => q.exc x hS).snoc (hm.exc x hS)⟩, ⟨nr, by rw [upd_ne g.dis.pd.symm]; exact n1, n2.mono fun _ _ q => NdT.exc x hS q⟩, by rw [upd_ne g.dis.pl.symm]; exact g.len, g.dis⟩
end
/-! what is good: a node behind nodes of known lengths, a network -/
def Good (ni nt : Int) (pms : List (Int × Int × Str × Int)) (ls : List Int) (d : Nd) (len : Int) : Prop := d.lenOf ni nt (sides pms) ls = some len ∧ 1 ≤ len ∧ len ≤ 12 ∧ d.tame
structure Built (ni nt : Int) (pms : List (Int × Int × Str × Int)) (nds : List Nd) (ls : List Int) : Prop where
  ni1 : 1 ≤ ni
  ni3 : ni ≤ 3
  nt1 : 1 ≤ nt
  nt2 : nt ≤ 2
  pok : ∀ m ∈ pms, PmOk m
  few : pms.length ≤ 4
  len : lensFrom ni nt (sides pms) [] nds = ls
  all : ls.length = nds.length
  bnd : ∀ l ∈ ls, 1 ≤ l ∧ l ≤ 12
  tam : ∀ d ∈ nds, d.tame
theorem pget_app {ps more : List (Int × Int)} {p : Int} (h : inR p ps.length) : pget (ps ++ more) p = pget ps p := by
  obtain ⟨h0, h1⟩ := h
  unfold pget
  rw [List.getD_eq_getElem?_getD, List.getD_eq_getElem?_getD, List.getElem?_append_left (by omega)]
theorem parIn_app {o : Option Int} {np m : Nat} (h : parIn o np) : parIn o (np + m) := by
  cases o with
  | none => exact True.intro
  | some p => exact ⟨h.1, by have := h.2; omega⟩
theorem len_app (ni nt : Int) (ps more : List (Int × Int)) (ls : List Int) (d : Nd) (h : parIn d.par ps.length) : d.len ni nt (ps ++ more) ls = d.len ni nt ps ls := by
  cases d with
  | lin p a => simp only [Nd.len]; rw [pget_app h]
  | bias p a => simp only [Nd.len]; rw [pget_app h]
  | embed p lo n => simp only [Nd.len]; rw [pget_app h]
  | _ => rfl
theorem lenOf_app {ni nt : Int} {ps more : List (Int × Int)} {ls : List Int} {d : Nd} {n : Int} (h : d.lenOf ni nt ps ls = some n) : d.lenOf ni nt (ps ++ more) ls = some n := by
  unfold Nd.lenOf at h ⊢
  by_cases hf : d.fits ps.length ls.length
  · rw [if_pos hf] at h
    rw [if_pos ⟨by rw [List.length_append]; exact parIn_app hf.1, hf.2⟩, len_app ni nt ps more ls d hf.1]
    exact h
  · rw [if_neg hf] at h
    cases h
theorem lensFrom_app {ni nt : Int} {ps more : List (Int × Int)} : ∀ (nds : List Nd) (ks : List Int), (lensFrom ni nt ps ks nds).length = ks.length + nds.length → lensFrom ni nt (ps ++ more) ks nds = lensFrom ni nt ps ks nds
  | [], ks, _ => rfl
  | d :: t, ks, h => by
    unfold lensFrom at h ⊢
    cases e : d.lenOf ni nt ps ks with
    | none =>
      rw [e] at h
      rw [List.length_cons] at h
      exact absurd h (by show ¬ ks.length = _; omega)
    | some n =>
      rw [e] at h
      rw [lenOf_app e]
      refine lensFrom_app t (ks ++ [n]) ?_
      rw [show (match some n with | none => ks | some n => lensFrom ni nt ps (ks ++ [n]) t) = lensFrom ni nt ps (ks ++ [n]) t from rfl] at h
      rw [h, List.length_append, List.length_singleton, List.length_cons]
      omega
theorem lensFrom_snoc {ni nt : Int} {ps : List (Int × Int)} {d : Nd} {n : Int} : ∀ (nds : List Nd) (ks : List Int), (lensFrom ni nt ps ks nds).length = ks.length + nds.length → d.lenOf ni nt ps (lensFrom ni nt ps ks nds) = some n →
    lensFrom ni nt ps ks (nds ++ [d]) = lensFrom ni nt ps ks nds ++ [n]
  | [], ks, _, e => by
    show (match d.lenOf ni nt ps ks with | none => ks | some n => lensFrom ni nt ps (ks ++ [n]) []) = _
    rw [show d.lenOf ni nt ps ks = some n from e]
    rfl
  | c :: t, ks, h, e => by
    rw [List.cons_append]
    unfold lensFrom at h e ⊢
    cases z : c.lenOf ni nt ps ks with
    | none =>
      rw [z, List.length_cons] at h
      exact absurd h (by show ¬ ks.length = _; omega)
    | some m =>
      rw [z] at h e
      refine lensFrom_snoc t (ks ++ [m]) ?_ e
      rw [show (match some m with | none => ks | some n => lensFrom ni nt ps (ks ++ [n]) t) = lensFrom ni nt ps (ks ++ [m]) t from rfl] at h
      rw [h, List.length_append, List.length_singleton, List.length_cons]
      omega
theorem Built.grow {ni nt : Int} {pms : List (Int × Int × Str × Int)} {nds : List Nd} {ls : List Int} {m : Int × Int × Str × Int} (u : Built ni nt pms nds ls) (hm : PmOk m) (h4 : pms.length < 4) : Built ni nt (pms ++ [m]) nds ls := by
  refine ⟨u.ni1, u.ni3, u.nt1, u.nt2, fun x hx => ?_, by rw [List.length_append, List.length_singleton]; omega, ?_, u.all, u.bnd, u.tam⟩
  · rcases List.mem_append.mp hx with z | z
    · exact u.pok x z
    · rw [List.mem_singleton] at z
      rw [z]
      exact hm
  · rw [sides_app, lensFrom_app nds [] (by rw [u.len, u.all]; simp)]
    exact u.len
theorem Built.snoc {ni nt : Int} {pms : List (Int × Int × Str × Int)} {nds : List Nd} {ls : List Int} {d : Nd} {len : Int} (u : Built ni nt pms nds ls) (g : Good ni nt pms ls d len) : Built ni nt pms (nds ++ [d]) (ls ++ [len]) := by
  refine ⟨u.ni1, u.ni3, u.nt1, u.nt2, u.pok, u.few, ?_, by rw [List.length_append, List.length_append, u.all]; rfl, fun x hx => ?_, fun x hx => ?_⟩
  · rw [lensFrom_snoc nds [] (by rw [u.len, u.all]; simp) (by rw [u.len]; exact g.1), u.len]
  · rcases List.mem_append.mp hx with z | z
    · exact u.bnd x z
    · rw [List.mem_singleton] at z
      rw [z]
      exact ⟨g.2.1, g.2.2.1⟩
  · rcases List.mem_append.mp hx with z | z
    · exact u.tam x z
    · rw [List.mem_singleton] at z
      rw [z]
      exact g.2.2.2
/-! promises -/
def spDivisors : Sp := fun vs H Q _ => ∃ n most : Int, vs = [.int n, .int most] ∧ 1 ≤ most ∧ most ≤ 12 ∧
  ∀ (p : Addr) (ds : List Int) (H' : Hp), H p = none → Same H H' → H' p = some (.lst (ds.map V.int)) → (∀ d ∈ ds, 1 ≤ d ∧ d ≤ most ∧ n % d = 0) → 0 < ds.length → Q (.ref p) H'
def spParam : Sp := fun vs H Q _ => ∃ (b r : Addr) (rs : List Int) (n PL NL LL : Addr) (ni nt : Int) (pms : List (Int × Int × Str × Int)) (nds : List Nd) (ls : List Int) (rows cols : Int), vs = [.ref b, .ref n, .int rows, .int cols] ∧
  G H b r rs n PL NL LL ni nt pms nds ls ∧ Built ni nt pms nds ls ∧ 1 ≤ rows ∧ rows ≤ 6 ∧ 1 ≤ cols ∧ cols ≤ 6 ∧
  ∀ (p : Int) (more : List (Int × Int × Str × Int)) (H' : Hp), G H' b r rs n PL NL LL ni nt (pms ++ more) nds ls → Built ni nt (pms ++ more) nds ls → Exc [b, PL] H H' →
    (p < 0 ∨ (inR p (pms ++ more).length ∧ pget (sides (pms ++ more)) p = (rows, cols))) → Q (.int p) H'
/-- what a maker of nodes hands back: None, or a pair of a node and its length -/
def Found (H : Hp) (ni nt : Int) (pms : List (Int × Int × Str × Int)) (ls : List Int) (v : V) : Prop := ∃ (t a : Addr) (d : Nd) (len : Int), v = .ref t ∧ H t = some (.tup [.ref a, .int len]) ∧ H a = some (.tup d.enc) ∧ Good ni nt pms ls d len
def spMake (extra : List Int → List V → Prop) : Sp := fun vs H Q _ => ∃ (b r : Addr) (rs : List Int) (n PL NL LL : Addr) (ni nt : Int) (pms : List (Int × Int × Str × Int)) (nds : List Nd) (ls : List Int) (us : List V), vs = .ref b :: .ref n :: us ∧ extra ls us ∧
  G H b r rs n PL NL LL ni nt pms nds ls ∧ Built ni nt pms nds ls ∧ ls.length ≤ 1000 ∧
  ∀ (v : V) (more : List (Int × Int × Str × Int)) (H' : Hp), G H' b r rs n PL NL LL ni nt (pms ++ more) nds ls → Built ni nt (pms ++ more) nds ls → Exc [b, PL] H H' → (v = .non ∨ Found H' ni nt (pms ++ more) ls v) → Q v H'
theorem G.at {H : Hp} {b r : Addr} {rs : List Int} {n PL NL LL : Addr} {ni nt : Int} {pms : List (Int × Int × Str × Int)} {nds : List Nd} {ls : List Int} {p : Int} (g : G H b r rs n PL NL LL ni nt pms nds ls) (hp : inR p pms.length) :
    ∃ (pr : List Addr) (a f : Addr) (m : Int × Int × Str × Int), H PL = some (.lst (pr.map V.ref)) ∧ atI (pr.map V.ref) p = some (.ref a) ∧ H a = some (.tup [.int (pget (sides pms) p).1, .int (pget (sides pms) p).2, .ref f]) ∧ H f = some (.tup [.str m.2.2.1, .int m.2.2.2]) ∧ pms[p.toNat]? = some m := by
  obtain ⟨pr, p1, p2⟩ := g.par
  obtain ⟨h0, h1⟩ := hp
  have hk : p.toNat < pms.length := by omega
  have ek : p = ((p.toNat : Nat) : Int) := by omega
  have em : pms[p.toNat]? = some pms[p.toNat] := List.getElem?_eq_getElem hk
  obtain ⟨a, ea, f, m1, m2⟩ := p2.get em
  have eg : pget (sides pms) p = (pms[p.toNat].1, pms[p.toNat].2.1) := by
    unfold pget sides
    rw [List.getD_eq_getElem?_getD, List.getElem?_map, em]
    rfl
  refine ⟨pr, a, f, pms[p.toNat], p1, ?_, by rw [eg]; exact m1, m2, em⟩
  have z : atI (pr.map V.ref) ((p.toNat : Nat) : Int) = some (.ref a) := atI_nat (by rw [List.getElem?_map, ea] <;> rfl)
  rwa [← ek] at z
theorem good_of {ni nt : Int} {pms : List (Int × Int × Str × Int)} {ls : List Int} {d : Nd} {len : Int} (hp : parIn d.par pms.length) (ho : ∀ o ∈ d.ops, inR o ls.length) (hl : d.len ni nt (sides pms) ls = some len) (h1 : 1 ≤ len) (h2 : len ≤ 12) (ht : d.tame) : Good ni nt pms ls d len :=
  ⟨by unfold Nd.lenOf; rw [if_pos ⟨by rw [sides_len]; exact hp, ho⟩]; exact hl, h1, h2, ht⟩
def allKinds : List Str := ["input", "target", "lin", "bias", "embed", "mat", "matT", "lower", "add", "sub", "mul", "scale", "shift", "relu", "drop", "sum", "join", "take"]
def spNode (K : PySem.W.Frag) : Sp := fun vs H Q _ => ∃ (b r : Addr) (rs : List Int) (n PL NL LL : Addr) (ni nt : Int) (pms : List (Int × Int × Str × Int)) (nds : List Nd) (ls : List Int) (ks : Addr) (kl : List Str), vs = [.ref b, .ref n, .ref ks] ∧
  SqL K H ks (kl.map V.str) ∧ (∀ k ∈ kl, k ∈ allKinds) ∧ 0 < kl.length ∧ G H b r rs n PL NL LL ni nt pms nds ls ∧ Built ni nt pms nds ls ∧ ls.length ≤ 1000 ∧
  ∀ (v : V) (more : List (Int × Int × Str × Int)) (H' : Hp), G H' b r rs n PL NL LL ni nt (pms ++ more) nds ls → Built ni nt (pms ++ more) nds ls → Exc [b, PL] H H' → Found H' ni nt (pms ++ more) ls v → Q v H'
theorem at_strs {kl : List Str} {i : Int} (h : inR i kl.length) : ∃ k, k ∈ kl ∧ atI (kl.map V.str) i = some (.str k) := by
  obtain ⟨h0, h1⟩ := h
  have hk : i.toNat < kl.length := by omega
  have ek : i = ((i.toNat : Nat) : Int) := by omega
  refine ⟨kl[i.toNat], List.getElem_mem hk, ?_⟩
  have z : atI (kl.map V.str) ((i.toNat : Nat) : Int) = some (.str kl[i.toNat]) := atI_nat (by rw [List.getElem?_map, List.getElem?_eq_getElem hk] <;> rfl)
  rwa [← ek] at z
section
variable {H H' : Hp} {b r : Addr} {rs : List Int} {n PL NL LL : Addr} {ni nt : Int} {pms : List (Int × Int × Str × Int)} {nds : List Nd} {ls : List Int}
theorem G.addNd (g : G H b r rs n PL NL LL ni nt pms nds ls) {nr : List Addr} {a : Addr} {d : Nd} (n1 : H NL = some (.lst (nr.map V.ref))) (n2 : All2 (NdT H) nr nds) (hd : NdT H a d) :
    G (upd H NL (.lst (nr.map V.ref ++ [.ref a]))) b r rs n PL NL LL ni nt pms (nds ++ [d]) ls := by
  have x := exc_one (H := H) NL (.lst (nr.map V.ref ++ [.ref a]))
  have hS := one_lst n1
  obtain ⟨pr, p1, p2⟩ := g.par
  exact ⟨g.box.off g.dis.bd g.dis.rd, by rw [upd_ne g.dis.nd]; exact g.net, ⟨pr, by rw [upd_ne g.dis.pd]; exact p1, p2.mono fun _ _ q => q.exc x hS⟩, ⟨nr ++ [a], by rw [upd_same, List.map_append]; rfl, (n2.mono fun _ _ q => NdT.exc x hS q).snoc (NdT.exc x hS hd)⟩,
    by rw [upd_ne g.dis.dl.symm]; exact g.len, g.dis⟩
theorem G.addLen (g : G H b r rs n PL NL LL ni nt pms nds ls) (z : Int) : G (upd H LL (.lst (ls.map V.int ++ [.int z]))) b r rs n PL NL LL ni nt pms nds (ls ++ [z]) := by
  have x := exc_one (H := H) LL (.lst (ls.map V.int ++ [.int z]))
  have hS := one_lst g.len
  obtain ⟨pr, p1, p2⟩ := g.par
  obtain ⟨nr, n1, n2⟩ := g.nod
  exact ⟨g.box.off g.dis.bl g.dis.rl, by rw [upd_ne g.dis.nl]; exact g.net, ⟨pr, by rw [upd_ne g.dis.pl]; exact p1, p2.mono fun _ _ q => q.exc x hS⟩, ⟨nr, by rw [upd_ne g.dis.dl]; exact n1, n2.mono fun _ _ q => NdT.exc x hS q⟩, map_more _ _, g.dis⟩
theorem Exc.fresh {H1 H2 : Hp} {S : List Addr} (x : Exc [b] H H1) (y : Exc S H1 H2) (h : ∀ c ∈ S, c = b ∨ H c = none) : Exc [b] H H2 := fun c o nc hc => by
  refine y c o (fun z => ?_) (x c o nc hc)
  rcases h c z with e | e
  · exact nc (by rw [e]; exact .head _)
  · rw [hc] at e; cases e
theorem Box.strs {K : PySem.W.Frag} {ks : Addr} {kl : List Str} (B : Box H b r rs) (h : SqL K H ks (kl.map V.str)) (hn : 0 < kl.length) (e : Exc [b] H H') : SqL K H' ks (kl.map V.str) := by
  obtain ⟨z0, _, hb⟩ := B.ex
  rcases h with (h | ⟨o, h⟩) | h
  · refine .inl (.inl (e _ _ (fun z => ?_) h))
    rw [List.mem_singleton] at z
    rw [z, hb] at h
    cases kl with
    | nil => cases hn
    | cons k t => cases h
  · refine .inl (.inr ⟨o, e _ _ (fun z => ?_) h⟩)
    rw [List.mem_singleton] at z
    rw [z, hb] at h
    cases h
  · exact .inr h
end
def spNet (K : PySem.W.Frag) : Sp := fun vs H Q _ => ∃ (b r : Addr) (rs : List Int) (ks : Addr) (kl : List Str) (most : Int), vs = [.ref b, .ref ks, .int most] ∧ Box H b r rs ∧ SqL K H ks (kl.map V.str) ∧ (∀ k ∈ kl, k ∈ allKinds) ∧ 0 < kl.length ∧ 1 ≤ most ∧ most ≤ 100 ∧
  ∀ (n PL NL LL : Addr) (ni nt : Int) (pms : List (Int × Int × Str × Int)) (nds : List Nd) (ls : List Int) (H' : Hp), G H' b r rs n PL NL LL ni nt pms nds ls → Built ni nt pms nds ls → (∃ l0, ls = l0 ++ [1]) → (nds.length : Int) ≤ most + 1 → Exc [b] H H' → H n = none → H PL = none → H NL = none → H LL = none → Q (.ref n) H'

section
variable {P : Program} {w : World} {K : PySem.W.Frag} {mg : Str → Option Value} {cs : Cs} {base : Heap} {f : Addr} {fd : FuncData}
theorem ok_is_multiple (F : Fun K "is_multiple" "is_multiple" s_is_multiple f fd) (T : Txt K mg cs w)  :
    FnOk P w K mg base CX0 1 f fd ["n", "c"] (spMult) := by
  refine F.ok sc_is_multiple (fun vs H Q E h => ?_) (fun cdv A outer s H vs Q E hr h => ?_)
  · obtain ⟨n, c, rfl, q⟩ := h
    rfl
  obtain ⟨n, c, rfl, q⟩ := h
  have hu := hr.units
  refine ⟨_, pss_one (ps_ret (pe_and (pe_cmpR op_gt (pv 1) pe_int (nomark _)) (pe_one (pe_cmpR op_eq (pe_op op_mod (pv 0) (pv 1)) pe_int (nomark _))))), ?_⟩
  walk_at "go"
  refine ite2 (fun h => ?_) (fun h => ?_)
  · have h' : 0 < c := of_decide_eq_true h
    walk_at "go"
    refine ⟨h', ?_⟩
    walk_at "go"
    have e : decide (V.int (n % c) = V.int 0) = decide (mult n c) := decide_eq_decide.mpr ⟨fun z => ⟨h', V.int.inj z⟩, fun z => congrArg V.int z.2⟩
    show Q (.bl (decide (V.int (n % c) = V.int 0))) H
    rw [e]
    exact q
  · have e : decide (mult n c) = false := decide_eq_false fun z => h (decide_eq_true z.1)
    rw [e] at q
    exact q
theorem ok_is_inside (F : Fun K "is_inside" "is_inside" s_is_inside f fd) (T : Txt K mg cs w)  :
    FnOk P w K mg base CX0 1 f fd ["lo", "n", "length"] (spInside) := by
  refine F.ok sc_is_inside (fun vs H Q E h => ?_) (fun cdv A outer s H vs Q E hr h => ?_)
  · obtain ⟨lo, n, l, rfl, q⟩ := h
    rfl
  obtain ⟨lo, n, l, rfl, q⟩ := h
  have hu := hr.units
  refine ⟨_, pss_one (ps_ret (pe_and (pe_cmpR op_ge (pv 1) pe_int (nomark _)) (pe_and (pe_cmpR op_ge (pv 0) pe_int (nomark _)) (pe_one (pe_cmpR op_le (pe_op op_add (pv 0) (pv 1)) (pv 2) (nomark _)))))), ?_⟩
  walk_at "go"
  refine ite2 (fun h => ?_) (fun h => ?_)
  · have h' : 1 ≤ n := of_decide_eq_true h
    walk_at "go"
    refine ite2 (fun h2 => ?_) (fun h2 => ?_)
    · have h2' : 0 ≤ lo := of_decide_eq_true h2
      walk_at "go"
      have e : decide (lo + n ≤ l) = decide (inside lo n l) := decide_eq_decide.mpr ⟨fun z => ⟨h', h2', z⟩, fun z => z.2.2⟩
      show Q (.bl (decide (lo + n ≤ l))) H
      rw [e]
      exact q
    · have e : decide (inside lo n l) = false := decide_eq_false fun z => h2 (decide_eq_true z.2.1)
      rw [e] at q
      exact q
  · have e : decide (inside lo n l) = false := decide_eq_false fun z => h (decide_eq_true z.1)
    rw [e] at q
    exact q
theorem ok_is_word (F : Fun K "is_word" "is_word" s_is_word f fd) (T : Txt K mg cs w)  :
    FnOk P w K mg base CX0 1 f fd ["n"] (spIsWord) := by
  obtain ⟨_, g_LEAST⟩ := T.g_LEAST
  obtain ⟨_, g_GREATEST⟩ := T.g_GREATEST
  refine F.ok sc_is_word (fun vs H Q E h => ?_) (fun cdv A outer s H vs Q E hr h => ?_)
  · obtain ⟨n, rfl, q⟩ := h
    rfl
  obtain ⟨n, rfl, q⟩ := h
  have hu := hr.units
  refine ⟨_, pss_one (ps_ret (pe_chain op_le op_le (pe_glob (v := .int (-2147483648)) rfl g_LEAST ⟨_, rfl⟩) (pv 0) (pe_glob (v := .int (2147483647)) rfl g_GREATEST ⟨_, rfl⟩))), ?_⟩
  walk_at "go"
  refine ite2 (fun h => ?_) (fun h => ?_)
  · have h' : -2147483648 ≤ n := of_decide_eq_true h
    walk_at "go"
    have e : decide (n ≤ 2147483647) = decide (-2147483648 ≤ n ∧ n ≤ 2147483647) := decide_eq_decide.mpr ⟨fun z => ⟨h', z⟩, fun z => z.2⟩
    show Q (.bl (decide (n ≤ 2147483647))) H
    rw [e]
    exact q
  · have e : decide (-2147483648 ≤ n ∧ n ≤ 2147483647) = false := decide_eq_false fun z => h (decide_eq_true z.1)
    rw [e] at q
    exact q
theorem ok__of_inputs (F : Fun K "_of_inputs" "_of_inputs" s__of_inputs f fd) (T : Txt K mg cs w)  :
    FnOk P w K mg base CX0 1 f fd ["net", "known", "node"] (spRule K cs (· = .input)) := by
  refine F.ok sc__of_inputs (fun vs H Q E h => ?_) (fun cdv A outer s H vs Q E hr h => ?_)
  · obtain ⟨qn, l, a, ni, nt, ps, ls, d, rfl, hd, N, hL, hA, hf, tm, td, q⟩ := h
    rfl
  obtain ⟨qn, l, a, ni, nt, ps, ls, d, rfl, hd, N, hL, hA, hf, tm, td, q⟩ := h
  have hu := hr.units
  refine ⟨_, pss_one (ps_ret (pe_fld_at (K := K) rfl (pv 0) rfl)), ?_⟩
  obtain ⟨dx, fs, PP, pr, n1, n2, n3, n4, n5, n6⟩ := N.ex
  subst hd
  exact ⟨_, rfl, qn, _, dx, fs, _, rfl, n1, T.C_Net, T.na_Net_inputs, n2, q⟩
theorem ok__of_targets (F : Fun K "_of_targets" "_of_targets" s__of_targets f fd) (T : Txt K mg cs w)  :
    FnOk P w K mg base CX0 1 f fd ["net", "known", "node"] (spRule K cs (· = .target)) := by
  refine F.ok sc__of_targets (fun vs H Q E h => ?_) (fun cdv A outer s H vs Q E hr h => ?_)
  · obtain ⟨qn, l, a, ni, nt, ps, ls, d, rfl, hd, N, hL, hA, hf, tm, td, q⟩ := h
    rfl
  obtain ⟨qn, l, a, ni, nt, ps, ls, d, rfl, hd, N, hL, hA, hf, tm, td, q⟩ := h
  have hu := hr.units
  refine ⟨_, pss_one (ps_ret (pe_fld_at (K := K) rfl (pv 0) rfl)), ?_⟩
  obtain ⟨dx, fs, PP, pr, n1, n2, n3, n4, n5, n6⟩ := N.ex
  subst hd
  exact ⟨_, rfl, qn, _, dx, fs, _, rfl, n1, T.C_Net, T.na_Net_targets, n3, q⟩
theorem ok__of_lin (F : Fun K "_of_lin" "_of_lin" s__of_lin f fd) (T : Txt K mg cs w) (d_is_multiple : Def P w K mg base 1 "is_multiple" ["n", "c"] (spMult)) :
    FnOk P w K mg base CX0 2 f fd ["net", "known", "node"] (spRule K cs fun d => ∃ p a, d = .lin p a) := by
  obtain ⟨f0, fd0, G_is_multiple, b_is_multiple, g_is_multiple, k_is_multiple⟩ := d_is_multiple.ex
  refine F.ok sc__of_lin (fun vs H Q E h => ?_) (fun cdv A outer s H vs Q E hr h => ?_)
  · obtain ⟨qn, l, a, ni, nt, ps, ls, d, rfl, hd, N, hL, hA, hf, tm, td, q⟩ := h
    rfl
  obtain ⟨qn, l, a, ni, nt, ps, ls, d, rfl, hd, N, hL, hA, hf, tm, td, q⟩ := h
  have hu := hr.units
  refine ⟨_, pss_cons (ps_asg (pv 2) (pg_tup rfl (pgs_cons (pg_name (i := 3) sc__of_lin.nd rfl (.inl rfl)) (pgs_cons (pg_name (i := 4) sc__of_lin.nd rfl (.inl rfl)) (pgs_cons (pg_name (i := 5) sc__of_lin.nd rfl (.inl rfl)) pgs_nil)))))
 (pss_cons (ps_set (i := 6) sc__of_lin.nd rfl (.inl rfl) (pe_ix (ixl_at (K := K) rfl) (pe_fld_at (K := K) rfl (pv 0) rfl) (pv 4) (fun _ _ => rfl)))
 (pss_cons (ps_if (pt_not (pt_val (pe_call G_is_multiple hr rfl g_is_multiple k_is_multiple b_is_multiple .nil pass0 (pa_cons (pe_ix (ixl_at (K := K) rfl) (pv 1) (pv 5) (fun _ _ => rfl)) (pa_cons (pe_fld_at (K := K) rfl (pv 6) rfl) pa_nil))))) (pss_one (ps_ret pe_non)) pss_nil)
 (pss_one (ps_ret (pe_op op_mul (pe_op op_fdiv (pe_ix (ixl_at (K := K) rfl) (pv 1) (pv 5) (fun _ _ => rfl)) (pe_fld_at (K := K) rfl (pv 6) rfl)) (pe_fld_at (K := K) rfl (pv 6) rfl)))))), ?_⟩
  obtain ⟨dx, fs, PP, pr, n1, n2, n3, n4, n5, n6⟩ := N.ex
  obtain ⟨p, o, rfl⟩ := hd
  have hp : inR p ps.length := hf.1
  have ho : inR o ls.length := hf.2 o (.head _)
  obtain ⟨b, eb, dy, gs, p1, p2, p3⟩ := at_pars n6 hp
  obtain ⟨r0, r1, c0, c1⟩ := tm.par _ (pget_mem hp)
  refine ⟨_, rfl, a, _, rfl, hA, rfl, _, _, rfl, _, _, rfl, _, _, rfl, rfl, ?_⟩
  refine ⟨_, rfl, qn, _, dx, fs, _, rfl, n1, T.C_Net, T.na_Net_parameters, n4, _, rfl, PP, _, _, _, rfl, rfl, SqL.of n5, eb, ?_⟩
  refine ⟨_, rfl, _, rfl, l, _, _, _, rfl, rfl, hL, at_ints ho, ?_⟩
  refine ⟨_, rfl, b, _, dy, gs, _, rfl, p1, T.C_Parameter, T.na_Parameter_rows, p2, ?_⟩
  walk_at "go"
  by_cases hm : mult (lget ls o) (pget ps p).1
  · have e : Nd.len ni nt ps ls (.lin p o) = some (lget ls o / (pget ps p).1 * (pget ps p).2) := if_pos hm
    rw [e] at q
    refine iteNS hm ?_
    refine ⟨_, rfl, _, rfl, l, _, _, _, rfl, rfl, hL, at_ints ho, ?_⟩
    refine ⟨_, rfl, b, _, dy, gs, _, rfl, p1, T.C_Parameter, T.na_Parameter_rows, p2, _, _, rfl, rfl, ⟨hm.1, by omega⟩, ?_⟩
    refine ⟨_, rfl, b, _, dy, gs, _, rfl, p1, T.C_Parameter, T.na_Parameter_cols, p3, _, _, rfl, rfl, .inr ⟨by omega, by omega⟩, ?_⟩
    exact q
  · have e : Nd.len ni nt ps ls (.lin p o) = none := if_neg hm
    rw [e] at q
    refine iteNN hm ?_
    exact q
theorem ok__of_bias (F : Fun K "_of_bias" "_of_bias" s__of_bias f fd) (T : Txt K mg cs w) (d_is_multiple : Def P w K mg base 1 "is_multiple" ["n", "c"] (spMult)) :
    FnOk P w K mg base CX0 2 f fd ["net", "known", "node"] (spRule K cs fun d => ∃ p a, d = .bias p a) := by
  obtain ⟨f0, fd0, G_is_multiple, b_is_multiple, g_is_multiple, k_is_multiple⟩ := d_is_multiple.ex
  refine F.ok sc__of_bias (fun vs H Q E h => ?_) (fun cdv A outer s H vs Q E hr h => ?_)
  · obtain ⟨qn, l, a, ni, nt, ps, ls, d, rfl, hd, N, hL, hA, hf, tm, td, q⟩ := h
    rfl
  obtain ⟨qn, l, a, ni, nt, ps, ls, d, rfl, hd, N, hL, hA, hf, tm, td, q⟩ := h
  have hu := hr.units
  refine ⟨_, pss_cons (ps_asg (pv 2) (pg_tup rfl (pgs_cons (pg_name (i := 3) sc__of_bias.nd rfl (.inl rfl)) (pgs_cons (pg_name (i := 4) sc__of_bias.nd rfl (.inl rfl)) (pgs_cons (pg_name (i := 5) sc__of_bias.nd rfl (.inl rfl)) pgs_nil)))))
 (pss_cons (ps_set (i := 6) sc__of_bias.nd rfl (.inl rfl) (pe_ix (ixl_at (K := K) rfl) (pe_fld_at (K := K) rfl (pv 0) rfl) (pv 4) (fun _ _ => rfl)))
 (pss_cons (ps_if (PW.pt (pw_or (pt_cmpR op_ne (pe_fld_at (K := K) rfl (pv 6) rfl) pe_int (nomark _)) (pw_or1 (pt_not (pt_val (pe_call G_is_multiple hr rfl g_is_multiple k_is_multiple b_is_multiple .nil pass0 (pa_cons (pe_ix (ixl_at (K := K) rfl) (pv 1) (pv 5) (fun _ _ => rfl)) (pa_cons (pe_fld_at (K := K) rfl (pv 6) rfl) pa_nil)))))))) (pss_one (ps_ret pe_non)) pss_nil)
 (pss_one (ps_ret (pe_ix (ixl_at (K := K) rfl) (pv 1) (pv 5) (fun _ _ => rfl)))))), ?_⟩
  obtain ⟨dx, fs, PP, pr, n1, n2, n3, n4, n5, n6⟩ := N.ex
  obtain ⟨p, o, rfl⟩ := hd
  have hp : inR p ps.length := hf.1
  have ho : inR o ls.length := hf.2 o (.head _)
  obtain ⟨b, eb, dy, gs, p1, p2, p3⟩ := at_pars n6 hp
  refine ⟨_, rfl, a, _, rfl, hA, rfl, _, _, rfl, _, _, rfl, _, _, rfl, rfl, ?_⟩
  refine ⟨_, rfl, qn, _, dx, fs, _, rfl, n1, T.C_Net, T.na_Net_parameters, n4, _, rfl, PP, _, _, _, rfl, rfl, SqL.of n5, eb, ?_⟩
  refine ⟨_, rfl, b, _, dy, gs, _, rfl, p1, T.C_Parameter, T.na_Parameter_rows, p2, ?_⟩
  walk_at "go"
  by_cases h1 : (pget ps p).1 = 1
  · refine iteNS (congrArg V.int h1) ?_
    refine ⟨_, rfl, _, rfl, l, _, _, _, rfl, rfl, hL, at_ints ho, ?_⟩
    refine ⟨_, rfl, b, _, dy, gs, _, rfl, p1, T.C_Parameter, T.na_Parameter_cols, p3, ?_⟩
    walk_at "go"
    by_cases hm : mult (lget ls o) (pget ps p).2
    · have e : Nd.len ni nt ps ls (.bias p o) = some (lget ls o) := if_pos ⟨h1, hm⟩
      rw [e] at q
      refine iteNS hm ?_
      exact ⟨_, rfl, _, rfl, l, _, _, _, rfl, rfl, hL, at_ints ho, q⟩
    · have e : Nd.len ni nt ps ls (.bias p o) = none := if_neg fun z => hm z.2
      rw [e] at q
      refine iteNN hm ?_
      exact q
  · have e : Nd.len ni nt ps ls (.bias p o) = none := if_neg fun z => h1 z.1
    rw [e] at q
    refine iteNN (fun z => h1 (V.int.inj z)) ?_
    exact q
theorem ok__of_embed (F : Fun K "_of_embed" "_of_embed" s__of_embed f fd) (T : Txt K mg cs w) (d_is_inside : Def P w K mg base 1 "is_inside" ["lo", "n", "length"] (spInside)) :
    FnOk P w K mg base CX0 2 f fd ["net", "known", "node"] (spRule K cs fun d => ∃ p lo n, d = .embed p lo n) := by
  obtain ⟨f0, fd0, G_is_inside, b_is_inside, g_is_inside, k_is_inside⟩ := d_is_inside.ex
  refine F.ok sc__of_embed (fun vs H Q E h => ?_) (fun cdv A outer s H vs Q E hr h => ?_)
  · obtain ⟨qn, l, a, ni, nt, ps, ls, d, rfl, hd, N, hL, hA, hf, tm, td, q⟩ := h
    rfl
  obtain ⟨qn, l, a, ni, nt, ps, ls, d, rfl, hd, N, hL, hA, hf, tm, td, q⟩ := h
  have hu := hr.units
  refine ⟨_, pss_cons (ps_asg (pv 2) (pg_tup rfl (pgs_cons (pg_name (i := 3) sc__of_embed.nd rfl (.inl rfl)) (pgs_cons (pg_name (i := 4) sc__of_embed.nd rfl (.inl rfl)) (pgs_cons (pg_name (i := 5) sc__of_embed.nd rfl (.inl rfl)) (pgs_cons (pg_name (i := 6) sc__of_embed.nd rfl (.inl rfl)) pgs_nil))))))
 (pss_cons (ps_if (pt_not (pt_val (pe_call G_is_inside hr rfl g_is_inside k_is_inside b_is_inside .nil pass0 (pa_cons (pv 5) (pa_cons (pv 6) (pa_cons (pe_fld_at (K := K) rfl (pv 0) rfl) pa_nil)))))) (pss_one (ps_ret pe_non)) pss_nil)
 (pss_one (ps_ret (pe_op op_mul (pv 6) (pe_fld_at (K := K) rfl (pe_ix (ixl_at (K := K) rfl) (pe_fld_at (K := K) rfl (pv 0) rfl) (pv 4) (fun _ _ => rfl)) rfl))))), ?_⟩
  obtain ⟨dx, fs, PP, pr, n1, n2, n3, n4, n5, n6⟩ := N.ex
  obtain ⟨p, lo, n, rfl⟩ := hd
  have hp : inR p ps.length := hf.1
  obtain ⟨b, eb, dy, gs, p1, p2, p3⟩ := at_pars n6 hp
  obtain ⟨r0, r1, c0, c1⟩ := tm.par _ (pget_mem hp)
  refine ⟨_, rfl, a, _, rfl, hA, rfl, _, _, rfl, _, _, rfl, _, _, rfl, _, _, rfl, rfl, ?_⟩
  refine ⟨_, rfl, _, rfl, _, rfl, qn, _, dx, fs, _, rfl, n1, T.C_Net, T.na_Net_inputs, n2, ?_⟩
  walk_at "go"
  by_cases hm : inside lo n ni
  · have e : Nd.len ni nt ps ls (.embed p lo n) = some (n * (pget ps p).2) := if_pos hm
    rw [e] at q
    refine iteNS hm ?_
    refine ⟨_, rfl, _, rfl, qn, _, dx, fs, _, rfl, n1, T.C_Net, T.na_Net_parameters, n4, _, rfl, PP, _, _, _, rfl, rfl, SqL.of n5, eb, ?_⟩
    refine ⟨b, _, dy, gs, _, rfl, p1, T.C_Parameter, T.na_Parameter_cols, p3, _, _, rfl, rfl, .inr ⟨by omega, by omega⟩, ?_⟩
    exact q
  · have e : Nd.len ni nt ps ls (.embed p lo n) = none := if_neg hm
    rw [e] at q
    refine iteNN hm ?_
    exact q
theorem ok__of_mat (F : Fun K "_of_mat" "_of_mat" s__of_mat f fd) (T : Txt K mg cs w) (d_is_multiple : Def P w K mg base 1 "is_multiple" ["n", "c"] (spMult)) :
    FnOk P w K mg base CX0 2 f fd ["net", "known", "node"] (spRule K cs fun d => ∃ k a b, d = .mat k a b ∨ d = .matT k a b) := by
  obtain ⟨f0, fd0, G_is_multiple, b_is_multiple, g_is_multiple, k_is_multiple⟩ := d_is_multiple.ex
  refine F.ok sc__of_mat (fun vs H Q E h => ?_) (fun cdv A outer s H vs Q E hr h => ?_)
  · obtain ⟨qn, l, a, ni, nt, ps, ls, d, rfl, hd, N, hL, hA, hf, tm, td, q⟩ := h
    rfl
  obtain ⟨qn, l, a, ni, nt, ps, ls, d, rfl, hd, N, hL, hA, hf, tm, td, q⟩ := h
  have hu := hr.units
  refine ⟨_, pss_cons (ps_asg (pv 2) (pg_tup rfl (pgs_cons (pg_name (i := 3) sc__of_mat.nd rfl (.inl rfl)) (pgs_cons (pg_name (i := 4) sc__of_mat.nd rfl (.inl rfl)) (pgs_cons (pg_name (i := 5) sc__of_mat.nd rfl (.inl rfl)) (pgs_cons (pg_name (i := 6) sc__of_mat.nd rfl (.inl rfl)) pgs_nil))))))
 (pss_cons (ps_if (PW.pt (pw_or (pt_not (pt_val (pe_call G_is_multiple hr rfl g_is_multiple k_is_multiple b_is_multiple .nil pass0 (pa_cons (pe_ix (ixl_at (K := K) rfl) (pv 1) (pv 5) (fun _ _ => rfl)) (pa_cons (pv 4) pa_nil))))) (pw_or1 (pt_not (pt_val (pe_call G_is_multiple hr rfl g_is_multiple k_is_multiple b_is_multiple .nil pass0 (pa_cons (pe_ix (ixl_at (K := K) rfl) (pv 1) (pv 6) (fun _ _ => rfl)) (pa_cons (pv 4) pa_nil)))))))) (pss_one (ps_ret pe_non)) pss_nil)
 (pss_one (ps_ret (pe_op op_mulW (pe_op op_fdiv (pe_ix (ixl_at (K := K) rfl) (pv 1) (pv 5) (fun _ _ => rfl)) (pv 4)) (pe_op op_fdiv (pe_ix (ixl_at (K := K) rfl) (pv 1) (pv 6) (fun _ _ => rfl)) (pv 4)))))), ?_⟩
  obtain ⟨k, o, u, hd'⟩ := hd
  have hn : d.nums = [k, o, u] := by rcases hd' with rfl | rfl <;> rfl
  have ho : inR o ls.length := by rcases hd' with rfl | rfl <;> exact hf.2 o (.head _)
  have hu' : inR u ls.length := by rcases hd' with rfl | rfl <;> exact hf.2 u (.tail _ (.head _))
  have hk : k < 1000000 := by rcases hd' with rfl | rfl <;> exact td
  have e : d.len ni nt ps ls = (if mult (lget ls o) k ∧ mult (lget ls u) k then some (lget ls o / k * (lget ls u / k)) else none) := by rcases hd' with rfl | rfl <;> rfl
  have hA' : SqT K H a (.str d.kind :: [k, o, u].map V.int) := hn ▸ hA
  obtain ⟨o0, o1⟩ := tm.len _ (lget_mem ho)
  obtain ⟨u0, u1⟩ := tm.len _ (lget_mem hu')
  refine ⟨_, rfl, a, _, rfl, hA', rfl, _, _, rfl, _, _, rfl, _, _, rfl, _, _, rfl, rfl, ?_⟩
  refine ⟨_, rfl, _, rfl, l, _, _, _, rfl, rfl, hL, at_ints ho, ?_⟩
  walk_at "go"
  by_cases h1 : mult (lget ls o) k
  · refine iteNS h1 ?_
    refine ⟨_, rfl, _, rfl, l, _, _, _, rfl, rfl, hL, at_ints hu', ?_⟩
    walk_at "go"
    by_cases h2 : mult (lget ls u) k
    · rw [e, if_pos ⟨h1, h2⟩] at q
      obtain ⟨b0, b1⟩ := ediv_bd o0 o1 h1.1
      refine iteNS h2 ?_
      refine ⟨_, rfl, _, rfl, l, _, _, _, rfl, rfl, hL, at_ints ho, _, rfl, _, _, rfl, rfl, ⟨h1.1, by omega⟩, ?_⟩
      refine ⟨_, rfl, _, rfl, l, _, _, _, rfl, rfl, hL, at_ints hu', _, rfl, _, _, rfl, rfl, ⟨h1.1, by omega⟩, ?_⟩
      refine ⟨_, _, rfl, rfl, cap_mul b1 (ediv_bd u0 u1 h2.1).2, ?_⟩
      exact q
    · rw [e, if_neg fun z => h2 z.2] at q
      refine iteNN h2 ?_
      exact q
  · rw [e, if_neg fun z => h1 z.1] at q
    refine iteNN h1 ?_
    exact q
theorem ok__of_lower (F : Fun K "_of_lower" "_of_lower" s__of_lower f fd) (T : Txt K mg cs w) (d_is_multiple : Def P w K mg base 1 "is_multiple" ["n", "c"] (spMult)) :
    FnOk P w K mg base CX0 2 f fd ["net", "known", "node"] (spRule K cs fun d => ∃ c a, d = .lower c a) := by
  obtain ⟨f0, fd0, G_is_multiple, b_is_multiple, g_is_multiple, k_is_multiple⟩ := d_is_multiple.ex
  refine F.ok sc__of_lower (fun vs H Q E h => ?_) (fun cdv A outer s H vs Q E hr h => ?_)
  · obtain ⟨qn, l, a, ni, nt, ps, ls, d, rfl, hd, N, hL, hA, hf, tm, td, q⟩ := h
    rfl
  obtain ⟨qn, l, a, ni, nt, ps, ls, d, rfl, hd, N, hL, hA, hf, tm, td, q⟩ := h
  have hu := hr.units
  refine ⟨_, pss_cons (ps_asg (pv 2) (pg_tup rfl (pgs_cons (pg_name (i := 3) sc__of_lower.nd rfl (.inl rfl)) (pgs_cons (pg_name (i := 4) sc__of_lower.nd rfl (.inl rfl)) (pgs_cons (pg_name (i := 5) sc__of_lower.nd rfl (.inl rfl)) pgs_nil)))))
 (pss_one (ps_ret (pe_ifExp (pt_val (pe_call G_is_multiple hr rfl g_is_multiple k_is_multiple b_is_multiple .nil pass0 (pa_cons (pe_ix (ixl_at (K := K) rfl) (pv 1) (pv 5) (fun _ _ => rfl)) (pa_cons (pv 4) pa_nil)))) (pe_ix (ixl_at (K := K) rfl) (pv 1) (pv 5) (fun _ _ => rfl)) pe_non))), ?_⟩
  obtain ⟨c, o, rfl⟩ := hd
  have ho : inR o ls.length := hf.2 o (.head _)
  refine ⟨_, rfl, a, _, rfl, hA, rfl, _, _, rfl, _, _, rfl, _, _, rfl, rfl, ?_⟩
  refine ⟨_, rfl, _, rfl, l, _, _, _, rfl, rfl, hL, at_ints ho, ?_⟩
  walk_at "go"
  by_cases hm : mult (lget ls o) c
  · have e : Nd.len ni nt ps ls (.lower c o) = some (lget ls o) := if_pos hm
    rw [e] at q
    refine iteD hm ?_
    exact ⟨_, rfl, _, rfl, l, _, _, _, rfl, rfl, hL, at_ints ho, q⟩
  · have e : Nd.len ni nt ps ls (.lower c o) = none := if_neg hm
    rw [e] at q
    refine iteDN hm ?_
    exact q
theorem ok__of_pair (F : Fun K "_of_pair" "_of_pair" s__of_pair f fd) (T : Txt K mg cs w)  :
    FnOk P w K mg base CX0 1 f fd ["net", "known", "node"] (spRule K cs fun d => ∃ a b, d = .add a b ∨ d = .sub a b ∨ d = .mul a b) := by
  refine F.ok sc__of_pair (fun vs H Q E h => ?_) (fun cdv A outer s H vs Q E hr h => ?_)
  · obtain ⟨qn, l, a, ni, nt, ps, ls, d, rfl, hd, N, hL, hA, hf, tm, td, q⟩ := h
    rfl
  obtain ⟨qn, l, a, ni, nt, ps, ls, d, rfl, hd, N, hL, hA, hf, tm, td, q⟩ := h
  have hu := hr.units
  refine ⟨_, pss_cons (ps_asg (pv 2) (pg_tup rfl (pgs_cons (pg_name (i := 3) sc__of_pair.nd rfl (.inl rfl)) (pgs_cons (pg_name (i := 4) sc__of_pair.nd rfl (.inl rfl)) (pgs_cons (pg_name (i := 5) sc__of_pair.nd rfl (.inl rfl)) pgs_nil)))))
 (pss_one (ps_ret (pe_ifExp (pt_cmpR op_eq (pe_ix (ixl_at (K := K) rfl) (pv 1) (pv 4) (fun _ _ => rfl)) (pe_ix (ixl_at (K := K) rfl) (pv 1) (pv 5) (fun _ _ => rfl)) (nomark _)) (pe_ix (ixl_at (K := K) rfl) (pv 1) (pv 4) (fun _ _ => rfl)) pe_non))), ?_⟩
  obtain ⟨o, u, hd'⟩ := hd
  have hn : d.nums = [o, u] := by rcases hd' with rfl | rfl | rfl <;> rfl
  have ho : inR o ls.length := by rcases hd' with rfl | rfl | rfl <;> exact hf.2 o (.head _)
  have hu' : inR u ls.length := by rcases hd' with rfl | rfl | rfl <;> exact hf.2 u (.tail _ (.head _))
  have e : d.len ni nt ps ls = (if lget ls o = lget ls u then some (lget ls o) else none) := by rcases hd' with rfl | rfl | rfl <;> rfl
  have hA' : SqT K H a (.str d.kind :: [o, u].map V.int) := hn ▸ hA
  refine ⟨_, rfl, a, _, rfl, hA', rfl, _, _, rfl, _, _, rfl, _, _, rfl, rfl, ?_⟩
  refine ⟨_, rfl, _, rfl, l, _, _, _, rfl, rfl, hL, at_ints ho, ?_⟩
  refine ⟨_, rfl, _, rfl, l, _, _, _, rfl, rfl, hL, at_ints hu', ?_⟩
  walk_at "go"
  by_cases hm : lget ls o = lget ls u
  · rw [e, if_pos hm] at q
    refine iteD (congrArg V.int hm) ?_
    exact ⟨_, rfl, _, rfl, l, _, _, _, rfl, rfl, hL, at_ints ho, q⟩
  · rw [e, if_neg hm] at q
    refine iteDN (fun z => hm (V.int.inj z)) ?_
    exact q
theorem ok__of_scale (F : Fun K "_of_scale" "_of_scale" s__of_scale f fd) (T : Txt K mg cs w) (d_is_word : Def P w K mg base 1 "is_word" ["n"] (spIsWord)) :
    FnOk P w K mg base CX0 2 f fd ["net", "known", "node"] (spRule K cs fun d => ∃ w a, d = .scale w a) := by
  obtain ⟨f0, fd0, G_is_word, b_is_word, g_is_word, k_is_word⟩ := d_is_word.ex
  refine F.ok sc__of_scale (fun vs H Q E h => ?_) (fun cdv A outer s H vs Q E hr h => ?_)
  · obtain ⟨qn, l, a, ni, nt, ps, ls, d, rfl, hd, N, hL, hA, hf, tm, td, q⟩ := h
    rfl
  obtain ⟨qn, l, a, ni, nt, ps, ls, d, rfl, hd, N, hL, hA, hf, tm, td, q⟩ := h
  have hu := hr.units
  refine ⟨_, pss_cons (ps_asg (pv 2) (pg_tup rfl (pgs_cons (pg_name (i := 3) sc__of_scale.nd rfl (.inl rfl)) (pgs_cons (pg_name (i := 4) sc__of_scale.nd rfl (.inl rfl)) (pgs_cons (pg_name (i := 5) sc__of_scale.nd rfl (.inl rfl)) pgs_nil)))))
 (pss_one (ps_ret (pe_ifExp (pt_val (pe_call G_is_word hr rfl g_is_word k_is_word b_is_word .nil pass0 (pa_cons (pv 4) pa_nil))) (pe_ix (ixl_at (K := K) rfl) (pv 1) (pv 5) (fun _ _ => rfl)) pe_non))), ?_⟩
  obtain ⟨c, o, rfl⟩ := hd
  have ho : inR o ls.length := hf.2 o (.head _)
  refine ⟨_, rfl, a, _, rfl, hA, rfl, _, _, rfl, _, _, rfl, _, _, rfl, rfl, ?_⟩
  walk_at "go"
  by_cases hm : -2147483648 ≤ c ∧ c ≤ 2147483647
  · have e : Nd.len ni nt ps ls (.scale c o) = some (lget ls o) := if_pos hm
    rw [e] at q
    refine iteD hm ?_
    exact ⟨_, rfl, _, rfl, l, _, _, _, rfl, rfl, hL, at_ints ho, q⟩
  · have e : Nd.len ni nt ps ls (.scale c o) = none := if_neg hm
    rw [e] at q
    refine iteDN hm ?_
    exact q
theorem ok__of_shift (F : Fun K "_of_shift" "_of_shift" s__of_shift f fd) (T : Txt K mg cs w)  :
    FnOk P w K mg base CX0 1 f fd ["net", "known", "node"] (spRule K cs fun d => ∃ k a, d = .shift k a) := by
  obtain ⟨_, g_MOST_SHIFT⟩ := T.g_MOST_SHIFT
  refine F.ok sc__of_shift (fun vs H Q E h => ?_) (fun cdv A outer s H vs Q E hr h => ?_)
  · obtain ⟨qn, l, a, ni, nt, ps, ls, d, rfl, hd, N, hL, hA, hf, tm, td, q⟩ := h
    rfl
  obtain ⟨qn, l, a, ni, nt, ps, ls, d, rfl, hd, N, hL, hA, hf, tm, td, q⟩ := h
  have hu := hr.units
  refine ⟨_, pss_cons (ps_asg (pv 2) (pg_tup rfl (pgs_cons (pg_name (i := 3) sc__of_shift.nd rfl (.inl rfl)) (pgs_cons (pg_name (i := 4) sc__of_shift.nd rfl (.inl rfl)) (pgs_cons (pg_name (i := 5) sc__of_shift.nd rfl (.inl rfl)) pgs_nil)))))
 (pss_one (ps_ret (pe_ifExp (pt_chain op_le op_le pe_int (pv 4) (pe_glob (v := .int (31)) rfl g_MOST_SHIFT ⟨_, rfl⟩)) (pe_ix (ixl_at (K := K) rfl) (pv 1) (pv 5) (fun _ _ => rfl)) pe_non))), ?_⟩
  obtain ⟨c, o, rfl⟩ := hd
  have ho : inR o ls.length := hf.2 o (.head _)
  refine ⟨_, rfl, a, _, rfl, hA, rfl, _, _, rfl, _, _, rfl, _, _, rfl, rfl, ?_⟩
  walk_at "go"
  by_cases h1 : 0 ≤ c
  · refine iteD h1 ?_
    walk_at "go"
    by_cases h2 : c ≤ 31
    · have e : Nd.len ni nt ps ls (.shift c o) = some (lget ls o) := if_pos ⟨h1, h2⟩
      rw [e] at q
      refine iteD h2 ?_
      exact ⟨_, rfl, _, rfl, l, _, _, _, rfl, rfl, hL, at_ints ho, q⟩
    · have e : Nd.len ni nt ps ls (.shift c o) = none := if_neg fun z => h2 z.2
      rw [e] at q
      refine iteDN h2 ?_
      exact q
  · have e : Nd.len ni nt ps ls (.shift c o) = none := if_neg fun z => h1 z.1
    rw [e] at q
    refine iteDN h1 ?_
    walk_at "go"
    exact q
theorem ok__of_relu (F : Fun K "_of_relu" "_of_relu" s__of_relu f fd) (T : Txt K mg cs w)  :
    FnOk P w K mg base CX0 1 f fd ["net", "known", "node"] (spRule K cs fun d => ∃ a, d = .relu a) := by
  refine F.ok sc__of_relu (fun vs H Q E h => ?_) (fun cdv A outer s H vs Q E hr h => ?_)
  · obtain ⟨qn, l, a, ni, nt, ps, ls, d, rfl, hd, N, hL, hA, hf, tm, td, q⟩ := h
    rfl
  obtain ⟨qn, l, a, ni, nt, ps, ls, d, rfl, hd, N, hL, hA, hf, tm, td, q⟩ := h
  have hu := hr.units
  refine ⟨_, pss_one (ps_ret (pe_ix (ixl_at (K := K) rfl) (pv 1) (pe_ix (ixt_at (K := K) rfl) (pv 2) pe_int (fun _ _ => rfl)) (fun _ _ => rfl))), ?_⟩
  obtain ⟨o, rfl⟩ := hd
  have ho : inR o ls.length := hf.2 o (.head _)
  exact ⟨_, rfl, _, rfl, a, _, _, _, rfl, rfl, hA, rfl, l, _, _, _, rfl, rfl, hL, at_ints ho, q⟩
theorem ok__of_drop (F : Fun K "_of_drop" "_of_drop" s__of_drop f fd) (T : Txt K mg cs w)  :
    FnOk P w K mg base CX0 1 f fd ["net", "known", "node"] (spRule K cs fun d => ∃ m a, d = .drop m a) := by
  obtain ⟨_, g_LEAST_DIVISOR⟩ := T.g_LEAST_DIVISOR
  obtain ⟨_, g_GREATEST_NUMBER⟩ := T.g_GREATEST_NUMBER
  refine F.ok sc__of_drop (fun vs H Q E h => ?_) (fun cdv A outer s H vs Q E hr h => ?_)
  · obtain ⟨qn, l, a, ni, nt, ps, ls, d, rfl, hd, N, hL, hA, hf, tm, td, q⟩ := h
    rfl
  obtain ⟨qn, l, a, ni, nt, ps, ls, d, rfl, hd, N, hL, hA, hf, tm, td, q⟩ := h
  have hu := hr.units
  refine ⟨_, pss_cons (ps_asg (pv 2) (pg_tup rfl (pgs_cons (pg_name (i := 3) sc__of_drop.nd rfl (.inl rfl)) (pgs_cons (pg_name (i := 4) sc__of_drop.nd rfl (.inl rfl)) (pgs_cons (pg_name (i := 5) sc__of_drop.nd rfl (.inl rfl)) pgs_nil)))))
 (pss_one (ps_ret (pe_ifExp (pt_chain op_le op_le (pe_glob (v := .int (2)) rfl g_LEAST_DIVISOR ⟨_, rfl⟩) (pv 4) (pe_glob (v := .int (4294967295)) rfl g_GREATEST_NUMBER ⟨_, rfl⟩)) (pe_ix (ixl_at (K := K) rfl) (pv 1) (pv 5) (fun _ _ => rfl)) pe_non))), ?_⟩
  obtain ⟨c, o, rfl⟩ := hd
  have ho : inR o ls.length := hf.2 o (.head _)
  refine ⟨_, rfl, a, _, rfl, hA, rfl, _, _, rfl, _, _, rfl, _, _, rfl, rfl, ?_⟩
  walk_at "go"
  by_cases h1 : 2 ≤ c
  · refine iteD h1 ?_
    walk_at "go"
    by_cases h2 : c ≤ 4294967295
    · have e : Nd.len ni nt ps ls (.drop c o) = some (lget ls o) := if_pos ⟨h1, h2⟩
      rw [e] at q
      refine iteD h2 ?_
      exact ⟨_, rfl, _, rfl, l, _, _, _, rfl, rfl, hL, at_ints ho, q⟩
    · have e : Nd.len ni nt ps ls (.drop c o) = none := if_neg fun z => h2 z.2
      rw [e] at q
      refine iteDN h2 ?_
      exact q
  · have e : Nd.len ni nt ps ls (.drop c o) = none := if_neg fun z => h1 z.1
    rw [e] at q
    refine iteDN h1 ?_
    walk_at "go"
    exact q
theorem ok__of_sum (F : Fun K "_of_sum" "_of_sum" s__of_sum f fd) (T : Txt K mg cs w)  :
    FnOk P w K mg base CX0 1 f fd ["net", "known", "node"] (spRule K cs fun d => ∃ a, d = .sum a) := by
  refine F.ok sc__of_sum (fun vs H Q E h => ?_) (fun cdv A outer s H vs Q E hr h => ?_)
  · obtain ⟨qn, l, a, ni, nt, ps, ls, d, rfl, hd, N, hL, hA, hf, tm, td, q⟩ := h
    rfl
  obtain ⟨qn, l, a, ni, nt, ps, ls, d, rfl, hd, N, hL, hA, hf, tm, td, q⟩ := h
  have hu := hr.units
  refine ⟨_, pss_one (ps_ret pe_int), ?_⟩
  obtain ⟨o, rfl⟩ := hd
  exact q
theorem ok__of_join (F : Fun K "_of_join" "_of_join" s__of_join f fd) (T : Txt K mg cs w)  :
    FnOk P w K mg base CX0 1 f fd ["net", "known", "node"] (spRule K cs fun d => ∃ a b, d = .join a b) := by
  refine F.ok sc__of_join (fun vs H Q E h => ?_) (fun cdv A outer s H vs Q E hr h => ?_)
  · obtain ⟨qn, l, a, ni, nt, ps, ls, d, rfl, hd, N, hL, hA, hf, tm, td, q⟩ := h
    rfl
  obtain ⟨qn, l, a, ni, nt, ps, ls, d, rfl, hd, N, hL, hA, hf, tm, td, q⟩ := h
  have hu := hr.units
  refine ⟨_, pss_cons (ps_asg (pv 2) (pg_tup rfl (pgs_cons (pg_name (i := 3) sc__of_join.nd rfl (.inl rfl)) (pgs_cons (pg_name (i := 4) sc__of_join.nd rfl (.inl rfl)) (pgs_cons (pg_name (i := 5) sc__of_join.nd rfl (.inl rfl)) pgs_nil)))))
 (pss_one (ps_ret (pe_op op_add (pe_ix (ixl_at (K := K) rfl) (pv 1) (pv 4) (fun _ _ => rfl)) (pe_ix (ixl_at (K := K) rfl) (pv 1) (pv 5) (fun _ _ => rfl))))), ?_⟩
  obtain ⟨o, u, rfl⟩ := hd
  have ho : inR o ls.length := hf.2 o (.head _)
  have hu' : inR u ls.length := hf.2 u (.tail _ (.head _))
  refine ⟨_, rfl, a, _, rfl, hA, rfl, _, _, rfl, _, _, rfl, _, _, rfl, rfl, ?_⟩
  exact ⟨_, rfl, _, rfl, l, _, _, _, rfl, rfl, hL, at_ints ho, _, rfl, _, rfl, l, _, _, _, rfl, rfl, hL, at_ints hu', _, _, rfl, rfl, q⟩
theorem ok__of_take (F : Fun K "_of_take" "_of_take" s__of_take f fd) (T : Txt K mg cs w) (d_is_inside : Def P w K mg base 1 "is_inside" ["lo", "n", "length"] (spInside)) :
    FnOk P w K mg base CX0 2 f fd ["net", "known", "node"] (spRule K cs fun d => ∃ lo n a, d = .take lo n a) := by
  obtain ⟨f0, fd0, G_is_inside, b_is_inside, g_is_inside, k_is_inside⟩ := d_is_inside.ex
  refine F.ok sc__of_take (fun vs H Q E h => ?_) (fun cdv A outer s H vs Q E hr h => ?_)
  · obtain ⟨qn, l, a, ni, nt, ps, ls, d, rfl, hd, N, hL, hA, hf, tm, td, q⟩ := h
    rfl
  obtain ⟨qn, l, a, ni, nt, ps, ls, d, rfl, hd, N, hL, hA, hf, tm, td, q⟩ := h
  have hu := hr.units
  refine ⟨_, pss_cons (ps_asg (pv 2) (pg_tup rfl (pgs_cons (pg_name (i := 3) sc__of_take.nd rfl (.inl rfl)) (pgs_cons (pg_name (i := 4) sc__of_take.nd rfl (.inl rfl)) (pgs_cons (pg_name (i := 5) sc__of_take.nd rfl (.inl rfl)) (pgs_cons (pg_name (i := 6) sc__of_take.nd rfl (.inl rfl)) pgs_nil))))))
 (pss_one (ps_ret (pe_ifExp (pt_val (pe_call G_is_inside hr rfl g_is_inside k_is_inside b_is_inside .nil pass0 (pa_cons (pv 4) (pa_cons (pv 5) (pa_cons (pe_ix (ixl_at (K := K) rfl) (pv 1) (pv 6) (fun _ _ => rfl)) pa_nil))))) (pv 5) pe_non))), ?_⟩
  obtain ⟨lo, n, o, rfl⟩ := hd
  have ho : inR o ls.length := hf.2 o (.head _)
  refine ⟨_, rfl, a, _, rfl, hA, rfl, _, _, rfl, _, _, rfl, _, _, rfl, _, _, rfl, rfl, ?_⟩
  refine ⟨_, rfl, _, rfl, _, rfl, _, rfl, l, _, _, _, rfl, rfl, hL, at_ints ho, ?_⟩
  walk_at "go"
  by_cases hm : inside lo n (lget ls o)
  · have e : Nd.len ni nt ps ls (.take lo n o) = some n := if_pos hm
    rw [e] at q
    refine iteD hm ?_
    exact ⟨_, rfl, q⟩
  · have e : Nd.len ni nt ps ls (.take lo n o) = none := if_neg hm
    rw [e] at q
    refine iteDN hm ?_
    exact q
theorem places_of (T : Txt K mg cs w) (d : Nd) : ∃ t, PySem.W.nsIn K cs.OPERAND_PLACES d.kind = some (some (.ref t)) ∧ KTup K t (d.places.map V.int) := match d with
  | .input => T.e_OPERAND_PLACES_input
  | .target => T.e_OPERAND_PLACES_target
  | .lin _ _ => T.e_OPERAND_PLACES_lin
  | .bias _ _ => T.e_OPERAND_PLACES_bias
  | .embed _ _ _ => T.e_OPERAND_PLACES_embed
  | .mat _ _ _ => T.e_OPERAND_PLACES_mat
  | .matT _ _ _ => T.e_OPERAND_PLACES_matT
  | .lower _ _ => T.e_OPERAND_PLACES_lower
  | .add _ _ => T.e_OPERAND_PLACES_add
  | .sub _ _ => T.e_OPERAND_PLACES_sub
  | .mul _ _ => T.e_OPERAND_PLACES_mul
  | .scale _ _ => T.e_OPERAND_PLACES_scale
  | .shift _ _ => T.e_OPERAND_PLACES_shift
  | .relu _ => T.e_OPERAND_PLACES_relu
  | .drop _ _ => T.e_OPERAND_PLACES_drop
  | .sum _ => T.e_OPERAND_PLACES_sum
  | .join _ _ => T.e_OPERAND_PLACES_join
  | .take _ _ _ => T.e_OPERAND_PLACES_take
theorem Nd.at0 (d : Nd) : atI d.enc 0 = some (.str d.kind) := atI_nat (j := 0) rfl
theorem Nd.at1 (d : Nd) {p : Int} (h : d.par = some p) : atI d.enc 1 = some (.int p) := by
  cases d <;> first | (cases h; done) | (injection h with h; subst h; rfl)
theorem Nd.par_in (d : Nd) : inV (.str d.kind) [.str "lin", .str "bias", .str "embed"] = d.par.isSome := match d with
  | .input => (by decide : inV (.str "input") [.str "lin", .str "bias", .str "embed"] = false)
  | .target => (by decide : inV (.str "target") [.str "lin", .str "bias", .str "embed"] = false)
  | .lin _ _ => (by decide : inV (.str "lin") [.str "lin", .str "bias", .str "embed"] = true)
  | .bias _ _ => (by decide : inV (.str "bias") [.str "lin", .str "bias", .str "embed"] = true)
  | .embed _ _ _ => (by decide : inV (.str "embed") [.str "lin", .str "bias", .str "embed"] = true)
  | .mat _ _ _ => (by decide : inV (.str "mat") [.str "lin", .str "bias", .str "embed"] = false)
  | .matT _ _ _ => (by decide : inV (.str "matT") [.str "lin", .str "bias", .str "embed"] = false)
  | .lower _ _ => (by decide : inV (.str "lower") [.str "lin", .str "bias", .str "embed"] = false)
  | .add _ _ => (by decide : inV (.str "add") [.str "lin", .str "bias", .str "embed"] = false)
  | .sub _ _ => (by decide : inV (.str "sub") [.str "lin", .str "bias", .str "embed"] = false)
  | .mul _ _ => (by decide : inV (.str "mul") [.str "lin", .str "bias", .str "embed"] = false)
  | .scale _ _ => (by decide : inV (.str "scale") [.str "lin", .str "bias", .str "embed"] = false)
  | .shift _ _ => (by decide : inV (.str "shift") [.str "lin", .str "bias", .str "embed"] = false)
  | .relu _ => (by decide : inV (.str "relu") [.str "lin", .str "bias", .str "embed"] = false)
  | .drop _ _ => (by decide : inV (.str "drop") [.str "lin", .str "bias", .str "embed"] = false)
  | .sum _ => (by decide : inV (.str "sum") [.str "lin", .str "bias", .str "embed"] = false)
  | .join _ _ => (by decide : inV (.str "join") [.str "lin", .str "bias", .str "embed"] = false)
  | .take _ _ _ => (by decide : inV (.str "take") [.str "lin", .str "bias", .str "embed"] = false)
theorem ok__names_exist (F : Fun K "_names_exist" "_names_exist" s__names_exist f fd) (T : Txt K mg cs w)  :
    FnOk P w K mg base CX0 1 f fd ["net", "known", "node"] (spNames K cs) := by
  obtain ⟨_, _, kd_OPERAND_PLACES⟩ := T.d_OPERAND_PLACES
  refine F.ok sc__names_exist (fun vs H Q E h => ?_) (fun cdv A outer s H vs Q E hr h => ?_)
  · obtain ⟨qn, l, a, ni, nt, ps, ls, d, rfl, N, hL, hA, q⟩ := h
    rfl
  obtain ⟨qn, l, a, ni, nt, ps, ls, d, rfl, N, hL, hA, q⟩ := h
  have hu := hr.units
  refine ⟨_, pss_cons (ps_set (i := 3) sc__names_exist.nd rfl (.inl rfl) (pe_ix (ixt_at (K := K) rfl) (pv 2) pe_int (fun _ _ => rfl)))
 (pss_cons (ps_if (pt_cmpR (op_notIn_kd kd_OPERAND_PLACES) (pv 3) (pe_glob (v := .ref cs.OPERAND_PLACES) rfl T.g_OPERAND_PLACES rfl) (by with_unfolding_all rfl)) (pss_one (ps_ret pe_bl)) pss_nil)
 (pss_cons (ps_if (PW.pt (pw_and (pt_cmpR op_in_seq (pv 3) (pe_glob (v := .ref cs.WITH_PARAMETER) rfl T.g_WITH_PARAMETER rfl) (by with_unfolding_all rfl)) (pw_and1 (pt_not (pt_chain op_le op_lt pe_int (pe_ix (ixt_at (K := K) rfl) (pv 2) pe_int (fun _ _ => rfl)) (pe_callB (len_at (K := K) rfl) (by rfl) T.z_len PySem.boot_len (pa_cons (pe_fld_at (K := K) rfl (pv 0) rfl) pa_nil))))))) (pss_one (ps_ret pe_bl)) pss_nil)
 (pss_one (ps_ret (pe_callB (all_at (K := K) rfl) (by rfl) T.z_all PyProof.Rows.boot_all (pa_cons (pe_lc (own := [("at", 4)]) (g := gName 4) (tt := tYes)  rfl sc__names_exist.nd (pi_tup (pe_ix ix_kdict (pe_glob (v := .ref cs.OPERAND_PLACES) rfl T.g_OPERAND_PLACES rfl) (pv 3) (fun _ _ => rfl))) (blkOk_by (N := ["net", "known", "node", "kind", "at"]) (sc := defScope s__names_exist) (by decide +kernel)) (fun _ _ _ _ _ => (pg_name (i := 4) sc__names_exist.nd rfl (.inl rfl))) (fun _ _ _ _ _ => pts_nil) (fun _ _ _ _ _ => (pe_chain op_le op_lt pe_int (pe_ix (ixt_at (K := K) rfl) (pv 2) (pv 4) (fun _ _ => rfl)) (pe_callB (len_at (K := K) rfl) (by rfl) T.z_len PySem.boot_len (pa_cons (pv 1) pa_nil))))) pa_nil)))))), ?_⟩
  obtain ⟨dx, fs, PP, pr, n1, n2, n3, n4, n5, n6⟩ := N.ex
  obtain ⟨tp, etp, ktp⟩ := places_of T d
  have lp : pr.length = ps.length := n6.length
  refine ⟨_, rfl, a, _, _, _, rfl, rfl, hA, d.at0, ?_⟩
  refine ⟨_, rfl, _, _, rfl, rfl, etp, _, rfl, ?_⟩
  refine ⟨_, rfl, cs.WITH_PARAMETER, _, rfl, .inr (T.t_WITH_PARAMETER.sq H), rfl, rfl, _, rfl, ?_⟩
  have fin : ∀ H', Same H H' → Q (.bl (decide (parIn d.par ps.length) && decide (∀ o ∈ d.ops, inR o ls.length))) H' := fun H' e => by
    have z : decide (d.fits ps.length ls.length) = (decide (parIn d.par ps.length) && decide (∀ o ∈ d.ops, inR o ls.length)) := by
      unfold Nd.fits
      exact Bool.decide_and ..
    rw [← z]
    exact q H' e
  have ep := d.par_in
  rw [if_neg Bool.false_ne_true, ep]
  have lq : (((pr.map V.ref).length : Nat) : Int) = (ps.length : Int) := by rw [List.length_map, lp]
  by_cases hq : parIn d.par ps.length
  · rw [decide_eq_true hq, Bool.true_and] at fin
    (rcases hp : d.par with _ | p) <;> (first
      | (refine iteF ?_)
      | (rw [hp] at hq
         refine iteT ?_
         refine ⟨_, rfl, a, _, _, _, rfl, rfl, hA, d.at1 hp, _, _, rfl, rfl, _, rfl, ?_⟩
         refine iteD hq.1 ?_
         refine ⟨_, rfl, qn, _, dx, fs, _, rfl, n1, T.C_Net, T.na_Net_parameters, n4, PP, _, rfl, .inl (SqL.of n5), _, _, rfl, rfl, _, rfl, ?_⟩
         refine iteNS (show p < (((pr.map V.ref).length : Nat) : Int) by rw [lq]; exact hq.2) ?_)) <;>
    (refine ⟨_, rfl, cs.OPERAND_PLACES, d.kind, .ref tp, rfl, rfl, ⟨_, _, _, kd_OPERAND_PLACES.at_, kd_OPERAND_PLACES.lit, etp, rfl⟩, tp, rfl, ⟨_, ktp.sq H⟩, fun D nD => ?_⟩
     refine lc_tup (xs := d.places.map V.int) (fun (i : Nat) H' => But D H H' ∧ H' D = some (.lst (((d.ops.take i).map fun o => decide (inR o ls.length)).map V.bl))) ⟨.of (same_new nD _), upd_same⟩ (fun i H' _ _ => ktp.sq H') (fun i x H' hx hP => ?_) (fun H' hP => ?_)
     · obtain ⟨eD, hD⟩ := hP
       obtain ⟨z, rfl, hz⟩ := map_get hx
       obtain ⟨o, ho, eo⟩ := d.place_op i z hz
       have hA' : SqT K H' a d.enc := eD.seqT nD hA
       have hL' : SqL K H' l (ls.map V.int) := eD.seqL nD hL
       have push : ∀ bl, bl = decide (inR o ls.length) → ∃ acc, H' D = some (.lst acc) ∧ acc.length < sizeLine ∧ (But D H (upd H' D (.lst (acc ++ [V.bl bl]))) ∧ (upd H' D (.lst (acc ++ [V.bl bl]))) D = some (.lst (((d.ops.take (i + 1)).map fun o => decide (inR o ls.length)).map V.bl))) := fun bl eb => by
         refine ⟨_, hD, ?_, eD.mut' nD, ?_⟩
         · have h1 := d.len_ops
           have h2 : d.places.length ≤ 2 := by cases d <;> simp [Nd.places]
           exact smaller (by rw [List.length_map, List.length_map, List.length_take]; omega)
         · rw [upd_same, List.take_add_one, ho, List.map_append, List.map_append, eb]
           rfl
       refine ⟨rfl, ?_⟩
       refine ⟨_, rfl, _, rfl, a, _, _, _, rfl, rfl, hA', eo, _, _, rfl, rfl, _, rfl, ?_⟩
       refine ite2 (fun c1 => ?_) (fun c1 => ?_)
       · have c1' : 0 ≤ o := of_decide_eq_true c1
         refine ⟨_, rfl, l, _, rfl, .inl hL', _, _, rfl, rfl, ?_⟩
         refine push _ (decide_eq_decide.mpr ⟨fun c2 => ⟨c1', by rw [List.length_map] at c2; exact c2⟩, fun c2 => by rw [List.length_map]; exact c2.2⟩)
       · exact push false (decide_eq_false fun c2 => c1 (decide_eq_true c2.1)).symm
     · obtain ⟨eD, hD⟩ := hP
       have en : d.ops.take (d.places.map V.int).length = d.ops := List.take_of_length_le (by rw [List.length_map, d.len_ops]; exact Nat.le_refl _)
       rw [en] at hD
       refine ⟨D, _, rfl, SqL.of hD, ?_⟩
       have ea : (d.ops.map fun o => decide (inR o ls.length)).all id = decide (∀ o ∈ d.ops, inR o ls.length) := by
         rw [List.all_map]
         exact all_dec _ _
       rw [ea]
       exact fin H' (eD.same nD))
  · rw [decide_eq_false hq, Bool.false_and] at fin
    cases hp : d.par with
    | none => exact absurd (by rw [hp]; exact True.intro) hq
    | some p =>
      rw [hp] at hq
      refine iteT ?_
      refine ⟨_, rfl, a, _, _, _, rfl, rfl, hA, d.at1 hp, _, _, rfl, rfl, _, rfl, ?_⟩
      refine ite2 (fun c1 => ?_) (fun c1 => ?_)
      · refine ⟨_, rfl, qn, _, dx, fs, _, rfl, n1, T.C_Net, T.na_Net_parameters, n4, PP, _, rfl, .inl (SqL.of n5), _, _, rfl, rfl, _, rfl, ?_⟩
        refine iteNN (fun c2 => hq ⟨of_decide_eq_true c1, by rw [← lq]; exact c2⟩) ?_
        exact fin H (.refl H)
      · walk_at "go"
        exact fin H (.refl H)
theorem held_of {k j : Nat} {x : Str} {ps : List Str} {sp : Sp} {f : Addr} (D : Def P w K mg base j x ps sp) (hx : mg x = some (.ref f)) (hj : j ≤ k) : Held P w K mg base k f sp := by
  obtain ⟨f', fd', G, b, g, kp⟩ := D.ex
  rw [hx] at g
  cases g
  exact ⟨fd', ps, G.mono hj, kp, b⟩
theorem rule_of (T : Txt K mg cs w) (d__of_inputs : Def P w K mg base 1 "_of_inputs" ["net", "known", "node"] (spRule K cs (· = .input))) (d__of_targets : Def P w K mg base 1 "_of_targets" ["net", "known", "node"] (spRule K cs (· = .target))) (d__of_lin : Def P w K mg base 2 "_of_lin" ["net", "known", "node"] (spRule K cs fun d => ∃ p a, d = .lin p a)) (d__of_bias : Def P w K mg base 2 "_of_bias" ["net", "known", "node"] (spRule K cs fun d => ∃ p a, d = .bias p a)) (d__of_embed : Def P w K mg base 2 "_of_embed" ["net", "known", "node"] (spRule K cs fun d => ∃ p lo n, d = .embed p lo n)) (d__of_mat : Def P w K mg base 2 "_of_mat" ["net", "known", "node"] (spRule K cs fun d => ∃ k a b, d = .mat k a b ∨ d = .matT k a b)) (d__of_lower : Def P w K mg base 2 "_of_lower" ["net", "known", "node"] (spRule K cs fun d => ∃ c a, d = .lower c a)) (d__of_pair : Def P w K mg base 1 "_of_pair" ["net", "known", "node"] (spRule K cs fun d => ∃ a b, d = .add a b ∨ d = .sub a b ∨ d = .mul a b)) (d__of_scale : Def P w K mg base 2 "_of_scale" ["net", "known", "node"] (spRule K cs fun d => ∃ w a, d = .scale w a)) (d__of_shift : Def P w K mg base 1 "_of_shift" ["net", "known", "node"] (spRule K cs fun d => ∃ k a, d = .shift k a)) (d__of_relu : Def P w K mg base 1 "_of_relu" ["net", "known", "node"] (spRule K cs fun d => ∃ a, d = .relu a)) (d__of_drop : Def P w K mg base 1 "_of_drop" ["net", "known", "node"] (spRule K cs fun d => ∃ m a, d = .drop m a)) (d__of_sum : Def P w K mg base 1 "_of_sum" ["net", "known", "node"] (spRule K cs fun d => ∃ a, d = .sum a)) (d__of_join : Def P w K mg base 1 "_of_join" ["net", "known", "node"] (spRule K cs fun d => ∃ a b, d = .join a b)) (d__of_take : Def P w K mg base 2 "_of_take" ["net", "known", "node"] (spRule K cs fun d => ∃ lo n a, d = .take lo n a)) (d : Nd) : ∃ (f : Addr) (fam : Nd → Prop), PySem.W.nsIn K cs.LENGTHS d.kind = some (some (.ref f)) ∧ fam d ∧ Held P w K mg base 2 f (spRule K cs fam) := match d with
  | .input => ⟨cs.fn__of_inputs, (fun x => x = Nd.input), T.e_LENGTHS_input, rfl, held_of d__of_inputs T.f__of_inputs (by decide)⟩
  | .target => ⟨cs.fn__of_targets, (fun x => x = Nd.target), T.e_LENGTHS_target, rfl, held_of d__of_targets T.f__of_targets (by decide)⟩
  | .lin _ _ => ⟨cs.fn__of_lin, _, T.e_LENGTHS_lin, ⟨_, _, rfl⟩, held_of d__of_lin T.f__of_lin (by decide)⟩
  | .bias _ _ => ⟨cs.fn__of_bias, _, T.e_LENGTHS_bias, ⟨_, _, rfl⟩, held_of d__of_bias T.f__of_bias (by decide)⟩
  | .embed _ _ _ => ⟨cs.fn__of_embed, _, T.e_LENGTHS_embed, ⟨_, _, _, rfl⟩, held_of d__of_embed T.f__of_embed (by decide)⟩
  | .mat _ _ _ => ⟨cs.fn__of_mat, _, T.e_LENGTHS_mat, ⟨_, _, _, .inl rfl⟩, held_of d__of_mat T.f__of_mat (by decide)⟩
  | .matT _ _ _ => ⟨cs.fn__of_mat, _, T.e_LENGTHS_matT, ⟨_, _, _, .inr rfl⟩, held_of d__of_mat T.f__of_mat (by decide)⟩
  | .lower _ _ => ⟨cs.fn__of_lower, _, T.e_LENGTHS_lower, ⟨_, _, rfl⟩, held_of d__of_lower T.f__of_lower (by decide)⟩
  | .add _ _ => ⟨cs.fn__of_pair, _, T.e_LENGTHS_add, ⟨_, _, .inl rfl⟩, held_of d__of_pair T.f__of_pair (by decide)⟩
  | .sub _ _ => ⟨cs.fn__of_pair, _, T.e_LENGTHS_sub, ⟨_, _, .inr (.inl rfl)⟩, held_of d__of_pair T.f__of_pair (by decide)⟩
  | .mul _ _ => ⟨cs.fn__of_pair, _, T.e_LENGTHS_mul, ⟨_, _, .inr (.inr rfl)⟩, held_of d__of_pair T.f__of_pair (by decide)⟩
  | .scale _ _ => ⟨cs.fn__of_scale, _, T.e_LENGTHS_scale, ⟨_, _, rfl⟩, held_of d__of_scale T.f__of_scale (by decide)⟩
  | .shift _ _ => ⟨cs.fn__of_shift, _, T.e_LENGTHS_shift, ⟨_, _, rfl⟩, held_of d__of_shift T.f__of_shift (by decide)⟩
  | .relu _ => ⟨cs.fn__of_relu, _, T.e_LENGTHS_relu, ⟨_, rfl⟩, held_of d__of_relu T.f__of_relu (by decide)⟩
  | .drop _ _ => ⟨cs.fn__of_drop, _, T.e_LENGTHS_drop, ⟨_, _, rfl⟩, held_of d__of_drop T.f__of_drop (by decide)⟩
  | .sum _ => ⟨cs.fn__of_sum, _, T.e_LENGTHS_sum, ⟨_, rfl⟩, held_of d__of_sum T.f__of_sum (by decide)⟩
  | .join _ _ => ⟨cs.fn__of_join, _, T.e_LENGTHS_join, ⟨_, _, rfl⟩, held_of d__of_join T.f__of_join (by decide)⟩
  | .take _ _ _ => ⟨cs.fn__of_take, _, T.e_LENGTHS_take, ⟨_, _, _, rfl⟩, held_of d__of_take T.f__of_take (by decide)⟩
theorem ok_length_of (F : Fun K "length_of" "length_of" s_length_of f fd) (T : Txt K mg cs w) (d__names_exist : Def P w K mg base 1 "_names_exist" ["net", "known", "node"] (spNames K cs)) (d__of_inputs : Def P w K mg base 1 "_of_inputs" ["net", "known", "node"] (spRule K cs (· = .input))) (d__of_targets : Def P w K mg base 1 "_of_targets" ["net", "known", "node"] (spRule K cs (· = .target))) (d__of_lin : Def P w K mg base 2 "_of_lin" ["net", "known", "node"] (spRule K cs fun d => ∃ p a, d = .lin p a)) (d__of_bias : Def P w K mg base 2 "_of_bias" ["net", "known", "node"] (spRule K cs fun d => ∃ p a, d = .bias p a)) (d__of_embed : Def P w K mg base 2 "_of_embed" ["net", "known", "node"] (spRule K cs fun d => ∃ p lo n, d = .embed p lo n)) (d__of_mat : Def P w K mg base 2 "_of_mat" ["net", "known", "node"] (spRule K cs fun d => ∃ k a b, d = .mat k a b ∨ d = .matT k a b)) (d__of_lower : Def P w K mg base 2 "_of_lower" ["net", "known", "node"] (spRule K cs fun d => ∃ c a, d = .lower c a)) (d__of_pair : Def P w K mg base 1 "_of_pair" ["net", "known", "node"] (spRule K cs fun d => ∃ a b, d = .add a b ∨ d = .sub a b ∨ d = .mul a b)) (d__of_scale : Def P w K mg base 2 "_of_scale" ["net", "known", "node"] (spRule K cs fun d => ∃ w a, d = .scale w a)) (d__of_shift : Def P w K mg base 1 "_of_shift" ["net", "known", "node"] (spRule K cs fun d => ∃ k a, d = .shift k a)) (d__of_relu : Def P w K mg base 1 "_of_relu" ["net", "known", "node"] (spRule K cs fun d => ∃ a, d = .relu a)) (d__of_drop : Def P w K mg base 1 "_of_drop" ["net", "known", "node"] (spRule K cs fun d => ∃ m a, d = .drop m a)) (d__of_sum : Def P w K mg base 1 "_of_sum" ["net", "known", "node"] (spRule K cs fun d => ∃ a, d = .sum a)) (d__of_join : Def P w K mg base 1 "_of_join" ["net", "known", "node"] (spRule K cs fun d => ∃ a b, d = .join a b)) (d__of_take : Def P w K mg base 2 "_of_take" ["net", "known", "node"] (spRule K cs fun d => ∃ lo n a, d = .take lo n a)) :
    FnOk P w K mg base CX0 3 f fd ["net", "known", "node"] (spLength K cs) := by
  obtain ⟨f0, fd0, G__names_exist, b__names_exist, g__names_exist, k__names_exist⟩ := d__names_exist.ex
  obtain ⟨f1, fd1, G__of_inputs, b__of_inputs, g__of_inputs, k__of_inputs⟩ := d__of_inputs.ex
  obtain ⟨f2, fd2, G__of_targets, b__of_targets, g__of_targets, k__of_targets⟩ := d__of_targets.ex
  obtain ⟨f3, fd3, G__of_lin, b__of_lin, g__of_lin, k__of_lin⟩ := d__of_lin.ex
  obtain ⟨f4, fd4, G__of_bias, b__of_bias, g__of_bias, k__of_bias⟩ := d__of_bias.ex
  obtain ⟨f5, fd5, G__of_embed, b__of_embed, g__of_embed, k__of_embed⟩ := d__of_embed.ex
  obtain ⟨f6, fd6, G__of_mat, b__of_mat, g__of_mat, k__of_mat⟩ := d__of_mat.ex
  obtain ⟨f7, fd7, G__of_lower, b__of_lower, g__of_lower, k__of_lower⟩ := d__of_lower.ex
  obtain ⟨f8, fd8, G__of_pair, b__of_pair, g__of_pair, k__of_pair⟩ := d__of_pair.ex
  obtain ⟨f9, fd9, G__of_scale, b__of_scale, g__of_scale, k__of_scale⟩ := d__of_scale.ex
  obtain ⟨f10, fd10, G__of_shift, b__of_shift, g__of_shift, k__of_shift⟩ := d__of_shift.ex
  obtain ⟨f11, fd11, G__of_relu, b__of_relu, g__of_relu, k__of_relu⟩ := d__of_relu.ex
  obtain ⟨f12, fd12, G__of_drop, b__of_drop, g__of_drop, k__of_drop⟩ := d__of_drop.ex
  obtain ⟨f13, fd13, G__of_sum, b__of_sum, g__of_sum, k__of_sum⟩ := d__of_sum.ex
  obtain ⟨f14, fd14, G__of_join, b__of_join, g__of_join, k__of_join⟩ := d__of_join.ex
  obtain ⟨f15, fd15, G__of_take, b__of_take, g__of_take, k__of_take⟩ := d__of_take.ex
  obtain ⟨_, _, kd_LENGTHS⟩ := T.d_LENGTHS
  refine F.ok sc_length_of (fun vs H Q E h => ?_) (fun cdv A outer s H vs Q E hr h => ?_)
  · obtain ⟨qn, l, a, ni, nt, ps, ls, d, rfl, N, hL, hA, tm, td, q⟩ := h
    rfl
  obtain ⟨qn, l, a, ni, nt, ps, ls, d, rfl, N, hL, hA, tm, td, q⟩ := h
  have hu := hr.units
  refine ⟨_, pss_cons (ps_if (pt_not (pt_val (pe_call G__names_exist (hr.mono (by decide)) rfl g__names_exist k__names_exist b__names_exist .nil pass0 (pa_cons (pv 0) (pa_cons (pv 1) (pa_cons (pv 2) pa_nil)))))) (pss_one (ps_ret pe_non)) pss_nil)
 (pss_cons (ps_set (i := 3) sc_length_of.nd rfl (.inl rfl) (pe_ix ix_kdict (pe_glob (v := .ref cs.LENGTHS) rfl T.g_LENGTHS rfl) (pe_ix (ixt_at (K := K) rfl) (pv 2) pe_int (fun _ _ => rfl)) (fun _ _ => rfl)))
 (pss_one (ps_ret (pe_callD (k := 2) (i := 3) hr rfl (by first | exact Or.inl rfl | exact Or.inr (Or.inl rfl)) (pa_cons (pv 0) (pa_cons (pv 1) (pa_cons (pv 2) pa_nil))))))), ?_⟩
  obtain ⟨fr, fam, en, hfam, hheld⟩ := rule_of T d__of_inputs d__of_targets d__of_lin d__of_bias d__of_embed d__of_mat d__of_lower d__of_pair d__of_scale d__of_shift d__of_relu d__of_drop d__of_sum d__of_join d__of_take d
  refine ⟨_, rfl, _, rfl, _, rfl, qn, l, a, ni, nt, ps, ls, d, rfl, N, hL, hA, fun H1 e1 => ?_⟩
  walk_at "go"
  by_cases hf : d.fits ps.length ls.length
  · refine iteNS hf ?_
    have ez : d.lenOf ni nt ps ls = d.len ni nt ps ls := if_pos hf
    rw [ez] at q
    refine ⟨_, rfl, a, _, _, _, rfl, rfl, (Same.seqT e1 hA), d.at0, cs.LENGTHS, d.kind, .ref fr, rfl, rfl, ⟨_, _, _, kd_LENGTHS.at_, kd_LENGTHS.lit, en, rfl⟩, ?_⟩
    exact ⟨fr, _, rfl, hheld, _, rfl, _, rfl, _, rfl, qn, l, a, ni, nt, ps, ls, d, rfl, hfam, N.same e1, e1.seq hL, (Same.seqT e1 hA), hf, tm, td, q H1 e1⟩
  · refine iteNN hf ?_
    have ez : d.lenOf ni nt ps ls = none := if_neg hf
    rw [ez] at q
    exact q H1 e1
theorem ok__lengths (F : Fun K "_lengths" "_lengths" s__lengths f fd) (T : Txt K mg cs w) (d_length_of : Def P w K mg base 3 "length_of" ["net", "known", "node"] (spLength K cs)) :
    FnOk P w K mg base CX0 4 f fd ["net"] (spLengths K cs) := by
  obtain ⟨f0, fd0, G_length_of, b_length_of, g_length_of, k_length_of⟩ := d_length_of.ex
  refine F.ok sc__lengths (fun vs H Q E h => ?_) (fun cdv A outer s H vs Q E hr h => ?_)
  · obtain ⟨qn, ni, nt, ps, nds, rfl, N, M, ok, q⟩ := h
    rfl
  obtain ⟨qn, ni, nt, ps, nds, rfl, N, M, ok, q⟩ := h
  have hu := hr.units
  refine ⟨_, pss_cons (ps_set (i := 1) sc__lengths.nd rfl (.inl rfl) (pe_lst pa_nil))
 (pss_cons (ps_for PassesOwn.never rfl (pi_list (pe_fld_at (K := K) rfl (pv 0) rfl)) (pg_name (i := 2) sc__lengths.nd rfl (.inl rfl)) (pss_cons (ps_set (i := 3) sc__lengths.nd rfl (.inl rfl) (pe_call G_length_of hr rfl g_length_of k_length_of b_length_of .nil pass0 (pa_cons (pv 0) (pa_cons (pv 1) (pa_cons (pv 2) pa_nil)))))
 (pss_cons (ps_if (pt_cmpR op_isN (pv 3) pe_non (nomark _)) (pss_one (ps_ret (pv 1))) pss_nil)
 (pss_one (ps_expr (pe_bm PySem.F.plainAttrs_list PySem.F.slot_list_append PySem.F.type_list_append mt_append (pv 1) (pa_cons (pv 3) pa_nil)))))))
 (pss_one (ps_ret (pv 1)))), ?_⟩
  obtain ⟨dx, fs, NN, nr, m1, m2, m3, m4⟩ := M.ex
  have ln : nr.length = nds.length := m4.length
  refine ⟨Nat.zero_le _, fun o no => ?_⟩
  have sm := same_new no (.lst [])
  refine ⟨_, rfl, qn, _, dx, fs, _, rfl, sm _ _ m1, T.C_Net, T.na_Net_nodes, m2, NN, rfl, ⟨_, SqL.of (sm _ _ m3)⟩, ?_⟩
  refine for_list (xs := nr.map V.ref) (fun (t : Nat) σ H' => ∃ (y2 y3 : Option V) (ks : List Int), σ = [some (.ref qn), some (.ref o), y2, y3] ∧ Same H H' ∧ H' o = some (.lst (ks.map V.int)) ∧ lensFrom ni nt ps [] nds = lensFrom ni nt ps ks (nds.drop t) ∧ ks.length ≤ t)
    ⟨none, none, [], rfl, sm, upd_same, rfl, Nat.zero_le _⟩ (fun t σ H' _ hP => ?_) (fun t x σ H' hx hP => ?_) (fun σ H' hP => ?_)
  · obtain ⟨y2, y3, ks, rfl, e, ho, _⟩ := hP
    exact SqL.of (e _ _ m3)
  · obtain ⟨y2, y3, ks, rfl, e, ho, hk, hl⟩ := hP
    have ht : t < nr.length := by
      have := (List.getElem?_eq_some_iff.mp hx).1
      rwa [List.length_map] at this
    have hd : nds[t]? = some nds[t] := List.getElem?_eq_getElem (by omega)
    obtain ⟨a, ea, ra⟩ := m4.get hd
    rw [List.getElem?_map, ea] at hx
    cases hx
    have hdr : nds.drop t = nds[t] :: nds.drop (t + 1) := List.drop_eq_getElem_cons (by omega)
    have hk' := hk
    rw [hdr] at hk
    obtain ⟨rr, er⟩ := lensFrom_pre ni nt ps (nds.drop t) ks
    have tm : Tame ps ks := ⟨ok.par, fun l hl => ok.len l (by rw [hk', er]; exact List.mem_append_left _ hl)⟩
    refine ⟨_, rfl, _, rfl, _, rfl, qn, o, a, ni, nt, ps, ks, nds[t], rfl, N.same e, SqL.of ho, Same.seqT e ra, tm, ok.nod _ (List.getElem_mem _), fun H2 e2 => ?_⟩
    walk_at "go"
    cases hz : (nds[t]).lenOf ni nt ps ks with
    | none =>
      refine iteD rfl ?_
      have hfin : lensFrom ni nt ps [] nds = ks := by
        rw [hk]
        unfold lensFrom
        rw [hz]
      rw [hfin] at q
      exact ⟨_, rfl, q o H2 no (e.trans e2) (e2 _ _ ho)⟩
    | some n =>
      refine iteDN (fun z => by cases z) ?_
      refine ⟨_, rfl, .inl ⟨rfl, _, .inl (.inl (e2 _ _ ho))⟩, _, rfl, o, _, _, rfl, rfl, e2 _ _ ho, smaller (by rw [List.length_map]; have := ok.few; omega), ?_⟩
      refine ⟨_, _, _, rfl, same_mut (e.trans e2) no, map_more _ _, ?_, by rw [List.length_append, List.length_singleton]; omega⟩
      rw [hk]
      show (match (nds[t]).lenOf ni nt ps ks with | none => ks | some n => lensFrom ni nt ps (ks ++ [n]) (nds.drop (t + 1))) = _
      rw [hz]
  · obtain ⟨y2, y3, ks, rfl, e, ho, hk, hl⟩ := hP
    rw [List.length_map, ln, List.drop_length] at hk
    have hfin : lensFrom ni nt ps [] nds = ks := hk
    rw [hfin] at q
    exact ⟨_, rfl, q o H' no e ho⟩
theorem ok_Parameter___init__ (F : Fun K "__init__" "Parameter.__init__" s_Parameter___init__ f fd) (T : Txt K mg cs w)  :
    FnOk P w K mg base CX0 1 f fd ["self", "rows", "cols", "fill"] (spParInit cs) := by
  refine F.ok sc_Parameter___init__ (fun vs H Q E h => ?_) (fun cdv A outer s H vs Q E hr h => ?_)
  · obtain ⟨x, dx, r, c, fill, rfl, hx, q⟩ := h
    rfl
  obtain ⟨x, dx, r, c, fill, rfl, hx, q⟩ := h
  have hu := hr.units
  refine ⟨_, pss_cons (ps_fld (pv 0) (pv 1) rfl)
 (pss_cons (ps_fld (pv 0) (pv 2) rfl)
 (pss_one (ps_fld (pv 0) (pv 3) rfl))), ?_⟩
  refine ⟨_, rfl, _, rfl, x, _, dx, [], rfl, hx, T.C_Parameter, T.na_Parameter_rows, by decide, ?_⟩
  refine ⟨_, rfl, _, rfl, x, _, dx, _, rfl, upd_same, T.C_Parameter, T.na_Parameter_cols, put_lt (put_le put_no), ?_⟩
  refine ⟨_, rfl, _, rfl, x, _, dx, _, rfl, upd_same, T.C_Parameter, T.na_Parameter_fill, put_lt (put_le (put_le put_no)), ?_⟩
  refine q _ _ (fun b o n hb => by rw [upd_ne n, upd_ne n, upd_ne n]; exact hb) upd_same ?_ ?_ ?_
  · rw [lookup_putF, if_neg (by decide), lookup_putF, if_neg (by decide), lookup_putF, if_pos rfl]
  · rw [lookup_putF, if_neg (by decide), lookup_putF, if_pos rfl]
  · rw [lookup_putF, if_pos rfl]
theorem ok_Net___init__ (F : Fun K "__init__" "Net.__init__" s_Net___init__ f fd) (T : Txt K mg cs w) (d__lengths : Def P w K mg base 4 "_lengths" ["net"] (spLengths K cs)) :
    FnOk P w K mg base CX0 5 f fd ["self", "inputs", "targets", "parameters", "nodes"] (spNetInit K cs) := by
  obtain ⟨f0, fd0, G__lengths, b__lengths, g__lengths, k__lengths⟩ := d__lengths.ex
  refine F.ok sc_Net___init__ (fun vs H Q E h => ?_) (fun cdv A outer s H vs Q E hr h => ?_)
  · obtain ⟨x, dx, PP, NN, ni, nt, pms, nds, pr, nr, rfl, hx, hP, aP, hN, aN, ok, q⟩ := h
    rfl
  obtain ⟨x, dx, PP, NN, ni, nt, pms, nds, pr, nr, rfl, hx, hP, aP, hN, aN, ok, q⟩ := h
  have hu := hr.units
  refine ⟨_, pss_cons (ps_fld (pv 0) (pv 1) rfl)
 (pss_cons (ps_fld (pv 0) (pv 2) rfl)
 (pss_cons (ps_fld (pv 0) (pe_callTy (list_at (K := K) rfl) (by rfl) T.z_list PyProof.Rows.boot_list (pa_cons (pv 3) pa_nil)) rfl)
 (pss_cons (ps_fld (pv 0) (pe_callTy (list_at (K := K) rfl) (by rfl) T.z_list PyProof.Rows.boot_list (pa_cons (pv 4) pa_nil)) rfl)
 (pss_one (ps_fld (pv 0) (pe_call G__lengths hr rfl g__lengths k__lengths b__lengths .nil pass0 (pa_cons (pv 0) pa_nil)) rfl))))), ?_⟩
  have kI : ¬ (("inputs" : Str) = "targets") := by decide
  refine ⟨_, rfl, _, rfl, x, _, dx, [], rfl, hx, T.C_Net, T.na_Net_inputs, by decide, ?_⟩
  refine ⟨_, rfl, _, rfl, x, _, dx, _, rfl, upd_same, T.C_Net, T.na_Net_targets, put_lt (put_le put_no), ?_⟩
  -- what has been stored so far; all else is as it was
  have e0 : But x H (upd (upd H x (.ins cs.Net dx (putF "inputs" (.int ni) []))) x (.ins cs.Net dx (putF "targets" (.int nt) (putF "inputs" (.int ni) [])))) := fun b o n hb => by rw [upd_ne n, upd_ne n]; exact hb
  have x0 : (upd (upd H x (.ins cs.Net dx (putF "inputs" (.int ni) []))) x (.ins cs.Net dx (putF "targets" (.int nt) (putF "inputs" (.int ni) [])))) x = some (.ins cs.Net dx (putF "targets" (.int nt) (putF "inputs" (.int ni) []))) := upd_same
  generalize upd (upd H x (.ins cs.Net dx (putF "inputs" (.int ni) []))) x (.ins cs.Net dx (putF "targets" (.int nt) (putF "inputs" (.int ni) []))) = H0 at *
  generalize ef2 : putF "targets" (.int nt) (putF "inputs" (.int ni) []) = fs2 at *
  have l2 : fs2.length ≤ 2 := by rw [← ef2]; exact put_le (put_le put_no)
  have i2 : fs2.lookup ("inputs" : Str) = some (.int ni) := by rw [← ef2, lookup_putF, if_neg (by decide), lookup_putF, if_pos rfl]
  have t2 : fs2.lookup ("targets" : Str) = some (.int nt) := by rw [← ef2, lookup_putF, if_pos rfl]
  -- self.parameters = list(parameters)
  refine ⟨_, rfl, PP, _, rfl, .inl (e0.seqI hx hP), fun L1 n1 => ?_⟩
  have nx1 : x ≠ L1 := ne_of_none x0 n1
  refine ⟨_, rfl, x, _, dx, _, rfl, (by rw [upd_ne nx1]; exact x0), T.C_Net, T.na_Net_parameters, put_lt l2, ?_⟩
  have n1' : H L1 = none := by
    cases z : H L1 with
    | none => rfl
    | some o => rw [e0 _ _ nx1.symm z] at n1; cases n1
  have e1 : But x H (upd (upd H0 L1 (.lst (pr.map V.ref))) x (.ins cs.Net dx (putF "parameters" (.ref L1) fs2))) := fun b o n hb => by rw [upd_ne n, upd_ne (ne_of_none hb n1')]; exact e0 b o n hb
  have x1 : (upd (upd H0 L1 (.lst (pr.map V.ref))) x (.ins cs.Net dx (putF "parameters" (.ref L1) fs2))) x = some (.ins cs.Net dx (putF "parameters" (.ref L1) fs2)) := upd_same
  have p1 : (upd (upd H0 L1 (.lst (pr.map V.ref))) x (.ins cs.Net dx (putF "parameters" (.ref L1) fs2))) L1 = some (.lst (pr.map V.ref)) := by rw [upd_ne nx1.symm, upd_same]
  generalize upd (upd H0 L1 (.lst (pr.map V.ref))) x (.ins cs.Net dx (putF "parameters" (.ref L1) fs2)) = H1 at *
  -- self.nodes = list(nodes)
  refine ⟨_, rfl, NN, _, rfl, .inl (e1.seqI hx hN), fun L2 n2 => ?_⟩
  have nx2 : x ≠ L2 := ne_of_none x1 n2
  have nl2 : L1 ≠ L2 := ne_of_none p1 n2
  refine ⟨_, rfl, x, _, dx, _, rfl, (by rw [upd_ne nx2]; exact x1), T.C_Net, T.na_Net_nodes, put_lt (put_le l2), ?_⟩
  have n2' : H L2 = none := by
    cases z : H L2 with
    | none => rfl
    | some o => rw [e1 _ _ nx2.symm z] at n2; cases n2
  generalize ef4 : putF "nodes" (.ref L2) (putF "parameters" (.ref L1) fs2) = fs4 at *
  have l4 : fs4.length ≤ 4 := by rw [← ef4]; exact put_le (put_le l2)
  have i4 : fs4.lookup ("inputs" : Str) = some (.int ni) := by rw [← ef4, lookup_putF, if_neg (by decide), lookup_putF, if_neg (by decide)]; exact i2
  have t4 : fs4.lookup ("targets" : Str) = some (.int nt) := by rw [← ef4, lookup_putF, if_neg (by decide), lookup_putF, if_neg (by decide)]; exact t2
  have p4 : fs4.lookup ("parameters" : Str) = some (.ref L1) := by rw [← ef4, lookup_putF, if_neg (by decide), lookup_putF, if_pos rfl]
  have m4 : fs4.lookup ("nodes" : Str) = some (.ref L2) := by rw [← ef4, lookup_putF, if_pos rfl]
  have e2 : But x H (upd (upd H1 L2 (.lst (nr.map V.ref))) x (.ins cs.Net dx fs4)) := fun b o n hb => by rw [upd_ne n, upd_ne (ne_of_none hb n2')]; exact e1 b o n hb
  have x2 : (upd (upd H1 L2 (.lst (nr.map V.ref))) x (.ins cs.Net dx fs4)) x = some (.ins cs.Net dx fs4) := upd_same
  have p2 : (upd (upd H1 L2 (.lst (nr.map V.ref))) x (.ins cs.Net dx fs4)) L1 = some (.lst (pr.map V.ref)) := by rw [upd_ne nx1.symm, upd_ne nl2]; exact p1
  have m2 : (upd (upd H1 L2 (.lst (nr.map V.ref))) x (.ins cs.Net dx fs4)) L2 = some (.lst (nr.map V.ref)) := by rw [upd_ne nx2.symm, upd_same]
  generalize upd (upd H1 L2 (.lst (nr.map V.ref))) x (.ins cs.Net dx fs4) = H2 at *
  have aP2 : All2 (ParV cs H2) pr (sides pms) := all_sides (aP.mono fun _ _ r => r.but e2 hx)
  have aN2 : All2 (NdV K H2) nr nds := aN.mono fun _ _ r => e2.seqTI hx r
  -- self.lengths = _lengths(self)
  refine ⟨_, rfl, x, ni, nt, sides pms, nds, rfl, ⟨dx, fs4, L1, pr, x2, i4, t4, p4, p2, aP2⟩, ⟨dx, fs4, L2, nr, x2, m4, m2, aN2⟩, ok, fun L3 H3 n3 e3 h3 => ?_⟩
  have x3 := e3 _ _ x2
  refine ⟨_, rfl, x, _, dx, _, rfl, x3, T.C_Net, T.na_Net_lengths, put_lt l4, ?_⟩
  have nxp : L1 ≠ x := nx1.symm
  have nxm : L2 ≠ x := nx2.symm
  have nx3 : L3 ≠ x := (ne_of_none x2 n3).symm
  have e4 : But x H (upd H3 x (.ins cs.Net dx (putF "lengths" (.ref L3) fs4))) := fun b o n hb => by rw [upd_ne n]; exact e3 _ _ (e2 b o n hb)
  have y4 : (upd H3 x (.ins cs.Net dx (putF "lengths" (.ref L3) fs4))) x = some (.ins cs.Net dx (putF "lengths" (.ref L3) fs4)) := upd_same
  refine q _ e4 ⟨dx, _, L1, L2, pr, nr, y4, ?_, ?_, ?_, ?_, ?_, aP.mono fun _ _ r => r.but e4 hx, ?_, aN.mono fun _ _ r => e4.seqTI hx r⟩ ⟨dx, _, L3, y4, ?_, ?_⟩
  · rw [lookup_putF, if_neg (by decide)]; exact i4
  · rw [lookup_putF, if_neg (by decide)]; exact t4
  · rw [lookup_putF, if_neg (by decide)]; exact p4
  · rw [lookup_putF, if_neg (by decide)]; exact m4
  · rw [upd_ne nxp]; exact e3 _ _ p2
  · rw [upd_ne nxm]; exact e3 _ _ m2
  · rw [lookup_putF, if_pos rfl]
  · rw [upd_ne nx3]; exact h3

end
section
variable {P : Program} {w : World} {K : PySem.W.Frag} {mg : Str → Option Value} {cs : Cs} {base : Heap} {f : Addr} {fd : FuncData}
theorem ok__law_cell (F : Fun K "_law_cell" "_law_cell" s__law_cell f fd) (T : Txt K mg cs w)  :
    FnOk P w K mg base CX0 1 f fd ["script", "k"] (spCell K) := by
  refine F.ok sc__law_cell (fun vs H Q E h => ?_) (fun cdv A outer s H vs Q E hr h => ?_)
  · obtain ⟨a, ns, k, rfl, hS, h0, q⟩ := h
    rfl
  obtain ⟨a, ns, k, rfl, hS, h0, q⟩ := h
  have hu := hr.units
  refine ⟨_, pss_cons (ps_if (pt_cmpR op_lt (pv 1) (pe_callB (len_at (K := K) rfl) (by rfl) T.z_len PySem.boot_len (pa_cons (pv 0) pa_nil)) (nomark _)) (pss_one (ps_ret (pe_ix (ixl_at (K := K) rfl) (pv 0) (pv 1) (fun _ _ => rfl)))) pss_nil)
 (pss_one (ps_ret pe_int)), ?_⟩
  -- k; len(script); the test
  refine ⟨_, rfl, _, rfl, a, _, rfl, .inl hS, _, _, rfl, rfl, _, rfl, ?_⟩
  refine ite2 (fun c => ?_) (fun c => ?_)
  · have c' : k < (((ns.map V.int).length : Nat) : Int) := of_decide_eq_true c
    rw [List.length_map] at c'
    have hk : k.toNat < ns.length := by omega
    have ek : k = ((k.toNat : Nat) : Int) := by omega
    have z : atI (ns.map V.int) ((k.toNat : Nat) : Int) = some (.int ns[k.toNat]) := atI_nat (by rw [List.getElem?_map, List.getElem?_eq_getElem hk] <;> rfl)
    rw [← ek] at z
    exact ⟨_, rfl, _, rfl, a, _, _, _, rfl, rfl, hS, z, q _⟩
  · exact q 0

theorem ok__law_row (F : Fun K "_law_row" "_law_row" s__law_row f fd) (T : Txt K mg cs w) (d__law_cell : Def P w K mg base 1 "_law_cell" ["script", "k"] (spCell K)) :
    FnOk P w K mg base CX0 2 f fd ["script", "first", "last"] (spRow K) := by
  obtain ⟨f0, fd0, G__law_cell, b__law_cell, g__law_cell, k__law_cell⟩ := d__law_cell.ex
  refine F.ok sc__law_row (fun vs H Q E h => ?_) (fun cdv A outer s H vs Q E hr h => ?_)
  · obtain ⟨a, ns, i, j, rfl, hS, h0, h1, h2, q⟩ := h
    rfl
  obtain ⟨a, ns, i, j, rfl, hS, h0, h1, h2, q⟩ := h
  have hu := hr.units
  refine ⟨_, pss_cons (ps_set (i := 3) sc__law_row.nd rfl (.inl rfl) (pe_lst pa_nil))
 (pss_cons (ps_for PassesOwn.never rfl (pi_range2 rfl T.z_range (pa_cons (pv 1) (pa_cons (pv 2) pa_nil))) (pg_name (i := 4) sc__law_row.nd rfl (.inl rfl)) (pss_cons (ps_set (i := 5) sc__law_row.nd rfl (.inl rfl) (pe_call G__law_cell hr rfl g__law_cell k__law_cell b__law_cell .nil pass0 (pa_cons (pv 0) (pa_cons (pv 4) pa_nil))))
 (pss_cons (ps_set (i := 5) sc__law_row.nd rfl (.inl rfl) (pe_op op_add (pe_callB call_abs (by rfl) T.z_abs (by decide +kernel) (pa_cons (pe_op op_mul pe_int (pv 5)) pa_nil)) (pe_callTy call_int1 (by rfl) T.z_int PyProof.Rows.boot_int (pa_cons (pe_cmpR op_lt (pv 5) pe_int (nomark _)) pa_nil))))
 (pss_one (ps_if (pt_cmpR op_gt (pv 5) (pe_op op_pow pe_int pe_int) (nomark _)) (pss_one (ps_for PassesOwn.never rfl (pi_range1 rfl T.z_range (pa_cons pe_int pa_nil)) (pg_name (i := 6) sc__law_row.nd rfl (.inl rfl)) (pss_one (ps_if (pt_cmpR op_gt (pv 5) pe_int (nomark _)) (pss_cons (ps_expr (pe_bm PySem.F.plainAttrs_list PySem.F.slot_list_append PySem.F.type_list_append mt_append (pv 3) (pa_cons (pe_op op_mod (pe_callTy call_int1 (by rfl) T.z_int PyProof.Rows.boot_int (pa_cons (pv 5) pa_nil)) pe_int) pa_nil)))
 (pss_one (ps_set (i := 5) sc__law_row.nd rfl (.inl rfl) (pe_op op_fdiv (pv 5) pe_int)))) pss_nil)))) (pss_one (ps_for PassesOwn.never rfl (pi_range1 rfl T.z_range (pa_cons pe_int pa_nil)) (pg_name (i := 6) sc__law_row.nd rfl (.inl rfl)) (pss_cons (ps_set (i := 5) sc__law_row.nd rfl (.inl rfl) (pe_op op_mod (pe_callTy call_int1 (by rfl) T.z_int PyProof.Rows.boot_int (pa_cons (pe_op op_add (pe_op op_add (pe_op op_mul (pv 5) pe_int) (pe_op op_mul pe_int (pe_op op_add (pv 4) (pv 6)))) pe_int) pa_nil)) pe_int))
 (pss_one (ps_expr (pe_bm PySem.F.plainAttrs_list PySem.F.slot_list_append PySem.F.type_list_append mt_append (pv 3) (pa_cons (pe_op op_mod (pe_callTy call_int1 (by rfl) T.z_int PyProof.Rows.boot_int (pa_cons (pe_op op_fdiv (pv 5) pe_int) pa_nil)) pe_int) pa_nil))))))))))))
 (pss_one (ps_ret (pv 3)))), ?_⟩
  -- row = []
  refine ⟨Nat.zero_le _, fun o no => ?_⟩
  -- for k in range(first, last)
  refine ⟨_, rfl, _, rfl, i, j, rfl, ⟨by omega, by omega, by omega, by omega⟩, ?_⟩
  refine for_range (fun (t : Nat) σ H' => ∃ (y4 y5 y6 : Option V) (rs : List Int), σ = [some (.ref a), some (.int i), some (.int j), some (.ref o), y4, y5, y6] ∧ Same H H' ∧ H' o = some (.lst (rs.map V.int)) ∧ rs.length ≤ 60 * t)
    ⟨none, none, none, [], rfl, same_new no _, upd_same, Nat.zero_le _⟩ (fun t σ H' ht hP => ?_) (fun σ H' hP => ?_)
  · obtain ⟨y4, y5, y6, rs, rfl, sm, ho, hl⟩ := hP
    -- cell = _law_cell(script, k)
    refine ⟨_, rfl, _, rfl, a, ns, i + t, rfl, sm.seq hS, by omega, fun n => ?_⟩
    -- cell = abs(2 * cell) + int(cell < 0)
    walk_at "go"
    refine ite2 (fun c => ?_) (fun c => ?_)
    · -- 60 turns
      refine ⟨60, rfl, by decide, by decide, ?_⟩
      refine for_range (fun (u : Nat) σ H' => ∃ (y6 : Option V) (m : Int) (rs' : List Int), σ = [some (.ref a), some (.int i), some (.int j), some (.ref o), some (.int (i + t)), some (.int m), y6] ∧ Same H H' ∧ H' o = some (.lst (rs'.map V.int)) ∧ rs'.length ≤ 60 * t + u)
        ⟨y6, _, rs, rfl, sm, ho, by omega⟩ (fun u σ H' hu hP => ?_) (fun σ H' hP => ?_)
      · obtain ⟨y6, m, rs', rfl, sm, ho, hl⟩ := hP
        walk_at "go"
        refine ite2 (fun c => ?_) (fun c => ?_)
        · refine ⟨_, rfl, .inl ⟨rfl, _, .inl (.inl ho)⟩, ?_⟩
          walk_at "go"
          refine ⟨o, _, _, rfl, rfl, ho, smaller (by rw [List.length_map]; omega), ?_⟩
          walk_at "go"
          exact ⟨_, _, _, rfl, same_mut sm no, map_more _ _, by rw [List.length_append, List.length_singleton]; omega⟩
        · exact ⟨_, m, rs', rfl, sm, ho, by omega⟩
      · obtain ⟨y6, m, rs', rfl, sm, ho, hl⟩ := hP
        exact ⟨_, _, _, rs', rfl, sm, ho, by omega⟩
    · -- 10 turns
      refine ⟨10, rfl, by decide, by decide, ?_⟩
      refine for_range (fun (u : Nat) σ H' => ∃ (y6 : Option V) (m : Int) (rs' : List Int), σ = [some (.ref a), some (.int i), some (.int j), some (.ref o), some (.int (i + t)), some (.int m), y6] ∧ Same H H' ∧ H' o = some (.lst (rs'.map V.int)) ∧ rs'.length ≤ 60 * t + u)
        ⟨y6, _, rs, rfl, sm, ho, by omega⟩ (fun u σ H' hu hP => ?_) (fun σ H' hP => ?_)
      · obtain ⟨y6, m, rs', rfl, sm, ho, hl⟩ := hP
        walk_at "go"
        refine ⟨.inl ⟨rfl, _, .inl (.inl ho)⟩, ?_⟩
        walk_at "go"
        refine ⟨o, _, _, rfl, rfl, ho, smaller (by rw [List.length_map]; omega), ?_⟩
        exact ⟨_, _, _, rfl, same_mut sm no, map_more _ _, by rw [List.length_append, List.length_singleton]; omega⟩
      · obtain ⟨y6, m, rs', rfl, sm, ho, hl⟩ := hP
        exact ⟨_, _, _, rs', rfl, sm, ho, by omega⟩
  · obtain ⟨y4, y5, y6, rs, rfl, sm, ho, hl⟩ := hP
    exact ⟨_, rfl, q o rs H' no sm ho⟩
theorem ok__law_draw (F : Fun K "_law_draw" "_law_draw" s__law_draw f fd) (T : Txt K mg cs w)  :
    FnOk P w K mg base CX0 1 f fd ["box", "many"] (spDraw) := by
  refine F.ok sc__law_draw (fun vs H Q E h => ?_) (fun cdv A outer s H vs Q E hr h => ?_)
  · obtain ⟨b, r, rs, many, rfl, B, hm, q⟩ := h
    rfl
  obtain ⟨b, r, rs, many, rfl, B, hm, q⟩ := h
  have hu := hr.units
  refine ⟨_, pss_cons (ps_set (i := 2) sc__law_draw.nd rfl (.inl rfl) (pe_ix (ixl_at (K := K) rfl) (pv 0) pe_int (fun _ _ => rfl)))
 (pss_cons (ps_asg (pe_op op_add (pv 2) pe_int) (pg_sub (pv 0) pe_int set_list))
 (pss_cons (ps_if (pt_cmpR op_lt (pv 2) (pe_callB (len_at (K := K) rfl) (by rfl) T.z_len PySem.boot_len (pa_cons (pe_ix (ixl_at (K := K) rfl) (pv 0) pe_int (fun _ _ => rfl)) pa_nil)) (nomark _)) (pss_one (ps_ret (pe_op op_mod (pe_callTy call_int1 (by rfl) T.z_int PyProof.Rows.boot_int (pa_cons (pe_ix (ixl_at (K := K) rfl) (pe_ix (ixl_at (K := K) rfl) (pv 0) pe_int (fun _ _ => rfl)) (pv 2) (fun _ _ => rfl)) pa_nil)) (pv 1)))) pss_nil)
 (pss_one (ps_ret (pe_op op_mod (pe_callTy call_int1 (by rfl) T.z_int PyProof.Rows.boot_int (pa_cons (pe_op op_add (pe_op op_mul (pv 2) pe_int) pe_int) pa_nil)) (pv 1)))))), ?_⟩
  obtain ⟨z, hz, hb⟩ := B.ex
  have hr' := B.row
  -- at = box[1]
  refine ⟨_, rfl, b, _, _, _, rfl, rfl, SqL.of hb, rfl, ?_⟩
  -- box[1] = at + 1
  walk_at "go"
  refine ⟨b, _, _, 1, rfl, rfl, hb, rfl, ?_⟩
  have e : (upd H b (.lst ([V.ref r, V.int z].set 1 (.int (z + 1))))) b = some (.lst [.ref r, .int (z + 1)]) := upd_same
  have er : (upd H b (.lst ([V.ref r, V.int z].set 1 (.int (z + 1))))) r = some (.lst (rs.map V.int)) := by rw [upd_ne B.ne]; exact hr'
  have B' : Box (upd H b (.lst ([V.ref r, V.int z].set 1 (.int (z + 1))))) b r rs := ⟨⟨z + 1, by omega, e⟩, er⟩
  have bt : But b H (upd H b (.lst ([V.ref r, V.int z].set 1 (.int (z + 1))))) := fun c o n h => by rw [upd_ne n]; exact h
  generalize (upd H b (.lst ([V.ref r, V.int z].set 1 (.int (z + 1))))) = H1 at *
  -- if at < len(box[0])
  refine ⟨_, rfl, _, rfl, b, _, _, _, rfl, rfl, SqL.of e, rfl, r, _, rfl, .inl (SqL.of er), _, _, rfl, rfl, _, rfl, ?_⟩
  refine ite2 (fun c => ?_) (fun c => ?_)
  · have c' : z < (((rs.map V.int).length : Nat) : Int) := of_decide_eq_true c
    rw [List.length_map] at c'
    have hk : z.toNat < rs.length := by omega
    have ek : z = ((z.toNat : Nat) : Int) := by omega
    have y : atI (rs.map V.int) ((z.toNat : Nat) : Int) = some (.int rs[z.toNat]) := atI_nat (by rw [List.getElem?_map, List.getElem?_eq_getElem hk] <;> rfl)
    rw [← ek] at y
    refine ⟨_, rfl, b, _, _, _, rfl, rfl, SqL.of e, rfl, _, rfl, r, _, _, _, rfl, rfl, SqL.of er, y, .inl ⟨_, rfl, _, rfl, _, _, rfl, rfl, hm, ?_⟩⟩
    exact q _ _ (Int.emod_nonneg _ (by omega)) (Int.emod_lt_of_pos _ hm) B' bt
  · refine ⟨_, rfl, _, _, rfl, rfl, .inr ⟨by decide, by decide⟩, _, _, rfl, rfl, .inl ⟨_, rfl, _, rfl, _, _, rfl, rfl, hm, ?_⟩⟩
    exact q _ _ (Int.emod_nonneg _ (by omega)) (Int.emod_lt_of_pos _ hm) B' bt
theorem ok__law_wrap (F : Fun K "_law_wrap" "_law_wrap" s__law_wrap f fd) (T : Txt K mg cs w)  :
    FnOk P w K mg base CX0 1 f fd ["n"] (spWrap) := by
  refine F.ok sc__law_wrap (fun vs H Q E h => ?_) (fun cdv A outer s H vs Q E hr h => ?_)
  · obtain ⟨n, rfl, q⟩ := h
    rfl
  obtain ⟨n, rfl, q⟩ := h
  have hu := hr.units
  refine ⟨_, pss_one (ps_ret (pe_op op_sub (pe_op op_mod (pe_callTy call_int1 (by rfl) T.z_int PyProof.Rows.boot_int (pa_cons (pe_op op_add (pv 0) pe_int) pa_nil)) pe_int) pe_int)), ?_⟩
  walk_at "go"
  exact q

theorem ok__law_is_integer (F : Fun K "_law_is_integer" "_law_is_integer" s__law_is_integer f fd) (T : Txt K mg cs w)  :
    FnOk P w K mg base CX0 1 f fd ["told"] (spIsInt) := by
  refine F.ok sc__law_is_integer (fun vs H Q E h => ?_) (fun cdv A outer s H vs Q E hr h => ?_)
  · obtain ⟨n, rfl, q⟩ := h
    rfl
  obtain ⟨n, rfl, q⟩ := h
  have hu := hr.units
  refine ⟨_, pss_one (ps_ret (pe_and (pe_callB call_isi (by rfl) T.z_isinstance (by decide +kernel) (pa_cons (pv 0) (pa_cons (pe_bltn (v := .ty "int") rfl T.z_int PyProof.Rows.boot_int rfl) pa_nil))) (pe_one (pe_not (pe_callB call_isi (by rfl) T.z_isinstance (by decide +kernel) (pa_cons (pv 0) (pa_cons (pe_bltn (v := .ty "bool") rfl T.z_bool PyProof.Rows.boot_bool rfl) pa_nil))))))), ?_⟩
  refine ⟨_, rfl, _, _, _, _, true, rfl, .ty _, .base (.int n), kit_ty (by decide +kernel), _, rfl, iteT ?_⟩
  refine ⟨_, rfl, _, _, _, _, false, rfl, .ty _, .base (.int n), kit_ty (by decide +kernel), _, rfl, q⟩

theorem ok__law_word (F : Fun K "_law_word" "_law_word" s__law_word f fd) (T : Txt K mg cs w) (d__law_draw : Def P w K mg base 1 "_law_draw" ["box", "many"] (spDraw)) (d__law_wrap : Def P w K mg base 1 "_law_wrap" ["n"] (spWrap)) :
    FnOk P w K mg base CX0 2 f fd ["box"] (spWord) := by
  obtain ⟨f0, fd0, G__law_draw, b__law_draw, g__law_draw, k__law_draw⟩ := d__law_draw.ex
  obtain ⟨f1, fd1, G__law_wrap, b__law_wrap, g__law_wrap, k__law_wrap⟩ := d__law_wrap.ex
  refine F.ok sc__law_word (fun vs H Q E h => ?_) (fun cdv A outer s H vs Q E hr h => ?_)
  · obtain ⟨b, r, rs, rfl, B, q⟩ := h
    rfl
  obtain ⟨b, r, rs, rfl, B, q⟩ := h
  have hu := hr.units
  refine ⟨_, pss_cons (ps_set (i := 1) sc__law_word.nd rfl (.inl rfl) (pe_call G__law_draw hr rfl g__law_draw k__law_draw b__law_draw .nil pass0 (pa_cons (pv 0) (pa_cons pe_int pa_nil))))
 (pss_cons (ps_if (pt_cmpR op_lt (pv 1) pe_int (nomark _)) (pss_one (ps_ret (pe_op op_sub (pe_call G__law_draw hr rfl g__law_draw k__law_draw b__law_draw .nil pass0 (pa_cons (pv 0) (pa_cons pe_int pa_nil))) pe_int))) pss_nil)
 (pss_cons (ps_if (pt_cmpR op_eq (pv 1) pe_int (nomark _)) (pss_one (ps_ret (pe_op op_sub pe_int (pe_call G__law_draw hr rfl g__law_draw k__law_draw b__law_draw .nil pass0 (pa_cons (pv 0) (pa_cons pe_int pa_nil)))))) pss_nil)
 (pss_cons (ps_if (pt_cmpR op_eq (pv 1) pe_int (nomark _)) (pss_one (ps_ret (pe_op op_sub (pe_call G__law_draw hr rfl g__law_draw k__law_draw b__law_draw .nil pass0 (pa_cons (pv 0) (pa_cons pe_int pa_nil))) pe_int))) pss_nil)
 (pss_cons (ps_if (pt_cmpR op_eq (pv 1) pe_int (nomark _)) (pss_one (ps_ret (pe_op op_mul pe_int (pe_op op_sub (pe_call G__law_draw hr rfl g__law_draw k__law_draw b__law_draw .nil pass0 (pa_cons (pv 0) (pa_cons pe_int pa_nil))) pe_int)))) pss_nil)
 (pss_cons (ps_set (i := 2) sc__law_word.nd rfl (.inl rfl) pe_int)
 (pss_cons (ps_for PassesOwn.never rfl (pi_range1 rfl T.z_range (pa_cons pe_int pa_nil)) (pg_name (i := 3) sc__law_word.nd rfl (.inl rfl)) (pss_one (ps_set (i := 2) sc__law_word.nd rfl (.inl rfl) (pe_op op_add (pe_op op_mul (pv 2) pe_int) (pe_call G__law_draw hr rfl g__law_draw k__law_draw b__law_draw .nil pass0 (pa_cons (pv 0) (pa_cons pe_int pa_nil)))))))
 (pss_one (ps_ret (pe_call G__law_wrap hr rfl g__law_wrap k__law_wrap b__law_wrap .nil pass0 (pa_cons (pv 2) pa_nil)))))))))), ?_⟩
  refine ⟨_, rfl, b, r, rs, 7, rfl, B, by decide, fun kind H1 k0 k1 B1 e1 => ?_⟩
  walk_at "go"
  refine ite2 (fun _ => ?_) (fun _ => ?_)
  · refine ⟨_, rfl, b, r, rs, 7, rfl, B1, by decide, fun v H2 v0 v1 B2 e2 => ?_⟩
    walk_at "go"
    exact q _ _ (by omega) (by omega) B2 (e1.trans e2)
  walk_at "go"
  refine ite2 (fun _ => ?_) (fun _ => ?_)
  · refine ⟨_, rfl, b, r, rs, 3, rfl, B1, by decide, fun v H2 v0 v1 B2 e2 => ?_⟩
    walk_at "go"
    exact q _ _ (by omega) (by omega) B2 (e1.trans e2)
  walk_at "go"
  refine ite2 (fun _ => ?_) (fun _ => ?_)
  · refine ⟨_, rfl, b, r, rs, 3, rfl, B1, by decide, fun v H2 v0 v1 B2 e2 => ?_⟩
    walk_at "go"
    exact q _ _ (by omega) (by omega) B2 (e1.trans e2)
  walk_at "go"
  refine ite2 (fun _ => ?_) (fun _ => ?_)
  · refine ⟨_, rfl, b, r, rs, 7, rfl, B1, by decide, fun v H2 v0 v1 B2 e2 => ?_⟩
    walk_at "go"
    exact q _ _ (by omega) (by omega) B2 (e1.trans e2)
  -- n = 0; four turns
  walk_at "go"
  refine ⟨by decide, by decide, ?_⟩
  refine for_range (fun (t : Nat) σ H' => ∃ (y3 : Option V) (n : Int), σ = [some (.ref b), some (.int kind), some (.int n), y3] ∧ Box H' b r rs ∧ But b H1 H') ⟨none, 0, rfl, B1, But.refl b H1⟩ (fun t σ H' ht hP => ?_) (fun σ H' hP => ?_)
  · obtain ⟨y3, n, rfl, B2, e2⟩ := hP
    walk_at "go"
    refine ⟨b, r, rs, 840, rfl, B2, by decide, fun v H3 v0 v1 B3 e3 => ?_⟩
    walk_at "go"
    exact ⟨_, _, rfl, B3, e2.trans e3⟩
  · obtain ⟨y3, n, rfl, B2, e2⟩ := hP
    refine ⟨_, rfl, n, rfl, ?_⟩
    exact q _ _ (wr_lo n) (wr_hi n) B2 (e1.trans e2)
end


section
variable {P : Program} {w : World} {K : PySem.W.Frag} {mg : Str → Option Value} {cs : Cs} {base : Heap} {f : Addr} {fd : FuncData}
theorem ok__law_divisors (F : Fun K "_law_divisors" "_law_divisors" s__law_divisors f fd) (T : Txt K mg cs w)  :
    FnOk P w K mg base CX0 1 f fd ["n", "most"] (spDivisors) := by
  refine F.ok sc__law_divisors (fun vs H Q E h => ?_) (fun cdv A outer s H vs Q E hr h => ?_)
  · obtain ⟨n, most, rfl, h1, h2, q⟩ := h
    rfl
  obtain ⟨n, most, rfl, h1, h2, q⟩ := h
  have hu := hr.units
  refine ⟨_, pss_one (ps_ret (pe_lc (own := [("d", 2)]) (g := gName 2)  rfl sc__law_divisors.nd (pi_range2 rfl T.z_range (pa_cons pe_int (pa_cons (pe_op op_add (pv 1) pe_int) pa_nil))) (blkOk_by (N := ["n", "most", "d"]) (sc := defScope s__law_divisors) (by decide +kernel)) (fun _ _ _ _ _ => (pg_name (i := 2) sc__law_divisors.nd rfl (.inl rfl))) (fun _ _ _ _ _ => pts_one (pt_cmpR op_eq (pe_op op_mod (pe_callTy call_int1 (by rfl) T.z_int PyProof.Rows.boot_int (pa_cons (pv 0) pa_nil)) (pv 2)) pe_int (nomark _))) (fun _ _ _ _ _ => (pv 2)))), ?_⟩
  refine ⟨_, rfl, _, _, rfl, rfl, 1, most + 1, rfl, ⟨by decide, by decide, by omega, by omega⟩, fun D nD => ?_⟩
  refine lc_range (fun (i : Nat) H' => ∃ ds : List Int, But D H H' ∧ H' D = some (.lst (ds.map V.int)) ∧ (∀ d ∈ ds, 1 ≤ d ∧ d ≤ most ∧ n % d = 0) ∧ ds.length ≤ i ∧ (0 < i → 0 < ds.length)) ⟨[], .of (same_new nD _), upd_same, (fun d hd => by cases hd), Nat.zero_le _, (fun h => absurd h (by decide))⟩ (fun i H' hi hP => ?_) (fun H' hP => ?_)
  · obtain ⟨ds, e, hD, hds, hl, h0⟩ := hP
    have hi' : (i : Int) < most := by omega
    refine ⟨rfl, ?_⟩
    refine ⟨_, rfl, .inl ⟨_, rfl, _, rfl, _, _, rfl, rfl, (by omega : (0 : Int) < 1 + (i : Int)), rfl, _, rfl, ?_⟩⟩
    refine ite2 (fun c => ?_) (fun c => ?_)
    · have c' : n % (1 + (i : Int)) = 0 := V.int.inj (of_decide_eq_true c)
      refine ⟨_, rfl, _, hD, smaller (by rw [List.length_map]; omega), ds ++ [1 + (i : Int)], e.mut' nD, map_more _ _, fun d hd => ?_, by rw [List.length_append, List.length_singleton]; omega, fun _ => by rw [List.length_append, List.length_singleton]; omega⟩
      rcases List.mem_append.mp hd with z | z
      · exact hds d z
      · rw [List.mem_singleton] at z
        rw [z]
        exact ⟨by omega, by omega, c'⟩
    · refine ⟨ds, e, hD, hds, by omega, fun _ => ?_⟩
      rcases Nat.eq_zero_or_pos i with z | z
      · subst z
        exact absurd (decide_eq_true (show V.int (n % (1 + ((0 : Nat) : Int))) = V.int 0 from congrArg V.int (by omega))) c
      · exact h0 z
  · obtain ⟨ds, e, hD, hds, hl, h0⟩ := hP
    exact q D ds H' nD (e.same nD) hD hds (h0 (by omega))
theorem ok__law_parameter (F : Fun K "_law_parameter" "_law_parameter" s__law_parameter f fd) (T : Txt K mg cs w) (d__law_draw : Def P w K mg base 1 "_law_draw" ["box", "many"] (spDraw)) (d__law_word : Def P w K mg base 2 "_law_word" ["box"] (spWord)) :
    FnOk P w K mg base CX0 3 f fd ["box", "net", "rows", "cols"] (spParam) := by
  obtain ⟨f0, fd0, G__law_draw, b__law_draw, g__law_draw, k__law_draw⟩ := d__law_draw.ex
  obtain ⟨f1, fd1, G__law_word, b__law_word, g__law_word, k__law_word⟩ := d__law_word.ex
  refine F.ok sc__law_parameter (fun vs H Q E h => ?_) (fun cdv A outer s H vs Q E hr h => ?_)
  · obtain ⟨b, r, rs, n, PL, NL, LL, ni, nt, pms, nds, ls, rows, cols, rfl, g, u, r1, r2, c1, c2, q⟩ := h
    rfl
  obtain ⟨b, r, rs, n, PL, NL, LL, ni, nt, pms, nds, ls, rows, cols, rfl, g, u, r1, r2, c1, c2, q⟩ := h
  have hu := hr.units
  refine ⟨_, pss_cons (ps_setLc (i := 4) (own := [("p", 5)]) (g := gName 5)  rfl sc__law_parameter.nd rfl rfl (sw_true rfl rfl rfl (by decide +kernel)) (pi_range1 rfl T.z_range (pa_cons (pe_callB (len_at (K := K) rfl) (by rfl) T.z_len PySem.boot_len (pa_cons (pe_ix (ixl_at (K := K) rfl) (pv 1) pe_int (fun _ _ => rfl)) pa_nil)) pa_nil)) (blkOk_by (N := ["box", "net", "rows", "cols", "fitting", "p"]) (sc := defScope s__law_parameter) (by decide +kernel)) (fun _ _ _ _ _ => (pg_name (i := 5) sc__law_parameter.nd rfl (.inl rfl))) (fun _ _ _ _ _ => pts_one (PW.pt (pw_and (pt_cmpR op_eq (pe_ix (ixt_at (K := K) rfl) (pe_ix (ixl_at (K := K) rfl) (pe_ix (ixl_at (K := K) rfl) (pv 1) pe_int (fun _ _ => rfl)) (pv 5) (fun _ _ => rfl)) pe_int (fun _ _ => rfl)) (pv 2) (nomark _)) (pw_and1 (pt_cmpR op_eq (pe_ix (ixt_at (K := K) rfl) (pe_ix (ixl_at (K := K) rfl) (pe_ix (ixl_at (K := K) rfl) (pv 1) pe_int (fun _ _ => rfl)) (pv 5) (fun _ _ => rfl)) pe_int (fun _ _ => rfl)) (pv 3) (nomark _)))))) (fun _ _ _ _ _ => (pv 5)))
 (C8.pss_cut (ps_if (PW.pt (pw_and (pt_cmpR op_gt (pe_callB (len_at (K := K) rfl) (by rfl) T.z_len PySem.boot_len (pa_cons (pv 4) pa_nil)) pe_int (nomark _)) (pw_and1 (PW.pt (pw_or (pt_cmpR op_eq (pe_callB (len_at (K := K) rfl) (by rfl) T.z_len PySem.boot_len (pa_cons (pe_ix (ixl_at (K := K) rfl) (pv 1) pe_int (fun _ _ => rfl)) pa_nil)) pe_int (nomark _)) (pw_or1 (pt_cmpR op_gt (pe_call G__law_draw (hr.mono (by decide)) rfl g__law_draw k__law_draw b__law_draw .nil pass0 (pa_cons (pv 0) (pa_cons pe_int pa_nil))) pe_int (nomark _)))))))) (pss_one (ps_ret (pe_ix (ixl_at (K := K) rfl) (pv 4) (pe_call G__law_draw (hr.mono (by decide)) rfl g__law_draw k__law_draw b__law_draw .nil pass0 (pa_cons (pv 0) (pa_cons (pe_callB (len_at (K := K) rfl) (by rfl) T.z_len PySem.boot_len (pa_cons (pv 4) pa_nil)) pa_nil))) (fun _ _ => rfl)))) pss_nil)
 (pss_cons (ps_if (pt_cmpR op_eq (pe_callB (len_at (K := K) rfl) (by rfl) T.z_len PySem.boot_len (pa_cons (pe_ix (ixl_at (K := K) rfl) (pv 1) pe_int (fun _ _ => rfl)) pa_nil)) pe_int (nomark _)) (pss_one (ps_ret (pe_un un_neg pe_int))) pss_nil)
 (C8.pss_cut (ps_if (pt_cmpR op_eq (pe_call G__law_draw (hr.mono (by decide)) rfl g__law_draw k__law_draw b__law_draw .nil pass0 (pa_cons (pv 0) (pa_cons pe_int pa_nil))) pe_int (nomark _)) (pss_one (ps_expr (pe_bm PySem.F.plainAttrs_list PySem.F.slot_list_append PySem.F.type_list_append mt_append (pe_ix (ixl_at (K := K) rfl) (pv 1) pe_int (fun _ _ => rfl)) (pa_cons (pe_tup (pa_cons (pv 2) (pa_cons (pv 3) (pa_cons (pe_tup (pa_cons pe_str (pa_cons (pe_call G__law_word hr rfl g__law_word k__law_word b__law_word .nil pass0 (pa_cons (pv 0) pa_nil)) pa_nil))) pa_nil)))) pa_nil)))) (pss_one (ps_expr (pe_bm PySem.F.plainAttrs_list PySem.F.slot_list_append PySem.F.type_list_append mt_append (pe_ix (ixl_at (K := K) rfl) (pv 1) pe_int (fun _ _ => rfl)) (pa_cons (pe_tup (pa_cons (pv 2) (pa_cons (pv 3) (pa_cons (pe_tup (pa_cons pe_str (pa_cons (pe_ix (ixl_at (K := K) rfl) (pe_lst (pa_cons pe_int (pa_cons pe_int (pa_cons pe_int (pa_cons pe_int (pa_cons pe_int pa_nil)))))) (pe_call G__law_draw (hr.mono (by decide)) rfl g__law_draw k__law_draw b__law_draw .nil pass0 (pa_cons (pv 0) (pa_cons pe_int pa_nil))) (fun _ _ => rfl)) pa_nil))) pa_nil)))) pa_nil)))))
 (pss_one (ps_ret (pe_op op_sub (pe_callB (len_at (K := K) rfl) (by rfl) T.z_len PySem.boot_len (pa_cons (pe_ix (ixl_at (K := K) rfl) (pv 1) pe_int (fun _ _ => rfl)) pa_nil)) pe_int)))))), ?_⟩
  obtain ⟨pr, p1, p2⟩ := g.par
  have lp : pr.length = pms.length := p2.length
  have few := u.few
  refine ⟨_, rfl, n, _, _, _, rfl, rfl, SqL.of g.net, rfl, PL, _, rfl, .inl (SqL.of p1), ((pr.map V.ref).length : Int), rfl, by rw [List.length_map]; omega, by rw [List.length_map]; omega, fun D nD => ?_⟩
  refine lc_range (fun (i : Nat) H' => ∃ fs : List Int, But D H H' ∧ H' D = some (.lst (fs.map V.int)) ∧ (∀ f ∈ fs, inR f pms.length ∧ pget (sides pms) f = (rows, cols)) ∧ fs.length ≤ i)
    ⟨[], .of (same_new nD _), upd_same, (fun d hd => by cases hd), Nat.zero_le _⟩ (fun i H' hi hP => ?_) (fun H' hP => ?_)
  · obtain ⟨fs, e, hD, hfs, hl⟩ := hP
    have hi' : i < pms.length := by rw [List.length_map] at hi; omega
    have g' := g.same (e.same nD)
    obtain ⟨pr', p1', p2'⟩ := g'.par
    have em : pms[i]? = some pms[i] := List.getElem?_eq_getElem hi'
    obtain ⟨a, ea, f, m1, m2⟩ := p2'.get em
    have ei : atI (pr'.map V.ref) (0 + (i : Int)) = some (.ref a) := by
      rw [Int.zero_add]
      exact atI_nat (by rw [List.getElem?_map, ea] <;> rfl)
    have eg : pget (sides pms) (0 + (i : Int)) = (pms[i].1, pms[i].2.1) := by
      unfold pget sides
      rw [Int.zero_add, List.getD_eq_getElem?_getD, Int.toNat_natCast, List.getElem?_map, em]
      rfl
    refine ⟨rfl, ?_⟩
    refine ⟨_, rfl, n, _, _, _, rfl, rfl, SqL.of g'.net, rfl, _, rfl, PL, _, _, _, rfl, rfl, SqL.of p1', ei, a, _, _, _, rfl, rfl, SqT.of m1, rfl, _, rfl, rfl, _, rfl, ?_⟩
    refine ite2 (fun h1 => ?_) (fun h1 => ?_)
    · have h1' : pms[i].1 = rows := V.int.inj (of_decide_eq_true h1)
      refine ⟨_, rfl, n, _, _, _, rfl, rfl, SqL.of g'.net, rfl, _, rfl, PL, _, _, _, rfl, rfl, SqL.of p1', ei, a, _, _, _, rfl, rfl, SqT.of m1, rfl, _, rfl, rfl, _, rfl, ?_⟩
      refine ite2 (fun h2 => ?_) (fun h2 => ?_)
      · have h2' : pms[i].2.1 = cols := V.int.inj (of_decide_eq_true h2)
        refine ⟨_, rfl, _, hD, smaller (by rw [List.length_map]; omega), fs ++ [0 + (i : Int)], e.mut' nD, map_more _ _, fun x hx => ?_, by rw [List.length_append, List.length_singleton]; omega⟩
        rcases List.mem_append.mp hx with z | z
        · exact hfs x z
        · rw [List.mem_singleton] at z
          rw [z]
          exact ⟨⟨by omega, by omega⟩, by rw [eg, h1', h2']⟩
      · exact ⟨fs, e, hD, hfs, by omega⟩
    · exact ⟨fs, e, hD, hfs, by omega⟩
  · obtain ⟨fs, e, hD, hfs, hl⟩ := hP
    rw [List.length_map] at hl
    have g' := g.same (e.same nD)
    have nbD : D ≠ b := by
      obtain ⟨xs, hb⟩ := g.blst
      exact (ne_of_none hb nD).symm
    have x' : Exc [b, PL] H H' := .of (e.same nD)
    have ret : ∀ (H2 : Hp) (v : Int), G H2 b r rs n PL NL LL ni nt pms nds ls → Exc [b, PL] H H2 → H2 D = some (.lst (fs.map V.int)) → 0 ≤ v → v < (fs.length : Int) → ∃ z, atI (fs.map V.int) v = some (.int z) ∧ Q (.int z) H2 := fun H2 v g2 x2 hD2 v0 v1 => by
      have hv : inR v fs.length := ⟨v0, v1⟩
      refine ⟨_, at_ints hv, q _ [] H2 (by rw [List.append_nil]; exact g2) (by rw [List.append_nil]; exact u) x2 (.inr ?_)⟩
      rw [List.append_nil]
      exact hfs _ (lget_mem hv)
    refine ⟨fun σ'' H'' => ∃ y5 : Option V, σ'' = [some (.ref b), some (.ref n), some (.int rows), some (.int cols), some (.ref D), y5] ∧ G H'' b r rs n PL NL LL ni nt pms nds ls ∧ Exc [b, PL] H H'', ?_, fun σ'' H'' hM => ?_⟩
    · refine ⟨_, rfl, D, _, rfl, .inl (SqL.of hD), _, _, rfl, rfl, _, rfl, ?_⟩
      refine ite2 (fun h1 => ?_) (fun h1 => ?_)
      · have h1' : 0 < (((fs.map V.int).length : Nat) : Int) := of_decide_eq_true h1
        rw [List.length_map] at h1'
        obtain ⟨pr2, p12, p22⟩ := g'.par
        refine ⟨_, rfl, n, _, _, _, rfl, rfl, SqL.of g'.net, rfl, PL, _, rfl, .inl (SqL.of p12), rfl, _, rfl, ?_⟩
        refine ite2 (fun h2 => ?_) (fun h2 => ?_)
        · refine ⟨_, rfl, _, rfl, _, rfl, D, _, rfl, .inl (SqL.of hD), b, r, rs, _, rfl, g'.box, of_decide_eq_true h1, fun v H2 v0 v1 B2 e2 => ?_⟩
          have hD2 := e2 _ _ nbD hD
          rw [List.length_map] at v1
          obtain ⟨z, ez, qz⟩ := ret H2 v (g'.but B2 e2) (x'.trans (.but e2 (.head _))) hD2 v0 v1
          exact ⟨D, _, _, _, rfl, rfl, SqL.of hD2, ez, qz⟩
        · refine ⟨_, rfl, b, r, rs, 3, rfl, g'.box, by decide, fun w1 H1 _ _ B1 e1 => ?_⟩
          have g1 := g'.but B1 e1
          have hD1 := e1 _ _ nbD hD
          refine ⟨_, _, rfl, rfl, _, rfl, ?_⟩
          refine ite2 (fun h3 => ?_) (fun h3 => ?_)
          · refine ⟨_, rfl, _, rfl, _, rfl, D, _, rfl, .inl (SqL.of hD1), b, r, rs, _, rfl, B1, of_decide_eq_true h1, fun v H2 v0 v1 B2 e2 => ?_⟩
            have hD2 := e2 _ _ nbD hD1
            rw [List.length_map] at v1
            obtain ⟨z, ez, qz⟩ := ret H2 v (g1.but B2 e2) ((x'.trans (.but e1 (.head _))).trans (.but e2 (.head _))) hD2 v0 v1
            exact ⟨D, _, _, _, rfl, rfl, SqL.of hD2, ez, qz⟩
          · exact ⟨_, rfl, g1, x'.trans (.but e1 (.head _))⟩
      · exact ⟨_, rfl, g', x'⟩
    · obtain ⟨y5, rfl, g2, x2⟩ := hM
      obtain ⟨pr2, p12, p22⟩ := g2.par
      have lp2 : pr2.length = pms.length := p22.length
      refine ⟨_, rfl, n, _, _, _, rfl, rfl, SqL.of g2.net, rfl, PL, _, rfl, .inl (SqL.of p12), rfl, _, rfl, ?_⟩
      refine ite2 (fun h4 => ?_) (fun h4 => ?_)
      · exact ⟨1, rfl, q (-1) [] H'' (by rw [List.append_nil]; exact g2) (by rw [List.append_nil]; exact u) x2 (.inl (by decide))⟩
      · have h4' : pms.length < 4 := by
          have z : ¬ V.int (((pr2.map V.ref).length : Nat) : Int) = V.int 4 := fun z => h4 (decide_eq_true z)
          have z2 : pms.length ≠ 4 := fun z3 => z (by rw [List.length_map, lp2, z3]; rfl)
          omega
        have lst : ∀ (H5 : Hp) (m : Int × Int × Str × Int), G H5 b r rs n PL NL LL ni nt (pms ++ [m]) nds ls → PmOk m → m.1 = rows → m.2.1 = cols → Exc [b, PL] H H5 → ∀ pr5 : List Addr, H5 PL = some (.lst (pr5.map V.ref)) → pr5.length = pms.length + 1 → Q (.int ((((pr5.map V.ref).length : Nat) : Int) - 1)) H5 := fun H5 m g5 hm e1 e2 x5 pr5 p5 l5 => by
          refine q _ [m] H5 g5 (u.grow hm h4') x5 (.inr ⟨⟨by rw [List.length_map]; omega, by rw [List.length_map, List.length_append, List.length_singleton]; omega⟩, ?_⟩)
          have ez : ((((pr5.map V.ref).length : Nat) : Int) - 1) = ((pms.length : Nat) : Int) := by rw [List.length_map, l5]; omega
          rw [ez]
          unfold pget
          rw [Int.toNat_natCast, List.getD_eq_getElem?_getD, sides_app, List.getElem?_append_right (by rw [sides_len]; exact Nat.le_refl _), sides_len, Nat.sub_self]
          show (m.1, m.2.1) = (rows, cols)
          rw [e1, e2]
        have app : ∀ (H4 : Hp) (f1 a1 : Addr) (kd : Str) (num : Int), G H4 b r rs n PL NL LL ni nt pms nds ls → Exc [b, PL] H H4 → H4 f1 = none → (upd H4 f1 (.tup [.str kd, .int num])) a1 = none → PmOk (rows, cols, kd, num) →
            ∃ pr6 : List Addr, (upd (upd H4 f1 (.tup [.str kd, .int num])) a1 (.tup [.int rows, .int cols, .ref f1])) PL = some (.lst (pr6.map V.ref)) ∧ (pr6.map V.ref).length < sizeLine ∧
              (∃ m, G (upd (upd (upd H4 f1 (.tup [.str kd, .int num])) a1 (.tup [.int rows, .int cols, .ref f1])) PL (.lst (pr6.map V.ref ++ [.ref a1]))) b r rs n PL NL LL ni nt (pms ++ [m]) nds ls ∧ PmOk m ∧ m.1 = rows ∧ m.2.1 = cols ∧
                Exc [b, PL] H (upd (upd (upd H4 f1 (.tup [.str kd, .int num])) a1 (.tup [.int rows, .int cols, .ref f1])) PL (.lst (pr6.map V.ref ++ [.ref a1])))) := fun H4 f1 a1 kd num g4 x4 nf1 na1 hm => by
          have s1 := same_new nf1 (.tup [.str kd, .int num])
          have s2 := same_new na1 (.tup [.int rows, .int cols, .ref f1])
          have g6 := (g4.same s1).same s2
          obtain ⟨pr6, p16, p26⟩ := g6.par
          refine ⟨pr6, p16, smaller (by rw [List.length_map, p26.length]; omega), (rows, cols, kd, num), g6.addPm p16 p26 ⟨f1, upd_same, s2 _ _ upd_same⟩, hm, rfl, rfl, ?_⟩
          exact Exc.mut ((x4.trans (.of s1)).trans (.of s2)) (.tail _ (.head _))
        refine ⟨fun σ3 H3 => ∃ (y5 : Option V) (m : Int × Int × Str × Int), σ3 = [some (.ref b), some (.ref n), some (.int rows), some (.int cols), some (.ref D), y5] ∧ G H3 b r rs n PL NL LL ni nt (pms ++ [m]) nds ls ∧ PmOk m ∧ m.1 = rows ∧ m.2.1 = cols ∧ Exc [b, PL] H H3, ?_, fun σ3 H3 hM => ?_⟩
        · refine ⟨_, rfl, b, r, rs, 2, rfl, g2.box, by decide, fun w1 H3 _ _ B3 e3 => ?_⟩
          have g3 := g2.but B3 e3
          have x3 := x2.trans (.but e3 (.head _))
          refine ⟨rfl, _, rfl, ?_⟩
          refine ite2 (fun h5 => ?_) (fun h5 => ?_)
          · obtain ⟨pr3, p13, _⟩ := g3.par
            refine ⟨_, rfl, n, _, _, _, rfl, rfl, SqL.of g3.net, rfl, .inl ⟨rfl, _, .inl (.inl p13)⟩, ?_⟩
            refine ⟨_, rfl, _, rfl, _, rfl, b, r, rs, rfl, B3, fun v H4 v0 v1 B4 e4 => ?_⟩
            refine ⟨by show 2 ≤ sizeLine; decide, fun f1 nf1 => ⟨by show 3 ≤ sizeLine; decide, fun a1 na1 => ?_⟩⟩
            obtain ⟨pr6, p16, hz, m, fin⟩ := app H4 f1 a1 "same" v (g3.but B4 e4) (x3.trans (.but e4 (.head _))) nf1 na1 ⟨r1, r2, c1, c2, .inl ⟨rfl, v0, v1⟩⟩
            exact ⟨PL, _, _, rfl, rfl, p16, hz, _, m, rfl, fin⟩
          · obtain ⟨pr3, p13, _⟩ := g3.par
            refine ⟨_, rfl, n, _, _, _, rfl, rfl, SqL.of g3.net, rfl, .inl ⟨rfl, _, .inl (.inl p13)⟩, ?_⟩
            refine ⟨_, rfl, _, rfl, by show 5 ≤ sizeLine; decide, fun cl ncl => ?_⟩
            have s3 := same_new ncl (.lst [.int 0, .int 8, .int 16, .int 28, .int 31])
            have g3' := g3.same s3
            refine ⟨_, rfl, b, r, rs, 5, rfl, g3'.box, by decide, fun v H4 v0 v1 B4 e4 => ?_⟩
            have ncb : cl ≠ b := by
              obtain ⟨xs, hb⟩ := g3.blst
              exact (ne_of_none hb ncl).symm
            have hcl : H4 cl = some (.lst ([0, 8, 16, 28, 31].map V.int)) := e4 _ _ ncb upd_same
            have hv : inR v ([0, 8, 16, 28, 31] : List Int).length := ⟨v0, v1⟩
            refine ⟨cl, _, _, _, rfl, rfl, SqL.of hcl, at_ints hv, ?_⟩
            refine ⟨by show 2 ≤ sizeLine; decide, fun f1 nf1 => ⟨by show 3 ≤ sizeLine; decide, fun a1 na1 => ?_⟩⟩
            have hin := lget_mem hv
            have hb : 0 ≤ lget [0, 8, 16, 28, 31] v ∧ lget [0, 8, 16, 28, 31] v ≤ 31 := by
              simp only [List.mem_cons, List.not_mem_nil, or_false] at hin
              omega
            obtain ⟨pr6, p16, hz, m, fin⟩ := app H4 f1 a1 "mixed" (lget [0, 8, 16, 28, 31] v) (g3'.but B4 e4) ((x3.trans (.of s3)).trans (.but e4 (.head _))) nf1 na1 ⟨r1, r2, c1, c2, .inr ⟨rfl, hb.1, hb.2⟩⟩
            exact ⟨PL, _, _, rfl, rfl, p16, hz, _, m, rfl, fin⟩
        · obtain ⟨y5, m, rfl, g5, hm, e1, e2, x5⟩ := hM
          obtain ⟨pr5, p15, p25⟩ := g5.par
          refine ⟨_, rfl, n, _, _, _, rfl, rfl, SqL.of g5.net, rfl, PL, _, rfl, .inl (SqL.of p15), _, _, rfl, rfl, ?_⟩
          exact lst H3 m g5 hm e1 e2 x5 pr5 p15 (by rw [p25.length, List.length_append, List.length_singleton])
theorem ok__law_embed (F : Fun K "_law_embed" "_law_embed" s__law_embed f fd) (T : Txt K mg cs w) (d__law_draw : Def P w K mg base 1 "_law_draw" ["box", "many"] (spDraw)) (d__law_parameter : Def P w K mg base 3 "_law_parameter" ["box", "net", "rows", "cols"] (spParam)) :
    FnOk P w K mg base CX0 4 f fd ["box", "net"] (spMake fun _ us => us = []) := by
  obtain ⟨f0, fd0, G__law_draw, b__law_draw, g__law_draw, k__law_draw⟩ := d__law_draw.ex
  obtain ⟨f1, fd1, G__law_parameter, b__law_parameter, g__law_parameter, k__law_parameter⟩ := d__law_parameter.ex
  refine F.ok sc__law_embed (fun vs H Q E h => ?_) (fun cdv A outer s H vs Q E hr h => ?_)
  · obtain ⟨b, r, rs, n, PL, NL, LL, ni, nt, pms, nds, ls, us, rfl, rfl, g, u, hk0, q⟩ := h
    rfl
  obtain ⟨b, r, rs, n, PL, NL, LL, ni, nt, pms, nds, ls, us, rfl, rfl, g, u, hk0, q⟩ := h
  have hu := hr.units
  refine ⟨_, pss_cons (ps_set (i := 2) sc__law_embed.nd rfl (.inl rfl) (pe_call G__law_draw (hr.mono (by decide)) rfl g__law_draw k__law_draw b__law_draw .nil pass0 (pa_cons (pv 0) (pa_cons (pe_ix (ixl_at (K := K) rfl) (pv 1) pe_int (fun _ _ => rfl)) pa_nil))))
 (pss_cons (ps_set (i := 3) sc__law_embed.nd rfl (.inl rfl) (pe_op op_add pe_int (pe_call G__law_draw (hr.mono (by decide)) rfl g__law_draw k__law_draw b__law_draw .nil pass0 (pa_cons (pv 0) (pa_cons (pe_op op_sub (pe_ix (ixl_at (K := K) rfl) (pv 1) pe_int (fun _ _ => rfl)) (pv 2)) pa_nil)))))
 (pss_cons (ps_set (i := 4) sc__law_embed.nd rfl (.inl rfl) (pe_call G__law_parameter hr rfl g__law_parameter k__law_parameter b__law_parameter .nil pass0 (pa_cons (pv 0) (pa_cons (pv 1) (pa_cons (pe_op op_add pe_int (pe_call G__law_draw (hr.mono (by decide)) rfl g__law_draw k__law_draw b__law_draw .nil pass0 (pa_cons (pv 0) (pa_cons pe_int pa_nil)))) (pa_cons (pe_op op_add pe_int (pe_call G__law_draw (hr.mono (by decide)) rfl g__law_draw k__law_draw b__law_draw .nil pass0 (pa_cons (pv 0) (pa_cons pe_int pa_nil)))) pa_nil))))))
 (pss_cons (ps_if (pt_cmpR op_ge (pv 4) pe_int (nomark _)) (pss_one (ps_ret (pe_tup (pa_cons (pe_tup (pa_cons pe_str (pa_cons (pv 4) (pa_cons (pv 2) (pa_cons (pv 3) pa_nil))))) (pa_cons (pe_op op_mul (pv 3) (pe_ix (ixt_at (K := K) rfl) (pe_ix (ixl_at (K := K) rfl) (pe_ix (ixl_at (K := K) rfl) (pv 1) pe_int (fun _ _ => rfl)) (pv 4) (fun _ _ => rfl)) pe_int (fun _ _ => rfl))) pa_nil))))) pss_nil)
 (pss_one (ps_ret pe_non))))), ?_⟩
  have i1 := u.ni1
  have i3 := u.ni3
  refine ⟨_, rfl, _, rfl, n, _, _, _, rfl, rfl, SqL.of g.net, rfl, b, r, rs, ni, rfl, g.box, by omega, fun low H1 l0 l1 B1 e1 => ?_⟩
  have g1 := g.but B1 e1
  refine ⟨_, rfl, _, rfl, n, _, _, _, rfl, rfl, SqL.of g1.net, rfl, _, rfl, _, _, rfl, rfl, b, r, rs, ni - low, rfl, B1, by omega, fun mm H2 m0 m1 B2 e2 => ?_⟩
  have g2 := g1.but B2 e2
  refine ⟨_, _, rfl, rfl, ?_⟩
  refine ⟨_, rfl, _, rfl, _, rfl, b, r, rs, 3, rfl, B2, by decide, fun v3 H3 v30 v31 B3 e3 => ?_⟩
  have g3 := g2.but B3 e3
  refine ⟨_, _, rfl, rfl, ?_⟩
  refine ⟨_, rfl, b, r, rs, 2, rfl, B3, by decide, fun v4 H4 v40 v41 B4 e4 => ?_⟩
  have g4 := g3.but B4 e4
  have x4 : Exc [b, PL] H H4 := .but (((e1.trans e2).trans e3).trans e4) (.head _)
  refine ⟨_, _, rfl, rfl, b, r, rs, n, PL, NL, LL, ni, nt, pms, nds, ls, 1 + v3, 1 + v4, rfl, g4, u, by omega, by omega, by omega, by omega, fun p more H5 g5 u5 x5 hp => ?_⟩
  refine ⟨_, rfl, _, _, rfl, rfl, _, rfl, ?_⟩
  refine ite2 (fun c => ?_) (fun c => ?_)
  · have c' : p ≥ 0 := of_decide_eq_true c
    obtain ⟨hp1, hp2⟩ := hp.resolve_left (by omega)
    obtain ⟨pr, a, f, m, a1, a2, a3, a4, a5⟩ := g5.at hp1
    refine ⟨_, rfl, _, rfl, _, rfl, by show 4 ≤ sizeLine; decide, fun t1 nt1 => ?_⟩
    have s1 := same_new nt1 (.tup [.str "embed", .int p, .int low, .int (1 + mm)])
    have g6 := g5.same s1
    refine ⟨_, rfl, _, rfl, n, _, _, _, rfl, rfl, SqL.of g6.net, rfl, _, rfl, PL, _, _, _, rfl, rfl, SqL.of (s1 _ _ a1), a2, a, _, _, _, rfl, rfl, SqT.of (s1 _ _ a3), rfl, ?_⟩
    refine ⟨_, _, rfl, rfl, .inl ⟨by omega, by omega⟩, by show 2 ≤ sizeLine; decide, fun t2 nt2 => ?_⟩
    have s2 := same_new nt2 (.tup [.ref t1, .int ((1 + mm) * (pget (sides (pms ++ more)) p).2)])
    have ec : (pget (sides (pms ++ more)) p).2 = 1 + v4 := by rw [hp2]
    have el : Nd.len ni nt (sides (pms ++ more)) ls (.embed p low (1 + mm)) = some ((1 + mm) * (pget (sides (pms ++ more)) p).2) := if_pos ⟨by omega, l0, by omega⟩
    have eb : 1 ≤ (1 + mm) * (pget (sides (pms ++ more)) p).2 ∧ (1 + mm) * (pget (sides (pms ++ more)) p).2 ≤ 12 := by
      rw [ec]
      have : v4 = 0 ∨ v4 = 1 := by omega
      rcases this with z | z <;> rw [z] <;> omega
    exact q _ more _ (g6.same s2) u5 ((x4.trans x5).trans (.of (s1.trans s2))) (.inr ⟨t2, t1, .embed p low (1 + mm), _, rfl, upd_same, s2 _ _ upd_same, good_of hp1 (fun o ho => by cases ho) el eb.1 eb.2 True.intro⟩)
  · exact q _ more _ g5 u5 (x4.trans x5) (.inl rfl)
theorem ok__law_with_parameter (F : Fun K "_law_with_parameter" "_law_with_parameter" s__law_with_parameter f fd) (T : Txt K mg cs w) (d__law_divisors : Def P w K mg base 1 "_law_divisors" ["n", "most"] (spDivisors)) (d__law_parameter : Def P w K mg base 3 "_law_parameter" ["box", "net", "rows", "cols"] (spParam)) (d__law_draw : Def P w K mg base 1 "_law_draw" ["box", "many"] (spDraw)) :
    FnOk P w K mg base CX0 4 f fd ["box", "net", "kind", "a"] (spMake fun ls us => ∃ (kd : Str) (a : Int), us = [.str kd, .int a] ∧ (kd = "lin" ∨ kd = "bias") ∧ inR a ls.length) := by
  obtain ⟨f0, fd0, G__law_divisors, b__law_divisors, g__law_divisors, k__law_divisors⟩ := d__law_divisors.ex
  obtain ⟨f1, fd1, G__law_parameter, b__law_parameter, g__law_parameter, k__law_parameter⟩ := d__law_parameter.ex
  obtain ⟨f2, fd2, G__law_draw, b__law_draw, g__law_draw, k__law_draw⟩ := d__law_draw.ex
  refine F.ok sc__law_with_parameter (fun vs H Q E h => ?_) (fun cdv A outer s H vs Q E hr h => ?_)
  · obtain ⟨b, r, rs, n, PL, NL, LL, ni, nt, pms, nds, ls, us, rfl, ⟨kd, a, rfl, hk, ha⟩, g, u, hk0, q⟩ := h
    rfl
  obtain ⟨b, r, rs, n, PL, NL, LL, ni, nt, pms, nds, ls, us, rfl, ⟨kd, a, rfl, hk, ha⟩, g, u, hk0, q⟩ := h
  have hu := hr.units
  refine ⟨_, pss_cons (ps_set (i := 4) sc__law_with_parameter.nd rfl (.inl rfl) (pe_ix (ixl_at (K := K) rfl) (pe_ix (ixl_at (K := K) rfl) (pv 1) pe_int (fun _ _ => rfl)) (pv 3) (fun _ _ => rfl)))
 (pss_cons (ps_if (pt_cmpR op_eq (pv 2) pe_str (nomark _)) (pss_cons (ps_set (i := 5) sc__law_with_parameter.nd rfl (.inl rfl) (pe_call G__law_divisors (hr.mono (by decide)) rfl g__law_divisors k__law_divisors b__law_divisors .nil pass0 (pa_cons (pv 4) (pa_cons pe_int pa_nil))))
 (pss_cons (ps_set (i := 6) sc__law_with_parameter.nd rfl (.inl rfl) (pe_call G__law_parameter hr rfl g__law_parameter k__law_parameter b__law_parameter .nil pass0 (pa_cons (pv 0) (pa_cons (pv 1) (pa_cons pe_int (pa_cons (pe_ix (ixl_at (K := K) rfl) (pv 5) (pe_call G__law_draw (hr.mono (by decide)) rfl g__law_draw k__law_draw b__law_draw .nil pass0 (pa_cons (pv 0) (pa_cons (pe_callB (len_at (K := K) rfl) (by rfl) T.z_len PySem.boot_len (pa_cons (pv 5) pa_nil)) pa_nil))) (fun _ _ => rfl)) pa_nil))))))
 (pss_cons (ps_if (pt_cmpR op_ge (pv 6) pe_int (nomark _)) (pss_one (ps_ret (pe_tup (pa_cons (pe_tup (pa_cons pe_str (pa_cons (pv 6) (pa_cons (pv 3) pa_nil)))) (pa_cons (pv 4) pa_nil))))) pss_nil)
 (pss_one (ps_ret pe_non))))) pss_nil)
 (pss_cons (ps_set (i := 5) sc__law_with_parameter.nd rfl (.inl rfl) (pe_call G__law_divisors (hr.mono (by decide)) rfl g__law_divisors k__law_divisors b__law_divisors .nil pass0 (pa_cons (pv 4) (pa_cons pe_int pa_nil))))
 (pss_cons (ps_set (i := 7) sc__law_with_parameter.nd rfl (.inl rfl) (pe_ix (ixl_at (K := K) rfl) (pv 5) (pe_call G__law_draw (hr.mono (by decide)) rfl g__law_draw k__law_draw b__law_draw .nil pass0 (pa_cons (pv 0) (pa_cons (pe_callB (len_at (K := K) rfl) (by rfl) T.z_len PySem.boot_len (pa_cons (pv 5) pa_nil)) pa_nil))) (fun _ _ => rfl)))
 (pss_cons (ps_set (i := 8) sc__law_with_parameter.nd rfl (.inl rfl) (pe_op op_add pe_int (pe_call G__law_draw (hr.mono (by decide)) rfl g__law_draw k__law_draw b__law_draw .nil pass0 (pa_cons (pv 0) (pa_cons pe_int pa_nil)))))
 (C8.pss_cut (ps_if (pt_cmpR op_gt (pe_op op_mul (pe_op op_fdiv (pv 4) (pv 7)) (pv 8)) pe_int (nomark _)) (pss_one (ps_set (i := 8) sc__law_with_parameter.nd rfl (.inl rfl) pe_int)) pss_nil)
 (pss_cons (ps_set (i := 6) sc__law_with_parameter.nd rfl (.inl rfl) (pe_un un_neg pe_int))
 (pss_cons (ps_if (pt_cmpR op_le (pe_op op_mul (pe_op op_fdiv (pv 4) (pv 7)) (pv 8)) pe_int (nomark _)) (pss_one (ps_set (i := 6) sc__law_with_parameter.nd rfl (.inl rfl) (pe_call G__law_parameter hr rfl g__law_parameter k__law_parameter b__law_parameter .nil pass0 (pa_cons (pv 0) (pa_cons (pv 1) (pa_cons (pv 7) (pa_cons (pv 8) pa_nil))))))) pss_nil)
 (pss_cons (ps_if (pt_cmpR op_ge (pv 6) pe_int (nomark _)) (pss_one (ps_ret (pe_tup (pa_cons (pe_tup (pa_cons pe_str (pa_cons (pv 6) (pa_cons (pv 3) pa_nil)))) (pa_cons (pe_op op_mul (pe_op op_fdiv (pv 4) (pv 7)) (pv 8)) pa_nil))))) pss_nil)
 (pss_one (ps_ret pe_non)))))))))), ?_⟩
  obtain ⟨L1, L2⟩ := u.bnd _ (lget_mem ha)
  refine ⟨_, rfl, n, _, _, _, rfl, rfl, SqL.of g.net, rfl, _, rfl, LL, _, _, _, rfl, rfl, SqL.of g.len, at_ints ha, ?_⟩
  refine ⟨_, rfl, rfl, _, rfl, ?_⟩
  refine ite2 (fun hb => ?_) (fun hb => ?_)
  · -- a bias
    refine ⟨_, rfl, _, _, rfl, by decide, by decide, fun D ds H1 nD e1 hD hds h0 => ?_⟩
    have g1 := g.same e1
    have nbD : D ≠ b := by
      obtain ⟨xs, hb⟩ := g.blst
      exact (ne_of_none hb nD).symm
    refine ⟨_, rfl, _, rfl, _, rfl, _, rfl, _, rfl, D, _, rfl, .inl (SqL.of hD), b, r, rs, _, rfl, g1.box, (by rw [List.length_map]; omega), fun v H2 v0 v1 B2 e2 => ?_⟩
    have g2 := g1.but B2 e2
    rw [List.length_map] at v1
    have hv : inR v ds.length := ⟨v0, v1⟩
    obtain ⟨d1, d2, d3⟩ := hds _ (lget_mem hv)
    refine ⟨D, _, _, _, rfl, rfl, SqL.of (e2 _ _ nbD hD), at_ints hv, ?_⟩
    refine ⟨b, r, rs, n, PL, NL, LL, ni, nt, pms, nds, ls, 1, lget ds v, rfl, g2, u, by decide, by decide, d1, d2, fun p more H5 g5 u5 x5 hp => ?_⟩
    have x6 : Exc [b, PL] H H5 := ((Exc.of e1).trans (.but e2 (.head _))).trans x5
    refine ⟨_, rfl, _, _, rfl, rfl, _, rfl, ?_⟩
    refine ite2 (fun c => ?_) (fun c => ?_)
    · have c' : p ≥ 0 := of_decide_eq_true c
      obtain ⟨hp1, hp2⟩ := hp.resolve_left (by omega)
      refine ⟨_, rfl, _, rfl, by show 3 ≤ sizeLine; decide, fun t1 nt1 => ?_⟩
      have s1 := same_new nt1 (.tup [.str "bias", .int p, .int a])
      refine ⟨_, rfl, by show 2 ≤ sizeLine; decide, fun t2 nt2 => ?_⟩
      have s2 := same_new nt2 (.tup [.ref t1, .int (lget ls a)])
      have el : Nd.len ni nt (sides (pms ++ more)) ls (.bias p a) = some (lget ls a) := if_pos ⟨by rw [hp2], by rw [hp2]; exact ⟨by omega, d3⟩⟩
      exact q _ more _ ((g5.same s1).same s2) u5 (x6.trans (.of (s1.trans s2))) (.inr ⟨t2, t1, .bias p a, _, rfl, upd_same, s2 _ _ upd_same, good_of hp1 (fun o ho => by rw [List.mem_singleton.mp ho]; exact ha) el L1 L2 True.intro⟩)
    · exact q _ more _ g5 u5 x6 (.inl rfl)
  · -- lin
    refine ⟨_, rfl, _, _, rfl, by decide, by decide, fun D ds H1 nD e1 hD hds h0 => ?_⟩
    have g1 := g.same e1
    have nbD : D ≠ b := by
      obtain ⟨xs, hb⟩ := g.blst
      exact (ne_of_none hb nD).symm
    refine ⟨_, rfl, _, rfl, _, rfl, D, _, rfl, .inl (SqL.of hD), b, r, rs, _, rfl, g1.box, (by rw [List.length_map]; omega), fun v H2 v0 v1 B2 e2 => ?_⟩
    have g2 := g1.but B2 e2
    rw [List.length_map] at v1
    have hv : inR v ds.length := ⟨v0, v1⟩
    obtain ⟨d1, d2, d3⟩ := hds _ (lget_mem hv)
    refine ⟨D, _, _, _, rfl, rfl, SqL.of (e2 _ _ nbD hD), at_ints hv, ?_⟩
    refine ⟨_, rfl, b, r, rs, 3, rfl, B2, by decide, fun w1 H3 w10 w11 B3 e3 => ?_⟩
    have g3 := g2.but B3 e3
    have x3 : Exc [b, PL] H H3 := ((Exc.of e1).trans (.but e2 (.head _))).trans (.but e3 (.head _))
    refine ⟨_, _, rfl, rfl, ?_⟩
    have q0 : 1 ≤ lget ls a / lget ds v ∧ lget ls a / lget ds v ≤ 12 := by
      have h3 : lget ds v * (lget ls a / lget ds v) = lget ls a := Int.mul_ediv_cancel' (Int.dvd_of_emod_eq_zero d3)
      refine ⟨?_, Int.le_trans (Int.ediv_le_self _ (by omega)) L2⟩
      by_cases z : 1 ≤ lget ls a / lget ds v
      · exact z
      · have : lget ds v * (lget ls a / lget ds v) ≤ 0 := Int.mul_nonpos_of_nonneg_of_nonpos (by omega) (by omega)
        omega
    refine ⟨fun σ4 H4 => ∃ (y6 : Option V) (cc : Int), σ4 = [some (.ref b), some (.ref n), some (.str kd), some (.int a), some (.int (lget ls a)), some (.ref D), y6, some (.int (lget ds v)), some (.int cc)] ∧ H4 = H3 ∧ 1 ≤ cc ∧ cc ≤ 3 ∧ lget ls a / lget ds v * cc ≤ 12, ?_, fun σ4 H4 hM => ?_⟩
    · refine ⟨_, rfl, _, rfl, _, _, rfl, rfl, ⟨by omega, by omega⟩, ?_⟩
      refine ⟨_, rfl, _, _, rfl, rfl, .inl ⟨by omega, by omega⟩, _, _, rfl, rfl, _, rfl, ?_⟩
      refine ite2 (fun c => ?_) (fun c => ?_)
      · exact ⟨_, 1, rfl, rfl, by decide, by decide, by omega⟩
      · have c' : ¬ lget ls a / lget ds v * (1 + w1) > 12 := fun z => c (decide_eq_true z)
        exact ⟨_, 1 + w1, rfl, rfl, by omega, by omega, by omega⟩
    · obtain ⟨y6, cc, rfl, rfl, cc1, cc2, cc3⟩ := hM
      refine ⟨_, rfl, ?_⟩
      refine ⟨_, rfl, _, rfl, _, _, rfl, rfl, ⟨by omega, by omega⟩, ?_⟩
      refine ⟨_, rfl, _, _, rfl, rfl, .inl ⟨by omega, by omega⟩, _, _, rfl, rfl, _, rfl, ?_⟩
      refine iteD cc3 ?_
      refine ⟨_, rfl, _, rfl, _, rfl, _, rfl, b, r, rs, n, PL, NL, LL, ni, nt, pms, nds, ls, lget ds v, cc, rfl, g3, u, d1, d2, cc1, by omega, fun p more H5 g5 u5 x5 hp => ?_⟩
      refine ⟨_, rfl, _, _, rfl, rfl, _, rfl, ?_⟩
      refine ite2 (fun c => ?_) (fun c => ?_)
      · have c' : p ≥ 0 := of_decide_eq_true c
        obtain ⟨hp1, hp2⟩ := hp.resolve_left (by omega)
        refine ⟨_, rfl, _, rfl, by show 3 ≤ sizeLine; decide, fun t1 nt1 => ?_⟩
        have s1 := same_new nt1 (.tup [.str "lin", .int p, .int a])
        refine ⟨_, rfl, _, rfl, _, _, rfl, rfl, ⟨by omega, by omega⟩, ?_⟩
        refine ⟨_, rfl, _, _, rfl, rfl, .inl ⟨by omega, by omega⟩, by show 2 ≤ sizeLine; decide, fun t2 nt2 => ?_⟩
        have s2 := same_new nt2 (.tup [.ref t1, .int (lget ls a / lget ds v * cc)])
        have el : Nd.len ni nt (sides (pms ++ more)) ls (.lin p a) = some (lget ls a / lget ds v * cc) := by
          show (if mult (lget ls a) (pget (sides (pms ++ more)) p).1 then some (lget ls a / (pget (sides (pms ++ more)) p).1 * (pget (sides (pms ++ more)) p).2) else none) = _
          rw [hp2]
          exact if_pos ⟨by omega, d3⟩
        have c1 : 1 ≤ lget ls a / lget ds v * cc := by
          have : 1 * 1 ≤ lget ls a / lget ds v * cc := Int.mul_le_mul q0.1 cc1 (by decide) (by omega)
          omega
        exact q _ more _ ((g5.same s1).same s2) u5 ((x3.trans x5).trans (.of (s1.trans s2))) (.inr ⟨t2, t1, .lin p a, _, rfl, upd_same, s2 _ _ upd_same, good_of hp1 (fun o ho => by rw [List.mem_singleton.mp ho]; exact ha) el c1 cc3 True.intro⟩)
      · exact q _ more _ g5 u5 (x3.trans x5) (.inl rfl)
theorem quo {l k : Int} (h1 : 1 ≤ l) (h2 : l ≤ 12) (hk : 1 ≤ k) (hd : l % k = 0) : 1 ≤ l / k ∧ l / k ≤ 12 := by
  have h3 : k * (l / k) = l := Int.mul_ediv_cancel' (Int.dvd_of_emod_eq_zero hd)
  refine ⟨?_, Int.le_trans (Int.ediv_le_self _ (by omega)) h2⟩
  by_cases z : 1 ≤ l / k
  · exact z
  · have : k * (l / k) ≤ 0 := Int.mul_nonpos_of_nonneg_of_nonpos (by omega) (by omega)
    omega
theorem lget_nat {ls : List Int} {i : Nat} (h : i < ls.length) : atI (ls.map V.int) (0 + (i : Int)) = some (.int (lget ls (0 + (i : Int)))) := at_ints ⟨by omega, by omega⟩
theorem ok__law_of_two (F : Fun K "_law_of_two" "_law_of_two" s__law_of_two f fd) (T : Txt K mg cs w) (d__law_draw : Def P w K mg base 1 "_law_draw" ["box", "many"] (spDraw)) (d__law_divisors : Def P w K mg base 1 "_law_divisors" ["n", "most"] (spDivisors)) :
    FnOk P w K mg base CX0 2 f fd ["box", "net", "kind", "a"] (spMake fun ls us => ∃ (kd : Str) (a : Int), us = [.str kd, .int a] ∧ (kd = "add" ∨ kd = "sub" ∨ kd = "mul" ∨ kd = "join" ∨ kd = "mat" ∨ kd = "matT") ∧ inR a ls.length) := by
  obtain ⟨f0, fd0, G__law_draw, b__law_draw, g__law_draw, k__law_draw⟩ := d__law_draw.ex
  obtain ⟨f1, fd1, G__law_divisors, b__law_divisors, g__law_divisors, k__law_divisors⟩ := d__law_divisors.ex
  refine F.ok sc__law_of_two (fun vs H Q E h => ?_) (fun cdv A outer s H vs Q E hr h => ?_)
  · obtain ⟨b, r, rs, n, PL, NL, LL, ni, nt, pms, nds, ls, us, rfl, ⟨kd, a, rfl, hk, ha⟩, g, u, hk0, q⟩ := h
    rfl
  obtain ⟨b, r, rs, n, PL, NL, LL, ni, nt, pms, nds, ls, us, rfl, ⟨kd, a, rfl, hk, ha⟩, g, u, hk0, q⟩ := h
  have hu := hr.units
  refine ⟨_, pss_cons (ps_set (i := 4) sc__law_of_two.nd rfl (.inr rfl) (pe_ix (ixl_at (K := K) rfl) (pe_ix (ixl_at (K := K) rfl) (pv 1) pe_int (fun _ _ => rfl)) (pv 3) (fun _ _ => rfl)))
 (pss_cons (ps_if (pt_cmpR op_eq (pv 2) pe_str (nomark _)) (pss_cons (ps_set (i := 5) sc__law_of_two.nd rfl (.inl rfl) (pe_call G__law_draw hr rfl g__law_draw k__law_draw b__law_draw .nil pass0 (pa_cons (pv 0) (pa_cons (pe_callB (len_at (K := K) rfl) (by rfl) T.z_len PySem.boot_len (pa_cons (pe_ix (ixl_at (K := K) rfl) (pv 1) pe_int (fun _ _ => rfl)) pa_nil)) pa_nil))))
 (pss_cons (ps_if (pt_cmpR op_le (pe_op op_add (pv 4) (pe_ix (ixl_at (K := K) rfl) (pe_ix (ixl_at (K := K) rfl) (pv 1) pe_int (fun _ _ => rfl)) (pv 5) (fun _ _ => rfl))) pe_int (nomark _)) (pss_one (ps_ret (pe_tup (pa_cons (pe_tup (pa_cons pe_str (pa_cons (pv 3) (pa_cons (pv 5) pa_nil)))) (pa_cons (pe_op op_add (pv 4) (pe_ix (ixl_at (K := K) rfl) (pe_ix (ixl_at (K := K) rfl) (pv 1) pe_int (fun _ _ => rfl)) (pv 5) (fun _ _ => rfl))) pa_nil))))) pss_nil)
 (pss_one (ps_ret pe_non)))) pss_nil)
 (pss_cons (ps_if (PW.pt (pw_or (pt_cmpR op_eq (pv 2) pe_str (nomark _)) (pw_or1 (pt_cmpR op_eq (pv 2) pe_str (nomark _))))) (pss_cons (ps_set (i := 6) sc__law_of_two.nd rfl (.inl rfl) (pe_call G__law_divisors hr rfl g__law_divisors k__law_divisors b__law_divisors .nil pass0 (pa_cons (pv 4) (pa_cons pe_int pa_nil))))
 (pss_cons (ps_set (i := 7) sc__law_of_two.nd rfl (.inr rfl) (pe_ix (ixl_at (K := K) rfl) (pv 6) (pe_call G__law_draw hr rfl g__law_draw k__law_draw b__law_draw .nil pass0 (pa_cons (pv 0) (pa_cons (pe_callB (len_at (K := K) rfl) (by rfl) T.z_len PySem.boot_len (pa_cons (pv 6) pa_nil)) pa_nil))) (fun _ _ => rfl)))
 (pss_cons (ps_setLc (i := 8) (own := [("b", 5)]) (g := gName 5)  rfl sc__law_of_two.nd rfl rfl (sw_true rfl rfl rfl (by decide +kernel)) (pi_range1 rfl T.z_range (pa_cons (pe_callB (len_at (K := K) rfl) (by rfl) T.z_len PySem.boot_len (pa_cons (pe_ix (ixl_at (K := K) rfl) (pv 1) pe_int (fun _ _ => rfl)) pa_nil)) pa_nil)) (blkOk_by (N := ["box", "net", "kind", "a", "length", "b", "sides", "k", "fitting"]) (sc := defScope s__law_of_two) (by decide +kernel)) (fun _ _ _ _ _ => (pg_name (i := 5) sc__law_of_two.nd rfl (.inl rfl))) (fun _ _ _ _ _ => pts_one (pt_cmpR op_eq (pe_op op_mod (pe_callTy call_int1 (by rfl) T.z_int PyProof.Rows.boot_int (pa_cons (pe_ix (ixl_at (K := K) rfl) (pe_ix (ixl_at (K := K) rfl) (pv 1) pe_int (fun _ _ => rfl)) (pv 5) (fun _ _ => rfl)) pa_nil)) (pv 7)) pe_int (nomark _))) (fun _ _ _ _ _ => (pv 5)))
 (pss_cons (ps_set (i := 5) sc__law_of_two.nd rfl (.inl rfl) (pe_ix (ixl_at (K := K) rfl) (pv 8) (pe_call G__law_draw hr rfl g__law_draw k__law_draw b__law_draw .nil pass0 (pa_cons (pv 0) (pa_cons (pe_callB (len_at (K := K) rfl) (by rfl) T.z_len PySem.boot_len (pa_cons (pv 8) pa_nil)) pa_nil))) (fun _ _ => rfl)))
 (pss_cons (ps_if (pt_cmpR op_le (pe_op op_mul (pe_op op_fdiv (pv 4) (pv 7)) (pe_op op_fdiv (pe_ix (ixl_at (K := K) rfl) (pe_ix (ixl_at (K := K) rfl) (pv 1) pe_int (fun _ _ => rfl)) (pv 5) (fun _ _ => rfl)) (pv 7))) pe_int (nomark _)) (pss_one (ps_ret (pe_tup (pa_cons (pe_tup (pa_cons (pv 2) (pa_cons (pv 7) (pa_cons (pv 3) (pa_cons (pv 5) pa_nil))))) (pa_cons (pe_op op_mul (pe_op op_fdiv (pv 4) (pv 7)) (pe_op op_fdiv (pe_ix (ixl_at (K := K) rfl) (pe_ix (ixl_at (K := K) rfl) (pv 1) pe_int (fun _ _ => rfl)) (pv 5) (fun _ _ => rfl)) (pv 7))) pa_nil))))) pss_nil)
 (pss_one (ps_ret pe_non))))))) pss_nil)
 (pss_cons (ps_setLc (i := 8) (own := [("b", 5)]) (g := gName 5)  rfl sc__law_of_two.nd rfl rfl (sw_true rfl rfl rfl (by decide +kernel)) (pi_range1 rfl T.z_range (pa_cons (pe_callB (len_at (K := K) rfl) (by rfl) T.z_len PySem.boot_len (pa_cons (pe_ix (ixl_at (K := K) rfl) (pv 1) pe_int (fun _ _ => rfl)) pa_nil)) pa_nil)) (blkOk_by (N := ["box", "net", "kind", "a", "length", "b", "sides", "k", "fitting"]) (sc := defScope s__law_of_two) (by decide +kernel)) (fun _ _ _ _ _ => (pg_name (i := 5) sc__law_of_two.nd rfl (.inl rfl))) (fun _ _ _ _ _ => pts_one (pt_cmpR op_eq (pe_ix (ixl_at (K := K) rfl) (pe_ix (ixl_at (K := K) rfl) (pv 1) pe_int (fun _ _ => rfl)) (pv 5) (fun _ _ => rfl)) (pv 4) (nomark _))) (fun _ _ _ _ _ => (pv 5)))
 (pss_one (ps_ret (pe_tup (pa_cons (pe_tup (pa_cons (pv 2) (pa_cons (pv 3) (pa_cons (pe_ix (ixl_at (K := K) rfl) (pv 8) (pe_call G__law_draw hr rfl g__law_draw k__law_draw b__law_draw .nil pass0 (pa_cons (pv 0) (pa_cons (pe_callB (len_at (K := K) rfl) (by rfl) T.z_len PySem.boot_len (pa_cons (pv 8) pa_nil)) pa_nil))) (fun _ _ => rfl)) pa_nil)))) (pa_cons (pv 4) pa_nil)))))))), ?_⟩
  obtain ⟨L1, L2⟩ := u.bnd _ (lget_mem ha)
  have nbD : ∀ D, H D = none → D ≠ b := fun D nD => by
    obtain ⟨xs, hb⟩ := g.blst
    exact (ne_of_none hb nD).symm
  have fin : ∀ (H6 : Hp) (v : V), G H6 b r rs n PL NL LL ni nt pms nds ls → Exc [b, PL] H H6 → (v = .non ∨ Found H6 ni nt pms ls v) → Q v H6 := fun H6 v g6 x6 h6 => by
    have := q v [] H6
    rw [List.append_nil] at this
    exact this g6 u x6 h6
  have parts : ∀ o : Int, o ∈ ls → 1 ≤ o ∧ o ≤ 12 := u.bnd
  refine ⟨_, rfl, n, _, _, _, rfl, rfl, SqL.of g.net, rfl, _, rfl, LL, _, _, _, rfl, rfl, SqL.of g.len, at_ints ha, ?_⟩
  refine ⟨_, rfl, rfl, _, rfl, ?_⟩
  refine ite2 (fun hj => ?_) (fun hj => ?_)
  · -- join
    refine ⟨_, rfl, _, rfl, n, _, _, _, rfl, rfl, SqL.of g.net, rfl, LL, _, rfl, .inl (SqL.of g.len), b, r, rs, _, rfl, g.box, (by rw [List.length_map]; have := ha.2; have := ha.1; omega), fun v H2 v0 v1 B2 e2 => ?_⟩
    have g2 := g.but B2 e2
    rw [List.length_map] at v1
    have hv : inR v ls.length := ⟨v0, v1⟩
    obtain ⟨V1, V2⟩ := u.bnd _ (lget_mem hv)
    refine ⟨_, rfl, _, rfl, n, _, _, _, rfl, rfl, SqL.of g2.net, rfl, _, rfl, LL, _, _, _, rfl, rfl, SqL.of g2.len, at_ints hv, _, _, rfl, rfl, _, _, rfl, rfl, _, rfl, ?_⟩
    refine ite2 (fun c => ?_) (fun c => ?_)
    · have c' : lget ls a + lget ls v ≤ 12 := of_decide_eq_true c
      refine ⟨_, rfl, _, rfl, by show 3 ≤ sizeLine; decide, fun t1 nt1 => ?_⟩
      have s1 := same_new nt1 (.tup [.str "join", .int a, .int v])
      have g3 := g2.same s1
      refine ⟨_, rfl, _, rfl, n, _, _, _, rfl, rfl, SqL.of g3.net, rfl, _, rfl, LL, _, _, _, rfl, rfl, SqL.of g3.len, at_ints hv, _, _, rfl, rfl, by show 2 ≤ sizeLine; decide, fun t2 nt2 => ?_⟩
      have s2 := same_new nt2 (.tup [.ref t1, .int (lget ls a + lget ls v)])
      exact fin _ _ (g3.same s2) ((Exc.but e2 (.head _)).trans (.of (s1.trans s2))) (.inr ⟨t2, t1, .join a v, _, rfl, upd_same, s2 _ _ upd_same, good_of True.intro (fun o ho => by
        rcases List.mem_cons.mp ho with z | z
        · rw [z]; exact ha
        · rw [List.mem_singleton.mp z]; exact hv) rfl (by omega) c' True.intro⟩)
    · exact fin _ _ g2 (.but e2 (.head _)) (.inl rfl)
  · have nj : kd ≠ "join" := fun z => hj (decide_eq_true (congrArg V.str z))
    by_cases hm1 : kd = "mat"
    · subst hm1
      refine ⟨_, rfl, rfl, _, rfl, ?_⟩
      refine iteD rfl ?_
      refine ⟨_, rfl, _, _, rfl, by decide, by decide, fun D ds H1 nD e1 hD hds h0 => ?_⟩
      have g1 := g.same e1
      refine ⟨_, rfl, _, rfl, _, rfl, D, _, rfl, .inl (SqL.of hD), b, r, rs, _, rfl, g1.box, (by rw [List.length_map]; omega), fun v H2 v0 v1 B2 e2 => ?_⟩
      have g2 := g1.but B2 e2
      rw [List.length_map] at v1
      have hv : inR v ds.length := ⟨v0, v1⟩
      obtain ⟨d1, d2, d3⟩ := hds _ (lget_mem hv)
      refine ⟨D, _, _, _, rfl, rfl, SqL.of (e2 _ _ (nbD D nD) hD), at_ints hv, ?_⟩
      refine ⟨_, rfl, n, _, _, _, rfl, rfl, SqL.of g2.net, rfl, LL, _, rfl, .inl (SqL.of g2.len), ((ls.map V.int).length : Int), rfl, by rw [List.length_map]; omega, by rw [List.length_map]; omega, fun E1 nE1 => ?_⟩
      refine lc_range (fun (i : Nat) H' => ∃ fs : List Int, But E1 H2 H' ∧ H' E1 = some (.lst (fs.map V.int)) ∧ (∀ f ∈ fs, inR f ls.length ∧ (fun x => lget ls x % lget ds v = 0) f) ∧ fs.length ≤ i ∧ ∀ j : Int, 0 ≤ j → j < (i : Int) → (fun x => lget ls x % lget ds v = 0) j → j ∈ fs)
        ⟨[], .of (same_new nE1 _), upd_same, (fun d hd => by cases hd), Nat.zero_le _, fun j h1 h2 => by omega⟩ (fun i H' hi hP => ?_) (fun H' hP => ?_)
      · obtain ⟨fs, e, hE, hfs, hl, hall⟩ := hP
        have hi' : i < ls.length := by rw [List.length_map] at hi; omega
        have g' := g2.same (e.same nE1)
        refine ⟨rfl, ?_⟩
        refine ⟨_, rfl, n, _, _, _, rfl, rfl, SqL.of g'.net, rfl, _, rfl, LL, _, _, _, rfl, rfl, SqL.of g'.len, lget_nat hi', .inl ⟨_, rfl, _, rfl, _, _, rfl, rfl, (by omega : (0 : Int) < lget ds v), rfl, _, rfl, ?_⟩⟩
        refine ite2 (fun h1 => ?_) (fun h1 => ?_)
        · have h1' : (fun x => lget ls x % lget ds v = 0) (0 + (i : Int)) := V.int.inj (of_decide_eq_true h1)
          refine ⟨_, rfl, _, hE, smaller (by rw [List.length_map]; omega), fs ++ [0 + (i : Int)], e.mut' nE1, map_more _ _, fun x hx => ?_, by rw [List.length_append, List.length_singleton]; omega, fun j j0 j1 hj' => ?_⟩
          · rcases List.mem_append.mp hx with z | z
            · exact hfs x z
            · rw [List.mem_singleton] at z
              rw [z]
              exact ⟨⟨by omega, by omega⟩, h1'⟩
          · by_cases z : j < (i : Int)
            · exact List.mem_append_left _ (hall j j0 z hj')
            · have z2 : j = 0 + (i : Int) := by omega
              rw [z2]
              exact List.mem_append_right _ (.head _)
        · refine ⟨fs, e, hE, hfs, by omega, fun j j0 j1 hj' => ?_⟩
          by_cases z : j < (i : Int)
          · exact hall j j0 z hj'
          · have z2 : j = 0 + (i : Int) := by omega
            rw [z2] at hj'
            exact absurd (decide_eq_true (congrArg V.int hj')) h1
      · obtain ⟨fs, e, hE, hfs, hl, hall⟩ := hP
        have g3 := g2.same (e.same nE1)
        have hin : a ∈ fs := hall a ha.1 (by rw [List.length_map]; have := ha.2; have := ha.1; omega) d3
        have hpos : 0 < fs.length := List.length_pos_of_mem hin
        have x3 : Exc [b, PL] H H' := ((Exc.of e1).trans (.but e2 (.head _))).trans (.of (e.same nE1))
        have nbE : E1 ≠ b := by
          obtain ⟨xs, hb⟩ := g2.blst
          exact (ne_of_none hb nE1).symm
        refine ⟨_, rfl, _, rfl, _, rfl, E1, _, rfl, .inl (SqL.of hE), b, r, rs, _, rfl, g3.box, (by rw [List.length_map]; omega), fun w1 H4 w10 w11 B4 e4 => ?_⟩
        have g4 := g3.but B4 e4
        have x4 := x3.trans (.but e4 (.head _))
        rw [List.length_map] at w11
        have hw : inR w1 fs.length := ⟨w10, w11⟩
        obtain ⟨ho, hz⟩ := hfs _ (lget_mem hw)
        obtain ⟨O1, O2⟩ := u.bnd _ (lget_mem ho)
        have Q1 := quo L1 L2 d1 d3
        have Q2 := quo O1 O2 d1 hz
        refine ⟨E1, _, _, _, rfl, rfl, SqL.of (e4 _ _ nbE hE), at_ints hw, ?_⟩
        refine ⟨_, rfl, _, rfl, _, _, rfl, rfl, ⟨by omega, by omega⟩, ?_⟩
        refine ⟨_, rfl, n, _, _, _, rfl, rfl, SqL.of g4.net, rfl, _, rfl, LL, _, _, _, rfl, rfl, SqL.of g4.len, at_ints ho, _, rfl, _, _, rfl, rfl, ⟨by omega, by omega⟩, ?_⟩
        refine ⟨_, _, rfl, rfl, .inl ⟨by omega, by omega⟩, _, _, rfl, rfl, _, rfl, ?_⟩
        refine ite2 (fun c => ?_) (fun c => ?_)
        · have c' : lget ls a / lget ds v * (lget ls (lget fs w1) / lget ds v) ≤ 12 := of_decide_eq_true c
          refine ⟨_, rfl, _, rfl, _, rfl, _, rfl, by show 4 ≤ sizeLine; decide, fun t1 nt1 => ?_⟩
          have s1 := same_new nt1 (.tup [.str "mat", .int (lget ds v), .int a, .int (lget fs w1)])
          have g5 := g4.same s1
          refine ⟨_, rfl, _, rfl, _, _, rfl, rfl, ⟨by omega, by omega⟩, ?_⟩
          refine ⟨_, rfl, n, _, _, _, rfl, rfl, SqL.of g5.net, rfl, _, rfl, LL, _, _, _, rfl, rfl, SqL.of g5.len, at_ints ho, _, rfl, _, _, rfl, rfl, ⟨by omega, by omega⟩, ?_⟩
          refine ⟨_, _, rfl, rfl, .inl ⟨by omega, by omega⟩, by show 2 ≤ sizeLine; decide, fun t2 nt2 => ?_⟩
          have s2 := same_new nt2 (.tup [.ref t1, .int (lget ls a / lget ds v * (lget ls (lget fs w1) / lget ds v))])
          have c1 : 1 ≤ lget ls a / lget ds v * (lget ls (lget fs w1) / lget ds v) := by
            have : 1 * 1 ≤ lget ls a / lget ds v * (lget ls (lget fs w1) / lget ds v) := Int.mul_le_mul Q1.1 Q2.1 (by decide) (by omega)
            omega
          exact fin _ _ (g5.same s2) (x4.trans (.of (s1.trans s2))) (.inr ⟨t2, t1, .mat (lget ds v) a (lget fs w1), _, rfl, upd_same, s2 _ _ upd_same, good_of True.intro (fun o ho' => by
            rcases List.mem_cons.mp ho' with z | z
            · rw [z]; exact ha
            · rw [List.mem_singleton.mp z]; exact ho) (if_pos ⟨⟨by omega, d3⟩, ⟨by omega, hz⟩⟩) c1 c' (by show lget ds v < 1000000; omega)⟩)
        · exact fin _ _ g4 x4 (.inl rfl)
    · by_cases hm2 : kd = "matT"
      · subst hm2
        refine ⟨_, rfl, rfl, _, rfl, ?_⟩
        refine iteDN (fun z => hm1 (V.str.inj z)) ?_
        refine ⟨_, rfl, rfl, _, rfl, ?_⟩
        refine iteD rfl ?_
        refine ⟨_, rfl, _, _, rfl, by decide, by decide, fun D ds H1 nD e1 hD hds h0 => ?_⟩
        have g1 := g.same e1
        refine ⟨_, rfl, _, rfl, _, rfl, D, _, rfl, .inl (SqL.of hD), b, r, rs, _, rfl, g1.box, (by rw [List.length_map]; omega), fun v H2 v0 v1 B2 e2 => ?_⟩
        have g2 := g1.but B2 e2
        rw [List.length_map] at v1
        have hv : inR v ds.length := ⟨v0, v1⟩
        obtain ⟨d1, d2, d3⟩ := hds _ (lget_mem hv)
        refine ⟨D, _, _, _, rfl, rfl, SqL.of (e2 _ _ (nbD D nD) hD), at_ints hv, ?_⟩
        refine ⟨_, rfl, n, _, _, _, rfl, rfl, SqL.of g2.net, rfl, LL, _, rfl, .inl (SqL.of g2.len), ((ls.map V.int).length : Int), rfl, by rw [List.length_map]; omega, by rw [List.length_map]; omega, fun E1 nE1 => ?_⟩
        refine lc_range (fun (i : Nat) H' => ∃ fs : List Int, But E1 H2 H' ∧ H' E1 = some (.lst (fs.map V.int)) ∧ (∀ f ∈ fs, inR f ls.length ∧ (fun x => lget ls x % lget ds v = 0) f) ∧ fs.length ≤ i ∧ ∀ j : Int, 0 ≤ j → j < (i : Int) → (fun x => lget ls x % lget ds v = 0) j → j ∈ fs)
          ⟨[], .of (same_new nE1 _), upd_same, (fun d hd => by cases hd), Nat.zero_le _, fun j h1 h2 => by omega⟩ (fun i H' hi hP => ?_) (fun H' hP => ?_)
        · obtain ⟨fs, e, hE, hfs, hl, hall⟩ := hP
          have hi' : i < ls.length := by rw [List.length_map] at hi; omega
          have g' := g2.same (e.same nE1)
          refine ⟨rfl, ?_⟩
          refine ⟨_, rfl, n, _, _, _, rfl, rfl, SqL.of g'.net, rfl, _, rfl, LL, _, _, _, rfl, rfl, SqL.of g'.len, lget_nat hi', .inl ⟨_, rfl, _, rfl, _, _, rfl, rfl, (by omega : (0 : Int) < lget ds v), rfl, _, rfl, ?_⟩⟩
          refine ite2 (fun h1 => ?_) (fun h1 => ?_)
          · have h1' : (fun x => lget ls x % lget ds v = 0) (0 + (i : Int)) := V.int.inj (of_decide_eq_true h1)
            refine ⟨_, rfl, _, hE, smaller (by rw [List.length_map]; omega), fs ++ [0 + (i : Int)], e.mut' nE1, map_more _ _, fun x hx => ?_, by rw [List.length_append, List.length_singleton]; omega, fun j j0 j1 hj' => ?_⟩
            · rcases List.mem_append.mp hx with z | z
              · exact hfs x z
              · rw [List.mem_singleton] at z
                rw [z]
                exact ⟨⟨by omega, by omega⟩, h1'⟩
            · by_cases z : j < (i : Int)
              · exact List.mem_append_left _ (hall j j0 z hj')
              · have z2 : j = 0 + (i : Int) := by omega
                rw [z2]
                exact List.mem_append_right _ (.head _)
          · refine ⟨fs, e, hE, hfs, by omega, fun j j0 j1 hj' => ?_⟩
            by_cases z : j < (i : Int)
            · exact hall j j0 z hj'
            · have z2 : j = 0 + (i : Int) := by omega
              rw [z2] at hj'
              exact absurd (decide_eq_true (congrArg V.int hj')) h1
        · obtain ⟨fs, e, hE, hfs, hl, hall⟩ := hP
          have g3 := g2.same (e.same nE1)
          have hin : a ∈ fs := hall a ha.1 (by rw [List.length_map]; have := ha.2; have := ha.1; omega) d3
          have hpos : 0 < fs.length := List.length_pos_of_mem hin
          have x3 : Exc [b, PL] H H' := ((Exc.of e1).trans (.but e2 (.head _))).trans (.of (e.same nE1))
          have nbE : E1 ≠ b := by
            obtain ⟨xs, hb⟩ := g2.blst
            exact (ne_of_none hb nE1).symm
          refine ⟨_, rfl, _, rfl, _, rfl, E1, _, rfl, .inl (SqL.of hE), b, r, rs, _, rfl, g3.box, (by rw [List.length_map]; omega), fun w1 H4 w10 w11 B4 e4 => ?_⟩
          have g4 := g3.but B4 e4
          have x4 := x3.trans (.but e4 (.head _))
          rw [List.length_map] at w11
          have hw : inR w1 fs.length := ⟨w10, w11⟩
          obtain ⟨ho, hz⟩ := hfs _ (lget_mem hw)
          obtain ⟨O1, O2⟩ := u.bnd _ (lget_mem ho)
          have Q1 := quo L1 L2 d1 d3
          have Q2 := quo O1 O2 d1 hz
          refine ⟨E1, _, _, _, rfl, rfl, SqL.of (e4 _ _ nbE hE), at_ints hw, ?_⟩
          refine ⟨_, rfl, _, rfl, _, _, rfl, rfl, ⟨by omega, by omega⟩, ?_⟩
          refine ⟨_, rfl, n, _, _, _, rfl, rfl, SqL.of g4.net, rfl, _, rfl, LL, _, _, _, rfl, rfl, SqL.of g4.len, at_ints ho, _, rfl, _, _, rfl, rfl, ⟨by omega, by omega⟩, ?_⟩
          refine ⟨_, _, rfl, rfl, .inl ⟨by omega, by omega⟩, _, _, rfl, rfl, _, rfl, ?_⟩
          refine ite2 (fun c => ?_) (fun c => ?_)
          · have c' : lget ls a / lget ds v * (lget ls (lget fs w1) / lget ds v) ≤ 12 := of_decide_eq_true c
            refine ⟨_, rfl, _, rfl, _, rfl, _, rfl, by show 4 ≤ sizeLine; decide, fun t1 nt1 => ?_⟩
            have s1 := same_new nt1 (.tup [.str "matT", .int (lget ds v), .int a, .int (lget fs w1)])
            have g5 := g4.same s1
            refine ⟨_, rfl, _, rfl, _, _, rfl, rfl, ⟨by omega, by omega⟩, ?_⟩
            refine ⟨_, rfl, n, _, _, _, rfl, rfl, SqL.of g5.net, rfl, _, rfl, LL, _, _, _, rfl, rfl, SqL.of g5.len, at_ints ho, _, rfl, _, _, rfl, rfl, ⟨by omega, by omega⟩, ?_⟩
            refine ⟨_, _, rfl, rfl, .inl ⟨by omega, by omega⟩, by show 2 ≤ sizeLine; decide, fun t2 nt2 => ?_⟩
            have s2 := same_new nt2 (.tup [.ref t1, .int (lget ls a / lget ds v * (lget ls (lget fs w1) / lget ds v))])
            have c1 : 1 ≤ lget ls a / lget ds v * (lget ls (lget fs w1) / lget ds v) := by
              have : 1 * 1 ≤ lget ls a / lget ds v * (lget ls (lget fs w1) / lget ds v) := Int.mul_le_mul Q1.1 Q2.1 (by decide) (by omega)
              omega
            exact fin _ _ (g5.same s2) (x4.trans (.of (s1.trans s2))) (.inr ⟨t2, t1, .matT (lget ds v) a (lget fs w1), _, rfl, upd_same, s2 _ _ upd_same, good_of True.intro (fun o ho' => by
              rcases List.mem_cons.mp ho' with z | z
              · rw [z]; exact ha
              · rw [List.mem_singleton.mp z]; exact ho) (if_pos ⟨⟨by omega, d3⟩, ⟨by omega, hz⟩⟩) c1 c' (by show lget ds v < 1000000; omega)⟩)
          · exact fin _ _ g4 x4 (.inl rfl)
      · -- add, sub, mul
        refine ⟨_, rfl, rfl, _, rfl, ?_⟩
        refine iteDN (fun z => hm1 (V.str.inj z)) ?_
        refine ⟨_, rfl, rfl, _, rfl, ?_⟩
        refine iteDN (fun z => hm2 (V.str.inj z)) ?_
        refine ⟨_, rfl, n, _, _, _, rfl, rfl, SqL.of g.net, rfl, LL, _, rfl, .inl (SqL.of g.len), ((ls.map V.int).length : Int), rfl, by rw [List.length_map]; omega, by rw [List.length_map]; omega, fun E1 nE1 => ?_⟩
        refine lc_range (fun (i : Nat) H' => ∃ fs : List Int, But E1 H H' ∧ H' E1 = some (.lst (fs.map V.int)) ∧ (∀ f ∈ fs, inR f ls.length ∧ (fun x => lget ls x = lget ls a) f) ∧ fs.length ≤ i ∧ ∀ j : Int, 0 ≤ j → j < (i : Int) → (fun x => lget ls x = lget ls a) j → j ∈ fs)
          ⟨[], .of (same_new nE1 _), upd_same, (fun d hd => by cases hd), Nat.zero_le _, fun j h1 h2 => by omega⟩ (fun i H' hi hP => ?_) (fun H' hP => ?_)
        · obtain ⟨fs, e, hE, hfs, hl, hall⟩ := hP
          have hi' : i < ls.length := by rw [List.length_map] at hi; omega
          have g' := g.same (e.same nE1)
          refine ⟨rfl, ?_⟩
          refine ⟨_, rfl, n, _, _, _, rfl, rfl, SqL.of g'.net, rfl, _, rfl, LL, _, _, _, rfl, rfl, SqL.of g'.len, lget_nat hi', _, rfl, rfl, _, rfl, ?_⟩
          refine ite2 (fun h1 => ?_) (fun h1 => ?_)
          · have h1' : (fun x => lget ls x = lget ls a) (0 + (i : Int)) := V.int.inj (of_decide_eq_true h1)
            refine ⟨_, rfl, _, hE, smaller (by rw [List.length_map]; omega), fs ++ [0 + (i : Int)], e.mut' nE1, map_more _ _, fun x hx => ?_, by rw [List.length_append, List.length_singleton]; omega, fun j j0 j1 hj' => ?_⟩
            · rcases List.mem_append.mp hx with z | z
              · exact hfs x z
              · rw [List.mem_singleton] at z
                rw [z]
                exact ⟨⟨by omega, by omega⟩, h1'⟩
            · by_cases z : j < (i : Int)
              · exact List.mem_append_left _ (hall j j0 z hj')
              · have z2 : j = 0 + (i : Int) := by omega
                rw [z2]
                exact List.mem_append_right _ (.head _)
          · refine ⟨fs, e, hE, hfs, by omega, fun j j0 j1 hj' => ?_⟩
            by_cases z : j < (i : Int)
            · exact hall j j0 z hj'
            · have z2 : j = 0 + (i : Int) := by omega
              rw [z2] at hj'
              exact absurd (decide_eq_true (congrArg V.int hj')) h1
        · obtain ⟨fs, e, hE, hfs, hl, hall⟩ := hP
          have g3 := g.same (e.same nE1)
          have hin : a ∈ fs := hall a ha.1 (by rw [List.length_map]; have := ha.2; have := ha.1; omega) rfl
          have hpos : 0 < fs.length := List.length_pos_of_mem hin
          have x3 : Exc [b, PL] H H' := .of (e.same nE1)
          refine ⟨_, rfl, _, rfl, _, rfl, _, rfl, _, rfl, E1, _, rfl, .inl (SqL.of hE), b, r, rs, _, rfl, g3.box, (by rw [List.length_map]; omega), fun w1 H4 w10 w11 B4 e4 => ?_⟩
          have g4 := g3.but B4 e4
          have x4 := x3.trans (.but e4 (.head _))
          rw [List.length_map] at w11
          have hw : inR w1 fs.length := ⟨w10, w11⟩
          obtain ⟨ho, hz⟩ := hfs _ (lget_mem hw)
          refine ⟨E1, _, _, _, rfl, rfl, SqL.of (e4 _ _ (nbD E1 nE1) hE), at_ints hw, by show 3 ≤ sizeLine; decide, fun t1 nt1 => ?_⟩
          have s1 := same_new nt1 (.tup [.str kd, .int a, .int (lget fs w1)])
          refine ⟨_, rfl, by show 2 ≤ sizeLine; decide, fun t2 nt2 => ?_⟩
          have s2 := same_new nt2 (.tup [.ref t1, .int (lget ls a)])
          have hops : ∀ o ∈ [a, lget fs w1], inR o ls.length := fun o ho' => by
            rcases List.mem_cons.mp ho' with z | z
            · rw [z]; exact ha
            · rw [List.mem_singleton.mp z]; exact ho
          refine fin _ _ ((g4.same s1).same s2) (x4.trans (.of (s1.trans s2))) (.inr ?_)
          rcases hk with rfl | rfl | rfl | z | z | z
          · exact ⟨t2, t1, .add a (lget fs w1), _, rfl, upd_same, s2 _ _ upd_same, good_of True.intro hops (if_pos hz.symm) L1 L2 True.intro⟩
          · exact ⟨t2, t1, .sub a (lget fs w1), _, rfl, upd_same, s2 _ _ upd_same, good_of True.intro hops (if_pos hz.symm) L1 L2 True.intro⟩
          · exact ⟨t2, t1, .mul a (lget fs w1), _, rfl, upd_same, s2 _ _ upd_same, good_of True.intro hops (if_pos hz.symm) L1 L2 True.intro⟩
          · exact absurd z nj
          · exact absurd z hm1
          · exact absurd z hm2
theorem ok__law_of_one (F : Fun K "_law_of_one" "_law_of_one" s__law_of_one f fd) (T : Txt K mg cs w) (d__law_divisors : Def P w K mg base 1 "_law_divisors" ["n", "most"] (spDivisors)) (d__law_draw : Def P w K mg base 1 "_law_draw" ["box", "many"] (spDraw)) (d__law_word : Def P w K mg base 2 "_law_word" ["box"] (spWord)) :
    FnOk P w K mg base CX0 3 f fd ["box", "net", "kind", "a"] (spMake fun ls us => ∃ (kd : Str) (a : Int), us = [.str kd, .int a] ∧ (kd = "lower" ∨ kd = "scale" ∨ kd = "shift" ∨ kd = "drop" ∨ kd = "take" ∨ kd = "sum" ∨ kd = "relu") ∧ inR a ls.length) := by
  obtain ⟨f0, fd0, G__law_divisors, b__law_divisors, g__law_divisors, k__law_divisors⟩ := d__law_divisors.ex
  obtain ⟨f1, fd1, G__law_draw, b__law_draw, g__law_draw, k__law_draw⟩ := d__law_draw.ex
  obtain ⟨f2, fd2, G__law_word, b__law_word, g__law_word, k__law_word⟩ := d__law_word.ex
  refine F.ok sc__law_of_one (fun vs H Q E h => ?_) (fun cdv A outer s H vs Q E hr h => ?_)
  · obtain ⟨b, r, rs, n, PL, NL, LL, ni, nt, pms, nds, ls, us, rfl, ⟨kd, a, rfl, hk, ha⟩, g, u, hk0, q⟩ := h
    rfl
  obtain ⟨b, r, rs, n, PL, NL, LL, ni, nt, pms, nds, ls, us, rfl, ⟨kd, a, rfl, hk, ha⟩, g, u, hk0, q⟩ := h
  have hu := hr.units
  refine ⟨_, pss_cons (ps_set (i := 4) sc__law_of_one.nd rfl (.inl rfl) (pe_ix (ixl_at (K := K) rfl) (pe_ix (ixl_at (K := K) rfl) (pv 1) pe_int (fun _ _ => rfl)) (pv 3) (fun _ _ => rfl)))
 (pss_cons (ps_if (pt_cmpR op_eq (pv 2) pe_str (nomark _)) (pss_cons (ps_set (i := 5) sc__law_of_one.nd rfl (.inl rfl) (pe_call G__law_divisors (hr.mono (by decide)) rfl g__law_divisors k__law_divisors b__law_divisors .nil pass0 (pa_cons (pv 4) (pa_cons pe_int pa_nil))))
 (pss_one (ps_ret (pe_tup (pa_cons (pe_tup (pa_cons pe_str (pa_cons (pe_ix (ixl_at (K := K) rfl) (pv 5) (pe_call G__law_draw (hr.mono (by decide)) rfl g__law_draw k__law_draw b__law_draw .nil pass0 (pa_cons (pv 0) (pa_cons (pe_callB (len_at (K := K) rfl) (by rfl) T.z_len PySem.boot_len (pa_cons (pv 5) pa_nil)) pa_nil))) (fun _ _ => rfl)) (pa_cons (pv 3) pa_nil)))) (pa_cons (pv 4) pa_nil)))))) pss_nil)
 (pss_cons (ps_if (pt_cmpR op_eq (pv 2) pe_str (nomark _)) (pss_one (ps_ret (pe_tup (pa_cons (pe_tup (pa_cons pe_str (pa_cons (pe_call G__law_word hr rfl g__law_word k__law_word b__law_word .nil pass0 (pa_cons (pv 0) pa_nil)) (pa_cons (pv 3) pa_nil)))) (pa_cons (pv 4) pa_nil))))) pss_nil)
 (pss_cons (ps_if (pt_cmpR op_eq (pv 2) pe_str (nomark _)) (pss_one (ps_ret (pe_tup (pa_cons (pe_tup (pa_cons pe_str (pa_cons (pe_ix (ixl_at (K := K) rfl) (pe_lst (pa_cons pe_int (pa_cons pe_int (pa_cons pe_int (pa_cons pe_int (pa_cons pe_int (pa_cons pe_int pa_nil))))))) (pe_call G__law_draw (hr.mono (by decide)) rfl g__law_draw k__law_draw b__law_draw .nil pass0 (pa_cons (pv 0) (pa_cons pe_int pa_nil))) (fun _ _ => rfl)) (pa_cons (pv 3) pa_nil)))) (pa_cons (pv 4) pa_nil))))) pss_nil)
 (pss_cons (ps_if (pt_cmpR op_eq (pv 2) pe_str (nomark _)) (pss_one (ps_ret (pe_tup (pa_cons (pe_tup (pa_cons pe_str (pa_cons (pe_op op_add pe_int (pe_call G__law_draw (hr.mono (by decide)) rfl g__law_draw k__law_draw b__law_draw .nil pass0 (pa_cons (pv 0) (pa_cons pe_int pa_nil)))) (pa_cons (pv 3) pa_nil)))) (pa_cons (pv 4) pa_nil))))) pss_nil)
 (pss_cons (ps_if (pt_cmpR op_eq (pv 2) pe_str (nomark _)) (pss_cons (ps_set (i := 6) sc__law_of_one.nd rfl (.inl rfl) (pe_call G__law_draw (hr.mono (by decide)) rfl g__law_draw k__law_draw b__law_draw .nil pass0 (pa_cons (pv 0) (pa_cons (pv 4) pa_nil))))
 (pss_cons (ps_set (i := 7) sc__law_of_one.nd rfl (.inl rfl) (pe_op op_add pe_int (pe_call G__law_draw (hr.mono (by decide)) rfl g__law_draw k__law_draw b__law_draw .nil pass0 (pa_cons (pv 0) (pa_cons (pe_op op_sub (pv 4) (pv 6)) pa_nil)))))
 (pss_one (ps_ret (pe_tup (pa_cons (pe_tup (pa_cons pe_str (pa_cons (pv 6) (pa_cons (pv 7) (pa_cons (pv 3) pa_nil))))) (pa_cons (pv 7) pa_nil))))))) pss_nil)
 (pss_cons (ps_if (pt_cmpR op_eq (pv 2) pe_str (nomark _)) (pss_one (ps_ret (pe_tup (pa_cons (pe_tup (pa_cons pe_str (pa_cons (pv 3) pa_nil))) (pa_cons pe_int pa_nil))))) pss_nil)
 (pss_one (ps_ret (pe_tup (pa_cons (pe_tup (pa_cons pe_str (pa_cons (pv 3) pa_nil))) (pa_cons (pv 4) pa_nil))))))))))), ?_⟩
  obtain ⟨L1, L2⟩ := u.bnd _ (lget_mem ha)
  have fin : ∀ (H6 : Hp) (v : V), G H6 b r rs n PL NL LL ni nt pms nds ls → Exc [b, PL] H H6 → (v = .non ∨ Found H6 ni nt pms ls v) → Q v H6 := fun H6 v g6 x6 h6 => by
    have := q v [] H6
    rw [List.append_nil] at this
    exact this g6 u x6 h6
  have one : ∀ o ∈ [a], inR o ls.length := fun o ho => by rw [List.mem_singleton.mp ho]; exact ha
  refine ⟨_, rfl, n, _, _, _, rfl, rfl, SqL.of g.net, rfl, _, rfl, LL, _, _, _, rfl, rfl, SqL.of g.len, at_ints ha, ?_⟩
  rcases hk with rfl | rfl | rfl | rfl | rfl | rfl | rfl
  · -- lower
    refine ⟨_, rfl, rfl, _, rfl, ?_⟩
    refine iteD rfl ?_
    refine ⟨_, rfl, _, _, rfl, by decide, by decide, fun D ds H1 nD e1 hD hds h0 => ?_⟩
    have g1 := g.same e1
    have nbD : D ≠ b := by
      obtain ⟨xs, hb⟩ := g.blst
      exact (ne_of_none hb nD).symm
    refine ⟨_, rfl, _, rfl, _, rfl, D, _, rfl, .inl (SqL.of hD), b, r, rs, _, rfl, g1.box, (by rw [List.length_map]; omega), fun v H2 v0 v1 B2 e2 => ?_⟩
    have g2 := g1.but B2 e2
    have x2 : Exc [b, PL] H H2 := (Exc.of e1).trans (.but e2 (.head _))
    rw [List.length_map] at v1
    have hv : inR v ds.length := ⟨v0, v1⟩
    obtain ⟨d1, d2, d3⟩ := hds _ (lget_mem hv)
    refine ⟨D, _, _, _, rfl, rfl, SqL.of (e2 _ _ nbD hD), at_ints hv, ?_⟩
    refine ⟨_, rfl, by show 3 ≤ sizeLine; decide, fun t1 nt1 => ?_⟩
    have s1 := same_new nt1 (.tup [.str "lower", .int (lget ds v), .int a])
    refine ⟨_, rfl, by show 2 ≤ sizeLine; decide, fun t2 nt2 => ?_⟩
    have s2 := same_new nt2 (.tup [.ref t1, .int (lget ls a)])
    exact fin _ _ ((g2.same s1).same s2) (x2.trans (.of (s1.trans s2))) (.inr ⟨t2, t1, .lower (lget ds v) a, _, rfl, upd_same, s2 _ _ upd_same, good_of True.intro one (if_pos ⟨by omega, d3⟩) L1 L2 True.intro⟩)
  · -- scale
    refine ⟨_, rfl, rfl, _, rfl, ?_⟩
    refine iteDN (by decide) ?_
    refine ⟨_, rfl, rfl, _, rfl, ?_⟩
    refine iteD rfl ?_
    refine ⟨_, rfl, b, r, rs, rfl, g.box, fun v H2 v0 v1 B2 e2 => ?_⟩
    have g2 := g.but B2 e2
    have x2 : Exc [b, PL] H H2 := .but e2 (.head _)
    refine ⟨_, rfl, by show 3 ≤ sizeLine; decide, fun t1 nt1 => ?_⟩
    have s1 := same_new nt1 (.tup [.str "scale", .int v, .int a])
    refine ⟨_, rfl, by show 2 ≤ sizeLine; decide, fun t2 nt2 => ?_⟩
    have s2 := same_new nt2 (.tup [.ref t1, .int (lget ls a)])
    exact fin _ _ ((g2.same s1).same s2) (x2.trans (.of (s1.trans s2))) (.inr ⟨t2, t1, .scale v a, _, rfl, upd_same, s2 _ _ upd_same, good_of True.intro one (if_pos ⟨v0, v1⟩) L1 L2 True.intro⟩)
  · -- shift
    refine ⟨_, rfl, rfl, _, rfl, ?_⟩
    refine iteDN (by decide) ?_
    refine ⟨_, rfl, rfl, _, rfl, ?_⟩
    refine iteDN (by decide) ?_
    refine ⟨_, rfl, rfl, _, rfl, ?_⟩
    refine iteD rfl ?_
    refine ⟨by show 6 ≤ sizeLine; decide, fun cl ncl => ?_⟩
    have s3 := same_new ncl (.lst [.int 0, .int 1, .int 2, .int 5, .int 16, .int 31])
    have g1 := g.same s3
    have ncb : cl ≠ b := by
      obtain ⟨xs, hb⟩ := g.blst
      exact (ne_of_none hb ncl).symm
    refine ⟨_, rfl, b, r, rs, 6, rfl, g1.box, by decide, fun v H2 v0 v1 B2 e2 => ?_⟩
    have g2 := g1.but B2 e2
    have x2 : Exc [b, PL] H H2 := (Exc.of s3).trans (.but e2 (.head _))
    have hcl : H2 cl = some (.lst ([0, 1, 2, 5, 16, 31].map V.int)) := e2 _ _ ncb upd_same
    have hv : inR v ([0, 1, 2, 5, 16, 31] : List Int).length := ⟨v0, v1⟩
    have hin := lget_mem hv
    have hb : 0 ≤ lget [0, 1, 2, 5, 16, 31] v ∧ lget [0, 1, 2, 5, 16, 31] v ≤ 31 := by
      simp only [List.mem_cons, List.not_mem_nil, or_false] at hin
      omega
    refine ⟨cl, _, _, _, rfl, rfl, SqL.of hcl, at_ints hv, ?_⟩
    refine ⟨_, rfl, by show 3 ≤ sizeLine; decide, fun t1 nt1 => ?_⟩
    have s1 := same_new nt1 (.tup [.str "shift", .int (lget [0, 1, 2, 5, 16, 31] v), .int a])
    refine ⟨_, rfl, by show 2 ≤ sizeLine; decide, fun t2 nt2 => ?_⟩
    have s2 := same_new nt2 (.tup [.ref t1, .int (lget ls a)])
    exact fin _ _ ((g2.same s1).same s2) (x2.trans (.of (s1.trans s2))) (.inr ⟨t2, t1, .shift (lget [0, 1, 2, 5, 16, 31] v) a, _, rfl, upd_same, s2 _ _ upd_same, good_of True.intro one (if_pos hb) L1 L2 True.intro⟩)
  · -- drop
    refine ⟨_, rfl, rfl, _, rfl, ?_⟩
    refine iteDN (by decide) ?_
    refine ⟨_, rfl, rfl, _, rfl, ?_⟩
    refine iteDN (by decide) ?_
    refine ⟨_, rfl, rfl, _, rfl, ?_⟩
    refine iteDN (by decide) ?_
    refine ⟨_, rfl, rfl, _, rfl, ?_⟩
    refine iteD rfl ?_
    refine ⟨_, rfl, b, r, rs, 4, rfl, g.box, by decide, fun v H2 v0 v1 B2 e2 => ?_⟩
    have g2 := g.but B2 e2
    have x2 : Exc [b, PL] H H2 := .but e2 (.head _)
    refine ⟨_, _, rfl, rfl, ?_⟩
    refine ⟨_, rfl, by show 3 ≤ sizeLine; decide, fun t1 nt1 => ?_⟩
    have s1 := same_new nt1 (.tup [.str "drop", .int (2 + v), .int a])
    refine ⟨_, rfl, by show 2 ≤ sizeLine; decide, fun t2 nt2 => ?_⟩
    have s2 := same_new nt2 (.tup [.ref t1, .int (lget ls a)])
    exact fin _ _ ((g2.same s1).same s2) (x2.trans (.of (s1.trans s2))) (.inr ⟨t2, t1, .drop (2 + v) a, _, rfl, upd_same, s2 _ _ upd_same, good_of True.intro one (if_pos ⟨by omega, by omega⟩) L1 L2 True.intro⟩)
  · -- take
    refine ⟨_, rfl, rfl, _, rfl, ?_⟩
    refine iteDN (by decide) ?_
    refine ⟨_, rfl, rfl, _, rfl, ?_⟩
    refine iteDN (by decide) ?_
    refine ⟨_, rfl, rfl, _, rfl, ?_⟩
    refine iteDN (by decide) ?_
    refine ⟨_, rfl, rfl, _, rfl, ?_⟩
    refine iteDN (by decide) ?_
    refine ⟨_, rfl, rfl, _, rfl, ?_⟩
    refine iteD rfl ?_
    refine ⟨_, rfl, _, rfl, b, r, rs, _, rfl, g.box, by omega, fun v H2 v0 v1 B2 e2 => ?_⟩
    have g2 := g.but B2 e2
    refine ⟨_, rfl, _, rfl, _, rfl, _, _, rfl, rfl, b, r, rs, _, rfl, B2, by omega, fun m H3 m0 m1 B3 e3 => ?_⟩
    have g3 := g2.but B3 e3
    have x3 : Exc [b, PL] H H3 := (Exc.but e2 (.head _)).trans (.but e3 (.head _))
    refine ⟨_, _, rfl, rfl, ?_⟩
    refine ⟨_, rfl, _, rfl, _, rfl, by show 4 ≤ sizeLine; decide, fun t1 nt1 => ?_⟩
    have s1 := same_new nt1 (.tup [.str "take", .int v, .int (1 + m), .int a])
    refine ⟨_, rfl, by show 2 ≤ sizeLine; decide, fun t2 nt2 => ?_⟩
    have s2 := same_new nt2 (.tup [.ref t1, .int (1 + m)])
    exact fin _ _ ((g3.same s1).same s2) (x3.trans (.of (s1.trans s2))) (.inr ⟨t2, t1, .take v (1 + m) a, _, rfl, upd_same, s2 _ _ upd_same, good_of True.intro one (if_pos ⟨by omega, v0, by omega⟩) (by omega) (by omega) True.intro⟩)
  · -- sum
    refine ⟨_, rfl, rfl, _, rfl, ?_⟩
    refine iteDN (by decide) ?_
    refine ⟨_, rfl, rfl, _, rfl, ?_⟩
    refine iteDN (by decide) ?_
    refine ⟨_, rfl, rfl, _, rfl, ?_⟩
    refine iteDN (by decide) ?_
    refine ⟨_, rfl, rfl, _, rfl, ?_⟩
    refine iteDN (by decide) ?_
    refine ⟨_, rfl, rfl, _, rfl, ?_⟩
    refine iteDN (by decide) ?_
    refine ⟨_, rfl, rfl, _, rfl, ?_⟩
    refine iteD rfl ?_
    refine ⟨_, rfl, by show 2 ≤ sizeLine; decide, fun t1 nt1 => ?_⟩
    have s1 := same_new nt1 (.tup [.str "sum", .int a])
    refine ⟨by show 2 ≤ sizeLine; decide, fun t2 nt2 => ?_⟩
    have s2 := same_new nt2 (.tup [.ref t1, .int 1])
    exact fin _ _ ((g.same s1).same s2) ((Exc.refl [b, PL] H).trans (.of (s1.trans s2))) (.inr ⟨t2, t1, .sum a, _, rfl, upd_same, s2 _ _ upd_same, good_of True.intro one (rfl) (by decide) (by decide) True.intro⟩)
  · -- relu
    refine ⟨_, rfl, rfl, _, rfl, ?_⟩
    refine iteDN (by decide) ?_
    refine ⟨_, rfl, rfl, _, rfl, ?_⟩
    refine iteDN (by decide) ?_
    refine ⟨_, rfl, rfl, _, rfl, ?_⟩
    refine iteDN (by decide) ?_
    refine ⟨_, rfl, rfl, _, rfl, ?_⟩
    refine iteDN (by decide) ?_
    refine ⟨_, rfl, rfl, _, rfl, ?_⟩
    refine iteDN (by decide) ?_
    refine ⟨_, rfl, rfl, _, rfl, ?_⟩
    refine iteDN (by decide) ?_
    refine ⟨_, rfl, by show 2 ≤ sizeLine; decide, fun t1 nt1 => ?_⟩
    have s1 := same_new nt1 (.tup [.str "relu", .int a])
    refine ⟨_, rfl, by show 2 ≤ sizeLine; decide, fun t2 nt2 => ?_⟩
    have s2 := same_new nt2 (.tup [.ref t1, .int (lget ls a)])
    exact fin _ _ ((g.same s1).same s2) ((Exc.refl [b, PL] H).trans (.of (s1.trans s2))) (.inr ⟨t2, t1, .relu a, _, rfl, upd_same, s2 _ _ upd_same, good_of True.intro one (rfl) L1 L2 True.intro⟩)
theorem ok__law_node (F : Fun K "_law_node" "_law_node" s__law_node f fd) (T : Txt K mg cs w) (d__law_draw : Def P w K mg base 1 "_law_draw" ["box", "many"] (spDraw)) (d__law_embed : Def P w K mg base 4 "_law_embed" ["box", "net"] (spMake fun _ us => us = [])) (d__law_with_parameter : Def P w K mg base 4 "_law_with_parameter" ["box", "net", "kind", "a"] (spMake fun ls us => ∃ (kd : Str) (a : Int), us = [.str kd, .int a] ∧ (kd = "lin" ∨ kd = "bias") ∧ inR a ls.length)) (d__law_of_two : Def P w K mg base 2 "_law_of_two" ["box", "net", "kind", "a"] (spMake fun ls us => ∃ (kd : Str) (a : Int), us = [.str kd, .int a] ∧ (kd = "add" ∨ kd = "sub" ∨ kd = "mul" ∨ kd = "join" ∨ kd = "mat" ∨ kd = "matT") ∧ inR a ls.length)) (d__law_of_one : Def P w K mg base 3 "_law_of_one" ["box", "net", "kind", "a"] (spMake fun ls us => ∃ (kd : Str) (a : Int), us = [.str kd, .int a] ∧ (kd = "lower" ∨ kd = "scale" ∨ kd = "shift" ∨ kd = "drop" ∨ kd = "take" ∨ kd = "sum" ∨ kd = "relu") ∧ inR a ls.length)) :
    FnOk P w K mg base CX0 5 f fd ["box", "net", "kinds"] (spNode K) := by
  obtain ⟨f0, fd0, G__law_draw, b__law_draw, g__law_draw, k__law_draw⟩ := d__law_draw.ex
  obtain ⟨f1, fd1, G__law_embed, b__law_embed, g__law_embed, k__law_embed⟩ := d__law_embed.ex
  obtain ⟨f2, fd2, G__law_with_parameter, b__law_with_parameter, g__law_with_parameter, k__law_with_parameter⟩ := d__law_with_parameter.ex
  obtain ⟨f3, fd3, G__law_of_two, b__law_of_two, g__law_of_two, k__law_of_two⟩ := d__law_of_two.ex
  obtain ⟨f4, fd4, G__law_of_one, b__law_of_one, g__law_of_one, k__law_of_one⟩ := d__law_of_one.ex
  refine F.ok sc__law_node (fun vs H Q E h => ?_) (fun cdv A outer s H vs Q E hr h => ?_)
  · obtain ⟨b, r, rs, n, PL, NL, LL, ni, nt, pms, nds, ls, ks, kl, rfl, hks, hkl, hkn, g, u, hk0, q⟩ := h
    rfl
  obtain ⟨b, r, rs, n, PL, NL, LL, ni, nt, pms, nds, ls, ks, kl, rfl, hks, hkl, hkn, g, u, hk0, q⟩ := h
  have hu := hr.units
  refine ⟨_, pss_cons (ps_set (i := 3) sc__law_node.nd rfl (.inl rfl) (pe_ix (ixl_at (K := K) rfl) (pv 2) (pe_call G__law_draw (hr.mono (by decide)) rfl g__law_draw k__law_draw b__law_draw .nil pass0 (pa_cons (pv 0) (pa_cons (pe_callB (len_at (K := K) rfl) (by rfl) T.z_len PySem.boot_len (pa_cons (pv 2) pa_nil)) pa_nil))) (fun _ _ => rfl)))
 (pss_cons (ps_if (PW.pt (pw_or (pt_cmpR op_eq (pv 3) pe_str (nomark _)) (pw_or1 (PW.pt (pw_and (pt_cmpR op_eq (pe_callB (len_at (K := K) rfl) (by rfl) T.z_len PySem.boot_len (pa_cons (pe_ix (ixl_at (K := K) rfl) (pv 1) pe_int (fun _ _ => rfl)) pa_nil)) pe_int (nomark _)) (pw_and1 (pt_cmpR op_ne (pv 3) pe_str (nomark _)))))))) (pss_cons (ps_if (pt_cmpR op_eq (pv 3) pe_str (nomark _)) (pss_one (ps_ret (pe_tup (pa_cons (pe_tup (pa_cons pe_str pa_nil)) (pa_cons (pe_ix (ixl_at (K := K) rfl) (pv 1) pe_int (fun _ _ => rfl)) pa_nil))))) pss_nil)
 (pss_one (ps_ret (pe_tup (pa_cons (pe_tup (pa_cons pe_str pa_nil)) (pa_cons (pe_ix (ixl_at (K := K) rfl) (pv 1) pe_int (fun _ _ => rfl)) pa_nil)))))) pss_nil)
 (pss_cons (ps_set (i := 4) sc__law_node.nd rfl (.inl rfl) pe_int)
 (C8.pss_cut (ps_if (pt_cmpR op_gt (pe_callB (len_at (K := K) rfl) (by rfl) T.z_len PySem.boot_len (pa_cons (pe_ix (ixl_at (K := K) rfl) (pv 1) pe_int (fun _ _ => rfl)) pa_nil)) pe_int (nomark _)) (pss_cons (ps_set (i := 4) sc__law_node.nd rfl (.inl rfl) (pe_call G__law_draw (hr.mono (by decide)) rfl g__law_draw k__law_draw b__law_draw .nil pass0 (pa_cons (pv 0) (pa_cons (pe_callB (len_at (K := K) rfl) (by rfl) T.z_len PySem.boot_len (pa_cons (pe_ix (ixl_at (K := K) rfl) (pv 1) pe_int (fun _ _ => rfl)) pa_nil)) pa_nil))))
 (pss_one (ps_if (pt_cmpR op_eq (pe_call G__law_draw (hr.mono (by decide)) rfl g__law_draw k__law_draw b__law_draw .nil pass0 (pa_cons (pv 0) (pa_cons pe_int pa_nil))) pe_int (nomark _)) (pss_one (ps_set (i := 4) sc__law_node.nd rfl (.inl rfl) (pe_op op_sub (pe_callB (len_at (K := K) rfl) (by rfl) T.z_len PySem.boot_len (pa_cons (pe_ix (ixl_at (K := K) rfl) (pv 1) pe_int (fun _ _ => rfl)) pa_nil)) pe_int))) pss_nil))) pss_nil)
 (pss_cons (ps_set (i := 5) sc__law_node.nd rfl (.inl rfl) pe_non)
 (C8.pss_cut (ps_if (pt_cmpR op_eq (pv 3) pe_str (nomark _)) (pss_one (ps_set (i := 5) sc__law_node.nd rfl (.inl rfl) (pe_call G__law_embed hr rfl g__law_embed k__law_embed b__law_embed .nil pass0 (pa_cons (pv 0) (pa_cons (pv 1) pa_nil))))) (pss_one (ps_if (PW.pt (pw_or (pt_cmpR op_eq (pv 3) pe_str (nomark _)) (pw_or1 (pt_cmpR op_eq (pv 3) pe_str (nomark _))))) (pss_one (ps_set (i := 5) sc__law_node.nd rfl (.inl rfl) (pe_call G__law_with_parameter hr rfl g__law_with_parameter k__law_with_parameter b__law_with_parameter .nil pass0 (pa_cons (pv 0) (pa_cons (pv 1) (pa_cons (pv 3) (pa_cons (pv 4) pa_nil))))))) (pss_one (ps_if (pt_cmpR op_in_seq (pv 3) (pe_tup (pa_cons pe_str (pa_cons pe_str (pa_cons pe_str (pa_cons pe_str (pa_cons pe_str (pa_cons pe_str pa_nil))))))) (by with_unfolding_all rfl)) (pss_one (ps_set (i := 5) sc__law_node.nd rfl (.inl rfl) (pe_call G__law_of_two (hr.mono (by decide)) rfl g__law_of_two k__law_of_two b__law_of_two .nil pass0 (pa_cons (pv 0) (pa_cons (pv 1) (pa_cons (pv 3) (pa_cons (pv 4) pa_nil))))))) (pss_one (ps_if (pt_cmpR op_ne (pv 3) pe_str (nomark _)) (pss_one (ps_set (i := 5) sc__law_node.nd rfl (.inl rfl) (pe_call G__law_of_one (hr.mono (by decide)) rfl g__law_of_one k__law_of_one b__law_of_one .nil pass0 (pa_cons (pv 0) (pa_cons (pv 1) (pa_cons (pv 3) (pa_cons (pv 4) pa_nil))))))) pss_nil)))))))
 (pss_cons (ps_if (pt_cmpR op_isN (pv 5) pe_non (nomark _)) (pss_one (ps_ret (pe_tup (pa_cons (pe_tup (pa_cons pe_str pa_nil)) (pa_cons (pe_ix (ixl_at (K := K) rfl) (pv 1) pe_int (fun _ _ => rfl)) pa_nil))))) pss_nil)
 (pss_one (ps_ret (pv 5))))))))), ?_⟩
  have i1 := u.ni1
  have i3 := u.ni3
  have i4 := u.nt1
  have i5 := u.nt2
  have lk : (kl.map V.str).length = kl.length := List.length_map _
  have ga : ∀ {pms' : List (Int × Int × Str × Int)}, Good ni nt pms' ls .input ni := fun {pms'} => good_of True.intro (fun o ho => by cases ho) rfl i1 (by omega) True.intro
  have gt : ∀ {pms' : List (Int × Int × Str × Int)}, Good ni nt pms' ls .target nt := fun {pms'} => good_of True.intro (fun o ho => by cases ho) rfl i4 (by omega) True.intro
  have fin0 : ∀ (H6 : Hp) (v : V), G H6 b r rs n PL NL LL ni nt pms nds ls → Exc [b, PL] H H6 → Found H6 ni nt pms ls v → Q v H6 := fun H6 v g6 x6 h6 => by
    have := q v [] H6
    rw [List.append_nil] at this
    exact this g6 u x6 h6
  refine ⟨_, rfl, _, rfl, _, rfl, ks, _, rfl, .inl hks, b, r, rs, _, rfl, g.box, (by rw [lk]; omega), fun v0 H1 v00 v01 B1 e1 => ?_⟩
  have g1 := g.but B1 e1
  have x1 : Exc [b, PL] H H1 := .but e1 (.head _)
  rw [lk] at v01
  obtain ⟨kd, hkd, ekd⟩ := at_strs (kl := kl) ⟨v00, v01⟩
  have hall := hkl kd hkd
  have hks1 : SqL K H1 ks (kl.map V.str) := by
    rcases hks with (h | ⟨o, h⟩) | h
    · refine .inl (.inl (e1 _ _ (fun z => ?_) h))
      obtain ⟨z0, _, hb⟩ := g.box.ex
      rw [z, hb] at h
      cases kl with
      | nil => cases hkd
      | cons k t => cases h
    · refine .inl (.inr ⟨o, e1 _ _ (fun z => ?_) h⟩)
      obtain ⟨z0, _, hb⟩ := g.box.ex
      rw [z, hb] at h
      cases h
    · exact .inr h
  refine ⟨ks, _, _, _, rfl, rfl, hks1, ekd, ?_⟩
  obtain ⟨nr1, n11, n12⟩ := g1.nod
  have ln1 : (((nr1.map V.ref).length : Nat) : Int) = (nds.length : Int) := by rw [List.length_map, n12.length]
  have la : ls.length = nds.length := u.all
  refine ⟨_, rfl, rfl, _, rfl, ?_⟩
  by_cases ht : kd = "target"
  · subst ht
    refine iteD rfl ?_
    refine ⟨_, rfl, rfl, _, rfl, ?_⟩
    refine iteD rfl ?_
    refine ⟨by show 1 ≤ sizeLine; decide, fun t1 nt1 => ?_⟩
    have s1 := same_new nt1 (.tup [.str "target"])
    have g8 := g1.same s1
    refine ⟨_, rfl, n, _, _, _, rfl, rfl, SqL.of g8.net, rfl, by show 2 ≤ sizeLine; decide, fun t2 nt2 => ?_⟩
    have s2 := same_new nt2 (.tup [.ref t1, .int nt])
    exact fin0 _ _ (g8.same s2) (x1.trans (.of (s1.trans s2))) ⟨t2, t1, .target, _, rfl, upd_same, s2 _ _ upd_same, gt⟩
  refine iteDN (fun z => ht (V.str.inj z)) ?_
  refine ⟨_, rfl, n, _, _, _, rfl, rfl, SqL.of g1.net, rfl, NL, _, rfl, .inl (SqL.of n11), rfl, _, rfl, ?_⟩
  have inp : ∀ H2 : Hp, H2 = H1 → True := fun _ _ => trivial
  by_cases hz : nds.length = 0 ∧ kd ≠ "embed"
  · refine iteD (congrArg V.int (by rw [ln1, hz.1]; rfl)) ?_
    refine ⟨_, rfl, rfl, _, rfl, ?_⟩
    refine iteNN (fun z => hz.2 (V.str.inj z)) ?_
    refine ⟨_, rfl, rfl, _, rfl, ?_⟩
    refine iteDN (fun z => ht (V.str.inj z)) ?_
    refine ⟨by show 1 ≤ sizeLine; decide, fun t1 nt1 => ?_⟩
    have s1 := same_new nt1 (.tup [.str "input"])
    have g8 := g1.same s1
    refine ⟨_, rfl, n, _, _, _, rfl, rfl, SqL.of g8.net, rfl, by show 2 ≤ sizeLine; decide, fun t2 nt2 => ?_⟩
    have s2 := same_new nt2 (.tup [.ref t1, .int ni])
    exact fin0 _ _ (g8.same s2) (x1.trans (.of (s1.trans s2))) ⟨t2, t1, .input, _, rfl, upd_same, s2 _ _ upd_same, ga⟩
  -- an operand may be drawn
  have tail0 : nds.length = 0 → kd = "embed" := fun z => by
    by_cases h : kd = "embed"
    · exact h
    · exact absurd ⟨z, h⟩ hz
  (by_cases hn0 : nds.length = 0) <;> (first
    | (refine iteD (congrArg V.int (by rw [ln1, hn0]; rfl)) ?_
       refine ⟨_, rfl, rfl, _, rfl, ?_⟩
       refine iteNS (congrArg V.str (tail0 hn0)) ?_)
    | (refine iteDN (fun z => hn0 (by have := V.int.inj z; rw [ln1] at this; omega)) ?_)) <;>
  (refine ⟨fun σ3 H3 => ∃ a : Int, σ3 = [some (.ref b), some (.ref n), some (.ref ks), some (.str kd), some (.int a), none] ∧ G H3 b r rs n PL NL LL ni nt pms nds ls ∧ Exc [b, PL] H H3 ∧ (inR a ls.length ∨ kd = "embed"), ?_, fun σ3 H3 hM => ?_⟩
   · refine ⟨_, rfl, n, _, _, _, rfl, rfl, SqL.of g1.net, rfl, NL, _, rfl, .inl (SqL.of n11), _, _, rfl, rfl, _, rfl, ?_⟩
     refine ite2 (fun h3 => ?_) (fun h3 => ?_)
     · have h3' : 0 < (nds.length : Int) := by rw [← ln1]; exact of_decide_eq_true h3
       refine ⟨_, rfl, _, rfl, n, _, _, _, rfl, rfl, SqL.of g1.net, rfl, NL, _, rfl, .inl (SqL.of n11), b, r, rs, _, rfl, g1.box, (by rw [ln1]; exact h3'), fun a H2 a0 a1 B2 e2 => ?_⟩
       have g2 := g1.but B2 e2
       rw [ln1] at a1
       refine ⟨_, rfl, b, r, rs, 2, rfl, B2, by decide, fun w1 H4 w10 w11 B4 e4 => ?_⟩
       have g4 := g2.but B4 e4
       have x4 : Exc [b, PL] H H4 := (x1.trans (.but e2 (.head _))).trans (.but e4 (.head _))
       refine ⟨rfl, _, rfl, ?_⟩
       refine ite2 (fun h5 => ?_) (fun h5 => ?_)
       · obtain ⟨nr4, n41, n42⟩ := g4.nod
         refine ⟨_, rfl, n, _, _, _, rfl, rfl, SqL.of g4.net, rfl, NL, _, rfl, .inl (SqL.of n41), _, _, rfl, rfl, ?_⟩
         exact ⟨_, rfl, g4, x4, .inl ⟨by rw [List.length_map, n42.length]; omega, by rw [List.length_map, n42.length]; omega⟩⟩
       · exact ⟨_, rfl, g4, x4, .inl ⟨a0, by omega⟩⟩
     · refine ⟨_, rfl, g1, x1, .inr ?_⟩
       exact tail0 (by have : ¬ 0 < (((nr1.map V.ref).length : Nat) : Int) := fun z => h3 (decide_eq_true z); rw [ln1] at this; omega)
   · obtain ⟨a, rfl, g3, x3, ha⟩ := hM
     refine ⟨fun σ5 H5 => ∃ (v : V) (more : List (Int × Int × Str × Int)), σ5 = [some (.ref b), some (.ref n), some (.ref ks), some (.str kd), some (.int a), some v] ∧ G H5 b r rs n PL NL LL ni nt (pms ++ more) nds ls ∧ Built ni nt (pms ++ more) nds ls ∧ Exc [b, PL] H H5 ∧ (v = .non ∨ Found H5 ni nt (pms ++ more) ls v), ?_, fun σ5 H5 hM => ?_⟩
     · clear hkd ekd tail0 inp hz fin0
       simp only [allKinds, List.mem_cons, List.not_mem_nil, or_false] at hall
       rcases hall with rfl | rfl | rfl | rfl | rfl | rfl | rfl | rfl | rfl | rfl | rfl | rfl | rfl | rfl | rfl | rfl | rfl | rfl
       · refine ⟨_, rfl, rfl, _, rfl, ?_⟩
         refine iteDN (by decide) ?_
         refine ⟨_, rfl, rfl, _, rfl, ?_⟩
         refine iteDN (by decide) ?_
         refine ⟨_, rfl, rfl, _, rfl, ?_⟩
         refine iteDN (by decide) ?_
         refine ⟨_, rfl, by show 6 ≤ sizeLine; decide, fun tp ntp => ?_⟩
         have s4 := same_new ntp (.tup [.str "add", .str "sub", .str "mul", .str "join", .str "mat", .str "matT"])
         have g4 := g3.same s4
         have x4 := x3.trans (.of s4)
         refine ⟨tp, _, rfl, .inr (SqT.of upd_same), rfl, rfl, _, rfl, ?_⟩
         refine ite2 (fun h => absurd h (by decide)) (fun _ => ?_)
         refine ⟨_, rfl, rfl, _, rfl, ?_⟩
         refine iteNS rfl ?_
         exact ⟨.non, [], rfl, by rw [List.append_nil]; exact g4, by rw [List.append_nil]; exact u, x4, .inl rfl⟩
       · exact absurd rfl ht
       · refine ⟨_, rfl, rfl, _, rfl, ?_⟩
         refine iteDN (by decide) ?_
         refine ⟨_, rfl, rfl, _, rfl, ?_⟩
         refine iteD rfl ?_
         exact ⟨_, rfl, _, rfl, _, rfl, _, rfl, b, r, rs, n, PL, NL, LL, ni, nt, pms, nds, ls, [.str "lin", .int a], rfl, ⟨"lin", a, rfl, .inl rfl, ha.resolve_right (by decide)⟩, g3, u, hk0, fun v more H5 g5 u5 x5 hv => ⟨v, more, rfl, g5, u5, x3.trans x5, hv⟩⟩
       · refine ⟨_, rfl, rfl, _, rfl, ?_⟩
         refine iteDN (by decide) ?_
         refine ⟨_, rfl, rfl, _, rfl, ?_⟩
         refine iteDN (by decide) ?_
         refine ⟨_, rfl, rfl, _, rfl, ?_⟩
         refine iteD rfl ?_
         exact ⟨_, rfl, _, rfl, _, rfl, _, rfl, b, r, rs, n, PL, NL, LL, ni, nt, pms, nds, ls, [.str "bias", .int a], rfl, ⟨"bias", a, rfl, .inr rfl, ha.resolve_right (by decide)⟩, g3, u, hk0, fun v more H5 g5 u5 x5 hv => ⟨v, more, rfl, g5, u5, x3.trans x5, hv⟩⟩
       · refine ⟨_, rfl, rfl, _, rfl, ?_⟩
         refine iteD rfl ?_
         exact ⟨_, rfl, _, rfl, b, r, rs, n, PL, NL, LL, ni, nt, pms, nds, ls, [], rfl, rfl, g3, u, hk0, fun v more H5 g5 u5 x5 hv => ⟨v, more, rfl, g5, u5, x3.trans x5, hv⟩⟩
       · refine ⟨_, rfl, rfl, _, rfl, ?_⟩
         refine iteDN (by decide) ?_
         refine ⟨_, rfl, rfl, _, rfl, ?_⟩
         refine iteDN (by decide) ?_
         refine ⟨_, rfl, rfl, _, rfl, ?_⟩
         refine iteDN (by decide) ?_
         refine ⟨_, rfl, by show 6 ≤ sizeLine; decide, fun tp ntp => ?_⟩
         have s4 := same_new ntp (.tup [.str "add", .str "sub", .str "mul", .str "join", .str "mat", .str "matT"])
         have g4 := g3.same s4
         have x4 := x3.trans (.of s4)
         refine ⟨tp, _, rfl, .inr (SqT.of upd_same), rfl, rfl, _, rfl, ?_⟩
         refine ite2 (fun _ => ?_) (fun h => absurd (by decide) h)
         exact ⟨_, rfl, _, rfl, _, rfl, _, rfl, b, r, rs, n, PL, NL, LL, ni, nt, pms, nds, ls, [.str "mat", .int a], rfl, ⟨"mat", a, rfl, .inr (.inr (.inr (.inr (.inl rfl)))), ha.resolve_right (by decide)⟩, g4, u, hk0, fun v more H5 g5 u5 x5 hv => ⟨v, more, rfl, g5, u5, x4.trans x5, hv⟩⟩
       · refine ⟨_, rfl, rfl, _, rfl, ?_⟩
         refine iteDN (by decide) ?_
         refine ⟨_, rfl, rfl, _, rfl, ?_⟩
         refine iteDN (by decide) ?_
         refine ⟨_, rfl, rfl, _, rfl, ?_⟩
         refine iteDN (by decide) ?_
         refine ⟨_, rfl, by show 6 ≤ sizeLine; decide, fun tp ntp => ?_⟩
         have s4 := same_new ntp (.tup [.str "add", .str "sub", .str "mul", .str "join", .str "mat", .str "matT"])
         have g4 := g3.same s4
         have x4 := x3.trans (.of s4)
         refine ⟨tp, _, rfl, .inr (SqT.of upd_same), rfl, rfl, _, rfl, ?_⟩
         refine ite2 (fun _ => ?_) (fun h => absurd (by decide) h)
         exact ⟨_, rfl, _, rfl, _, rfl, _, rfl, b, r, rs, n, PL, NL, LL, ni, nt, pms, nds, ls, [.str "matT", .int a], rfl, ⟨"matT", a, rfl, .inr (.inr (.inr (.inr (.inr rfl)))), ha.resolve_right (by decide)⟩, g4, u, hk0, fun v more H5 g5 u5 x5 hv => ⟨v, more, rfl, g5, u5, x4.trans x5, hv⟩⟩
       · refine ⟨_, rfl, rfl, _, rfl, ?_⟩
         refine iteDN (by decide) ?_
         refine ⟨_, rfl, rfl, _, rfl, ?_⟩
         refine iteDN (by decide) ?_
         refine ⟨_, rfl, rfl, _, rfl, ?_⟩
         refine iteDN (by decide) ?_
         refine ⟨_, rfl, by show 6 ≤ sizeLine; decide, fun tp ntp => ?_⟩
         have s4 := same_new ntp (.tup [.str "add", .str "sub", .str "mul", .str "join", .str "mat", .str "matT"])
         have g4 := g3.same s4
         have x4 := x3.trans (.of s4)
         refine ⟨tp, _, rfl, .inr (SqT.of upd_same), rfl, rfl, _, rfl, ?_⟩
         refine ite2 (fun h => absurd h (by decide)) (fun _ => ?_)
         refine ⟨_, rfl, rfl, _, rfl, ?_⟩
         refine iteNN (by decide) ?_
         exact ⟨_, rfl, _, rfl, _, rfl, _, rfl, b, r, rs, n, PL, NL, LL, ni, nt, pms, nds, ls, [.str "lower", .int a], rfl, ⟨"lower", a, rfl, .inl rfl, ha.resolve_right (by decide)⟩, g4, u, hk0, fun v more H5 g5 u5 x5 hv => ⟨v, more, rfl, g5, u5, x4.trans x5, hv⟩⟩
       · refine ⟨_, rfl, rfl, _, rfl, ?_⟩
         refine iteDN (by decide) ?_
         refine ⟨_, rfl, rfl, _, rfl, ?_⟩
         refine iteDN (by decide) ?_
         refine ⟨_, rfl, rfl, _, rfl, ?_⟩
         refine iteDN (by decide) ?_
         refine ⟨_, rfl, by show 6 ≤ sizeLine; decide, fun tp ntp => ?_⟩
         have s4 := same_new ntp (.tup [.str "add", .str "sub", .str "mul", .str "join", .str "mat", .str "matT"])
         have g4 := g3.same s4
         have x4 := x3.trans (.of s4)
         refine ⟨tp, _, rfl, .inr (SqT.of upd_same), rfl, rfl, _, rfl, ?_⟩
         refine ite2 (fun _ => ?_) (fun h => absurd (by decide) h)
         exact ⟨_, rfl, _, rfl, _, rfl, _, rfl, b, r, rs, n, PL, NL, LL, ni, nt, pms, nds, ls, [.str "add", .int a], rfl, ⟨"add", a, rfl, .inl rfl, ha.resolve_right (by decide)⟩, g4, u, hk0, fun v more H5 g5 u5 x5 hv => ⟨v, more, rfl, g5, u5, x4.trans x5, hv⟩⟩
       · refine ⟨_, rfl, rfl, _, rfl, ?_⟩
         refine iteDN (by decide) ?_
         refine ⟨_, rfl, rfl, _, rfl, ?_⟩
         refine iteDN (by decide) ?_
         refine ⟨_, rfl, rfl, _, rfl, ?_⟩
         refine iteDN (by decide) ?_
         refine ⟨_, rfl, by show 6 ≤ sizeLine; decide, fun tp ntp => ?_⟩
         have s4 := same_new ntp (.tup [.str "add", .str "sub", .str "mul", .str "join", .str "mat", .str "matT"])
         have g4 := g3.same s4
         have x4 := x3.trans (.of s4)
         refine ⟨tp, _, rfl, .inr (SqT.of upd_same), rfl, rfl, _, rfl, ?_⟩
         refine ite2 (fun _ => ?_) (fun h => absurd (by decide) h)
         exact ⟨_, rfl, _, rfl, _, rfl, _, rfl, b, r, rs, n, PL, NL, LL, ni, nt, pms, nds, ls, [.str "sub", .int a], rfl, ⟨"sub", a, rfl, .inr (.inl rfl), ha.resolve_right (by decide)⟩, g4, u, hk0, fun v more H5 g5 u5 x5 hv => ⟨v, more, rfl, g5, u5, x4.trans x5, hv⟩⟩
       · refine ⟨_, rfl, rfl, _, rfl, ?_⟩
         refine iteDN (by decide) ?_
         refine ⟨_, rfl, rfl, _, rfl, ?_⟩
         refine iteDN (by decide) ?_
         refine ⟨_, rfl, rfl, _, rfl, ?_⟩
         refine iteDN (by decide) ?_
         refine ⟨_, rfl, by show 6 ≤ sizeLine; decide, fun tp ntp => ?_⟩
         have s4 := same_new ntp (.tup [.str "add", .str "sub", .str "mul", .str "join", .str "mat", .str "matT"])
         have g4 := g3.same s4
         have x4 := x3.trans (.of s4)
         refine ⟨tp, _, rfl, .inr (SqT.of upd_same), rfl, rfl, _, rfl, ?_⟩
         refine ite2 (fun _ => ?_) (fun h => absurd (by decide) h)
         exact ⟨_, rfl, _, rfl, _, rfl, _, rfl, b, r, rs, n, PL, NL, LL, ni, nt, pms, nds, ls, [.str "mul", .int a], rfl, ⟨"mul", a, rfl, .inr (.inr (.inl rfl)), ha.resolve_right (by decide)⟩, g4, u, hk0, fun v more H5 g5 u5 x5 hv => ⟨v, more, rfl, g5, u5, x4.trans x5, hv⟩⟩
       · refine ⟨_, rfl, rfl, _, rfl, ?_⟩
         refine iteDN (by decide) ?_
         refine ⟨_, rfl, rfl, _, rfl, ?_⟩
         refine iteDN (by decide) ?_
         refine ⟨_, rfl, rfl, _, rfl, ?_⟩
         refine iteDN (by decide) ?_
         refine ⟨_, rfl, by show 6 ≤ sizeLine; decide, fun tp ntp => ?_⟩
         have s4 := same_new ntp (.tup [.str "add", .str "sub", .str "mul", .str "join", .str "mat", .str "matT"])
         have g4 := g3.same s4
         have x4 := x3.trans (.of s4)
         refine ⟨tp, _, rfl, .inr (SqT.of upd_same), rfl, rfl, _, rfl, ?_⟩
         refine ite2 (fun h => absurd h (by decide)) (fun _ => ?_)
         refine ⟨_, rfl, rfl, _, rfl, ?_⟩
         refine iteNN (by decide) ?_
         exact ⟨_, rfl, _, rfl, _, rfl, _, rfl, b, r, rs, n, PL, NL, LL, ni, nt, pms, nds, ls, [.str "scale", .int a], rfl, ⟨"scale", a, rfl, .inr (.inl rfl), ha.resolve_right (by decide)⟩, g4, u, hk0, fun v more H5 g5 u5 x5 hv => ⟨v, more, rfl, g5, u5, x4.trans x5, hv⟩⟩
       · refine ⟨_, rfl, rfl, _, rfl, ?_⟩
         refine iteDN (by decide) ?_
         refine ⟨_, rfl, rfl, _, rfl, ?_⟩
         refine iteDN (by decide) ?_
         refine ⟨_, rfl, rfl, _, rfl, ?_⟩
         refine iteDN (by decide) ?_
         refine ⟨_, rfl, by show 6 ≤ sizeLine; decide, fun tp ntp => ?_⟩
         have s4 := same_new ntp (.tup [.str "add", .str "sub", .str "mul", .str "join", .str "mat", .str "matT"])
         have g4 := g3.same s4
         have x4 := x3.trans (.of s4)
         refine ⟨tp, _, rfl, .inr (SqT.of upd_same), rfl, rfl, _, rfl, ?_⟩
         refine ite2 (fun h => absurd h (by decide)) (fun _ => ?_)
         refine ⟨_, rfl, rfl, _, rfl, ?_⟩
         refine iteNN (by decide) ?_
         exact ⟨_, rfl, _, rfl, _, rfl, _, rfl, b, r, rs, n, PL, NL, LL, ni, nt, pms, nds, ls, [.str "shift", .int a], rfl, ⟨"shift", a, rfl, .inr (.inr (.inl rfl)), ha.resolve_right (by decide)⟩, g4, u, hk0, fun v more H5 g5 u5 x5 hv => ⟨v, more, rfl, g5, u5, x4.trans x5, hv⟩⟩
       · refine ⟨_, rfl, rfl, _, rfl, ?_⟩
         refine iteDN (by decide) ?_
         refine ⟨_, rfl, rfl, _, rfl, ?_⟩
         refine iteDN (by decide) ?_
         refine ⟨_, rfl, rfl, _, rfl, ?_⟩
         refine iteDN (by decide) ?_
         refine ⟨_, rfl, by show 6 ≤ sizeLine; decide, fun tp ntp => ?_⟩
         have s4 := same_new ntp (.tup [.str "add", .str "sub", .str "mul", .str "join", .str "mat", .str "matT"])
         have g4 := g3.same s4
         have x4 := x3.trans (.of s4)
         refine ⟨tp, _, rfl, .inr (SqT.of upd_same), rfl, rfl, _, rfl, ?_⟩
         refine ite2 (fun h => absurd h (by decide)) (fun _ => ?_)
         refine ⟨_, rfl, rfl, _, rfl, ?_⟩
         refine iteNN (by decide) ?_
         exact ⟨_, rfl, _, rfl, _, rfl, _, rfl, b, r, rs, n, PL, NL, LL, ni, nt, pms, nds, ls, [.str "relu", .int a], rfl, ⟨"relu", a, rfl, .inr (.inr (.inr (.inr (.inr (.inr rfl))))), ha.resolve_right (by decide)⟩, g4, u, hk0, fun v more H5 g5 u5 x5 hv => ⟨v, more, rfl, g5, u5, x4.trans x5, hv⟩⟩
       · refine ⟨_, rfl, rfl, _, rfl, ?_⟩
         refine iteDN (by decide) ?_
         refine ⟨_, rfl, rfl, _, rfl, ?_⟩
         refine iteDN (by decide) ?_
         refine ⟨_, rfl, rfl, _, rfl, ?_⟩
         refine iteDN (by decide) ?_
         refine ⟨_, rfl, by show 6 ≤ sizeLine; decide, fun tp ntp => ?_⟩
         have s4 := same_new ntp (.tup [.str "add", .str "sub", .str "mul", .str "join", .str "mat", .str "matT"])
         have g4 := g3.same s4
         have x4 := x3.trans (.of s4)
         refine ⟨tp, _, rfl, .inr (SqT.of upd_same), rfl, rfl, _, rfl, ?_⟩
         refine ite2 (fun h => absurd h (by decide)) (fun _ => ?_)
         refine ⟨_, rfl, rfl, _, rfl, ?_⟩
         refine iteNN (by decide) ?_
         exact ⟨_, rfl, _, rfl, _, rfl, _, rfl, b, r, rs, n, PL, NL, LL, ni, nt, pms, nds, ls, [.str "drop", .int a], rfl, ⟨"drop", a, rfl, .inr (.inr (.inr (.inl rfl))), ha.resolve_right (by decide)⟩, g4, u, hk0, fun v more H5 g5 u5 x5 hv => ⟨v, more, rfl, g5, u5, x4.trans x5, hv⟩⟩
       · refine ⟨_, rfl, rfl, _, rfl, ?_⟩
         refine iteDN (by decide) ?_
         refine ⟨_, rfl, rfl, _, rfl, ?_⟩
         refine iteDN (by decide) ?_
         refine ⟨_, rfl, rfl, _, rfl, ?_⟩
         refine iteDN (by decide) ?_
         refine ⟨_, rfl, by show 6 ≤ sizeLine; decide, fun tp ntp => ?_⟩
         have s4 := same_new ntp (.tup [.str "add", .str "sub", .str "mul", .str "join", .str "mat", .str "matT"])
         have g4 := g3.same s4
         have x4 := x3.trans (.of s4)
         refine ⟨tp, _, rfl, .inr (SqT.of upd_same), rfl, rfl, _, rfl, ?_⟩
         refine ite2 (fun h => absurd h (by decide)) (fun _ => ?_)
         refine ⟨_, rfl, rfl, _, rfl, ?_⟩
         refine iteNN (by decide) ?_
         exact ⟨_, rfl, _, rfl, _, rfl, _, rfl, b, r, rs, n, PL, NL, LL, ni, nt, pms, nds, ls, [.str "sum", .int a], rfl, ⟨"sum", a, rfl, .inr (.inr (.inr (.inr (.inr (.inl rfl))))), ha.resolve_right (by decide)⟩, g4, u, hk0, fun v more H5 g5 u5 x5 hv => ⟨v, more, rfl, g5, u5, x4.trans x5, hv⟩⟩
       · refine ⟨_, rfl, rfl, _, rfl, ?_⟩
         refine iteDN (by decide) ?_
         refine ⟨_, rfl, rfl, _, rfl, ?_⟩
         refine iteDN (by decide) ?_
         refine ⟨_, rfl, rfl, _, rfl, ?_⟩
         refine iteDN (by decide) ?_
         refine ⟨_, rfl, by show 6 ≤ sizeLine; decide, fun tp ntp => ?_⟩
         have s4 := same_new ntp (.tup [.str "add", .str "sub", .str "mul", .str "join", .str "mat", .str "matT"])
         have g4 := g3.same s4
         have x4 := x3.trans (.of s4)
         refine ⟨tp, _, rfl, .inr (SqT.of upd_same), rfl, rfl, _, rfl, ?_⟩
         refine ite2 (fun _ => ?_) (fun h => absurd (by decide) h)
         exact ⟨_, rfl, _, rfl, _, rfl, _, rfl, b, r, rs, n, PL, NL, LL, ni, nt, pms, nds, ls, [.str "join", .int a], rfl, ⟨"join", a, rfl, .inr (.inr (.inr (.inl rfl))), ha.resolve_right (by decide)⟩, g4, u, hk0, fun v more H5 g5 u5 x5 hv => ⟨v, more, rfl, g5, u5, x4.trans x5, hv⟩⟩
       · refine ⟨_, rfl, rfl, _, rfl, ?_⟩
         refine iteDN (by decide) ?_
         refine ⟨_, rfl, rfl, _, rfl, ?_⟩
         refine iteDN (by decide) ?_
         refine ⟨_, rfl, rfl, _, rfl, ?_⟩
         refine iteDN (by decide) ?_
         refine ⟨_, rfl, by show 6 ≤ sizeLine; decide, fun tp ntp => ?_⟩
         have s4 := same_new ntp (.tup [.str "add", .str "sub", .str "mul", .str "join", .str "mat", .str "matT"])
         have g4 := g3.same s4
         have x4 := x3.trans (.of s4)
         refine ⟨tp, _, rfl, .inr (SqT.of upd_same), rfl, rfl, _, rfl, ?_⟩
         refine ite2 (fun h => absurd h (by decide)) (fun _ => ?_)
         refine ⟨_, rfl, rfl, _, rfl, ?_⟩
         refine iteNN (by decide) ?_
         exact ⟨_, rfl, _, rfl, _, rfl, _, rfl, b, r, rs, n, PL, NL, LL, ni, nt, pms, nds, ls, [.str "take", .int a], rfl, ⟨"take", a, rfl, .inr (.inr (.inr (.inr (.inl rfl)))), ha.resolve_right (by decide)⟩, g4, u, hk0, fun v more H5 g5 u5 x5 hv => ⟨v, more, rfl, g5, u5, x4.trans x5, hv⟩⟩
     · obtain ⟨v, more, rfl, g5, u5, x5, hv⟩ := hM
       rcases hv with rfl | hv
       · refine ⟨_, rfl, rfl, _, rfl, ?_⟩
         refine iteD rfl ?_
         refine ⟨by show 1 ≤ sizeLine; decide, fun t1 nt1 => ?_⟩
         have s1 := same_new nt1 (.tup [.str "input"])
         have g8 := g5.same s1
         refine ⟨_, rfl, n, _, _, _, rfl, rfl, SqL.of g8.net, rfl, by show 2 ≤ sizeLine; decide, fun t2 nt2 => ?_⟩
         have s2 := same_new nt2 (.tup [.ref t1, .int ni])
         exact q _ more _ (g8.same s2) u5 (x5.trans (.of (s1.trans s2))) ⟨t2, t1, .input, _, rfl, upd_same, s2 _ _ upd_same, ga⟩
       · obtain ⟨t, ad, d, len, rfl, f2, f3, f4⟩ := hv
         refine ⟨_, rfl, rfl, _, rfl, ?_⟩
         refine iteDN (fun z => by cases z) ?_
         exact ⟨_, rfl, q _ more _ g5 u5 x5 ⟨t, ad, d, len, rfl, f2, f3, f4⟩⟩)
theorem ok__law_net (F : Fun K "_law_net" "_law_net" s__law_net f fd) (T : Txt K mg cs w) (d__law_draw : Def P w K mg base 1 "_law_draw" ["box", "many"] (spDraw)) (d__law_node : Def P w K mg base 5 "_law_node" ["box", "net", "kinds"] (spNode K)) :
    FnOk P w K mg base CX0 6 f fd ["box", "kinds", "most"] (spNet K) := by
  obtain ⟨f0, fd0, G__law_draw, b__law_draw, g__law_draw, k__law_draw⟩ := d__law_draw.ex
  obtain ⟨f1, fd1, G__law_node, b__law_node, g__law_node, k__law_node⟩ := d__law_node.ex
  refine F.ok sc__law_net (fun vs H Q E h => ?_) (fun cdv A outer s H vs Q E hr h => ?_)
  · obtain ⟨b, r, rs, ks, kl, most, rfl, B, hks, hkl, hkn, m1, m2, q⟩ := h
    rfl
  obtain ⟨b, r, rs, ks, kl, most, rfl, B, hks, hkl, hkn, m1, m2, q⟩ := h
  have hu := hr.units
  refine ⟨_, pss_cons (ps_set (i := 3) sc__law_net.nd rfl (.inl rfl) (pe_lst (pa_cons (pe_op op_add pe_int (pe_call G__law_draw (hr.mono (by decide)) rfl g__law_draw k__law_draw b__law_draw .nil pass0 (pa_cons (pv 0) (pa_cons pe_int pa_nil)))) (pa_cons (pe_op op_add pe_int (pe_call G__law_draw (hr.mono (by decide)) rfl g__law_draw k__law_draw b__law_draw .nil pass0 (pa_cons (pv 0) (pa_cons pe_int pa_nil)))) (pa_cons (pe_lst pa_nil) (pa_cons (pe_lst pa_nil) (pa_cons (pe_lst pa_nil) pa_nil)))))))
 (pss_cons (ps_for PassesOwn.never rfl (pi_range1 rfl T.z_range (pa_cons (pe_op op_add pe_int (pe_call G__law_draw (hr.mono (by decide)) rfl g__law_draw k__law_draw b__law_draw .nil pass0 (pa_cons (pv 0) (pa_cons (pv 2) pa_nil)))) pa_nil)) (pg_name (i := 4) sc__law_net.nd rfl (.inl rfl)) (pss_cons (ps_set (i := 5) sc__law_net.nd rfl (.inl rfl) (pe_call G__law_node hr rfl g__law_node k__law_node b__law_node .nil pass0 (pa_cons (pv 0) (pa_cons (pv 3) (pa_cons (pv 1) pa_nil)))))
 (pss_cons (ps_expr (pe_bm PySem.F.plainAttrs_list PySem.F.slot_list_append PySem.F.type_list_append mt_append (pe_ix (ixl_at (K := K) rfl) (pv 3) pe_int (fun _ _ => rfl)) (pa_cons (pe_ix (ixt_at (K := K) rfl) (pv 5) pe_int (fun _ _ => rfl)) pa_nil)))
 (pss_one (ps_expr (pe_bm PySem.F.plainAttrs_list PySem.F.slot_list_append PySem.F.type_list_append mt_append (pe_ix (ixl_at (K := K) rfl) (pv 3) pe_int (fun _ _ => rfl)) (pa_cons (pe_ix (ixt_at (K := K) rfl) (pv 5) pe_int (fun _ _ => rfl)) pa_nil)))))))
 (pss_cons (ps_if (pt_cmpR op_ne (pe_ix (ixl_at (K := K) rfl) (pe_ix (ixl_at (K := K) rfl) (pv 3) pe_int (fun _ _ => rfl)) (pe_un un_neg pe_int) (fun _ _ => rfl)) pe_int (nomark _)) (pss_cons (ps_expr (pe_bm PySem.F.plainAttrs_list PySem.F.slot_list_append PySem.F.type_list_append mt_append (pe_ix (ixl_at (K := K) rfl) (pv 3) pe_int (fun _ _ => rfl)) (pa_cons (pe_tup (pa_cons pe_str (pa_cons (pe_op op_sub (pe_callB (len_at (K := K) rfl) (by rfl) T.z_len PySem.boot_len (pa_cons (pe_ix (ixl_at (K := K) rfl) (pv 3) pe_int (fun _ _ => rfl)) pa_nil)) pe_int) pa_nil))) pa_nil)))
 (pss_one (ps_expr (pe_bm PySem.F.plainAttrs_list PySem.F.slot_list_append PySem.F.type_list_append mt_append (pe_ix (ixl_at (K := K) rfl) (pv 3) pe_int (fun _ _ => rfl)) (pa_cons pe_int pa_nil))))) pss_nil)
 (pss_one (ps_ret (pv 3))))), ?_⟩
  refine ⟨_, rfl, b, r, rs, 3, rfl, B, by decide, fun v1 H1 v10 v11 B1 e1 => ?_⟩
  refine ⟨_, _, rfl, rfl, _, rfl, b, r, rs, 2, rfl, B1, by decide, fun v2 H2 v20 v21 B2 e2 => ?_⟩
  refine ⟨_, _, rfl, rfl, Nat.zero_le _, fun PL nP => ⟨Nat.zero_le _, fun NL nN => ⟨Nat.zero_le _, fun LL nL => ⟨by show 5 ≤ sizeLine; decide, fun n nn => ?_⟩⟩⟩⟩
  have x2 : Exc [b] H H2 := .but (e1.trans e2) (.head _)
  have new : ∀ c, H2 c = none → H c = none := fun c h => by
    cases z : H c with
    | none => rfl
    | some o =>
      by_cases hcb : c = b
      · obtain ⟨_, _, hb⟩ := B2.ex
        rw [hcb, hb] at h
        cases h
      · rw [x2 c o (fun w => hcb (List.mem_singleton.mp w)) z] at h
        cases h
  obtain ⟨zb, zb0, hb2⟩ := B2.ex
  have hP : PL ≠ NL := ne_of_none upd_same nN
  have nN2 : H2 NL = none := by rw [upd_ne hP.symm] at nN; exact nN
  have hN : NL ≠ LL := ne_of_none upd_same nL
  have hP2 : PL ≠ LL := ne_of_none (show (upd (upd H2 PL (.lst [])) NL (.lst [])) PL = some (.lst []) by rw [upd_ne hP]; exact upd_same) nL
  have nL2 : H2 LL = none := by rw [upd_ne hN.symm, upd_ne hP2.symm] at nL; exact nL
  have hL : LL ≠ n := ne_of_none upd_same nn
  have hN2 : NL ≠ n := ne_of_none (show (upd (upd (upd H2 PL (.lst [])) NL (.lst [])) LL (.lst [])) NL = some (.lst []) by rw [upd_ne hN]; exact upd_same) nn
  have hP3 : PL ≠ n := ne_of_none (show (upd (upd (upd H2 PL (.lst [])) NL (.lst [])) LL (.lst [])) PL = some (.lst []) by rw [upd_ne hP2, upd_ne hP]; exact upd_same) nn
  have nn2 : H2 n = none := by rw [upd_ne hL.symm, upd_ne hN2.symm, upd_ne hP3.symm] at nn; exact nn
  have bP : b ≠ PL := ne_of_none hb2 nP
  have bN : b ≠ NL := ne_of_none hb2 nN2
  have bL : b ≠ LL := ne_of_none hb2 nL2
  have bn : b ≠ n := ne_of_none hb2 nn2
  have rP : r ≠ PL := ne_of_none B2.row nP
  have rN : r ≠ NL := ne_of_none B2.row nN2
  have rL : r ≠ LL := ne_of_none B2.row nL2
  have s1 := same_new nP (.lst [])
  have s2 := same_new nN (.lst [])
  have s3 := same_new nL (.lst [])
  have s4 := same_new nn (.lst [.int (1 + v1), .int (1 + v2), .ref PL, .ref NL, .ref LL])
  have g0 : G (upd (upd (upd (upd H2 PL (.lst [])) NL (.lst [])) LL (.lst [])) n (.lst [.int (1 + v1), .int (1 + v2), .ref PL, .ref NL, .ref LL])) b r rs n PL NL LL (1 + v1) (1 + v2) [] [] [] :=
    ⟨B2.same (((s1.trans s2).trans s3).trans s4), upd_same, ⟨[], s4 _ _ (s3 _ _ (s2 _ _ upd_same)), .nil⟩, ⟨[], s4 _ _ (s3 _ _ upd_same), .nil⟩, s4 _ _ upd_same, ⟨bn, bP, bN, bL, rP, rN, rL, hP3.symm, hN2.symm, hL.symm, hP, hP2, hN⟩⟩
  have x0 : Exc [b] H (upd (upd (upd (upd H2 PL (.lst [])) NL (.lst [])) LL (.lst [])) n (.lst [.int (1 + v1), .int (1 + v2), .ref PL, .ref NL, .ref LL])) := x2.trans (.of (((s1.trans s2).trans s3).trans s4))
  generalize upd (upd (upd (upd H2 PL (.lst [])) NL (.lst [])) LL (.lst [])) n (.lst [.int (1 + v1), .int (1 + v2), .ref PL, .ref NL, .ref LL]) = H3 at *
  have u0 : Built (1 + v1) (1 + v2) [] [] [] := ⟨by omega, by omega, by omega, by omega, (fun m h => by cases h), Nat.zero_le _, rfl, rfl, (fun l h => by cases h), (fun d h => by cases h)⟩
  -- for k in range(1 + _law_draw(box, most))
  refine ⟨_, rfl, _, rfl, b, r, rs, most, rfl, g0.box, by omega, fun w1 H4 w10 w11 B4 e4 => ?_⟩
  refine ⟨_, _, rfl, rfl, 1 + w1, rfl, by omega, by omega, ?_⟩
  refine for_range (fun (t : Nat) σ H' => ∃ (y4 y5 : Option V) (pms : List (Int × Int × Str × Int)) (nds : List Nd) (ls : List Int), σ = [some (.ref b), some (.ref ks), some (.int most), some (.ref n), y4, y5] ∧ G H' b r rs n PL NL LL (1 + v1) (1 + v2) pms nds ls ∧ Built (1 + v1) (1 + v2) pms nds ls ∧ nds.length = t ∧ Exc [b] H H')
    ⟨none, none, [], [], [], rfl, g0.but B4 e4, u0, rfl, x0.trans (.but e4 (.head _))⟩ (fun t σ H' ht hP => ?_) (fun σ H' hP => ?_)
  · obtain ⟨y4, y5, pms, nds, ls, rfl, g, u, hl, x⟩ := hP
    have ul := u.all
    refine ⟨_, rfl, _, rfl, _, rfl, b, r, rs, n, PL, NL, LL, 1 + v1, 1 + v2, pms, nds, ls, ks, kl, rfl, B.strs hks hkn x, hkl, hkn, g, u, by omega, fun v more H5 g5 u5 x5 hv => ?_⟩
    obtain ⟨t5, ad, d, len, rfl, f2, f3, f4⟩ := hv
    obtain ⟨nr, n1, n2⟩ := g5.nod
    have x6 : Exc [b] H H5 := x.fresh x5 fun c hc => by
      rcases List.mem_cons.mp hc with z | z
      · exact .inl z
      · rw [List.mem_singleton.mp z]; exact .inr (new _ nP)
    -- net[3].append(found[0])
    refine ⟨_, rfl, n, _, _, _, rfl, rfl, SqL.of g5.net, rfl, .inl ⟨rfl, _, .inl (.inl n1)⟩, _, rfl, t5, _, _, _, rfl, rfl, SqT.of f2, rfl, NL, _, _, rfl, rfl, n1, smaller (by rw [List.length_map, n2.length]; omega), ?_⟩
    have g6 := g5.addNd n1 n2 f3
    have f2' := exc_one (H := H5) NL (.lst (nr.map V.ref ++ [.ref ad])) _ _ (fun z => by rw [List.mem_singleton.mp z, n1] at f2; cases f2) f2
    have x7 : Exc [b] H (upd H5 NL (.lst (nr.map V.ref ++ [.ref ad]))) := x6.fresh (exc_one NL _) fun c hc => by rw [List.mem_singleton.mp hc]; exact .inr (new _ nN2)
    generalize upd H5 NL (.lst (nr.map V.ref ++ [.ref ad])) = H6 at *
    -- net[4].append(found[1])
    refine ⟨_, rfl, n, _, _, _, rfl, rfl, SqL.of g6.net, rfl, .inl ⟨rfl, _, .inl (.inl g6.len)⟩, _, rfl, t5, _, _, _, rfl, rfl, SqT.of f2', rfl, LL, _, _, rfl, rfl, g6.len, smaller (by rw [List.length_map]; omega), ?_⟩
    refine ⟨_, _, _, _, _, rfl, g6.addLen len, u5.snoc f4, by rw [List.length_append, List.length_singleton, hl], x7.fresh (exc_one LL _) fun c hc => by rw [List.mem_singleton.mp hc]; exact .inr (new _ nL2)⟩
  · obtain ⟨y4, y5, pms, nds, ls, rfl, g, u, hl, x⟩ := hP
    have ul := u.all
    have hne : ls ≠ [] := fun z => by rw [z] at ul; have : nds.length = 0 := ul.symm; omega
    obtain ⟨l0, z, rfl⟩ : ∃ l0 z, ls = l0 ++ [z] := ⟨ls.dropLast, ls.getLast hne, (List.dropLast_concat_getLast hne).symm⟩
    have al : atI ((l0 ++ [z]).map V.int) (-1) = some (.int z) := by
      rw [List.map_append]
      exact atI_last _ _
    obtain ⟨nr, n1, n2⟩ := g.nod
    have ln : nr.length = nds.length := n2.length
    refine ⟨_, rfl, n, _, _, _, rfl, rfl, SqL.of g.net, rfl, 1, rfl, LL, _, _, _, rfl, rfl, SqL.of g.len, al, rfl, _, rfl, ?_⟩
    by_cases hz : z = 1
    · refine iteNS (congrArg V.int hz) ?_
      exact ⟨_, rfl, q n PL NL LL _ _ pms nds _ H' g u ⟨l0, by rw [hz]⟩ (by omega) x (new _ nn2) (new _ nP) (new _ nN2) (new _ nL2)⟩
    · refine iteNN (fun w => hz (V.int.inj w)) ?_
      refine ⟨_, rfl, n, _, _, _, rfl, rfl, SqL.of g.net, rfl, .inl ⟨rfl, _, .inl (.inl n1)⟩, ?_⟩
      refine ⟨_, rfl, n, _, _, _, rfl, rfl, SqL.of g.net, rfl, NL, _, rfl, .inl (SqL.of n1), _, _, rfl, rfl, by show 2 ≤ sizeLine; decide, fun t1 nt1 => ?_⟩
      have ea : (((nr.map V.ref).length : Nat) : Int) - 1 = (nds.length : Int) - 1 := by rw [List.length_map, ln]
      have s5 := same_new nt1 (.tup [.str "sum", .int ((((nr.map V.ref).length : Nat) : Int) - 1)])
      have g5 := g.same s5
      have gd : Good (1 + v1) (1 + v2) pms (l0 ++ [z]) (.sum ((((nr.map V.ref).length : Nat) : Int) - 1)) 1 := good_of True.intro (fun o ho => by rw [List.mem_singleton.mp ho]; exact ⟨by rw [ea]; omega, by rw [ea]; omega⟩) rfl (by decide) (by decide) True.intro
      have h5 : NdT (upd H' t1 (.tup [.str "sum", .int ((((nr.map V.ref).length : Nat) : Int) - 1)])) t1 (.sum ((((nr.map V.ref).length : Nat) : Int) - 1)) := upd_same
      have x5 : Exc [b] H (upd H' t1 (.tup [.str "sum", .int ((((nr.map V.ref).length : Nat) : Int) - 1)])) := x.trans (.of s5)
      have n15 := s5 _ _ n1
      have n25 : All2 (NdT (upd H' t1 (.tup [.str "sum", .int ((((nr.map V.ref).length : Nat) : Int) - 1)]))) nr nds := n2.mono fun _ _ w => s5 _ _ w
      generalize upd H' t1 (.tup [.str "sum", .int ((((nr.map V.ref).length : Nat) : Int) - 1)]) = H5 at *
      refine ⟨NL, _, _, rfl, rfl, n15, smaller (by rw [List.length_map]; omega), ?_⟩
      have g6 := g5.addNd n15 n25 h5
      have x7 : Exc [b] H (upd H5 NL (.lst (nr.map V.ref ++ [.ref t1]))) := x5.fresh (exc_one NL _) fun c hc => by rw [List.mem_singleton.mp hc]; exact .inr (new _ nN2)
      generalize upd H5 NL (.lst (nr.map V.ref ++ [.ref t1])) = H6 at *
      refine ⟨_, rfl, n, _, _, _, rfl, rfl, SqL.of g6.net, rfl, .inl ⟨rfl, _, .inl (.inl g6.len)⟩, LL, _, _, rfl, rfl, g6.len, smaller (by rw [List.length_map]; omega), ?_⟩
      have x8 : Exc [b] H (upd H6 LL (.lst ((l0 ++ [z]).map V.int ++ [.int 1]))) := x7.fresh (exc_one LL _) fun c hc => by rw [List.mem_singleton.mp hc]; exact .inr (new _ nL2)
      exact ⟨_, rfl, q n PL NL LL _ _ pms _ _ _ (g6.addLen 1) (u.snoc gd) ⟨_, rfl⟩ (by rw [List.length_append, List.length_singleton]; omega) x8 (new _ nn2) (new _ nP) (new _ nN2) (new _ nL2)⟩

end

/-! ### is_net -/
theorem chain2 {lo x hi : Int} {H : Hp} {Q : VK} {σ : L2.St} (q : Q (.bl (decide (lo ≤ x ∧ x ≤ hi))) H) :
    rI0 (fun i j => .bl (decide (i ≤ j))) (.int lo) (.int x) H fun z H3 => ∃ k, z = .bl k ∧ (if k = true then tC (.int hi) σ H3 fun w' H4 => rI0 (fun i j => .bl (decide (i ≤ j))) (.int x) w' H4 Q else Q (.bl false) H3) := by
  refine ⟨_, _, rfl, rfl, _, rfl, ?_⟩
  by_cases h : lo ≤ x
  · refine iteD h ?_
    refine ⟨_, _, rfl, rfl, ?_⟩
    have e : decide (lo ≤ x ∧ x ≤ hi) = decide (x ≤ hi) := decide_eq_decide.mpr ⟨fun z => z.2, fun z => ⟨h, z⟩⟩
    rw [e] at q
    exact q
  · refine iteDN h ?_
    have e : decide (lo ≤ x ∧ x ≤ hi) = false := decide_eq_false fun z => h z.1
    rw [e] at q
    exact q
def PmGood (m : Int × Int × Str × Int) : Prop := ¬ (m.2.2.1 = "mixed" ∧ ¬ (0 ≤ m.2.2.2 ∧ m.2.2.2 ≤ 31)) ∧ (1 ≤ m.1 ∧ m.1 ≤ 6) ∧ (1 ≤ m.2.1 ∧ m.2.1 ≤ 6)
instance (m : Int × Int × Str × Int) : Decidable (PmGood m) := by unfold PmGood; infer_instance
def ParsGood (pms : List (Int × Int × Str × Int)) : Prop := pms.length ≤ 8 ∧ ∀ m ∈ pms, PmGood m
instance (pms : List (Int × Int × Str × Int)) : Decidable (ParsGood pms) := by unfold ParsGood; infer_instance
def NodesGood (nds : List Nd) (ls : List Int) : Prop := 1 ≤ nds.length ∧ nds.length ≤ 24 ∧ nds.length ≤ ls.length ∧ ls.getLast? = some 1 ∧ ∀ l ∈ ls, 1 ≤ l ∧ l ≤ 12
instance (nds : List Nd) (ls : List Int) : Decidable (NodesGood nds ls) := by unfold NodesGood; infer_instance
def NetGood (ni nt : Int) (pms : List (Int × Int × Str × Int)) (nds : List Nd) : Prop := (1 ≤ ni ∧ ni ≤ 8) ∧ (1 ≤ nt ∧ nt ≤ 8) ∧ ParsGood pms ∧ NodesGood nds (lensFrom ni nt (sides pms) [] nds)
instance (ni nt : Int) (pms : List (Int × Int × Str × Int)) (nds : List Nd) : Decidable (NetGood ni nt pms nds) := by unfold NetGood; infer_instance
def spIsGood (cs : Cs) : Sp := fun vs H Q _ => ∃ (a : Addr) (m : Int × Int × Str × Int), vs = [.ref a] ∧ ParP cs H a m ∧ Q (.bl (decide (PmGood m))) H
def spGoodPars (cs : Cs) : Sp := fun vs H Q _ => ∃ (q : Addr) (pms : List (Int × Int × Str × Int)), vs = [.ref q] ∧ (∃ dx fs PP pr, H q = some (.ins cs.Net dx fs) ∧ fs.lookup ("parameters" : Str) = some (.ref PP) ∧ H PP = some (.lst (pr.map V.ref)) ∧ All2 (ParP cs H) pr pms) ∧ pms.length ≤ 1000 ∧
  ∀ H', Same H H' → Q (.bl (decide (ParsGood pms))) H'
def spGoodNodes (K : PySem.W.Frag) (cs : Cs) : Sp := fun vs H Q _ => ∃ (q : Addr) (ni nt : Int) (pms : List (Int × Int × Str × Int)) (nds : List Nd), vs = [.ref q] ∧ NetF K cs H q ni nt pms nds ∧ NetOk ni nt (sides pms) nds ∧ ∀ H', Same H H' → Q (.bl (decide (NodesGood nds (lensFrom ni nt (sides pms) [] nds)))) H'
def spIsNet (K : PySem.W.Frag) (cs : Cs) : Sp := fun vs H Q _ => ∃ (q : Addr) (ni nt : Int) (pms : List (Int × Int × Str × Int)) (nds : List Nd), vs = [.ref q] ∧ NetF K cs H q ni nt pms nds ∧ NetOk ni nt (sides pms) nds ∧ pms.length ≤ 1000 ∧ ∀ H', Same H H' → Q (.bl (decide (NetGood ni nt pms nds))) H'
def spSameWords : Sp := fun vs H Q _ => ∃ (a b : Addr) (xs ys : List Int), vs = [.ref a, .ref b] ∧ H a = some (.lst (xs.map V.int)) ∧ H b = some (.lst (ys.map V.int)) ∧ xs.length ≤ 100000 ∧ ys.length ≤ 100000 ∧ Q (.bl (decide (xs = ys))) H
def spNetObj (K : PySem.W.Frag) (cs : Cs) : Sp := fun vs H Q _ => ∃ (n PL NL X : Addr) (ni nt : Int) (pms : List (Int × Int × Str × Int)) (nds : List Nd) (pr nr : List Addr), vs = [.ref n] ∧ H n = some (.lst [.int ni, .int nt, .ref PL, .ref NL, .ref X]) ∧
  H PL = some (.lst (pr.map V.ref)) ∧ All2 (PmV H) pr pms ∧ H NL = some (.lst (nr.map V.ref)) ∧ All2 (NdT H) nr nds ∧ NetOk ni nt (sides pms) nds ∧ pms.length ≤ 1000 ∧
  ∀ (x : Addr) (H' : Hp), Same H H' → NetF K cs H' x ni nt pms nds → NetL cs H' x (lensFrom ni nt (sides pms) [] nds) → Q (.ref x) H'

section
variable {P : Program} {w : World} {K : PySem.W.Frag} {mg : Str → Option Value} {cs : Cs} {base : Heap} {f : Addr} {fd : FuncData}
theorem ok__is_good (F : Fun K "_is_good" "_is_good" s__is_good f fd) (T : Txt K mg cs w)  :
    FnOk P w K mg base CX0 1 f fd ["parameter"] (spIsGood cs) := by
  obtain ⟨_, g_MOST_SIDE⟩ := T.g_MOST_SIDE
  obtain ⟨_, g_MOST_SHIFT⟩ := T.g_MOST_SHIFT
  refine F.ok sc__is_good (fun vs H Q E h => ?_) (fun cdv A outer s H vs Q E hr h => ?_)
  · obtain ⟨a, m, rfl, hp, q⟩ := h
    rfl
  obtain ⟨a, m, rfl, hp, q⟩ := h
  have hu := hr.units
  refine ⟨_, pss_cons (ps_asg (pe_fld_at (K := K) rfl (pv 0) rfl) (pg_tup rfl (pgs_cons (pg_name (i := 1) sc__is_good.nd rfl (.inl rfl)) (pgs_cons (pg_name (i := 2) sc__is_good.nd rfl (.inl rfl)) pgs_nil))))
 (pss_cons (ps_if (PW.pt (pw_and (pt_cmpR op_eq (pv 1) pe_str (nomark _)) (pw_and1 (pt_not (pt_chain op_le op_le pe_int (pv 2) (pe_glob (v := .int (31)) rfl g_MOST_SHIFT ⟨_, rfl⟩)))))) (pss_one (ps_ret pe_bl)) pss_nil)
 (pss_one (ps_ret (pe_and (pe_chain op_le op_le pe_int (pe_fld_at (K := K) rfl (pv 0) rfl) (pe_glob (v := .int (6)) rfl g_MOST_SIDE ⟨_, rfl⟩)) (pe_one (pe_chain op_le op_le pe_int (pe_fld_at (K := K) rfl (pv 0) rfl) (pe_glob (v := .int (6)) rfl g_MOST_SIDE ⟨_, rfl⟩))))))), ?_⟩
  obtain ⟨dx, fs, ff, h1, h2, h3, h4, h5⟩ := hp
  refine ⟨_, rfl, a, _, dx, fs, _, rfl, h1, T.C_Parameter, T.na_Parameter_fill, h4, ff, _, rfl, SqT.of h5, rfl, _, _, rfl, _, _, rfl, rfl, ?_⟩
  refine ⟨_, rfl, rfl, _, rfl, ?_⟩
  have last : ∀ gm : Prop, ∀ [Decidable gm], (¬ gm → Q (.bl (decide ((1 ≤ m.1 ∧ m.1 ≤ 6) ∧ (1 ≤ m.2.1 ∧ m.2.1 ≤ 6)))) H) → True := fun _ _ _ => trivial
  by_cases hm : m.2.2.1 = "mixed" ∧ ¬ (0 ≤ m.2.2.2 ∧ m.2.2.2 ≤ 31)
  · refine iteD (congrArg V.str hm.1) ?_
    refine ⟨_, rfl, chain2 ⟨_, rfl, ?_⟩⟩
    refine iteNN hm.2 ?_
    have e : decide (PmGood m) = false := decide_eq_false fun z => z.1 hm
    rw [e] at q
    exact q
  · have e : decide (PmGood m) = decide ((1 ≤ m.1 ∧ m.1 ≤ 6) ∧ (1 ≤ m.2.1 ∧ m.2.1 ≤ 6)) := decide_eq_decide.mpr ⟨fun z => z.2, fun z => ⟨hm, z⟩⟩
    rw [e] at q
    (by_cases h6 : m.2.2.1 = "mixed") <;> (first
      | (refine iteD (congrArg V.str h6) ?_
         refine ⟨_, rfl, chain2 ⟨_, rfl, ?_⟩⟩
         refine iteNS (Decidable.byContradiction fun z => hm ⟨h6, z⟩) ?_)
      | (refine iteDN (fun z => h6 (V.str.inj z)) ?_)) <;>
    (refine ⟨_, rfl, a, _, dx, fs, _, rfl, h1, T.C_Parameter, T.na_Parameter_rows, h2, chain2 ⟨_, rfl, ?_⟩⟩
     by_cases h7 : 1 ≤ m.1 ∧ m.1 ≤ 6
     · refine iteD h7 ?_
       refine ⟨_, rfl, a, _, dx, fs, _, rfl, h1, T.C_Parameter, T.na_Parameter_cols, h3, chain2 ?_⟩
       have e2 : decide ((1 ≤ m.1 ∧ m.1 ≤ 6) ∧ (1 ≤ m.2.1 ∧ m.2.1 ≤ 6)) = decide (1 ≤ m.2.1 ∧ m.2.1 ≤ 6) := decide_eq_decide.mpr ⟨fun z => z.2, fun z => ⟨h7, z⟩⟩
       rw [e2] at q
       exact q
     · refine iteDN h7 ?_
       have e2 : decide ((1 ≤ m.1 ∧ m.1 ≤ 6) ∧ (1 ≤ m.2.1 ∧ m.2.1 ≤ 6)) = false := decide_eq_false fun z => h7 z.1
       rw [e2] at q
       exact q)
theorem ok__has_good_parameters (F : Fun K "_has_good_parameters" "_has_good_parameters" s__has_good_parameters f fd) (T : Txt K mg cs w) (d__is_good : Def P w K mg base 1 "_is_good" ["parameter"] (spIsGood cs)) :
    FnOk P w K mg base CX0 2 f fd ["net"] (spGoodPars cs) := by
  obtain ⟨f0, fd0, G__is_good, b__is_good, g__is_good, k__is_good⟩ := d__is_good.ex
  obtain ⟨_, g_MOST_PARAMETERS⟩ := T.g_MOST_PARAMETERS
  refine F.ok sc__has_good_parameters (fun vs H Q E h => ?_) (fun cdv A outer s H vs Q E hr h => ?_)
  · obtain ⟨qn, pms, rfl, N, few, q⟩ := h
    rfl
  obtain ⟨qn, pms, rfl, N, few, q⟩ := h
  have hu := hr.units
  refine ⟨_, pss_cons (ps_if (pt_cmpR op_gt (pe_callB (len_at (K := K) rfl) (by rfl) T.z_len PySem.boot_len (pa_cons (pe_fld_at (K := K) rfl (pv 0) rfl) pa_nil)) (pe_glob (v := .int (8)) rfl g_MOST_PARAMETERS ⟨_, rfl⟩) (nomark _)) (pss_one (ps_ret pe_bl)) pss_nil)
 (pss_one (ps_ret (pe_callB (all_at (K := K) rfl) (by rfl) T.z_all PyProof.Rows.boot_all (pa_cons (pe_lc (own := [("parameter", 1)]) (g := gName 1) (tt := tYes)  rfl sc__has_good_parameters.nd (pi_list (pe_fld_at (K := K) rfl (pv 0) rfl)) (blkOk_by (N := ["net", "parameter"]) (sc := defScope s__has_good_parameters) (by decide +kernel)) (fun _ _ _ _ _ => (pg_name (i := 1) sc__has_good_parameters.nd rfl (.inl rfl))) (fun _ _ _ _ _ => pts_nil) (fun _ _ _ _ _ => (pe_call G__is_good hr rfl g__is_good k__is_good b__is_good .nil pass0 (pa_cons (pv 1) pa_nil)))) pa_nil)))), ?_⟩
  obtain ⟨dx, fs, PP, pr, n1, n2, n3, n4⟩ := N
  have lp : pr.length = pms.length := n4.length
  have lq : (((pr.map V.ref).length : Nat) : Int) = (pms.length : Int) := by rw [List.length_map, lp]
  refine ⟨_, rfl, qn, _, dx, fs, _, rfl, n1, T.C_Net, T.na_Net_parameters, n2, PP, _, rfl, .inl (SqL.of n3), _, _, rfl, rfl, _, rfl, ?_⟩
  by_cases h8 : pms.length ≤ 8
  · refine iteDN (fun z => by rw [lq] at z; omega) ?_
    refine ⟨_, rfl, qn, _, dx, fs, _, rfl, n1, T.C_Net, T.na_Net_parameters, n2, PP, rfl, ⟨_, SqL.of n3⟩, fun D nD => ?_⟩
    refine lc_list (xs := pr.map V.ref) (fun (i : Nat) H' => But D H H' ∧ H' D = some (.lst (((pms.take i).map fun m => decide (PmGood m)).map V.bl))) ⟨.of (same_new nD _), upd_same⟩ (fun i H' _ hP => SqL.of (hP.1 _ _ (ne_of_none n3 nD) n3)) (fun i x H' hx hP => ?_) (fun H' hP => ?_)
    · obtain ⟨e, hD⟩ := hP
      have hi : i < pms.length := by
        have := (List.getElem?_eq_some_iff.mp hx).1
        rw [List.length_map] at this
        omega
      have em : pms[i]? = some pms[i] := List.getElem?_eq_getElem hi
      obtain ⟨a, ea, ra⟩ := n4.get em
      rw [List.getElem?_map, ea] at hx
      cases hx
      refine ⟨rfl, ?_⟩
      refine ⟨_, rfl, a, pms[i], rfl, ra.same (e.same nD), _, hD, smaller (by rw [List.length_map, List.length_map, List.length_take]; omega), e.mut' nD, ?_⟩
      rw [upd_same, List.take_add_one, em, List.map_append, List.map_append]
      rfl
    · obtain ⟨e, hD⟩ := hP
      rw [List.length_map, lp, List.take_length] at hD
      refine ⟨D, _, rfl, SqL.of hD, ?_⟩
      have ea : (pms.map fun m => decide (PmGood m)).all id = decide (ParsGood pms) := by
        rw [List.all_map]
        rw [show (id ∘ fun m => decide (PmGood m)) = fun m => decide (PmGood m) from rfl, all_dec]
        exact decide_eq_decide.mpr ⟨fun z => ⟨h8, z⟩, fun z => z.2⟩
      rw [ea]
      exact q H' (e.same nD)
  · refine iteD (show (((pr.map V.ref).length : Nat) : Int) > 8 by rw [lq]; omega) ?_
    have e : decide (ParsGood pms) = false := decide_eq_false fun z => h8 z.1
    rw [e] at q
    exact q H (.refl H)
theorem ok__has_good_nodes (F : Fun K "_has_good_nodes" "_has_good_nodes" s__has_good_nodes f fd) (T : Txt K mg cs w) (d__lengths : Def P w K mg base 4 "_lengths" ["net"] (spLengths K cs)) :
    FnOk P w K mg base CX0 5 f fd ["net"] (spGoodNodes K cs) := by
  obtain ⟨f0, fd0, G__lengths, b__lengths, g__lengths, k__lengths⟩ := d__lengths.ex
  obtain ⟨_, g_MOST_NODES⟩ := T.g_MOST_NODES
  obtain ⟨_, g_MOST_LENGTH⟩ := T.g_MOST_LENGTH
  refine F.ok sc__has_good_nodes (fun vs H Q E h => ?_) (fun cdv A outer s H vs Q E hr h => ?_)
  · obtain ⟨qn, ni, nt, pms, nds, rfl, N, ok, q⟩ := h
    rfl
  obtain ⟨qn, ni, nt, pms, nds, rfl, N, ok, q⟩ := h
  have hu := hr.units
  refine ⟨_, pss_cons (ps_set (i := 1) sc__has_good_nodes.nd rfl (.inl rfl) (pe_call G__lengths hr rfl g__lengths k__lengths b__lengths .nil pass0 (pa_cons (pv 0) pa_nil)))
 (pss_cons (ps_if (PW.pt (pw_or (pt_not (pt_chain op_le op_le pe_int (pe_callB (len_at (K := K) rfl) (by rfl) T.z_len PySem.boot_len (pa_cons (pe_fld_at (K := K) rfl (pv 0) rfl) pa_nil)) (pe_glob (v := .int (24)) rfl g_MOST_NODES ⟨_, rfl⟩))) (pw_or1 (pt_cmpR op_lt (pe_callB (len_at (K := K) rfl) (by rfl) T.z_len PySem.boot_len (pa_cons (pv 1) pa_nil)) (pe_callB (len_at (K := K) rfl) (by rfl) T.z_len PySem.boot_len (pa_cons (pe_fld_at (K := K) rfl (pv 0) rfl) pa_nil)) (nomark _))))) (pss_one (ps_ret pe_bl)) pss_nil)
 (pss_one (ps_ret (pe_and (pe_cmpR op_eq (pe_ix (ixl_at (K := K) rfl) (pv 1) (pe_un un_neg pe_int) (fun _ _ => rfl)) pe_int (nomark _)) (pe_one (pe_callB (all_at (K := K) rfl) (by rfl) T.z_all PyProof.Rows.boot_all (pa_cons (pe_lc (own := [("length", 2)]) (g := gName 2) (tt := tYes)  rfl sc__has_good_nodes.nd (pi_list (pv 1)) (blkOk_by (N := ["net", "known", "length"]) (sc := defScope s__has_good_nodes) (by decide +kernel)) (fun _ _ _ _ _ => (pg_name (i := 2) sc__has_good_nodes.nd rfl (.inl rfl))) (fun _ _ _ _ _ => pts_nil) (fun _ _ _ _ _ => (pe_chain op_le op_le pe_int (pv 2) (pe_glob (v := .int (12)) rfl g_MOST_LENGTH ⟨_, rfl⟩)))) pa_nil))))))), ?_⟩
  refine ⟨_, rfl, qn, ni, nt, sides pms, nds, rfl, N.v, N.n, ok, fun L H1 nL e1 hL => ?_⟩
  obtain ⟨dx, fs, PP, NN, pr, nr, h1, h2, h3, h4, h5, h6, h7, h8, h9⟩ := (N.same e1).ex
  have ln : nr.length = nds.length := h9.length
  have lq : (((nr.map V.ref).length : Nat) : Int) = (nds.length : Int) := by rw [List.length_map, ln]
  have hlen := ok.few
  have hle := lensFrom_len ni nt (sides pms) nds []
  rw [List.length_nil, Nat.zero_add] at hle
  generalize lensFrom ni nt (sides pms) [] nds = ls at *
  have lls : (((ls.map V.int).length : Nat) : Int) = (ls.length : Int) := by rw [List.length_map]
  refine ⟨_, rfl, qn, _, dx, fs, _, rfl, h1, T.C_Net, T.na_Net_nodes, h5, NN, _, rfl, .inl (SqL.of h8), chain2 ⟨_, rfl, ?_⟩⟩
  rw [lq]
  by_cases c1 : 1 ≤ (nds.length : Int) ∧ (nds.length : Int) ≤ 24
  · refine iteNS c1 ?_
    refine ⟨_, rfl, L, _, rfl, .inl (SqL.of hL), _, rfl, qn, _, dx, fs, _, rfl, h1, T.C_Net, T.na_Net_nodes, h5, NN, _, rfl, .inl (SqL.of h8), _, _, rfl, rfl, _, rfl, ?_⟩
    by_cases c2 : nds.length ≤ ls.length
    · refine iteDN (fun z => by rw [lls, lq] at z; omega) ?_
      have hne : ls ≠ [] := fun z => by rw [z] at c2; have : nds.length ≤ 0 := c2; omega
      obtain ⟨l0, z, rfl⟩ : ∃ l0 z, ls = l0 ++ [z] := ⟨ls.dropLast, ls.getLast hne, (List.dropLast_concat_getLast hne).symm⟩
      have al : atI ((l0 ++ [z]).map V.int) (-1) = some (.int z) := by
        rw [List.map_append]
        exact atI_last _ _
      have hgl : (l0 ++ [z]).getLast? = some z := List.getLast?_concat ..
      refine ⟨_, rfl, 1, rfl, L, _, _, _, rfl, rfl, SqL.of hL, al, rfl, _, rfl, ?_⟩
      by_cases c3 : z = 1
      · refine iteD (congrArg V.int c3) ?_
        refine ⟨_, rfl, L, rfl, ⟨_, SqL.of hL⟩, fun D nD => ?_⟩
        refine lc_list (xs := (l0 ++ [z]).map V.int) (fun (i : Nat) H' => But D H1 H' ∧ H' D = some (.lst ((((l0 ++ [z]).take i).map fun l => decide (1 ≤ l ∧ l ≤ 12)).map V.bl))) ⟨.of (same_new nD _), upd_same⟩ (fun i H' _ hP => SqL.of (hP.1 _ _ (ne_of_none hL nD) hL)) (fun i x H' hx hP => ?_) (fun H' hP => ?_)
        · obtain ⟨e, hD⟩ := hP
          obtain ⟨l, rfl, hl⟩ := map_get hx
          refine ⟨rfl, ?_⟩
          refine ⟨_, rfl, chain2 ⟨_, hD, smaller (by rw [List.length_map, List.length_map, List.length_take]; omega), e.mut' nD, ?_⟩⟩
          rw [upd_same, List.take_add_one, hl, List.map_append, List.map_append]
          rfl
        · obtain ⟨e, hD⟩ := hP
          rw [List.length_map, List.take_length] at hD
          refine ⟨D, _, rfl, SqL.of hD, ?_⟩
          have ea : ((l0 ++ [z]).map fun l => decide (1 ≤ l ∧ l ≤ 12)).all id = decide (NodesGood nds (l0 ++ [z])) := by
            rw [List.all_map]
            rw [show (id ∘ fun l : Int => decide (1 ≤ l ∧ l ≤ 12)) = fun l => decide (1 ≤ l ∧ l ≤ 12) from rfl, all_dec]
            exact decide_eq_decide.mpr ⟨fun w => ⟨by omega, by omega, c2, by rw [hgl, c3], w⟩, fun w => w.2.2.2.2⟩
          rw [ea]
          exact q H' (e1.trans (e.same nD))
      · refine iteDN (fun w => c3 (V.int.inj w)) ?_
        have e : decide (NodesGood nds (l0 ++ [z])) = false := decide_eq_false fun w => c3 (by have := w.2.2.2.1; rw [hgl] at this; exact Option.some.inj this)
        rw [e] at q
        exact q H1 e1
    · refine iteD (show (((ls.map V.int).length : Nat) : Int) < (((nr.map V.ref).length : Nat) : Int) by rw [lls, lq]; omega) ?_
      have e : decide (NodesGood nds ls) = false := decide_eq_false fun z => c2 z.2.2.1
      rw [e] at q
      exact q H1 e1
  · refine iteNN c1 ?_
    have e : decide (NodesGood nds ls) = false := decide_eq_false fun z => c1 ⟨by have := z.1; omega, by have := z.2.1; omega⟩
    rw [e] at q
    exact q H1 e1
theorem ok_is_net (F : Fun K "is_net" "is_net" s_is_net f fd) (T : Txt K mg cs w) (d__has_good_parameters : Def P w K mg base 2 "_has_good_parameters" ["net"] (spGoodPars cs)) (d__has_good_nodes : Def P w K mg base 5 "_has_good_nodes" ["net"] (spGoodNodes K cs)) :
    FnOk P w K mg base CX0 6 f fd ["net"] (spIsNet K cs) := by
  obtain ⟨f0, fd0, G__has_good_parameters, b__has_good_parameters, g__has_good_parameters, k__has_good_parameters⟩ := d__has_good_parameters.ex
  obtain ⟨f1, fd1, G__has_good_nodes, b__has_good_nodes, g__has_good_nodes, k__has_good_nodes⟩ := d__has_good_nodes.ex
  obtain ⟨_, g_MOST_PLACES⟩ := T.g_MOST_PLACES
  refine F.ok sc_is_net (fun vs H Q E h => ?_) (fun cdv A outer s H vs Q E hr h => ?_)
  · obtain ⟨qn, ni, nt, pms, nds, rfl, N, ok, few, q⟩ := h
    rfl
  obtain ⟨qn, ni, nt, pms, nds, rfl, N, ok, few, q⟩ := h
  have hu := hr.units
  refine ⟨_, pss_cons (ps_if (PW.pt (pw_or (pt_not (pt_chain op_le op_le pe_int (pe_fld_at (K := K) rfl (pv 0) rfl) (pe_glob (v := .int (8)) rfl g_MOST_PLACES ⟨_, rfl⟩))) (pw_or1 (pt_not (pt_chain op_le op_le pe_int (pe_fld_at (K := K) rfl (pv 0) rfl) (pe_glob (v := .int (8)) rfl g_MOST_PLACES ⟨_, rfl⟩)))))) (pss_one (ps_ret pe_bl)) pss_nil)
 (pss_one (ps_ret (pe_and (pe_call G__has_good_parameters (hr.mono (by decide)) rfl g__has_good_parameters k__has_good_parameters b__has_good_parameters .nil pass0 (pa_cons (pv 0) pa_nil)) (pe_one (pe_call G__has_good_nodes hr rfl g__has_good_nodes k__has_good_nodes b__has_good_nodes .nil pass0 (pa_cons (pv 0) pa_nil)))))), ?_⟩
  obtain ⟨dx, fs, PP, NN, pr, nr, h1, h2, h3, h4, h5, h6, h7, h8, h9⟩ := N.ex
  refine ⟨_, rfl, qn, _, dx, fs, _, rfl, h1, T.C_Net, T.na_Net_inputs, h2, chain2 ⟨_, rfl, ?_⟩⟩
  by_cases c1 : 1 ≤ ni ∧ ni ≤ 8
  · refine iteNS c1 ?_
    refine ⟨_, rfl, qn, _, dx, fs, _, rfl, h1, T.C_Net, T.na_Net_targets, h3, chain2 ⟨_, rfl, ?_⟩⟩
    by_cases c2 : 1 ≤ nt ∧ nt ≤ 8
    · refine iteNS c2 ?_
      refine ⟨_, rfl, qn, pms, rfl, ⟨dx, fs, PP, pr, h1, h4, h6, h7⟩, few, fun H1 e1 => ⟨_, rfl, ?_⟩⟩
      by_cases c3 : ParsGood pms
      · refine iteD c3 ?_
        refine ⟨_, rfl, qn, ni, nt, pms, nds, rfl, N.same e1, ok, fun H2 e2 => ?_⟩
        have e : decide (NetGood ni nt pms nds) = decide (NodesGood nds (lensFrom ni nt (sides pms) [] nds)) := decide_eq_decide.mpr ⟨fun z => z.2.2.2, fun z => ⟨c1, c2, c3, z⟩⟩
        rw [e] at q
        exact q H2 (e1.trans e2)
      · refine iteDN c3 ?_
        have e : decide (NetGood ni nt pms nds) = false := decide_eq_false fun z => c3 z.2.2.1
        rw [e] at q
        exact q H1 e1
    · refine iteNN c2 ?_
      have e : decide (NetGood ni nt pms nds) = false := decide_eq_false fun z => c2 z.2.1
      rw [e] at q
      exact q H (.refl H)
  · refine iteNN c1 ?_
    have e : decide (NetGood ni nt pms nds) = false := decide_eq_false fun z => c1 z.1
    rw [e] at q
    walk_at "go"
    exact q H (.refl H)

theorem ok__law_net_object (F : Fun K "_law_net_object" "_law_net_object" s__law_net_object f fd) (T : Txt K mg cs w) (d_Net___init__ : IDef P w K mg base 5 cs.Net ["self", "inputs", "targets", "parameters", "nodes"] (spNetInit K cs)) (d_Parameter___init__ : IDef P w K mg base 1 cs.Parameter ["self", "rows", "cols", "fill"] (spParInit cs)) :
    FnOk P w K mg base CX0 7 f fd ["net"] (spNetObj K cs) := by
  obtain ⟨f0, fd0, G_Net___init__, b_Net___init__, M_Net⟩ := d_Net___init__.ex
  obtain ⟨f1, fd1, G_Parameter___init__, b_Parameter___init__, M_Parameter⟩ := d_Parameter___init__.ex
  refine F.ok sc__law_net_object (fun vs H Q E h => ?_) (fun cdv A outer s H vs Q E hr h => ?_)
  · obtain ⟨n, PL, NL, X, ni, nt, pms, nds, pr, nr, rfl, hn, hP, aP, hN, aN, ok, few, q⟩ := h
    rfl
  obtain ⟨n, PL, NL, X, ni, nt, pms, nds, pr, nr, rfl, hn, hP, aP, hN, aN, ok, few, q⟩ := h
  have hu := hr.units
  refine ⟨_, pss_one (ps_ret (pe_make M_Net G_Net___init__ hr rfl T.c_Net b_Net___init__ .nil pass0 (pa_cons (pe_ix (ixl_at (K := K) rfl) (pv 0) pe_int (fun _ _ => rfl)) (pa_cons (pe_ix (ixl_at (K := K) rfl) (pv 0) pe_int (fun _ _ => rfl)) (pa_cons (pe_lc (own := [("x", 1)]) (g := gName 1) (tt := tYes)  rfl sc__law_net_object.nd (pi_list (pe_ix (ixl_at (K := K) rfl) (pv 0) pe_int (fun _ _ => rfl))) (blkOk_by (N := ["net", "x"]) (sc := defScope s__law_net_object) (by decide +kernel)) (fun _ _ _ _ _ => (pg_name (i := 1) sc__law_net_object.nd rfl (.inl rfl))) (fun _ _ _ _ _ => pts_nil) (fun _ _ _ _ _ => (pe_make M_Parameter G_Parameter___init__ (hr.mono (by decide)) rfl T.c_Parameter b_Parameter___init__ .nil pass0 (pa_cons (pe_ix (ixt_at (K := K) rfl) (pv 1) pe_int (fun _ _ => rfl)) (pa_cons (pe_ix (ixt_at (K := K) rfl) (pv 1) pe_int (fun _ _ => rfl)) (pa_cons (pe_ix (ixt_at (K := K) rfl) (pv 1) pe_int (fun _ _ => rfl)) pa_nil)))))) (pa_cons (pe_callTy (list_at (K := K) rfl) (by rfl) T.z_list PyProof.Rows.boot_list (pa_cons (pe_ix (ixl_at (K := K) rfl) (pv 0) pe_int (fun _ _ => rfl)) pa_nil)) pa_nil)))))), ?_⟩
  have lp : pr.length = pms.length := aP.length
  refine ⟨_, rfl, n, _, _, _, rfl, rfl, SqL.of hn, rfl, ?_⟩
  refine ⟨_, rfl, n, _, _, _, rfl, rfl, SqL.of hn, rfl, ?_⟩
  refine ⟨_, rfl, n, _, _, _, rfl, rfl, SqL.of hn, rfl, PL, rfl, ⟨_, SqL.of hP⟩, fun D nD => ?_⟩
  refine lc_list (xs := pr.map V.ref) (fun (i : Nat) H' => ∃ po : List Addr, But D H H' ∧ H' D = some (.lst (po.map V.ref)) ∧ All2 (ParP cs H') po (pms.take i)) ⟨[], .of (same_new nD _), upd_same, .nil⟩ (fun i H' _ hI => by
    obtain ⟨po, e, _⟩ := hI
    exact SqL.of (e _ _ (ne_of_none hP nD) hP)) (fun i x H' hx hI => ?_) (fun H' hI => ?_)
  · obtain ⟨po, e, hD, ha⟩ := hI
    have hi : i < pms.length := by
      have := (List.getElem?_eq_some_iff.mp hx).1
      rw [List.length_map] at this
      omega
    have em : pms[i]? = some pms[i] := List.getElem?_eq_getElem hi
    obtain ⟨a, ea, ff, m1, m2⟩ := aP.get em
    rw [List.getElem?_map, ea] at hx
    cases hx
    have sm := e.same nD
    refine ⟨rfl, ?_⟩
    refine ⟨_, rfl, a, _, _, _, rfl, rfl, SqT.of (sm _ _ m1), rfl, _, rfl, a, _, _, _, rfl, rfl, SqT.of (sm _ _ m1), rfl, _, rfl, a, _, _, _, rfl, rfl, SqT.of (sm _ _ m1), rfl, ?_⟩
    refine fun x dx nx ndx ne => ?_
    refine ⟨x, dx, _, _, _, rfl, upd_same, fun H2 fs e2 h2 k1 k2 k3 => ⟨rfl, ?_⟩⟩
    have s2 : Same H' H2 := fun c o h => e2 _ _ (ne_of_none h nx) (by rw [upd_ne (ne_of_none h nx), upd_ne (ne_of_none h ndx)]; exact h)
    have lpo : po.length = i := by rw [ha.length, List.length_take]; omega
    have nxD : D ≠ x := ne_of_none hD nx
    refine ⟨_, s2 _ _ hD, smaller (by rw [List.length_map]; omega), po ++ [x], (fun c o nc h => by rw [upd_ne nc]; exact s2 _ _ (e c o nc h)), by rw [upd_same, List.map_append]; rfl, ?_⟩
    have s3 : ∀ c o, c ≠ D → H2 c = some o → (upd H2 D (.lst (po.map V.ref ++ [V.ref x]))) c = some o := fun c o nc h => by rw [upd_ne nc]; exact h
    have keep : ∀ b m, ParP cs H2 b m → ParP cs (upd H2 D (.lst (po.map V.ref ++ [V.ref x]))) b m := fun b m hb => by
      obtain ⟨dy, gs, f2, y1, y2, y3, y4, y5⟩ := hb
      refine ⟨dy, gs, f2, s3 _ _ (fun z => ?_) y1, y2, y3, y4, s3 _ _ (fun z => ?_) y5⟩
      · rw [z, s2 _ _ hD] at y1; cases y1
      · rw [z, s2 _ _ hD] at y5; cases y5
    rw [List.take_add_one, em]
    refine All2.snoc ((ha.mono fun _ _ r => r.same s2).mono keep) (keep _ _ ⟨dx, fs, ff, h2, k1, k2, k3, s2 _ _ (sm _ _ m2)⟩)
  · obtain ⟨po, e, hD, ha⟩ := hI
    have sm := e.same nD
    rw [List.length_map, lp, List.take_length] at ha
    refine ⟨_, rfl, n, _, _, _, rfl, rfl, SqL.of (sm _ _ hn), rfl, NL, _, rfl, .inl (SqL.of (sm _ _ hN)), fun L nL => ?_⟩
    have s2 := same_new nL (.lst (nr.map V.ref))
    have hL : (upd H' L (.lst (nr.map V.ref))) L = some (.lst (nr.map V.ref)) := upd_same
    generalize upd H' L (.lst (nr.map V.ref)) = H2 at *
    refine fun x dx nx ndx ne => ?_
    have s3 : Same H2 (upd (upd H2 dx (.own x)) x (.ins cs.Net dx [])) := fun c o h => by rw [upd_ne (ne_of_none h nx), upd_ne (ne_of_none h ndx)]; exact h
    have s4 := (sm.trans s2).trans s3
    refine ⟨x, dx, D, L, ni, nt, pms, nds, po, nr, rfl, upd_same, SqL.of (s3 _ _ (s2 _ _ hD)), (ha.mono fun _ _ r => r.same s2).mono fun _ _ r => r.same s3, SqL.of (s3 _ _ hL), aN.mono fun _ _ r => SqT.of (s4 _ _ r), ok, fun H5 e5 nf nl => ⟨rfl, ?_⟩⟩
    refine q x H5 (fun c o h => ?_) nf nl
    have h2 := (sm.trans s2) _ _ h
    exact e5 _ _ (ne_of_none h2 nx) (s3 _ _ h2)

end

/-! ### comprehensions within comprehensions -/
def noE : PySem.Expr := .Name "x" ⟨0, 0, 0, 0⟩
def stE : Stmt → PySem.Expr
  | .Return (some e) _ => e
  | .Assign _ e .. => e
  | .Expr e .. => e
  | .For _ e .. => e
  | .If e .. => e
  | .While e .. => e
  | _ => noE
def stB (i : Nat) : Stmt → Stmt
  | .For _ _ b .. => b.getD i (.Pass ⟨0, 0, 0, 0⟩)
  | .If _ b .. => b.getD i (.Pass ⟨0, 0, 0, 0⟩)
  | .While _ b .. => b.getD i (.Pass ⟨0, 0, 0, 0⟩)
  | s => s
def stO (i : Nat) : Stmt → Stmt
  | .For _ _ _ b .. => b.getD i (.Pass ⟨0, 0, 0, 0⟩)
  | .If _ _ b .. => b.getD i (.Pass ⟨0, 0, 0, 0⟩)
  | .While _ _ b .. => b.getD i (.Pass ⟨0, 0, 0, 0⟩)
  | s => s
def ceA (i : Nat) : PySem.Expr → PySem.Expr
  | .Call _ as .. => as.getD i noE
  | .BoolOp _ as .. => as.getD i noE
  | .List as .. => as.getD i noE
  | .Tuple as .. => as.getD i noE
  | .Compare _ _ as .. => as.getD i noE
  | _ => noE
def ceF : PySem.Expr → PySem.Expr
  | .Call (.Attribute e ..) .. => e
  | _ => noE
def ceL : PySem.Expr → PySem.Expr
  | .BinOp a .. => a
  | .UnaryOp _ a .. => a
  | .Compare a .. => a
  | _ => noE
def ceR : PySem.Expr → PySem.Expr
  | .BinOp _ _ b .. => b
  | _ => noE
def lcElt : PySem.Expr → PySem.Expr
  | .ListComp e _ _ _ => e
  | _ => noE
def lcSc : PySem.Expr → Scope
  | .ListComp _ _ sc _ => sc
  | _ => defScope (.Pass ⟨0, 0, 0, 0⟩)
/-- a comprehension's scope where it stands: what the def's cells hold is held there too -/
def rl (scope encl : Scope) : Scope :=
  { scope with names := scope.names.map fun (n, k) => if (k == .free && encl.kind == .function && encl.names.lookup n == some .cell) then (n, .cell) else (n, k) }
theorem pg_tup_at {X : Cx} {K : PySem.W.Frag} {es : List PySem.Expr} {k : Nat} {t : TGs} {n : Nat} {pos : Pos} (h : X.K = K) (hc : X.calm = true) (hp : PGs X es t)
    (hn : (assignEach es X.env).length = n) (hst : (assignEach es X.env).findIdx? (·.1) = none) : PG X (.Tuple es k pos) (gTup K n t) := by
  subst h
  exact pg_tup hc hp hn hst

theorem none_of {H H' : Hp} {p : Addr} (e : Same H H') (n : H' p = none) : H p = none := by
  cases h : H p with
  | none => rfl
  | some o => rw [e _ _ h] at n; cases n

/-! ### values in depth; _law_same -/
inductive Dt where
  | i (n : Int)
  | b (x : Bool)
  | s (x : Str)
  | n
  | l (xs : List Dt)
  | t (xs : List Dt)
/-- the value v is d, which has fewer than the given number of layers; all its lists and tuples stand at places in S -/
def DV (S : Addr → Prop) (H : Hp) : Nat → V → Dt → Prop
  | 0, _, _ => False
  | _ + 1, v, .i k => v = .int k
  | _ + 1, v, .b x => v = .bl x
  | _ + 1, v, .s x => v = .str x
  | _ + 1, v, .n => v = .non
  | m + 1, v, .l ds => ∃ a vs, v = .ref a ∧ S a ∧ H a = some (.lst vs) ∧ vs.length ≤ 100000 ∧ All2 (DV S H m) vs ds
  | m + 1, v, .t ds => ∃ a vs, v = .ref a ∧ S a ∧ H a = some (.tup vs) ∧ vs.length ≤ 100000 ∧ All2 (DV S H m) vs ds
def anyA : Addr → Prop := fun _ => True
theorem DV.keep {S S' : Addr → Prop} {H H' : Hp} (e : ∀ a o, S a → H a = some o → S' a ∧ H' a = some o) : ∀ {m : Nat} {v : V} {d : Dt}, DV S H m v d → DV S' H' m v d
  | 0, _, _, h => h.elim
  | _ + 1, _, .i _, h => h
  | _ + 1, _, .b _, h => h
  | _ + 1, _, .s _, h => h
  | _ + 1, _, .n, h => h
  | m + 1, _, .l ds, h => by
    obtain ⟨a, vs, h0, h1, h2, h3, h4⟩ := h
    exact ⟨a, vs, h0, (e _ _ h1 h2).1, (e _ _ h1 h2).2, h3, h4.mono fun _ _ r => r.keep e⟩
  | m + 1, _, .t ds, h => by
    obtain ⟨a, vs, h0, h1, h2, h3, h4⟩ := h
    exact ⟨a, vs, h0, (e _ _ h1 h2).1, (e _ _ h1 h2).2, h3, h4.mono fun _ _ r => r.keep e⟩
theorem DV.same {S : Addr → Prop} {H H' : Hp} (e : Same H H') {m : Nat} {v : V} {d : Dt} (h : DV S H m v d) : DV S H' m v d := h.keep fun a o s x => ⟨s, e a o x⟩
theorem DV.any {S : Addr → Prop} {H : Hp} {m : Nat} {v : V} {d : Dt} (h : DV S H m v d) : DV anyA H m v d := h.keep fun _ _ _ x => ⟨trivial, x⟩
theorem DV.but {b : Addr} {H H' : Hp} (e : But b H H') {m : Nat} {v : V} {d : Dt} (h : DV (· ≠ b) H m v d) : DV (· ≠ b) H' m v d := h.keep fun a o s x => ⟨s, e a o s x⟩
theorem DV.more {S : Addr → Prop} {H : Hp} : ∀ {m : Nat} {v : V} {d : Dt}, DV S H m v d → DV S H (m + 1) v d
  | 0, _, _, h => h.elim
  | _ + 1, _, .i _, h => h
  | _ + 1, _, .b _, h => h
  | _ + 1, _, .s _, h => h
  | _ + 1, _, .n, h => h
  | m + 1, _, .l ds, h => by
    obtain ⟨a, vs, h0, h1, h2, h3, h4⟩ := h
    exact ⟨a, vs, h0, h1, h2, h3, h4.mono fun _ _ r => r.more⟩
  | m + 1, _, .t ds, h => by
    obtain ⟨a, vs, h0, h1, h2, h3, h4⟩ := h
    exact ⟨a, vs, h0, h1, h2, h3, h4.mono fun _ _ r => r.more⟩
theorem DV.ints {S : Addr → Prop} {H : Hp} {m : Nat} : ∀ ns : List Int, All2 (DV S H (m + 1)) (ns.map V.int) (ns.map Dt.i)
  | [] => .nil
  | _ :: r => .cons rfl (DV.ints r)
theorem DV.lst {S : Addr → Prop} {H : Hp} {m : Nat} {a : Addr} {ns : List Int} (s : S a) (h : H a = some (.lst (ns.map V.int))) (l : ns.length ≤ 100000) : DV S H (m + 2) (.ref a) (.l (ns.map Dt.i)) :=
  ⟨a, _, rfl, s, h, by rw [List.length_map]; exact l, DV.ints ns⟩
theorem DV.tup {S : Addr → Prop} {H : Hp} {m : Nat} {a : Addr} {ns : List Int} (s : S a) (h : H a = some (.tup (ns.map V.int))) (l : ns.length ≤ 100000) : DV S H (m + 2) (.ref a) (.t (ns.map Dt.i)) :=
  ⟨a, _, rfl, s, h, by rw [List.length_map]; exact l, DV.ints ns⟩
def spSame (n : Nat) : Sp := fun vs H Q _ => ∃ (u v : V) (d : Dt), vs = [u, v] ∧ DV anyA H n u d ∧ DV anyA H n v d ∧ Q (.bl true) H
theorem ixs_at {X : Cx} {K : PySem.W.Frag} (h : X.K = K) : IxR X (rIx K) := by subst h; exact ix_seq

/-! ### jobs -/
def rateD (p : Int × Int) : Dt := .t [.i p.1, .i p.2]
def sampD (p : List Int × List Int) : Dt := .t [.l (p.1.map Dt.i), .l (p.2.map Dt.i)]
def isW (n : Int) : Prop := -2147483648 ≤ n ∧ n ≤ 2147483647
def Off (b D : Addr) : Addr → Prop := fun a => a ≠ b ∧ a ≠ D
theorem DV.ints_eq {S : Addr → Prop} {H : Hp} {m : Nat} : ∀ {vs : List V} {ns : List Int}, All2 (DV S H (m + 1)) vs (ns.map Dt.i) → vs = ns.map V.int
  | [], [], _ => rfl
  | _ :: _, n :: r, .cons h t => by
    have h : _ = V.int n := h
    rw [h, DV.ints_eq t]
    rfl
theorem DV.rate {S : Addr → Prop} {H : Hp} {m : Nat} {v : V} {p : Int × Int} (h : DV S H (m + 2) v (rateD p)) : ∃ t, v = .ref t ∧ S t ∧ H t = some (.tup [.int p.1, .int p.2]) := by
  obtain ⟨t, vs, h0, h1, h2, _, h4⟩ := h
  have e := DV.ints_eq (ns := [p.1, p.2]) h4
  subst e
  exact ⟨t, h0, h1, h2⟩
theorem DV.samp {S : Addr → Prop} {H : Hp} {m : Nat} {v : V} {p : List Int × List Int} (h : DV S H (m + 3) v (sampD p)) : ∃ t g w, v = .ref t ∧ S t ∧ S g ∧ S w ∧ H t = some (.tup [.ref g, .ref w]) ∧ H g = some (.lst (p.1.map V.int)) ∧ H w = some (.lst (p.2.map V.int)) ∧ p.1.length ≤ 100000 ∧ p.2.length ≤ 100000 := by
  obtain ⟨t, vs, h0, h1, h2, _, h4⟩ := h
  cases h4 with
  | cons a h4 =>
    cases h4 with
    | cons c h4 =>
      cases h4
      obtain ⟨g, us, rfl, g1, g2, g3, g4⟩ := a
      obtain ⟨w, ws, rfl, w1, w2, w3, w4⟩ := c
      have e := DV.ints_eq g4
      subst e
      have e := DV.ints_eq w4
      subst e
      rw [List.length_map] at g3 w3
      exact ⟨t, g, w, h0, h1, g1, w1, h2, g2, w2, g3, w3⟩
theorem samp_dv {S : Addr → Prop} {H : Hp} {m : Nat} {t g w : Addr} {p : List Int × List Int} (s1 : S t) (s2 : S g) (s3 : S w) (h1 : H t = some (.tup [.ref g, .ref w])) (h2 : H g = some (.lst (p.1.map V.int))) (h3 : H w = some (.lst (p.2.map V.int))) (l1 : p.1.length ≤ 100000) (l2 : p.2.length ≤ 100000) :
    DV S H (m + 3) (.ref t) (sampD p) := ⟨t, _, rfl, s1, h1, (by show 2 ≤ 100000; decide), .cons (DV.lst s2 h2 l1) (.cons (DV.lst s3 h3 l2) .nil)⟩
/-- one more item of a list that is being made -/
theorem DV.grow {b D : Addr} {H H1 : Hp} {vs : List V} {ds : List Dt} {v : V} {d : Dt} {m : Nat} (e : ∀ c o, Off b D c → H c = some o → H1 c = some o) (h : All2 (DV (Off b D) H m) vs ds) (hv : DV (Off b D) H1 m v d) (o : HO) : All2 (DV (Off b D) (upd H1 D o) m) (vs ++ [v]) (ds ++ [d]) := by
  have k : ∀ c x, Off b D c → H1 c = some x → Off b D c ∧ (upd H1 D o) c = some x := fun c x s h => ⟨s, by rw [upd_ne s.2]; exact h⟩
  exact (h.mono fun _ _ r => (r.keep fun c x s h => ⟨s, e c x s h⟩).keep k).snoc (hv.keep k)
structure JobOk (ni nt : Int) (seed batch factor point : Int) (rates : List (Int × Int)) (data : List (List Int × List Int)) : Prop where
  sd : isW seed
  b1 : 1 ≤ batch
  b3 : batch ≤ 3
  fa : isW factor
  p0 : 0 ≤ point
  p1 : point ≤ 31
  rl : rates.length ≤ 4
  ro : ∀ p ∈ rates, 0 ≤ p.1 ∧ p.1 ≤ 4294967295 ∧ isW p.2
  d1 : 1 ≤ data.length
  d5 : data.length ≤ 5
  dd : ∀ p ∈ data, (p.1.length : Int) = ni ∧ (p.2.length : Int) = nt ∧ (∀ x ∈ p.1, isW x) ∧ ∀ x ∈ p.2, isW x
/-- the law's list of a job -/
structure JobG (H : Hp) (b r : Addr) (rs : List Int) (jb RL DL n PL NL LL : Addr) (ni nt : Int) (pms : List (Int × Int × Str × Int)) (nds : List Nd) (ls : List Int) (seed batch factor point : Int) (rates : List (Int × Int)) (data : List (List Int × List Int)) : Prop where
  g : G H b r rs n PL NL LL ni nt pms nds ls
  nb : jb ≠ b
  jl : H jb = some (.lst [.ref n, .int seed, .int batch, .int factor, .int point, .ref RL, .ref DL])
  rt : DV (· ≠ b) H 3 (.ref RL) (.l (rates.map rateD))
  dt : DV (· ≠ b) H 4 (.ref DL) (.l (data.map sampD))
section
variable {H H' : Hp} {b r : Addr} {rs : List Int} {jb RL DL n PL NL LL : Addr} {ni nt : Int} {pms : List (Int × Int × Str × Int)} {nds : List Nd} {ls : List Int} {seed batch factor point : Int} {rates : List (Int × Int)} {data : List (List Int × List Int)}
theorem JobG.but (j : JobG H b r rs jb RL DL n PL NL LL ni nt pms nds ls seed batch factor point rates data) (B : Box H' b r rs) (e : But b H H') : JobG H' b r rs jb RL DL n PL NL LL ni nt pms nds ls seed batch factor point rates data :=
  ⟨j.g.but B e, j.nb, e _ _ j.nb j.jl, j.rt.but e, j.dt.but e⟩
theorem JobG.same (j : JobG H b r rs jb RL DL n PL NL LL ni nt pms nds ls seed batch factor point rates data) (e : Same H H') : JobG H' b r rs jb RL DL n PL NL LL ni nt pms nds ls seed batch factor point rates data :=
  ⟨j.g.same e, j.nb, e _ _ j.jl, j.rt.same e, j.dt.same e⟩
end
def spSample : Sp := fun vs H Q _ => ∃ (b r n : Addr) (rs : List Int) (ni nt : Int) (x y z : V), vs = [.ref b, .ref n] ∧ Box H b r rs ∧ n ≠ b ∧ H n = some (.lst [.int ni, .int nt, x, y, z]) ∧ 0 ≤ ni ∧ ni ≤ 100 ∧ 0 ≤ nt ∧ nt ≤ 100 ∧
  ∀ (v : V) (p : List Int × List Int) (H' : Hp), Box H' b r rs → But b H H' → DV (fun a => H a = none) H' 3 v (sampD p) → (p.1.length : Int) = ni → (p.2.length : Int) = nt → (∀ x ∈ p.1, isW x) → (∀ x ∈ p.2, isW x) → Q v H'
def spJob (K : PySem.W.Frag) : Sp := fun vs H Q _ => ∃ (b r : Addr) (rs : List Int) (ks : Addr) (kl : List Str) (most : Int), vs = [.ref b, .ref ks, .int most] ∧ Box H b r rs ∧ SqL K H ks (kl.map V.str) ∧ (∀ k ∈ kl, k ∈ allKinds) ∧ 0 < kl.length ∧ 1 ≤ most ∧ most ≤ 100 ∧
  ∀ (jb RL DL n PL NL LL : Addr) (ni nt : Int) (pms : List (Int × Int × Str × Int)) (nds : List Nd) (ls : List Int) (seed batch factor point : Int) (rates : List (Int × Int)) (data : List (List Int × List Int)) (H' : Hp),
    JobG H' b r rs jb RL DL n PL NL LL ni nt pms nds ls seed batch factor point rates data → Built ni nt pms nds ls → (∃ l0, ls = l0 ++ [1]) → (nds.length : Int) ≤ most + 1 → JobOk ni nt seed batch factor point rates data → But b H H' → Q (.ref jb) H'
/-- a Job -/
structure JobO (K : PySem.W.Frag) (cs : Cs) (H : Hp) (q : Addr) (ni nt : Int) (pms : List (Int × Int × Str × Int)) (nds : List Nd) (ls : List Int) (seed batch factor point : Int) (rates : List (Int × Int)) (data : List (List Int × List Int)) : Prop where
  ex : ∃ dx fs x RL DL, H q = some (.ins cs.Job dx fs) ∧ fs.lookup ("net" : Str) = some (.ref x) ∧ fs.lookup ("seed" : Str) = some (.int seed) ∧ fs.lookup ("batch" : Str) = some (.int batch) ∧ fs.lookup ("factor" : Str) = some (.int factor) ∧ fs.lookup ("point" : Str) = some (.int point) ∧
    fs.lookup ("rates" : Str) = some (.ref RL) ∧ fs.lookup ("data" : Str) = some (.ref DL) ∧ NetF K cs H x ni nt pms nds ∧ NetL cs H x ls ∧ DV anyA H 3 (.ref RL) (.l (rates.map rateD)) ∧ DV anyA H 4 (.ref DL) (.l (data.map sampD))
theorem JobO.same {K : PySem.W.Frag} {cs : Cs} {H H' : Hp} {q : Addr} {ni nt : Int} {pms : List (Int × Int × Str × Int)} {nds : List Nd} {ls : List Int} {seed batch factor point : Int} {rates : List (Int × Int)} {data : List (List Int × List Int)}
    (j : JobO K cs H q ni nt pms nds ls seed batch factor point rates data) (e : Same H H') : JobO K cs H' q ni nt pms nds ls seed batch factor point rates data := by
  obtain ⟨dx, fs, x, RL, DL, h1, h2, h3, h4, h5, h6, h7, h8, h9, h10, h11, h12⟩ := j.ex
  exact ⟨dx, fs, x, RL, DL, e _ _ h1, h2, h3, h4, h5, h6, h7, h8, h9.same e, h10.same e, h11.same e, h12.same e⟩
def spJobInit (cs : Cs) : Sp := fun vs H Q _ => ∃ (x dx RL DL : Addr) (net : V) (seed batch factor point : Int) (rates : List (Int × Int)) (data : List (List Int × List Int)), vs = [.ref x, net, .int seed, .int batch, .int factor, .int point, .ref RL, .ref DL] ∧ H x = some (.ins cs.Job dx []) ∧
  DV (· ≠ x) H 3 (.ref RL) (.l (rates.map rateD)) ∧ DV (· ≠ x) H 4 (.ref DL) (.l (data.map sampD)) ∧
  ∀ (H' : Hp) (fs : List (Str × V)) (R' D' : Addr), But x H H' → H' x = some (.ins cs.Job dx fs) → fs.lookup ("net" : Str) = some net → fs.lookup ("seed" : Str) = some (.int seed) → fs.lookup ("batch" : Str) = some (.int batch) → fs.lookup ("factor" : Str) = some (.int factor) → fs.lookup ("point" : Str) = some (.int point) →
    fs.lookup ("rates" : Str) = some (.ref R') → fs.lookup ("data" : Str) = some (.ref D') → DV anyA H' 3 (.ref R') (.l (rates.map rateD)) → DV anyA H' 4 (.ref D') (.l (data.map sampD)) → Q .non H'
def spJobObj (K : PySem.W.Frag) (cs : Cs) : Sp := fun vs H Q _ => ∃ (b r : Addr) (rs : List Int) (jb RL DL n PL NL LL : Addr) (ni nt : Int) (pms : List (Int × Int × Str × Int)) (nds : List Nd) (ls : List Int) (seed batch factor point : Int) (rates : List (Int × Int)) (data : List (List Int × List Int)), vs = [.ref jb] ∧
  JobG H b r rs jb RL DL n PL NL LL ni nt pms nds ls seed batch factor point rates data ∧ NetOk ni nt (sides pms) nds ∧ pms.length ≤ 1000 ∧ lensFrom ni nt (sides pms) [] nds = ls ∧
  ∀ (q : Addr) (H' : Hp), Same H H' → JobO K cs H' q ni nt pms nds ls seed batch factor point rates data → Q (.ref q) H'
theorem Built.ok {ni nt : Int} {pms : List (Int × Int × Str × Int)} {nds : List Nd} {ls : List Int} (u : Built ni nt pms nds ls) (few : nds.length ≤ 1000) : NetOk ni nt (sides pms) nds := by
  refine ⟨fun rc h => ?_, fun l hl => ?_, u.tam, few⟩
  · unfold sides at h
    obtain ⟨m, hm, rfl⟩ := List.mem_map.mp h
    obtain ⟨r1, r2, c1, c2, _⟩ := u.pok m hm
    exact ⟨by show 0 ≤ m.1; omega, by show m.1 < 1000; omega, by show 0 ≤ m.2.1; omega, by show m.2.1 < 1000; omega⟩
  · rw [u.len] at hl
    have := u.bnd l hl
    exact ⟨by omega, cap_small (by omega) (by omega)⟩
theorem fresh_but {b c : Addr} {o : HO} {H H1 : Hp} (e : But b H H1) (hb : H1 b = some o) (hc : H1 c = none) : H c = none := by
  cases z : H c with
  | none => rfl
  | some u =>
    by_cases h : c = b
    · rw [h, hb] at hc; cases hc
    · rw [e _ _ h z] at hc; cases hc
theorem Box.lst {H : Hp} {b r : Addr} {rs : List Int} (B : Box H b r rs) : ∃ xs, H b = some (.lst xs) := by
  obtain ⟨z, _, h⟩ := B.ex
  exact ⟨_, h⟩
theorem all_snoc {xs : List Int} {v : Int} (h : ∀ x ∈ xs, isW x) (hv : isW v) : ∀ x ∈ xs ++ [v], isW x := fun x hx => by
  rcases List.mem_append.mp hx with z | z
  · exact h x z
  · rw [List.mem_singleton.mp z]; exact hv

section
variable {P : Program} {w : World} {K : PySem.W.Frag} {mg : Str → Option Value} {cs : Cs} {base : Heap} {f : Addr} {fd : FuncData}
theorem ok__law_sample (F : Fun K "_law_sample" "_law_sample" s__law_sample f fd) (T : Txt K mg cs w) (d__law_word : Def P w K mg base 2 "_law_word" ["box"] (spWord)) :
    FnOk P w K mg base CX0 3 f fd ["box", "net"] (spSample) := by
  obtain ⟨f0, fd0, G__law_word, b__law_word, g__law_word, k__law_word⟩ := d__law_word.ex
  refine F.ok sc__law_sample (fun vs H Q E h => ?_) (fun cdv A outer s H vs Q E hr h => ?_)
  · obtain ⟨b, r, n, rs, ni, nt, x, y, z, rfl, B, nb, hn, i0, i1, t0, t1, q⟩ := h
    rfl
  obtain ⟨b, r, n, rs, ni, nt, x, y, z, rfl, B, nb, hn, i0, i1, t0, t1, q⟩ := h
  have hu := hr.units
  refine ⟨_, pss_one (ps_ret (pe_tup (pa_cons (pe_lc (own := [("j", 2)]) (g := gName 2) (tt := tYes)  rfl sc__law_sample.nd (pi_range1 rfl T.z_range (pa_cons (pe_ix (ixl_at (K := K) rfl) (pv 1) pe_int (fun _ _ => rfl)) pa_nil)) (blkOk_by (N := ["box", "net", "j"]) (sc := defScope s__law_sample) (by decide +kernel)) (fun _ _ _ _ _ => (pg_name (i := 2) sc__law_sample.nd rfl (.inl rfl))) (fun _ _ _ _ _ => pts_nil) (fun _ _ _ _ _ => (pe_call G__law_word hr rfl g__law_word k__law_word b__law_word .nil pass0 (pa_cons (pv 0) pa_nil)))) (pa_cons (pe_lc (own := [("j", 2)]) (g := gName 2) (tt := tYes)  rfl sc__law_sample.nd (pi_range1 rfl T.z_range (pa_cons (pe_ix (ixl_at (K := K) rfl) (pv 1) pe_int (fun _ _ => rfl)) pa_nil)) (blkOk_by (N := ["box", "net", "j"]) (sc := defScope s__law_sample) (by decide +kernel)) (fun _ _ _ _ _ => (pg_name (i := 2) sc__law_sample.nd rfl (.inl rfl))) (fun _ _ _ _ _ => pts_nil) (fun _ _ _ _ _ => (pe_call G__law_word hr rfl g__law_word k__law_word b__law_word .nil pass0 (pa_cons (pv 0) pa_nil)))) pa_nil)))), ?_⟩
  obtain ⟨bx, hb⟩ := B.lst
  refine ⟨_, rfl, n, _, _, _, rfl, rfl, SqL.of hn, rfl, ni, rfl, by omega, by omega, fun D1 nD1 => ?_⟩
  have nb1 : D1 ≠ b := (ne_of_none hb nD1).symm
  refine lc_range (fun (t : Nat) H' => ∃ xs : List Int, Box H' b r rs ∧ But b H H' ∧ H' D1 = some (.lst (xs.map V.int)) ∧ xs.length = t ∧ ∀ x ∈ xs, isW x)
    ⟨[], B.same (same_new nD1 _), .of (same_new nD1 _), upd_same, rfl, fun x h => by cases h⟩ (fun t H1 ht hP => ?_) (fun H1 hP => ?_)
  · obtain ⟨xs, B1, e1, h1, l1, w1⟩ := hP
    refine ⟨rfl, _, rfl, b, r, rs, rfl, B1, fun v H2 v0 v1 B2 e2 => ?_⟩
    exact ⟨_, e2 _ _ nb1 h1, smaller (by rw [List.length_map]; omega), xs ++ [v], B2.mut B nD1, (e1.trans e2).mut nD1, map_more _ _, by rw [List.length_append, l1]; rfl, all_snoc w1 ⟨v0, v1⟩⟩
  obtain ⟨xs, B1, e1, h1, l1, w1⟩ := hP
  obtain ⟨bx1, hb1⟩ := B1.lst
  refine ⟨_, rfl, n, _, _, _, rfl, rfl, SqL.of (e1 _ _ nb hn), rfl, nt, rfl, by omega, by omega, fun D2 nD2 => ?_⟩
  have nb2 : D2 ≠ b := (ne_of_none hb1 nD2).symm
  have n12 : D1 ≠ D2 := ne_of_none h1 nD2
  refine lc_range (fun (t : Nat) H' => ∃ ys : List Int, Box H' b r rs ∧ But b H1 H' ∧ H' D2 = some (.lst (ys.map V.int)) ∧ ys.length = t ∧ ∀ x ∈ ys, isW x)
    ⟨[], B1.same (same_new nD2 _), .of (same_new nD2 _), upd_same, rfl, fun x h => by cases h⟩ (fun t H2 ht hP => ?_) (fun H2 hP => ?_)
  · obtain ⟨ys, B2, e2, h2, l2, w2⟩ := hP
    refine ⟨rfl, _, rfl, b, r, rs, rfl, B2, fun v H3 v0 v1 B3 e3 => ?_⟩
    exact ⟨_, e3 _ _ nb2 h2, smaller (by rw [List.length_map]; omega), ys ++ [v], B3.mut B1 nD2, (e2.trans e3).mut nD2, map_more _ _, by rw [List.length_append, l2]; rfl, all_snoc w2 ⟨v0, v1⟩⟩
  obtain ⟨ys, B2, e2, h2, l2, w2⟩ := hP
  obtain ⟨bx2, hb2⟩ := B2.lst
  refine ⟨by show 2 ≤ sizeLine; decide, fun t nt => ?_⟩
  have s3 := same_new nt (.tup [.ref D1, .ref D2])
  refine q (.ref t) (xs, ys) _ (B2.same s3) ((e1.trans e2).trans (.of s3)) (samp_dv (fresh_but (e1.trans e2) hb2 nt) nD1 (fresh_but e1 hb1 nD2) upd_same (s3 _ _ (e2 _ _ nb1 h1)) (s3 _ _ h2) (by show xs.length ≤ _; omega) (by show ys.length ≤ _; omega)) (by show (xs.length : Int) = _; omega) (by show (ys.length : Int) = _; omega) w1 w2
theorem ok__law_job (F : Fun K "_law_job" "_law_job" s__law_job f fd) (T : Txt K mg cs w) (d__law_net : Def P w K mg base 6 "_law_net" ["box", "kinds", "most"] (spNet K)) (d__law_draw : Def P w K mg base 1 "_law_draw" ["box", "many"] (spDraw)) (d__law_word : Def P w K mg base 2 "_law_word" ["box"] (spWord)) (d__law_sample : Def P w K mg base 3 "_law_sample" ["box", "net"] (spSample)) :
    FnOk P w K mg base CX0 7 f fd ["box", "kinds", "most"] (spJob K) := by
  obtain ⟨f0, fd0, G__law_net, b__law_net, g__law_net, k__law_net⟩ := d__law_net.ex
  obtain ⟨f1, fd1, G__law_draw, b__law_draw, g__law_draw, k__law_draw⟩ := d__law_draw.ex
  obtain ⟨f2, fd2, G__law_word, b__law_word, g__law_word, k__law_word⟩ := d__law_word.ex
  obtain ⟨f3, fd3, G__law_sample, b__law_sample, g__law_sample, k__law_sample⟩ := d__law_sample.ex
  refine F.ok sc__law_job (fun vs H Q E h => ?_) (fun cdv A outer s H vs Q E hr h => ?_)
  · obtain ⟨b, r, rs, ks, kl, most, rfl, B, hks, hkl, hkn, m1, m2, q⟩ := h
    rfl
  obtain ⟨b, r, rs, ks, kl, most, rfl, B, hks, hkl, hkn, m1, m2, q⟩ := h
  have hu := hr.units
  refine ⟨_, pss_cons (ps_set (i := 3) sc__law_job.nd rfl (.inr rfl) (pe_call G__law_net hr rfl g__law_net k__law_net b__law_net .nil pass0 (pa_cons (pv 0) (pa_cons (pv 1) (pa_cons (pv 2) pa_nil)))))
 (pss_cons (ps_set (i := 4) sc__law_job.nd rfl (.inl rfl) (pe_lst pa_nil))
 (pss_cons (ps_for PassesOwn.never rfl (pi_range1 rfl T.z_range (pa_cons (pe_call G__law_draw (hr.mono (by decide)) rfl g__law_draw k__law_draw b__law_draw .nil pass0 (pa_cons (pv 0) (pa_cons pe_int pa_nil))) pa_nil)) (pg_name (i := 5) sc__law_job.nd rfl (.inl rfl)) (pss_one (ps_expr (pe_bm PySem.F.plainAttrs_list PySem.F.slot_list_append PySem.F.type_list_append mt_append (pv 4) (pa_cons (pe_tup (pa_cons (pe_ix (ixl_at (K := K) rfl) (pe_lst (pa_cons pe_int (pa_cons pe_int (pa_cons pe_int (pa_cons pe_int (pa_cons pe_int pa_nil)))))) (pe_call G__law_draw (hr.mono (by decide)) rfl g__law_draw k__law_draw b__law_draw .nil pass0 (pa_cons (pv 0) (pa_cons pe_int pa_nil))) (fun _ _ => rfl)) (pa_cons (pe_call G__law_word (hr.mono (by decide)) rfl g__law_word k__law_word b__law_word .nil pass0 (pa_cons (pv 0) pa_nil)) pa_nil))) pa_nil)))))
 (pss_cons (ps_set (i := 6) sc__law_job.nd rfl (.inl rfl) (pe_ix (ixl_at (K := K) rfl) (pe_lst (pa_cons pe_int (pa_cons pe_int (pa_cons pe_int (pa_cons pe_int (pa_cons pe_int pa_nil)))))) (pe_call G__law_draw (hr.mono (by decide)) rfl g__law_draw k__law_draw b__law_draw .nil pass0 (pa_cons (pv 0) (pa_cons pe_int pa_nil))) (fun _ _ => rfl)))
 (pss_cons (ps_setLc (i := 7) (own := [("k", 5)]) (g := gName 5) (tt := tYes)  rfl sc__law_job.nd rfl rfl (sw_true rfl rfl rfl (by decide +kernel)) (pi_range1 rfl T.z_range (pa_cons (pe_op op_add pe_int (pe_call G__law_draw (hr.mono (by decide)) rfl g__law_draw k__law_draw b__law_draw .nil pass0 (pa_cons (pv 0) (pa_cons pe_int pa_nil)))) pa_nil)) (blkOk_by (N := ["box", "kinds", "most", "net", "rates", "k", "point", "data"]) (sc := defScope s__law_job) (by decide +kernel)) (fun _ _ _ _ _ => (pg_name (i := 5) sc__law_job.nd rfl (.inl rfl))) (fun _ _ _ _ _ => pts_nil) (fun _ _ _ _ _ => (pe_call G__law_sample (hr.mono (by decide)) rfl g__law_sample k__law_sample b__law_sample .nil pass0 (pa_cons (pv 0) (pa_cons (pv 3) pa_nil)))))
 (pss_one (ps_ret (pe_lst (pa_cons (pv 3) (pa_cons (pe_call G__law_word (hr.mono (by decide)) rfl g__law_word k__law_word b__law_word .nil pass0 (pa_cons (pv 0) pa_nil)) (pa_cons (pe_op op_add pe_int (pe_call G__law_draw (hr.mono (by decide)) rfl g__law_draw k__law_draw b__law_draw .nil pass0 (pa_cons (pv 0) (pa_cons pe_int pa_nil)))) (pa_cons (pe_call G__law_word (hr.mono (by decide)) rfl g__law_word k__law_word b__law_word .nil pass0 (pa_cons (pv 0) pa_nil)) (pa_cons (pv 6) (pa_cons (pv 4) (pa_cons (pv 7) pa_nil)))))))))))))), ?_⟩
  refine ⟨_, rfl, _, rfl, _, rfl, b, r, rs, ks, kl, most, rfl, B, hks, hkl, hkn, m1, m2, fun n PL NL LL ni nt pms nds ls H1 g u hlast hlen x1 nn nP nN nL => ?_⟩
  have e01 : But b H H1 := fun c o nc h => x1 c o (fun z => nc (List.mem_singleton.mp z)) h
  refine ⟨Nat.zero_le _, fun RL nR => ?_⟩
  obtain ⟨bx, hb⟩ := g.box.lst
  have nbR : RL ≠ b := (ne_of_none hb nR).symm
  have s2 := same_new nR (.lst [])
  refine ⟨_, rfl, b, r, rs, 5, rfl, g.box.same s2, by decide, fun m Hm m0 m5 Bm em => ?_⟩
  refine ⟨m, rfl, by omega, by omega, ?_⟩
  refine for_range (fun (t : Nat) σ H' => ∃ (y5 : Option V) (rates : List (Int × Int)) (vs : List V), σ = [some (.ref b), some (.ref ks), some (.int most), some (.ref n), some (.ref RL), y5, none, none] ∧ Box H' b r rs ∧ But b H1 H' ∧ H' RL = some (.lst vs) ∧
      All2 (DV (Off b RL) H' 2) vs (rates.map rateD) ∧ rates.length ≤ t ∧ ∀ p ∈ rates, 0 ≤ p.1 ∧ p.1 ≤ 4294967295 ∧ isW p.2)
    ⟨none, [], [], rfl, Bm, (But.of s2).trans em, em _ _ nbR upd_same, .nil, Nat.zero_le _, fun p h => by cases h⟩ (fun t σ H' ht hP => ?_) (fun σ H' hP => ?_)
  · obtain ⟨y5, rates, vs, rfl, B1, e1, hR, av, lr, okr⟩ := hP
    have lv : vs.length = rates.length := by rw [av.length, List.length_map]
    refine ⟨_, rfl, .inl ⟨rfl, _, .inl (.inl hR)⟩, by show 5 ≤ sizeLine; decide, fun l nl => ?_⟩
    have s3 := same_new nl (.lst [.int 0, .int 1, .int 2, .int 7, .int 4294967295])
    obtain ⟨bx1, hb1⟩ := B1.lst
    have nbl : l ≠ b := (ne_of_none hb1 nl).symm
    refine ⟨_, rfl, b, r, rs, 5, rfl, B1.same s3, by decide, fun i Hi i0 i5 Bi ei => ?_⟩
    have hi : inR i ([0, 1, 2, 7, 4294967295] : List Int).length := ⟨i0, by show i < 5; omega⟩
    have hm := lget_mem hi
    have hs : 0 ≤ lget [0, 1, 2, 7, 4294967295] i ∧ lget [0, 1, 2, 7, 4294967295] i ≤ 4294967295 := by
      generalize lget [0, 1, 2, 7, 4294967295] i = z at *
      simp at hm
      omega
    refine ⟨l, _, _, _, rfl, rfl, SqL.of (ei _ _ nbl upd_same), at_ints hi, ?_⟩
    generalize lget [0, 1, 2, 7, 4294967295] i = st at *
    refine ⟨_, rfl, b, r, rs, rfl, Bi, fun v Hv v0 v1 Bv ev => ?_⟩
    refine ⟨by show 2 ≤ sizeLine; decide, fun tp ntp => ?_⟩
    obtain ⟨bx2, hb2⟩ := Bv.lst
    have s4 := same_new ntp (.tup [.int st, .int v])
    have eo : But b H' (upd Hv tp (.tup [.int st, .int v])) := (((But.of s3).trans ei).trans ev).trans (.of s4)
    have hR4 := eo _ _ nbR hR
    refine ⟨RL, vs, _, rfl, rfl, hR4, smaller (by omega), ?_⟩
    have ntR : tp ≠ RL := fun z => by
      have w := (((But.of s3).trans ei).trans ev) _ _ nbR hR
      rw [← z, ntp] at w
      cases w
    refine ⟨_, rates ++ [(st, v)], vs ++ [.ref tp], rfl, ?_, (e1.trans eo).mut nR, upd_same, ?_, by rw [List.length_append, List.length_singleton]; omega, fun p hp => ?_⟩
    · exact (Bv.same s4).mut g.box nR
    · rw [List.map_append]
      have hv : DV (Off b RL) (upd Hv tp (.tup [.int st, .int v])) 2 (.ref tp) (rateD (st, v)) := ⟨tp, _, rfl, ⟨(ne_of_none hb2 ntp).symm, ntR⟩, upd_same, by show 2 ≤ 100000; decide, .cons rfl (.cons rfl .nil)⟩
      exact DV.grow (fun c o s h => eo c o s.1 h) av hv _
    · rcases List.mem_append.mp hp with z | z
      · exact okr p z
      · rw [List.mem_singleton.mp z]; exact ⟨hs.1, hs.2, v0, v1⟩
  obtain ⟨y5, rates, vs, rfl, B1, e1, hR, av, lr, okr⟩ := hP
  have lv : vs.length = rates.length := by rw [av.length, List.length_map]
  have dR : DV (· ≠ b) H' 3 (.ref RL) (.l (rates.map rateD)) := ⟨RL, vs, rfl, nbR, hR, by omega, av.mono fun _ _ w => w.keep fun a o s h => ⟨s.1, h⟩⟩
  -- point
  refine ⟨by show 5 ≤ sizeLine; decide, fun l nl => ?_⟩
  have s3 := same_new nl (.lst [.int 0, .int 0, .int 4, .int 16, .int 31])
  obtain ⟨bx1, hb1⟩ := B1.lst
  have nbl : l ≠ b := (ne_of_none hb1 nl).symm
  refine ⟨_, rfl, b, r, rs, 5, rfl, B1.same s3, by decide, fun i Hi i0 i5 Bi ei => ?_⟩
  have hi : inR i ([0, 0, 4, 16, 31] : List Int).length := ⟨i0, by show i < 5; omega⟩
  have hm := lget_mem hi
  have hs : 0 ≤ lget [0, 0, 4, 16, 31] i ∧ lget [0, 0, 4, 16, 31] i ≤ 31 := by
    generalize lget [0, 0, 4, 16, 31] i = z at *
    simp at hm
    omega
  refine ⟨l, _, _, _, rfl, rfl, SqL.of (ei _ _ nbl upd_same), at_ints hi, ?_⟩
  generalize lget [0, 0, 4, 16, 31] i = point at *
  have dRi := (dR.same s3).but ei
  have e1i := e1.trans ((But.of s3).trans ei)
  -- data
  refine ⟨_, rfl, b, r, rs, 5, rfl, Bi, by decide, fun d Hd d0 d5 Bd ed => ?_⟩
  have dRd := dRi.but ed
  have e1d := e1i.trans ed
  refine ⟨_, _, rfl, rfl, 1 + d, rfl, by omega, by omega, fun D nD => ?_⟩
  obtain ⟨bxd, hbd⟩ := Bd.lst
  have nbD : D ≠ b := (ne_of_none hbd nD).symm
  have gn := (g.but Bd e1d).net
  have nnb : n ≠ b := g.dis.bn.symm
  refine lc_range (fun (t : Nat) H2 => ∃ (data : List (List Int × List Int)) (us : List V), Box H2 b r rs ∧ But b Hd H2 ∧ H2 D = some (.lst us) ∧ All2 (DV (Off b D) H2 3) us (data.map sampD) ∧ data.length = t ∧
      ∀ p ∈ data, (p.1.length : Int) = ni ∧ (p.2.length : Int) = nt ∧ (∀ x ∈ p.1, isW x) ∧ ∀ x ∈ p.2, isW x)
    ⟨[], [], Bd.same (same_new nD _), .of (same_new nD _), upd_same, .nil, rfl, fun p h => by cases h⟩ (fun t H2 ht hP => ?_) (fun H2 hP => ?_)
  · obtain ⟨data, us, B2, e2, hD, au, ld, okd⟩ := hP
    have lu : us.length = data.length := by rw [au.length, List.length_map]
    have u1 := u.ni1
    have u2 := u.ni3
    have u3 := u.nt1
    have u4 := u.nt2
    obtain ⟨bx2, hb2⟩ := B2.lst
    refine ⟨rfl, _, rfl, _, rfl, b, r, n, rs, ni, nt, _, _, _, rfl, B2, nnb, e2 _ _ nnb gn, by omega, by omega, by omega, by omega, fun v p H5 B5 e5 dv l1 l2 w1 w2 => ?_⟩
    refine ⟨us, e5 _ _ nbD hD, smaller (by omega), data ++ [p], us ++ [v], B5.mut Bd nD, (e2.trans e5).mut nD, upd_same, ?_, by rw [List.length_append, ld]; rfl, fun p' hp => ?_⟩
    · rw [List.map_append]
      refine DV.grow (fun c o s h => e5 c o s.1 h) au (dv.keep fun a o s h => ⟨⟨fun z => ?_, fun z => ?_⟩, h⟩) _
      · rw [z, hb2] at s; cases s
      · rw [z, hD] at s; cases s
    · rcases List.mem_append.mp hp with z | z
      · exact okd p' z
      · rw [List.mem_singleton.mp z]; exact ⟨l1, l2, w1, w2⟩
  obtain ⟨data, us, B2, e2, hD, au, ld, okd⟩ := hP
  have lu : us.length = data.length := by rw [au.length, List.length_map]
  have dD : DV (· ≠ b) H2 4 (.ref D) (.l (data.map sampD)) := ⟨D, us, rfl, nbD, hD, by omega, au.mono fun _ _ w => w.keep fun a o s h => ⟨s.1, h⟩⟩
  have dR2 := dRd.but e2
  have e12 := e1d.trans e2
  -- the list
  refine ⟨_, rfl, _, rfl, b, r, rs, rfl, B2, fun sd H3 sd0 sd1 B3 e3 => ?_⟩
  refine ⟨_, rfl, b, r, rs, 3, rfl, B3, by decide, fun bt H4 bt0 bt1 B4 e4 => ?_⟩
  refine ⟨_, _, rfl, rfl, _, rfl, b, r, rs, rfl, B4, fun fa H5 fa0 fa1 B5 e5 => ?_⟩
  refine ⟨_, rfl, _, rfl, _, rfl, by show 7 ≤ sizeLine; decide, fun jb nj => ?_⟩
  have e25 := (e3.trans e4).trans e5
  obtain ⟨bx5, hb5⟩ := B5.lst
  have s6 := same_new nj (.lst [.ref n, .int sd, .int (1 + bt), .int fa, .int point, .ref RL, .ref D])
  refine q jb RL D n PL NL LL ni nt pms nds ls sd (1 + bt) fa point rates data _ ⟨(g.but B5 (e12.trans e25)).same s6, (ne_of_none hb5 nj).symm, upd_same, (dR2.but e25).same s6, (dD.but e25).same s6⟩ u hlast hlen ?_ ((e01.trans (e12.trans e25)).trans (.of s6))
  exact ⟨⟨sd0, sd1⟩, by omega, by omega, ⟨fa0, fa1⟩, hs.1, hs.2, by omega, okr, by omega, by omega, okd⟩
theorem ok_Job___init__ (F : Fun K "__init__" "Job.__init__" s_Job___init__ f fd) (T : Txt K mg cs w)  :
    FnOk P w K mg base CX0 1 f fd ["self", "net", "seed", "batch", "factor", "point", "rates", "data"] (spJobInit cs) := by
  refine F.ok sc_Job___init__ (fun vs H Q E h => ?_) (fun cdv A outer s H vs Q E hr h => ?_)
  · obtain ⟨x, dx, RL, DL, net, seed, batch, factor, point, rates, data, rfl, hx, dr, dd, q⟩ := h
    rfl
  obtain ⟨x, dx, RL, DL, net, seed, batch, factor, point, rates, data, rfl, hx, dr, dd, q⟩ := h
  have hu := hr.units
  refine ⟨_, pss_cons (ps_fld (pv 0) (pv 1) rfl)
 (pss_cons (ps_fld (pv 0) (pv 2) rfl)
 (pss_cons (ps_fld (pv 0) (pv 3) rfl)
 (pss_cons (ps_fld (pv 0) (pv 4) rfl)
 (pss_cons (ps_fld (pv 0) (pv 5) rfl)
 (pss_cons (ps_fld (pv 0) (pe_callTy (list_at (K := K) rfl) (by rfl) T.z_list PyProof.Rows.boot_list (pa_cons (pv 6) pa_nil)) rfl)
 (pss_one (ps_fld (pv 0) (pe_lc (own := [("given", 8), ("wanted", 9)]) (g := gTup K 2 (gCons (gName 8) (gCons (gName 9) gNil))) (tt := tYes)  rfl sc_Job___init__.nd (pi_list (pv 7)) (blkOk_by (N := ["self", "net", "seed", "batch", "factor", "point", "rates", "data", "given", "wanted"]) (sc := defScope s_Job___init__) (by decide +kernel)) (fun _ _ _ _ _ => (pg_tup_at (K := K) (n := 2) rfl rfl (pgs_cons (pg_name (i := 8) sc_Job___init__.nd rfl (.inl rfl)) (pgs_cons (pg_name (i := 9) sc_Job___init__.nd rfl (.inl rfl)) pgs_nil)) rfl rfl)) (fun _ _ _ _ _ => pts_nil) (fun _ _ _ _ _ => (pe_tup (pa_cons (pe_callTy (list_at (K := K) rfl) (by rfl) T.z_list PyProof.Rows.boot_list (pa_cons (pv 8) pa_nil)) (pa_cons (pe_callTy (list_at (K := K) rfl) (by rfl) T.z_list PyProof.Rows.boot_list (pa_cons (pv 9) pa_nil)) pa_nil))))) rfl))))))), ?_⟩
  refine ⟨_, rfl, _, rfl, x, _, dx, [], rfl, hx, T.C_Job, T.na_Job_net, by decide, ?_⟩
  refine ⟨_, rfl, _, rfl, x, _, dx, _, rfl, upd_same, T.C_Job, T.na_Job_seed, put_lt (put_le put_no), ?_⟩
  refine ⟨_, rfl, _, rfl, x, _, dx, _, rfl, upd_same, T.C_Job, T.na_Job_batch, put_lt (put_le (put_le put_no)), ?_⟩
  refine ⟨_, rfl, _, rfl, x, _, dx, _, rfl, upd_same, T.C_Job, T.na_Job_factor, put_lt (put_le (put_le (put_le put_no))), ?_⟩
  refine ⟨_, rfl, _, rfl, x, _, dx, _, rfl, upd_same, T.C_Job, T.na_Job_point, put_lt (put_le (put_le (put_le (put_le put_no)))), ?_⟩
  generalize ef : putF "point" (.int point) (putF "factor" (.int factor) (putF "batch" (.int batch) (putF "seed" (.int seed) (putF "net" net [])))) = fs5 at *
  have l5 : fs5.length ≤ 5 := by rw [← ef]; exact put_le (put_le (put_le (put_le (put_le put_no))))
  have k1 : fs5.lookup ("net" : Str) = some net := by rw [← ef, lookup_putF, if_neg (by decide), lookup_putF, if_neg (by decide), lookup_putF, if_neg (by decide), lookup_putF, if_neg (by decide), lookup_putF, if_pos rfl]
  have k2 : fs5.lookup ("seed" : Str) = some (.int seed) := by rw [← ef, lookup_putF, if_neg (by decide), lookup_putF, if_neg (by decide), lookup_putF, if_neg (by decide), lookup_putF, if_pos rfl]
  have k3 : fs5.lookup ("batch" : Str) = some (.int batch) := by rw [← ef, lookup_putF, if_neg (by decide), lookup_putF, if_neg (by decide), lookup_putF, if_pos rfl]
  have k4 : fs5.lookup ("factor" : Str) = some (.int factor) := by rw [← ef, lookup_putF, if_neg (by decide), lookup_putF, if_pos rfl]
  have k5 : fs5.lookup ("point" : Str) = some (.int point) := by rw [← ef, lookup_putF, if_pos rfl]
  have e0 : But x H (upd (upd (upd (upd (upd H x (.ins cs.Job dx (putF "net" net []))) x (.ins cs.Job dx (putF "seed" (.int seed) (putF "net" net [])))) x (.ins cs.Job dx (putF "batch" (.int batch) (putF "seed" (.int seed) (putF "net" net []))))) x (.ins cs.Job dx (putF "factor" (.int factor) (putF "batch" (.int batch) (putF "seed" (.int seed) (putF "net" net [])))))) x (.ins cs.Job dx fs5)) := fun c o nc h => by rw [upd_ne nc, upd_ne nc, upd_ne nc, upd_ne nc, upd_ne nc]; exact h
  have x0 : (upd (upd (upd (upd (upd H x (.ins cs.Job dx (putF "net" net []))) x (.ins cs.Job dx (putF "seed" (.int seed) (putF "net" net [])))) x (.ins cs.Job dx (putF "batch" (.int batch) (putF "seed" (.int seed) (putF "net" net []))))) x (.ins cs.Job dx (putF "factor" (.int factor) (putF "batch" (.int batch) (putF "seed" (.int seed) (putF "net" net [])))))) x (.ins cs.Job dx fs5)) x = some (.ins cs.Job dx fs5) := upd_same
  generalize upd (upd (upd (upd (upd H x (.ins cs.Job dx (putF "net" net []))) x (.ins cs.Job dx (putF "seed" (.int seed) (putF "net" net [])))) x (.ins cs.Job dx (putF "batch" (.int batch) (putF "seed" (.int seed) (putF "net" net []))))) x (.ins cs.Job dx (putF "factor" (.int factor) (putF "batch" (.int batch) (putF "seed" (.int seed) (putF "net" net [])))))) x (.ins cs.Job dx fs5) = H0 at *
  have dr0 := dr.but e0
  have dd0 := dd.but e0
  -- self.rates = list(rates)
  obtain ⟨_, us, re, _, r2, r3, r4⟩ := id dr0
  cases re
  refine ⟨_, rfl, RL, _, rfl, .inl (SqL.of r2), fun L1 n1 => ?_⟩
  have nx1 : x ≠ L1 := ne_of_none x0 n1
  have s1 := same_new n1 (.lst us)
  have d1 : DV (· ≠ x) (upd H0 L1 (.lst us)) 3 (.ref L1) (.l (rates.map rateD)) := ⟨L1, us, rfl, nx1.symm, upd_same, r3, r4.mono fun _ _ w => w.same s1⟩
  have dd1 := dd0.same s1
  have e01 := e0.trans (.of s1)
  have x1 := s1 _ _ x0
  generalize upd H0 L1 (.lst us) = H1 at *
  refine ⟨_, rfl, x, _, dx, _, rfl, x1, T.C_Job, T.na_Job_rates, put_lt l5, ?_⟩
  have e2 : But x H1 (upd H1 x (.ins cs.Job dx (putF "rates" (.ref L1) fs5))) := fun c o nc h => by rw [upd_ne nc]; exact h
  have x2 : (upd H1 x (.ins cs.Job dx (putF "rates" (.ref L1) fs5))) x = some (.ins cs.Job dx (putF "rates" (.ref L1) fs5)) := upd_same
  generalize upd H1 x (.ins cs.Job dx (putF "rates" (.ref L1) fs5)) = H2 at *
  have d2 := d1.but e2
  have dd2 := dd1.but e2
  have e02 := e01.trans e2
  -- self.data = ..
  obtain ⟨_, ws, re, _, t2, t3, t4⟩ := id dd2
  cases re
  have lw : ws.length = data.length := by rw [t4.length, List.length_map]
  refine ⟨_, rfl, DL, rfl, ⟨_, SqL.of t2⟩, fun D nD => ?_⟩
  have nxD : x ≠ D := ne_of_none x2 nD
  refine lc_list (xs := ws) (fun (i : Nat) H' => ∃ us : List V, Same H2 H' ∧ H' D = some (.lst us) ∧ All2 (DV (Off x D) H' 3) us ((data.take i).map sampD))
    ⟨[], same_new nD _, upd_same, .nil⟩ (fun i H' _ hI => by
      obtain ⟨us, e, _⟩ := hI
      exact SqL.of (e _ _ t2)) (fun i v H' hv hI => ?_) (fun H' hI => ?_)
  · obtain ⟨us, e, hD, au⟩ := hI
    have hi : i < data.length := by
      have := (List.getElem?_eq_some_iff.mp hv).1
      omega
    have em : data[i]? = some data[i] := List.getElem?_eq_getElem hi
    obtain ⟨v', ev, dv⟩ := t4.get (i := i) (b := sampD data[i]) (by rw [List.getElem?_map, em]; rfl)
    rw [hv] at ev
    cases ev
    have lus : us.length = i := by rw [au.length, List.length_map, List.length_take]; omega
    obtain ⟨t, g, w, rfl, _, _, _, h1, h2, h3, h4, h5⟩ := dv.samp
    generalize data[i] = p at *
    refine ⟨t, _, rfl, SqT.of (e _ _ h1), rfl, _, _, rfl, _, _, rfl, rfl, ⟨rfl, ?_⟩⟩
    refine ⟨_, rfl, g, _, rfl, .inl (SqL.of (e _ _ h2)), fun g2 ng => ?_⟩
    have s3 := same_new ng (.lst (p.1.map V.int))
    refine ⟨_, rfl, w, _, rfl, .inl (SqL.of (s3 _ _ (e _ _ h3))), fun w2 nw => ?_⟩
    have s4 := same_new nw (.lst (p.2.map V.int))
    refine ⟨by show 2 ≤ sizeLine; decide, fun t2 nt => ?_⟩
    have s5 := same_new nt (.tup [.ref g2, .ref w2])
    have x3 := e _ _ x2
    have off : ∀ {c : Addr}, H' c = none → Off x D c := fun {c} n => ⟨fun z => (by rw [z, x3] at n; cases n), fun z => (by rw [z, hD] at n; cases n)⟩
    have s34 := s3.trans s4
    refine ⟨us, s5 _ _ (s34 _ _ hD), smaller (by omega), us ++ [.ref t2], same_mut (e.trans (s34.trans s5)) nD, upd_same, ?_⟩
    rw [List.take_add_one, em, List.map_append]
    exact DV.grow (fun c o _ h => s5 _ _ (s34 _ _ h)) au (samp_dv (off (none_of s34 nt)) (off ng) (off (none_of s3 nw)) upd_same (s5 _ _ (s4 _ _ upd_same)) (s5 _ _ upd_same) h4 h5) _
  obtain ⟨us', e3, hD, au⟩ := hI
  rw [lw, List.take_length] at au
  have d3 := d2.same e3
  have d4 : DV (· ≠ x) H' 4 (.ref D) (.l (data.map sampD)) := ⟨D, us', rfl, nxD.symm, hD, by rw [au.length, List.length_map]; omega, au.mono fun _ _ w => w.keep fun a o s h => ⟨s.1, h⟩⟩
  refine ⟨_, rfl, x, _, dx, _, rfl, e3 _ _ x2, T.C_Job, T.na_Job_data, put_lt (put_le l5), ?_⟩
  have e4 : But x H' (upd H' x (.ins cs.Job dx (putF "data" (.ref D) (putF "rates" (.ref L1) fs5)))) := fun c o nc h => by rw [upd_ne nc]; exact h
  have kk : ∀ (k : Str) (v : V), ¬ k = "data" → ¬ k = "rates" → fs5.lookup k = some v → (putF "data" (.ref D) (putF "rates" (.ref L1) fs5)).lookup k = some v := fun k v a b h => by rw [lookup_putF, if_neg a, lookup_putF, if_neg b]; exact h
  exact q _ _ L1 D ((e02.trans (.of e3)).trans e4) upd_same (kk _ _ (by decide) (by decide) k1) (kk _ _ (by decide) (by decide) k2) (kk _ _ (by decide) (by decide) k3) (kk _ _ (by decide) (by decide) k4) (kk _ _ (by decide) (by decide) k5)
    (by rw [lookup_putF, if_neg (by decide), lookup_putF, if_pos rfl]) (by rw [lookup_putF, if_pos rfl]) (d3.but e4).any (d4.but e4).any
theorem ok__law_job_object (F : Fun K "_law_job_object" "_law_job_object" s__law_job_object f fd) (T : Txt K mg cs w) (d_Job___init__ : IDef P w K mg base 1 cs.Job ["self", "net", "seed", "batch", "factor", "point", "rates", "data"] (spJobInit cs)) (d__law_net_object : Def P w K mg base 7 "_law_net_object" ["net"] (spNetObj K cs)) :
    FnOk P w K mg base CX0 8 f fd ["job"] (spJobObj K cs) := by
  obtain ⟨f0, fd0, G_Job___init__, b_Job___init__, M_Job⟩ := d_Job___init__.ex
  obtain ⟨f1, fd1, G__law_net_object, b__law_net_object, g__law_net_object, k__law_net_object⟩ := d__law_net_object.ex
  refine F.ok sc__law_job_object (fun vs H Q E h => ?_) (fun cdv A outer s H vs Q E hr h => ?_)
  · obtain ⟨b, r, rs, jb, RL, DL, n, PL, NL, LL, ni, nt, pms, nds, ls, seed, batch, factor, point, rates, data, rfl, J, ok, few, hls, q⟩ := h
    rfl
  obtain ⟨b, r, rs, jb, RL, DL, n, PL, NL, LL, ni, nt, pms, nds, ls, seed, batch, factor, point, rates, data, rfl, J, ok, few, hls, q⟩ := h
  have hu := hr.units
  refine ⟨_, pss_cons (ps_setLc (i := 1) (own := [("sample", 2)]) (g := gName 2) (tt := tYes)  rfl sc__law_job_object.nd rfl rfl (sw_true rfl rfl rfl (by decide +kernel)) (pi_list (pe_ix (ixl_at (K := K) rfl) (pv 0) pe_int (fun _ _ => rfl))) (blkOk_by (N := ["job", "data", "sample"]) (sc := defScope s__law_job_object) (by decide +kernel)) (fun _ _ _ _ _ => (pg_name (i := 2) sc__law_job_object.nd rfl (.inl rfl))) (fun _ _ _ _ _ => pts_nil) (fun _ _ _ _ _ => (pe_tup (pa_cons (pe_callTy (list_at (K := K) rfl) (by rfl) T.z_list PyProof.Rows.boot_list (pa_cons (pe_ix (ixt_at (K := K) rfl) (pv 2) pe_int (fun _ _ => rfl)) pa_nil)) (pa_cons (pe_callTy (list_at (K := K) rfl) (by rfl) T.z_list PyProof.Rows.boot_list (pa_cons (pe_ix (ixt_at (K := K) rfl) (pv 2) pe_int (fun _ _ => rfl)) pa_nil)) pa_nil)))))
 (pss_one (ps_ret (pe_make M_Job G_Job___init__ (hr.mono (by decide)) rfl T.c_Job b_Job___init__ .nil pass0 (pa_cons (pe_call G__law_net_object hr rfl g__law_net_object k__law_net_object b__law_net_object .nil pass0 (pa_cons (pe_ix (ixl_at (K := K) rfl) (pv 0) pe_int (fun _ _ => rfl)) pa_nil)) (pa_cons (pe_ix (ixl_at (K := K) rfl) (pv 0) pe_int (fun _ _ => rfl)) (pa_cons (pe_ix (ixl_at (K := K) rfl) (pv 0) pe_int (fun _ _ => rfl)) (pa_cons (pe_ix (ixl_at (K := K) rfl) (pv 0) pe_int (fun _ _ => rfl)) (pa_cons (pe_ix (ixl_at (K := K) rfl) (pv 0) pe_int (fun _ _ => rfl)) (pa_cons (pe_callTy (list_at (K := K) rfl) (by rfl) T.z_list PyProof.Rows.boot_list (pa_cons (pe_ix (ixl_at (K := K) rfl) (pv 0) pe_int (fun _ _ => rfl)) pa_nil)) (pa_cons (pv 1) pa_nil)))))))))), ?_⟩
  obtain ⟨_, ws, re, _, t2, t3, t4⟩ := id J.dt
  cases re
  have lw : ws.length = data.length := by rw [t4.length, List.length_map]
  refine ⟨_, rfl, jb, _, _, _, rfl, rfl, SqL.of J.jl, rfl, DL, rfl, ⟨_, SqL.of t2⟩, fun D nD => ?_⟩
  refine lc_list (xs := ws) (fun (i : Nat) H' => ∃ us : List V, Same H H' ∧ H' D = some (.lst us) ∧ All2 (DV (Off D D) H' 3) us ((data.take i).map sampD))
    ⟨[], same_new nD _, upd_same, .nil⟩ (fun i H' _ hI => by
      obtain ⟨us, e, _⟩ := hI
      exact SqL.of (e _ _ t2)) (fun i v H' hv hI => ?_) (fun H' hI => ?_)
  · obtain ⟨us, e, hD, au⟩ := hI
    have hi : i < data.length := by
      have := (List.getElem?_eq_some_iff.mp hv).1
      omega
    have em : data[i]? = some data[i] := List.getElem?_eq_getElem hi
    obtain ⟨v', ev, dv⟩ := t4.get (i := i) (b := sampD data[i]) (by rw [List.getElem?_map, em]; rfl)
    rw [hv] at ev
    cases ev
    have lus : us.length = i := by rw [au.length, List.length_map, List.length_take]; omega
    obtain ⟨t, g, w, rfl, _, _, _, h1, h2, h3, h4, h5⟩ := dv.samp
    generalize data[i] = p at *
    refine ⟨rfl, _, rfl, t, _, _, _, rfl, rfl, SqT.of (e _ _ h1), rfl, g, _, rfl, .inl (SqL.of (e _ _ h2)), fun g2 ng => ?_⟩
    have s3 := same_new ng (.lst (p.1.map V.int))
    refine ⟨_, rfl, t, _, _, _, rfl, rfl, SqT.of (s3 _ _ (e _ _ h1)), rfl, w, _, rfl, .inl (SqL.of (s3 _ _ (e _ _ h3))), fun w2 nw => ?_⟩
    have s4 := same_new nw (.lst (p.2.map V.int))
    refine ⟨by show 2 ≤ sizeLine; decide, fun t2 nt => ?_⟩
    have s5 := same_new nt (.tup [.ref g2, .ref w2])
    have off : ∀ {c : Addr}, H' c = none → Off D D c := fun {c} n => ⟨fun z => (by rw [z, hD] at n; cases n), fun z => (by rw [z, hD] at n; cases n)⟩
    have s34 := s3.trans s4
    refine ⟨us, s5 _ _ (s34 _ _ hD), smaller (by omega), us ++ [.ref t2], same_mut (e.trans (s34.trans s5)) nD, upd_same, ?_⟩
    rw [List.take_add_one, em, List.map_append]
    exact DV.grow (fun c o _ h => s5 _ _ (s34 _ _ h)) au (samp_dv (off (none_of s34 nt)) (off ng) (off (none_of s3 nw)) upd_same (s5 _ _ (s4 _ _ upd_same)) (s5 _ _ upd_same) h4 h5) _
  obtain ⟨us, e1, hD, au⟩ := hI
  rw [lw, List.take_length] at au
  have dD : DV anyA H' 4 (.ref D) (.l (data.map sampD)) := ⟨D, us, rfl, trivial, hD, by rw [au.length, List.length_map]; omega, au.mono fun _ _ w => w.any⟩
  have J1 := J.same e1
  obtain ⟨pr, p1, p2⟩ := J1.g.par
  obtain ⟨nr, n1, n2⟩ := J1.g.nod
  -- the network
  refine ⟨_, rfl, jb, _, _, _, rfl, rfl, SqL.of J1.jl, rfl, n, PL, NL, LL, ni, nt, pms, nds, pr, nr, rfl, J1.g.net, p1, p2, n1, n2, ok, few, fun x H2 s2 F2 L2 => ?_⟩
  have J2 := J1.same s2
  have jl := J2.jl
  refine ⟨_, rfl, jb, _, _, _, rfl, rfl, SqL.of jl, rfl, ?_⟩
  refine ⟨_, rfl, jb, _, _, _, rfl, rfl, SqL.of jl, rfl, ?_⟩
  refine ⟨_, rfl, jb, _, _, _, rfl, rfl, SqL.of jl, rfl, ?_⟩
  refine ⟨_, rfl, jb, _, _, _, rfl, rfl, SqL.of jl, rfl, ?_⟩
  obtain ⟨_, vs, re, _, v2, v3, v4⟩ := id J2.rt
  cases re
  refine ⟨_, rfl, jb, _, _, _, rfl, rfl, SqL.of jl, rfl, RL, _, rfl, .inl (SqL.of v2), fun L1 nL => ?_⟩
  have s3 := same_new nL (.lst vs)
  have dL : DV anyA (upd H2 L1 (.lst vs)) 3 (.ref L1) (.l (rates.map rateD)) := ⟨L1, vs, rfl, trivial, upd_same, v3, v4.mono fun _ _ w => (w.same s3).any⟩
  have dD3 := (dD.same s2).same s3
  have F3 := F2.same s3
  have N3 := L2.same s3
  have s13 := (e1.trans s2).trans s3
  generalize upd H2 L1 (.lst vs) = H3 at *
  refine ⟨_, rfl, ?_⟩
  refine fun q0 dx nx ndx ne => ?_
  have s4 : Same H3 (upd (upd H3 dx (.own q0)) q0 (.ins cs.Job dx [])) := fun c o h => by rw [upd_ne (ne_of_none h nx), upd_ne (ne_of_none h ndx)]; exact h
  have far : ∀ {m : Nat} {v : V} {d : Dt}, DV anyA H3 m v d → DV (· ≠ q0) (upd (upd H3 dx (.own q0)) q0 (.ins cs.Job dx [])) m v d := fun h => h.keep fun a o _ z => ⟨ne_of_none z nx, s4 _ _ z⟩
  refine ⟨q0, dx, L1, D, _, seed, batch, factor, point, rates, data, rfl, upd_same, far dL, far dD3, fun H5 fs R' D' e5 i1 i2 i3 i4 i5 i6 i7 i8 i9 i10 => ⟨rfl, ?_⟩⟩
  have s5 : Same H3 H5 := fun c o h => e5 _ _ (ne_of_none h nx) (s4 _ _ h)
  refine q q0 H5 (s13.trans s5) ⟨dx, fs, x, R', D', i1, i2, i3, i4, i5, i6, i7, i8, F3.same s5, ?_, i9, i10⟩
  rw [← hls]
  exact N3.same s5

end

/-! ### is_job -/
instance (n : Int) : Decidable (isW n) := by unfold isW; infer_instance
def RateOk (p : Int × Int) : Prop := (0 ≤ p.1 ∧ p.1 ≤ 4294967295) ∧ isW p.2
instance (p : Int × Int) : Decidable (RateOk p) := by unfold RateOk; infer_instance
def RatesGood (rates : List (Int × Int)) : Prop := rates.length ≤ 4 ∧ ∀ p ∈ rates, RateOk p
instance (rates : List (Int × Int)) : Decidable (RatesGood rates) := by unfold RatesGood; infer_instance
def SampOk (ni nt : Int) (p : List Int × List Int) : Prop := (p.1.length : Int) = ni ∧ (p.2.length : Int) = nt ∧ ∀ x ∈ p.1 ++ p.2, isW x
instance (ni nt : Int) (p : List Int × List Int) : Decidable (SampOk ni nt p) := by unfold SampOk; infer_instance
def DataGood (ni nt : Int) (data : List (List Int × List Int)) : Prop := (1 ≤ data.length ∧ data.length ≤ 12) ∧ ∀ p ∈ data, SampOk ni nt p
instance (ni nt : Int) (data : List (List Int × List Int)) : Decidable (DataGood ni nt data) := by unfold DataGood; infer_instance
def JobGood (ni nt : Int) (pms : List (Int × Int × Str × Int)) (nds : List Nd) (seed batch factor point : Int) (rates : List (Int × Int)) (data : List (List Int × List Int)) : Prop :=
  NetGood ni nt pms nds ∧ isW seed ∧ isW factor ∧ (1 ≤ batch ∧ batch ≤ 4) ∧ (0 ≤ point ∧ point ≤ 31) ∧ RatesGood rates ∧ DataGood ni nt data
instance (ni nt : Int) (pms : List (Int × Int × Str × Int)) (nds : List Nd) (seed batch factor point : Int) (rates : List (Int × Int)) (data : List (List Int × List Int)) : Decidable (JobGood ni nt pms nds seed batch factor point rates data) := by unfold JobGood; infer_instance
theorem all2_in {α β : Type} {R S : α → β → Prop} {as : List α} {bs : List β} (h : All2 R as bs) : (∀ a b, b ∈ bs → R a b → S a b) → All2 S as bs := by
  induction h with
  | nil => intro _; exact .nil
  | cons r _ ih => intro f; exact .cons (f _ _ (List.mem_cons_self ..) r) (ih fun a b hb hr => f a b (List.mem_cons_of_mem _ hb) hr)
def JobR (cs : Cs) (H : Hp) (q : Addr) (rates : List (Int × Int)) : Prop := ∃ dx fs RL, H q = some (.ins cs.Job dx fs) ∧ fs.lookup ("rates" : Str) = some (.ref RL) ∧ DV anyA H 3 (.ref RL) (.l (rates.map rateD))
theorem JobR.same {cs : Cs} {H H' : Hp} {q : Addr} {rates : List (Int × Int)} (j : JobR cs H q rates) (e : Same H H') : JobR cs H' q rates := by
  obtain ⟨dx, fs, RL, h1, h2, h3⟩ := j
  exact ⟨dx, fs, RL, e _ _ h1, h2, h3.same e⟩
theorem JobR.but {cs : Cs} {H H' : Hp} {q b r : Addr} {rs : List Int} {rates : List (Int × Int)} (j : JobR cs H q rates) (B : Box H b r rs) (e : But b H H') : JobR cs H' q rates := by
  obtain ⟨dx, fs, RL, h1, h2, h3⟩ := j
  obtain ⟨z, _, hb⟩ := B.ex
  have f1 : q ≠ b := fun w => by rw [w, hb] at h1; cases h1
  obtain ⟨_, ws, re, _, t2, t3, t4⟩ := h3
  cases re
  have f2 : RL ≠ b := fun w => by
    rw [w, hb] at t2
    cases t2
    rcases rates with _ | ⟨p, _ | ⟨p2, rest⟩⟩
    · cases t4
    · cases t4 with
      | cons a c => cases c
    · cases t4 with
      | cons a c =>
        cases c with
        | cons a2 _ =>
          obtain ⟨_, _, h, _⟩ := a2
          cases h
  refine ⟨dx, fs, RL, e _ _ f1 h1, h2, RL, ws, rfl, trivial, e _ _ f2 t2, t3, ?_⟩
  refine all2_in t4 fun v d hd hv => ?_
  obtain ⟨p, _, rfl⟩ := List.mem_map.mp hd
  obtain ⟨t, rfl, _, ht⟩ := hv.rate
  exact DV.tup (ns := [p.1, p.2]) trivial (e _ _ (fun w => by rw [w, hb] at ht; cases ht) ht) (by show 2 ≤ 100000; decide)
def JobD (cs : Cs) (H : Hp) (q : Addr) (ni nt : Int) (data : List (List Int × List Int)) : Prop := ∃ dx fs DL x dy gs, H q = some (.ins cs.Job dx fs) ∧ fs.lookup ("data" : Str) = some (.ref DL) ∧ fs.lookup ("net" : Str) = some (.ref x) ∧ DV anyA H 4 (.ref DL) (.l (data.map sampD)) ∧ H x = some (.ins cs.Net dy gs) ∧ gs.lookup ("inputs" : Str) = some (.int ni) ∧ gs.lookup ("targets" : Str) = some (.int nt)
theorem JobO.r {K : PySem.W.Frag} {cs : Cs} {H : Hp} {q : Addr} {ni nt : Int} {pms : List (Int × Int × Str × Int)} {nds : List Nd} {ls : List Int} {seed batch factor point : Int} {rates : List (Int × Int)} {data : List (List Int × List Int)}
    (j : JobO K cs H q ni nt pms nds ls seed batch factor point rates data) : JobR cs H q rates := by
  obtain ⟨dx, fs, x, RL, DL, h1, h2, h3, h4, h5, h6, h7, h8, h9, h10, h11, h12⟩ := j.ex
  exact ⟨dx, fs, RL, h1, h7, h11⟩
theorem JobO.d {K : PySem.W.Frag} {cs : Cs} {H : Hp} {q : Addr} {ni nt : Int} {pms : List (Int × Int × Str × Int)} {nds : List Nd} {ls : List Int} {seed batch factor point : Int} {rates : List (Int × Int)} {data : List (List Int × List Int)}
    (j : JobO K cs H q ni nt pms nds ls seed batch factor point rates data) : JobD cs H q ni nt data := by
  obtain ⟨dx, fs, x, RL, DL, h1, h2, h3, h4, h5, h6, h7, h8, h9, h10, h11, h12⟩ := j.ex
  obtain ⟨dy, gs, PP, NN, pr, nr, g1, g2, g3, g4⟩ := h9.ex
  exact ⟨dx, fs, DL, x, dy, gs, h1, h8, h2, h12, g1, g2, g3⟩
def spGoodRates (cs : Cs) : Sp := fun vs H Q _ => ∃ (q : Addr) (rates : List (Int × Int)), vs = [.ref q] ∧ JobR cs H q rates ∧ ∀ H', Same H H' → Q (.bl (decide (RatesGood rates))) H'
def spGoodData (cs : Cs) : Sp := fun vs H Q _ => ∃ (q : Addr) (ni nt : Int) (data : List (List Int × List Int)), vs = [.ref q] ∧ JobD cs H q ni nt data ∧ ∀ H', Same H H' → Q (.bl (decide (DataGood ni nt data))) H'
def spIsJob (K : PySem.W.Frag) (cs : Cs) : Sp := fun vs H Q _ => ∃ (q : Addr) (ni nt : Int) (pms : List (Int × Int × Str × Int)) (nds : List Nd) (ls : List Int) (seed batch factor point : Int) (rates : List (Int × Int)) (data : List (List Int × List Int)), vs = [.ref q] ∧
  JobO K cs H q ni nt pms nds ls seed batch factor point rates data ∧ NetOk ni nt (sides pms) nds ∧ pms.length ≤ 1000 ∧ ∀ H', Same H H' → Q (.bl (decide (JobGood ni nt pms nds seed batch factor point rates data))) H'
theorem PmOk.fine {m : Int × Int × Str × Int} (h : PmOk m) : PmGood m := by
  obtain ⟨r1, r2, c1, c2, h⟩ := h
  refine ⟨fun z => ?_, ⟨r1, r2⟩, ⟨c1, c2⟩⟩
  rcases h with h | h
  · rw [h.1] at z
    exact absurd z.1 (by decide)
  · exact z.2 h.2
theorem Built.fine {ni nt : Int} {pms : List (Int × Int × Str × Int)} {nds : List Nd} {ls : List Int} (u : Built ni nt pms nds ls) (h2 : nds.length ≤ 24) (hl : ∃ l0, ls = l0 ++ [1]) : NetGood ni nt pms nds := by
  obtain ⟨l0, e⟩ := hl
  have a := u.ni1
  have b := u.ni3
  have c := u.nt1
  have d := u.nt2
  have f := u.few
  have g := u.all
  have ne : 1 ≤ ls.length := by rw [e, List.length_append, List.length_singleton]; omega
  refine ⟨⟨a, by omega⟩, ⟨c, by omega⟩, ⟨by omega, fun m hm => (u.pok m hm).fine⟩, ?_⟩
  rw [u.len]
  exact ⟨by omega, h2, by omega, by rw [e]; exact List.getLast?_concat .., u.bnd⟩

/-! ### rates -/
def rateI (rates : List (Int × Int)) (step : Int) : Int := rates.foldl (fun r p => if p.1 ≤ step then p.2 else r) 0
theorem rateI_succ {rates : List (Int × Int)} {i : Nat} {m : Int × Int} (step : Int) (h : rates[i]? = some m) : rateI (rates.take (i + 1)) step = if m.1 ≤ step then m.2 else rateI (rates.take i) step := by
  unfold rateI
  rw [List.take_add_one, h, List.foldl_append]
  rfl
def spRateAt (cs : Cs) : Sp := fun vs H Q _ => ∃ (q : Addr) (rates : List (Int × Int)) (step : Int), vs = [.ref q, .int step] ∧ JobR cs H q rates ∧ Q (.int (rateI rates step)) H
def spLRate : Sp := fun vs H Q _ => ∃ (jb RL DL : Addr) (n s b f p : V) (rates : List (Int × Int)) (step : Int), vs = [.ref jb, .int step] ∧ H jb = some (.lst [n, s, b, f, p, .ref RL, .ref DL]) ∧ DV anyA H 3 (.ref RL) (.l (rates.map rateD)) ∧ Q (.int (rateI rates step)) H

section
variable {P : Program} {w : World} {K : PySem.W.Frag} {mg : Str → Option Value} {cs : Cs} {base : Heap} {f : Addr} {fd : FuncData}
theorem ok__has_good_rates (F : Fun K "_has_good_rates" "_has_good_rates" s__has_good_rates f fd) (T : Txt K mg cs w) (d_is_word : Def P w K mg base 1 "is_word" ["n"] (spIsWord)) :
    FnOk P w K mg base CX0 2 f fd ["job"] (spGoodRates cs) := by
  obtain ⟨f0, fd0, G_is_word, b_is_word, g_is_word, k_is_word⟩ := d_is_word.ex
  obtain ⟨_, g_MOST_RATES⟩ := T.g_MOST_RATES
  obtain ⟨_, g_GREATEST_NUMBER⟩ := T.g_GREATEST_NUMBER
  refine F.ok sc__has_good_rates (fun vs H Q E h => ?_) (fun cdv A outer s H vs Q E hr h => ?_)
  · obtain ⟨qn, rates, rfl, J, q⟩ := h
    rfl
  obtain ⟨qn, rates, rfl, J, q⟩ := h
  have hu := hr.units
  refine ⟨_, pss_cons (ps_if (pt_cmpR op_gt (pe_callB (len_at (K := K) rfl) (by rfl) T.z_len PySem.boot_len (pa_cons (pe_fld_at (K := K) rfl (pv 0) rfl) pa_nil)) (pe_glob (v := .int (4)) rfl g_MOST_RATES ⟨_, rfl⟩) (nomark _)) (pss_one (ps_ret pe_bl)) pss_nil)
 (pss_one (ps_ret (pe_callB (all_at (K := K) rfl) (by rfl) T.z_all PyProof.Rows.boot_all (pa_cons (pe_lc (own := [("step", 1), ("word", 2)]) (g := gTup K 2 (gCons (gName 1) (gCons (gName 2) gNil))) (tt := tYes)  rfl sc__has_good_rates.nd (pi_list (pe_fld_at (K := K) rfl (pv 0) rfl)) (blkOk_by (N := ["job", "step", "word"]) (sc := defScope s__has_good_rates) (by decide +kernel)) (fun _ _ _ _ _ => (pg_tup_at (K := K) (n := 2) rfl rfl (pgs_cons (pg_name (i := 1) sc__has_good_rates.nd rfl (.inl rfl)) (pgs_cons (pg_name (i := 2) sc__has_good_rates.nd rfl (.inl rfl)) pgs_nil)) rfl rfl)) (fun _ _ _ _ _ => pts_nil) (fun _ _ _ _ _ => (pe_and (pe_chain op_le op_le pe_int (pv 1) (pe_glob (v := .int (4294967295)) rfl g_GREATEST_NUMBER ⟨_, rfl⟩)) (pe_one (pe_call G_is_word hr rfl g_is_word k_is_word b_is_word .nil pass0 (pa_cons (pv 2) pa_nil)))))) pa_nil)))), ?_⟩
  obtain ⟨dx, fs, RL, j1, j2, j3⟩ := id J
  obtain ⟨_, ws, re, _, t2, t3, t4⟩ := id j3
  cases re
  have lw : ws.length = rates.length := by rw [t4.length, List.length_map]
  refine ⟨_, rfl, qn, _, dx, fs, _, rfl, j1, T.C_Job, T.na_Job_rates, j2, RL, _, rfl, .inl (SqL.of t2), _, _, rfl, rfl, _, rfl, ?_⟩
  by_cases h4 : rates.length ≤ 4
  · refine iteDN (by omega) ?_
    refine ⟨_, rfl, qn, _, dx, fs, _, rfl, j1, T.C_Job, T.na_Job_rates, j2, RL, rfl, ⟨_, SqL.of t2⟩, fun D nD => ?_⟩
    refine lc_list (xs := ws) (fun (i : Nat) H' => Same H H' ∧ H' D = some (.lst (((rates.take i).map fun m => decide (RateOk m)).map V.bl))) ⟨same_new nD _, upd_same⟩ (fun i H' _ hP => SqL.of (hP.1 _ _ t2)) (fun i x H' hx hP => ?_) (fun H' hP => ?_)
    · obtain ⟨e, hD⟩ := hP
      have hi : i < rates.length := by
        have := (List.getElem?_eq_some_iff.mp hx).1
        omega
      have em : rates[i]? = some rates[i] := List.getElem?_eq_getElem hi
      obtain ⟨v', ev, dv⟩ := t4.get (i := i) (b := rateD rates[i]) (by rw [List.getElem?_map, em]; rfl)
      rw [hx] at ev
      cases ev
      obtain ⟨t, rfl, _, h1⟩ := dv.rate
      generalize hm : rates[i] = m at *
      have fin : ∃ acc, H' D = some (.lst acc) ∧ acc.length < sizeLine ∧ (Same H (upd H' D (.lst (acc ++ [V.bl (decide (RateOk m))]))) ∧ (upd H' D (.lst (acc ++ [V.bl (decide (RateOk m))]))) D = some (.lst (((rates.take (i + 1)).map fun m => decide (RateOk m)).map V.bl))) := by
        refine ⟨_, hD, smaller (by rw [List.length_map, List.length_map, List.length_take]; omega), same_mut e nD, ?_⟩
        rw [upd_same, List.take_add_one, em, List.map_append, List.map_append]
        rfl
      refine ⟨t, _, rfl, SqT.of (e _ _ h1), rfl, _, _, rfl, _, _, rfl, rfl, ⟨rfl, ?_⟩⟩
      refine ⟨_, rfl, chain2 ⟨_, rfl, ?_⟩⟩
      by_cases c : 0 ≤ m.1 ∧ m.1 ≤ 4294967295
      · refine iteD c ?_
        refine ⟨_, rfl, m.2, rfl, ?_⟩
        have e2 : decide (-2147483648 ≤ m.2 ∧ m.2 ≤ 2147483647) = decide (RateOk m) := decide_eq_decide.mpr ⟨fun z => ⟨c, z⟩, fun z => z.2⟩
        rw [e2]
        exact fin
      · refine iteDN c ?_
        have e2 : false = decide (RateOk m) := (decide_eq_false fun z => c z.1).symm
        rw [e2]
        exact fin
    · obtain ⟨e, hD⟩ := hP
      rw [lw, List.take_length] at hD
      refine ⟨D, _, rfl, SqL.of hD, ?_⟩
      have ea : (rates.map fun m => decide (RateOk m)).all id = decide (RatesGood rates) := by
        rw [List.all_map]
        rw [show (id ∘ fun m => decide (RateOk m)) = fun m => decide (RateOk m) from rfl, all_dec]
        exact decide_eq_decide.mpr ⟨fun z => ⟨h4, z⟩, fun z => z.2⟩
      rw [ea]
      exact q H' e
  · refine iteD (by omega) ?_
    have e : decide (RatesGood rates) = false := decide_eq_false fun z => h4 z.1
    rw [e] at q
    exact q H (.refl H)
theorem ok__has_good_data (F : Fun K "_has_good_data" "_has_good_data" s__has_good_data f fd) (T : Txt K mg cs w) (d_is_word : Def P w K mg base 1 "is_word" ["n"] (spIsWord)) :
    FnOk P w K mg base CX0 2 f fd ["job"] (spGoodData cs) := by
  obtain ⟨f0, fd0, G_is_word, b_is_word, g_is_word, k_is_word⟩ := d_is_word.ex
  obtain ⟨_, g_MOST_SAMPLES⟩ := T.g_MOST_SAMPLES
  refine F.ok sc__has_good_data (fun vs H Q E h => ?_) (fun cdv A outer s H vs Q E hr h => ?_)
  · obtain ⟨qn, ni, nt, data, rfl, J, q⟩ := h
    rfl
  obtain ⟨qn, ni, nt, data, rfl, J, q⟩ := h
  have hu := hr.units
  refine ⟨_, pss_cons (ps_if (pt_not (pt_chain op_le op_le pe_int (pe_callB (len_at (K := K) rfl) (by rfl) T.z_len PySem.boot_len (pa_cons (pe_fld_at (K := K) rfl (pv 0) rfl) pa_nil)) (pe_glob (v := .int (12)) rfl g_MOST_SAMPLES ⟨_, rfl⟩))) (pss_one (ps_ret pe_bl)) pss_nil)
 (pss_one (ps_ret (pe_callB (all_at (K := K) rfl) (by rfl) T.z_all PyProof.Rows.boot_all (pa_cons (pe_lc (own := [("given", 1), ("wanted", 2)]) (g := gTup K 2 (gCons (gName 1) (gCons (gName 2) gNil))) (tt := tYes)  rfl sc__has_good_data.nd (pi_list (pe_fld_at (K := K) rfl (pv 0) rfl)) (blkOk_by (N := ["job", "given", "wanted", "word"]) (sc := defScope s__has_good_data) (by decide +kernel)) (fun _ _ _ _ _ => (pg_tup_at (K := K) (n := 2) rfl rfl (pgs_cons (pg_name (i := 1) sc__has_good_data.nd rfl (.inl rfl)) (pgs_cons (pg_name (i := 2) sc__has_good_data.nd rfl (.inl rfl)) pgs_nil)) rfl rfl)) (fun _ _ _ _ _ => pts_nil) (fun _ _ _ _ _ => (pe_and (pe_cmpR op_eq (pe_callB (len_at (K := K) rfl) (by rfl) T.z_len PySem.boot_len (pa_cons (pv 1) pa_nil)) (pe_fld_at (K := K) rfl (pe_fld_at (K := K) rfl (pv 0) rfl) rfl) (nomark _)) (pe_and (pe_cmpR op_eq (pe_callB (len_at (K := K) rfl) (by rfl) T.z_len PySem.boot_len (pa_cons (pv 2) pa_nil)) (pe_fld_at (K := K) rfl (pe_fld_at (K := K) rfl (pv 0) rfl) rfl) (nomark _)) (pe_one (pe_callB (all_at (K := K) rfl) (by rfl) T.z_all PyProof.Rows.boot_all (pa_cons (pe_lc (own := [("word", 3)]) (g := gName 3) (tt := tYes)  rfl sc__has_good_data.nd (pil_at (K := K) rfl (pe_op op_cat (pv 1) (pv 2))) (blkOk_by (N := ["job", "given", "wanted", "word"]) (sc := (rl (lcSc (ceA 0 (stE ((defBody s__has_good_data).getD 1 (.Pass ⟨0, 0, 0, 0⟩))))) (defScope s__has_good_data))) (by decide +kernel)) (fun _ _ _ _ _ => (pg_name (i := 3) sc__has_good_data.nd rfl (.inl rfl))) (fun _ _ _ _ _ => pts_nil) (fun _ _ _ _ _ => (pe_call G_is_word hr rfl g_is_word k_is_word b_is_word .nil pass0 (pa_cons (pv 3) pa_nil)))) pa_nil))))))) pa_nil)))), ?_⟩
  obtain ⟨dx, fs, DL, x, dy, gs, j1, j2, j3, j4, j5, j6, j7⟩ := id J
  obtain ⟨_, ws, re, _, t2, t3, t4⟩ := id j4
  cases re
  have lw : ws.length = data.length := by rw [t4.length, List.length_map]
  refine ⟨_, rfl, qn, _, dx, fs, _, rfl, j1, T.C_Job, T.na_Job_data, j2, DL, _, rfl, .inl (SqL.of t2), chain2 ⟨_, rfl, ?_⟩⟩
  by_cases h4 : 1 ≤ data.length ∧ data.length ≤ 12
  · refine iteNS (by omega) ?_
    refine ⟨_, rfl, qn, _, dx, fs, _, rfl, j1, T.C_Job, T.na_Job_data, j2, DL, rfl, ⟨_, SqL.of t2⟩, fun D nD => ?_⟩
    refine lc_list (xs := ws) (fun (i : Nat) H' => Same H H' ∧ H' D = some (.lst (((data.take i).map fun m => decide (SampOk ni nt m)).map V.bl))) ⟨same_new nD _, upd_same⟩ (fun i H' _ hP => SqL.of (hP.1 _ _ t2)) (fun i x' H' hx hP => ?_) (fun H' hP => ?_)
    · obtain ⟨e, hD⟩ := hP
      have hi : i < data.length := by
        have := (List.getElem?_eq_some_iff.mp hx).1
        omega
      have em : data[i]? = some data[i] := List.getElem?_eq_getElem hi
      obtain ⟨v', ev, dv⟩ := t4.get (i := i) (b := sampD data[i]) (by rw [List.getElem?_map, em]; rfl)
      rw [hx] at ev
      cases ev
      obtain ⟨t, g, w, rfl, _, _, _, h1, h2, h3, l1, l2⟩ := dv.samp
      generalize hm : data[i] = m at *
      have fin : ∀ H2, Same H' H2 → ∃ acc, H2 D = some (.lst acc) ∧ acc.length < sizeLine ∧ (Same H (upd H2 D (.lst (acc ++ [V.bl (decide (SampOk ni nt m))]))) ∧ (upd H2 D (.lst (acc ++ [V.bl (decide (SampOk ni nt m))]))) D = some (.lst (((data.take (i + 1)).map fun m => decide (SampOk ni nt m)).map V.bl))) := fun H2 s2 => by
        refine ⟨_, s2 _ _ hD, smaller (by rw [List.length_map, List.length_map, List.length_take]; omega), same_mut (e.trans s2) nD, ?_⟩
        rw [upd_same, List.take_add_one, em, List.map_append, List.map_append]
        rfl
      refine ⟨t, _, rfl, SqT.of (e _ _ h1), rfl, _, _, rfl, _, _, rfl, rfl, ⟨rfl, ?_⟩⟩
      refine ⟨_, rfl, g, _, rfl, .inl (SqL.of (e _ _ h2)), _, rfl, qn, _, dx, fs, _, rfl, e _ _ j1, T.C_Job, T.na_Job_net, j3, x, _, dy, gs, _, rfl, e _ _ j5, T.C_Net, T.na_Net_inputs, j6, rfl, _, rfl, ?_⟩
      have no : ¬ SampOk ni nt m → decide (SampOk ni nt m) = false := fun h => decide_eq_false h
      by_cases ca : (m.1.length : Int) = ni
      · refine iteD (by rw [List.length_map, ca]) ?_
        refine ⟨_, rfl, w, _, rfl, .inl (SqL.of (e _ _ h3)), _, rfl, qn, _, dx, fs, _, rfl, e _ _ j1, T.C_Job, T.na_Job_net, j3, x, _, dy, gs, _, rfl, e _ _ j5, T.C_Net, T.na_Net_targets, j7, rfl, _, rfl, ?_⟩
        by_cases cb : (m.2.length : Int) = nt
        · refine iteD (by rw [List.length_map, cb]) ?_
          refine ⟨_, rfl, _, rfl, g, w, _, _, rfl, rfl, e _ _ h2, e _ _ h3, Nat.le_trans (m := 200000) (by rw [List.length_map, List.length_map]; omega) (by decide), fun u nu => ?_⟩
          have s3 := same_new nu (.lst (m.1.map V.int ++ m.2.map V.int))
          have hu2 : (upd H' u (.lst (m.1.map V.int ++ m.2.map V.int))) u = some (.lst ((m.1 ++ m.2).map V.int)) := by rw [upd_same, List.map_append]
          generalize upd H' u (.lst (m.1.map V.int ++ m.2.map V.int)) = H2 at *
          refine ⟨u, rfl, ⟨_, SqL.of hu2⟩, fun D2 nD2 => ?_⟩
          refine lc_list (xs := (m.1 ++ m.2).map V.int) (fun (i : Nat) H3 => Same H2 H3 ∧ H3 D2 = some (.lst ((((m.1 ++ m.2).take i).map fun l => decide (isW l)).map V.bl))) ⟨same_new nD2 _, upd_same⟩ (fun i H3 _ hP => SqL.of (hP.1 _ _ hu2)) (fun i x H3 hx hP => ?_) (fun H3 hP => ?_)
          · obtain ⟨e3, hD3⟩ := hP
            obtain ⟨l, rfl, hl⟩ := map_get hx
            refine ⟨rfl, _, rfl, l, rfl, _, hD3, Nat.lt_of_le_of_lt (m := 200000) (by rw [List.length_map, List.length_map, List.length_take, List.length_append]; omega) (by decide), same_mut e3 nD2, ?_⟩
            rw [upd_same, List.take_add_one, hl, List.map_append, List.map_append]
            rfl
          · obtain ⟨e3, hD3⟩ := hP
            rw [List.length_map, List.take_length] at hD3
            refine ⟨D2, _, rfl, SqL.of hD3, ?_⟩
            have ea : ((m.1 ++ m.2).map fun l => decide (isW l)).all id = decide (SampOk ni nt m) := by
              rw [List.all_map]
              rw [show (id ∘ fun l => decide (isW l)) = fun l => decide (isW l) from rfl, all_dec]
              exact decide_eq_decide.mpr ⟨fun z => ⟨ca, cb, z⟩, fun z => z.2.2⟩
            rw [ea]
            exact fin H3 (s3.trans e3)
        · refine iteDN (fun z => cb (by rw [List.length_map] at z; exact V.int.inj z)) ?_
          have z := fin H' (.refl _)
          rw [no fun z => cb z.2.1] at z
          exact z
      · refine iteDN (fun z => ca (by rw [List.length_map] at z; exact V.int.inj z)) ?_
        have z := fin H' (.refl _)
        rw [no fun z => ca z.1] at z
        exact z
    · obtain ⟨e, hD⟩ := hP
      rw [lw, List.take_length] at hD
      refine ⟨D, _, rfl, SqL.of hD, ?_⟩
      have ea : (data.map fun m => decide (SampOk ni nt m)).all id = decide (DataGood ni nt data) := by
        rw [List.all_map]
        rw [show (id ∘ fun m => decide (SampOk ni nt m)) = fun m => decide (SampOk ni nt m) from rfl, all_dec]
        exact decide_eq_decide.mpr ⟨fun z => ⟨h4, z⟩, fun z => z.2⟩
      rw [ea]
      exact q H' e
  · refine iteNN (by omega) ?_
    have e : decide (DataGood ni nt data) = false := decide_eq_false fun z => h4 z.1
    rw [e] at q
    exact q H (.refl H)
theorem ok_is_job (F : Fun K "is_job" "is_job" s_is_job f fd) (T : Txt K mg cs w) (d_is_net : Def P w K mg base 6 "is_net" ["net"] (spIsNet K cs)) (d_is_word : Def P w K mg base 1 "is_word" ["n"] (spIsWord)) (d__has_good_rates : Def P w K mg base 2 "_has_good_rates" ["job"] (spGoodRates cs)) (d__has_good_data : Def P w K mg base 2 "_has_good_data" ["job"] (spGoodData cs)) :
    FnOk P w K mg base CX0 7 f fd ["job"] (spIsJob K cs) := by
  obtain ⟨f0, fd0, G_is_net, b_is_net, g_is_net, k_is_net⟩ := d_is_net.ex
  obtain ⟨f1, fd1, G_is_word, b_is_word, g_is_word, k_is_word⟩ := d_is_word.ex
  obtain ⟨f2, fd2, G__has_good_rates, b__has_good_rates, g__has_good_rates, k__has_good_rates⟩ := d__has_good_rates.ex
  obtain ⟨f3, fd3, G__has_good_data, b__has_good_data, g__has_good_data, k__has_good_data⟩ := d__has_good_data.ex
  obtain ⟨_, g_MOST_SHIFT⟩ := T.g_MOST_SHIFT
  obtain ⟨_, g_MOST_BATCH⟩ := T.g_MOST_BATCH
  refine F.ok sc_is_job (fun vs H Q E h => ?_) (fun cdv A outer s H vs Q E hr h => ?_)
  · obtain ⟨qn, ni, nt, pms, nds, ls, seed, batch, factor, point, rates, data, rfl, J, ok, few, q⟩ := h
    rfl
  obtain ⟨qn, ni, nt, pms, nds, ls, seed, batch, factor, point, rates, data, rfl, J, ok, few, q⟩ := h
  have hu := hr.units
  refine ⟨_, pss_cons (ps_if (PW.pt (pw_or (pt_not (pt_val (pe_call G_is_net hr rfl g_is_net k_is_net b_is_net .nil pass0 (pa_cons (pe_fld_at (K := K) rfl (pv 0) rfl) pa_nil)))) (pw_or (pt_not (pt_val (pe_call G_is_word (hr.mono (by decide)) rfl g_is_word k_is_word b_is_word .nil pass0 (pa_cons (pe_fld_at (K := K) rfl (pv 0) rfl) pa_nil)))) (pw_or1 (pt_not (pt_val (pe_call G_is_word (hr.mono (by decide)) rfl g_is_word k_is_word b_is_word .nil pass0 (pa_cons (pe_fld_at (K := K) rfl (pv 0) rfl) pa_nil)))))))) (pss_one (ps_ret pe_bl)) pss_nil)
 (pss_cons (ps_if (PW.pt (pw_or (pt_not (pt_chain op_le op_le pe_int (pe_fld_at (K := K) rfl (pv 0) rfl) (pe_glob (v := .int (4)) rfl g_MOST_BATCH ⟨_, rfl⟩))) (pw_or1 (pt_not (pt_chain op_le op_le pe_int (pe_fld_at (K := K) rfl (pv 0) rfl) (pe_glob (v := .int (31)) rfl g_MOST_SHIFT ⟨_, rfl⟩)))))) (pss_one (ps_ret pe_bl)) pss_nil)
 (pss_one (ps_ret (pe_and (pe_call G__has_good_rates (hr.mono (by decide)) rfl g__has_good_rates k__has_good_rates b__has_good_rates .nil pass0 (pa_cons (pv 0) pa_nil)) (pe_one (pe_call G__has_good_data (hr.mono (by decide)) rfl g__has_good_data k__has_good_data b__has_good_data .nil pass0 (pa_cons (pv 0) pa_nil))))))), ?_⟩
  obtain ⟨dx, fs, x, RL, DL, h1, h2, h3, h4, h5, h6, h7, h8, h9, h10, h11, h12⟩ := J.ex
  have no : ¬ JobGood ni nt pms nds seed batch factor point rates data → ∀ H', Same H H' → Q (.bl false) H' := fun h H' e => by
    have z := q H' e
    rw [decide_eq_false h] at z
    exact z
  refine ⟨_, rfl, qn, _, dx, fs, _, rfl, h1, T.C_Job, T.na_Job_net, h2, x, ni, nt, pms, nds, rfl, h9, ok, few, fun H1 e1 => ⟨_, rfl, ?_⟩⟩
  have k1 := e1 _ _ h1
  by_cases c1 : NetGood ni nt pms nds
  · refine iteNS c1 ?_
    refine ⟨_, rfl, qn, _, dx, fs, _, rfl, k1, T.C_Job, T.na_Job_seed, h3, seed, rfl, _, rfl, ?_⟩
    by_cases c2 : isW seed
    · refine iteNS c2 ?_
      refine ⟨_, rfl, qn, _, dx, fs, _, rfl, k1, T.C_Job, T.na_Job_factor, h5, factor, rfl, _, rfl, ?_⟩
      by_cases c3 : isW factor
      · refine iteNS c3 ?_
        refine ⟨_, rfl, qn, _, dx, fs, _, rfl, k1, T.C_Job, T.na_Job_batch, h4, chain2 ⟨_, rfl, ?_⟩⟩
        by_cases c4 : 1 ≤ batch ∧ batch ≤ 4
        · refine iteNS c4 ?_
          refine ⟨_, rfl, qn, _, dx, fs, _, rfl, k1, T.C_Job, T.na_Job_point, h6, chain2 ⟨_, rfl, ?_⟩⟩
          by_cases c5 : 0 ≤ point ∧ point ≤ 31
          · refine iteNS c5 ?_
            refine ⟨_, rfl, qn, rates, rfl, J.r.same e1, fun H2 e2 => ⟨_, rfl, ?_⟩⟩
            by_cases c6 : RatesGood rates
            · refine iteD c6 ?_
              refine ⟨_, rfl, qn, ni, nt, data, rfl, (J.same (e1.trans e2)).d, fun H3 e3 => ?_⟩
              have z := q H3 ((e1.trans e2).trans e3)
              have e4 : decide (JobGood ni nt pms nds seed batch factor point rates data) = decide (DataGood ni nt data) := decide_eq_decide.mpr ⟨fun z => z.2.2.2.2.2.2, fun z => ⟨c1, c2, c3, c4, c5, c6, z⟩⟩
              rw [e4] at z
              exact z
            · exact iteDN c6 (no (fun z => c6 z.2.2.2.2.2.1) _ (e1.trans e2))
          · exact iteNN c5 (no (fun z => c5 z.2.2.2.2.1) _ e1)
        · exact iteNN c4 (no (fun z => c4 z.2.2.2.1) _ e1)
      · exact iteNN c3 (no (fun z => c3 z.2.2.1) _ e1)
    · exact iteNN c2 (no (fun z => c2 z.2.1) _ e1)
  · exact iteNN c1 (no (fun z => c1 z.1) _ e1)

theorem ok_rate_at (F : Fun K "rate_at" "rate_at" s_rate_at f fd) (T : Txt K mg cs w)  :
    FnOk P w K mg base CX0 1 f fd ["job", "step"] (spRateAt cs) := by
  refine F.ok sc_rate_at (fun vs H Q E h => ?_) (fun cdv A outer s H vs Q E hr h => ?_)
  · obtain ⟨qn, rates, step, rfl, J, q⟩ := h
    rfl
  obtain ⟨qn, rates, step, rfl, J, q⟩ := h
  have hu := hr.units
  refine ⟨_, pss_cons (ps_set (i := 2) sc_rate_at.nd rfl (.inl rfl) pe_int)
 (pss_cons (ps_for PassesOwn.never rfl (pi_list (pe_fld_at (K := K) rfl (pv 0) rfl)) (pg_tup rfl (pgs_cons (pg_name (i := 3) sc_rate_at.nd rfl (.inl rfl)) (pgs_cons (pg_name (i := 4) sc_rate_at.nd rfl (.inl rfl)) pgs_nil))) (pss_one (ps_if (pt_cmpR op_le (pv 3) (pv 1) (nomark _)) (pss_one (ps_set (i := 2) sc_rate_at.nd rfl (.inl rfl) (pv 4))) pss_nil)))
 (pss_one (ps_ret (pv 2)))), ?_⟩
  obtain ⟨dx, fs, RL, j1, j2, j3⟩ := id J
  obtain ⟨_, ws, re, _, t2, t3, t4⟩ := id j3
  cases re
  have lw : ws.length = rates.length := by rw [t4.length, List.length_map]
  refine ⟨_, rfl, qn, _, dx, fs, _, rfl, j1, T.C_Job, T.na_Job_rates, j2, RL, rfl, ⟨_, SqL.of t2⟩, ?_⟩
  refine for_list (xs := ws) (fun (i : Nat) σ H' => ∃ (y3 y4 : Option V), σ = [some (.ref qn), some (.int step), some (.int (rateI (rates.take i) step)), y3, y4] ∧ H' = H) ⟨_, _, rfl, rfl⟩ (fun i σ H' _ hP => ?_) (fun i x σ H' hx hP => ?_) (fun σ H' hP => ?_)
  · obtain ⟨y3, y4, rfl, rfl⟩ := hP
    exact SqL.of t2
  · obtain ⟨y3, y4, rfl, rfl⟩ := hP
    have hi : i < rates.length := by
      have := (List.getElem?_eq_some_iff.mp hx).1
      omega
    have em : rates[i]? = some rates[i] := List.getElem?_eq_getElem hi
    obtain ⟨v', ev, dv⟩ := t4.get (i := i) (b := rateD rates[i]) (by rw [List.getElem?_map, em]; rfl)
    rw [hx] at ev
    cases ev
    obtain ⟨t, rfl, _, h1⟩ := dv.rate
    have es := rateI_succ step em
    generalize rates[i] = m at *
    refine ⟨t, _, rfl, SqT.of h1, rfl, _, _, rfl, _, _, rfl, rfl, ?_⟩
    refine ⟨_, rfl, _, rfl, _, _, rfl, rfl, _, rfl, ?_⟩
    refine ite2 (fun c => ?_) (fun c => ?_)
    · rw [if_pos (of_decide_eq_true c)] at es
      refine ⟨_, rfl, ?_⟩
      rw [es]
      exact ⟨_, _, rfl, rfl⟩
    · rw [if_neg (fun z => c (decide_eq_true z))] at es
      rw [es]
      exact ⟨_, _, rfl, rfl⟩
  · obtain ⟨y3, y4, rfl, rfl⟩ := hP
    rw [lw, List.take_length]
    exact ⟨_, rfl, q⟩
theorem ok__law_rate (F : Fun K "_law_rate" "_law_rate" s__law_rate f fd) (T : Txt K mg cs w)  :
    FnOk P w K mg base CX0 1 f fd ["job", "step"] (spLRate) := by
  refine F.ok sc__law_rate (fun vs H Q E h => ?_) (fun cdv A outer s H vs Q E hr h => ?_)
  · obtain ⟨jb, RL, DL, x1, x2, x3, x4, x5, rates, step, rfl, hj, j3, q⟩ := h
    rfl
  obtain ⟨jb, RL, DL, x1, x2, x3, x4, x5, rates, step, rfl, hj, j3, q⟩ := h
  have hu := hr.units
  refine ⟨_, pss_cons (ps_set (i := 2) sc__law_rate.nd rfl (.inl rfl) pe_int)
 (pss_cons (ps_for PassesOwn.never rfl (pi_list (pe_ix (ixl_at (K := K) rfl) (pv 0) pe_int (fun _ _ => rfl))) (pg_name (i := 3) sc__law_rate.nd rfl (.inl rfl)) (pss_one (ps_if (pt_cmpR op_le (pe_ix (ixt_at (K := K) rfl) (pv 3) pe_int (fun _ _ => rfl)) (pv 1) (nomark _)) (pss_one (ps_set (i := 2) sc__law_rate.nd rfl (.inl rfl) (pe_ix (ixt_at (K := K) rfl) (pv 3) pe_int (fun _ _ => rfl)))) pss_nil)))
 (pss_one (ps_ret (pv 2)))), ?_⟩
  obtain ⟨_, ws, re, _, t2, t3, t4⟩ := id j3
  cases re
  have lw : ws.length = rates.length := by rw [t4.length, List.length_map]
  refine ⟨_, rfl, jb, _, _, _, rfl, rfl, SqL.of hj, rfl, RL, rfl, ⟨_, SqL.of t2⟩, ?_⟩
  refine for_list (xs := ws) (fun (i : Nat) σ H' => ∃ (y3 : Option V), σ = [some (.ref jb), some (.int step), some (.int (rateI (rates.take i) step)), y3] ∧ H' = H) ⟨_, rfl, rfl⟩ (fun i σ H' _ hP => ?_) (fun i x σ H' hx hP => ?_) (fun σ H' hP => ?_)
  · obtain ⟨y3, rfl, rfl⟩ := hP
    exact SqL.of t2
  · obtain ⟨y3, rfl, rfl⟩ := hP
    have hi : i < rates.length := by
      have := (List.getElem?_eq_some_iff.mp hx).1
      omega
    have em : rates[i]? = some rates[i] := List.getElem?_eq_getElem hi
    obtain ⟨v', ev, dv⟩ := t4.get (i := i) (b := rateD rates[i]) (by rw [List.getElem?_map, em]; rfl)
    rw [hx] at ev
    cases ev
    obtain ⟨t, rfl, _, h1⟩ := dv.rate
    have es := rateI_succ step em
    generalize rates[i] = m at *
    refine ⟨_, rfl, t, _, _, _, rfl, rfl, SqT.of h1, rfl, _, rfl, _, _, rfl, rfl, _, rfl, ?_⟩
    refine ite2 (fun c => ?_) (fun c => ?_)
    · rw [if_pos (of_decide_eq_true c)] at es
      refine ⟨_, rfl, t, _, _, _, rfl, rfl, SqT.of h1, rfl, ?_⟩
      rw [es]
      exact ⟨_, rfl, rfl⟩
    · rw [if_neg (fun z => c (decide_eq_true z))] at es
      rw [es]
      exact ⟨_, rfl, rfl⟩
  · obtain ⟨y3, rfl, rfl⟩ := hP
    rw [lw, List.take_length]
    exact ⟨_, rfl, q⟩

end

/-! ### spoilt jobs -/
theorem All2.take' {α β : Type} {R : α → β → Prop} {as : List α} {bs : List β} (h : All2 R as bs) : ∀ n, All2 R (as.take n) (bs.take n) := by
  induction h with
  | nil => intro n; rw [List.take_nil, List.take_nil]; exact .nil
  | cons r _ ih =>
    intro n
    cases n with
    | zero => exact .nil
    | succ n => exact .cons r (ih n)
theorem All2.drop' {α β : Type} {R : α → β → Prop} {as : List α} {bs : List β} (h : All2 R as bs) : ∀ n, All2 R (as.drop n) (bs.drop n) := by
  induction h with
  | nil => intro n; rw [List.drop_nil, List.drop_nil]; exact .nil
  | cons r t ih =>
    intro n
    cases n with
    | zero => exact .cons r t
    | succ n => exact ih n
theorem All2.app' {α β : Type} {R : α → β → Prop} {as : List α} {bs : List β} {cs : List α} {ds : List β} (h : All2 R as bs) (g : All2 R cs ds) : All2 R (as ++ cs) (bs ++ ds) := by
  induction h with
  | nil => exact g
  | cons r _ ih => exact .cons r ih
theorem All2.rep' {α β : Type} {R : α → β → Prop} {a : α} {b : β} (h : R a b) : ∀ n, All2 R (List.replicate n a) (List.replicate n b)
  | 0 => .nil
  | n + 1 => .cons h (All2.rep' h n)
theorem cutV_to {xs : List V} {i : Nat} (h1 : i ≤ xs.length) : cutV xs none (some (i : Int)) = xs.take i := by
  unfold cutV
  rw [HT.sIx_none, HT.sIx_nat, List.drop_zero, Nat.sub_zero, Nat.min_eq_left h1]
theorem cutV_from {xs : List V} {i : Nat} : cutV xs (some (i : Int)) none = xs.drop i := by
  unfold cutV
  rw [HT.sIx_none, HT.sIx_nat]
  rcases Nat.le_total i xs.length with h | h
  · rw [Nat.min_eq_left h, List.take_of_length_le (by rw [List.length_drop]; omega)]
  · rw [Nat.min_eq_right h, List.drop_of_length_le h, List.drop_of_length_le (Nat.le_refl _), List.take_nil]
theorem JobG.made {H : Hp} {b r : Addr} {rs : List Int} {jb RL DL n PL NL LL : Addr} {ni nt : Int} {pms : List (Int × Int × Str × Int)} {nds : List Nd} {ls : List Int} {seed batch factor point : Int} {rates : List (Int × Int)} {data : List (List Int × List Int)}
    (j : JobG H b r rs jb RL DL n PL NL LL ni nt pms nds ls seed batch factor point rates data) {ob RL' DL' : Addr} {batch' point' : Int} {rates' : List (Int × Int)} {data' : List (List Int × List Int)} (no : ob ≠ b)
    (h : H ob = some (.lst [.ref n, .int seed, .int batch', .int factor, .int point', .ref RL', .ref DL'])) (rt : DV (· ≠ b) H 3 (.ref RL') (.l (rates'.map rateD))) (dt : DV (· ≠ b) H 4 (.ref DL') (.l (data'.map sampD))) :
    JobG H b r rs ob RL' DL' n PL NL LL ni nt pms nds ls seed batch' factor point' rates' data' := ⟨j.g, no, h, rt, dt⟩
def spSpoilt : Sp := fun vs H Q _ => ∃ (b r : Addr) (rs : List Int) (jb RL DL n PL NL LL : Addr) (ni nt : Int) (pms : List (Int × Int × Str × Int)) (nds : List Nd) (ls : List Int) (seed batch factor point : Int) (rates : List (Int × Int)) (data : List (List Int × List Int)), vs = [.ref b, .ref jb] ∧
  JobG H b r rs jb RL DL n PL NL LL ni nt pms nds ls seed batch factor point rates data ∧ JobOk ni nt seed batch factor point rates data ∧ ni ≤ 100 ∧
  ∀ (ob RL' DL' : Addr) (batch' point' : Int) (rates' : List (Int × Int)) (data' : List (List Int × List Int)) (H' : Hp), JobG H' b r rs ob RL' DL' n PL NL LL ni nt pms nds ls seed batch' factor point' rates' data' →
    ¬ JobGood ni nt pms nds seed batch' factor point' rates' data' → But b H H' → Q (.ref ob) H'

section
variable {P : Program} {w : World} {K : PySem.W.Frag} {mg : Str → Option Value} {cs : Cs} {base : Heap} {f : Addr} {fd : FuncData}
theorem ok__law_spoilt (F : Fun K "_law_spoilt" "_law_spoilt" s__law_spoilt f fd) (T : Txt K mg cs w) (d__law_draw : Def P w K mg base 1 "_law_draw" ["box", "many"] (spDraw)) :
    FnOk P w K mg base CX0 2 f fd ["box", "job"] (spSpoilt) := by
  obtain ⟨f0, fd0, G__law_draw, b__law_draw, g__law_draw, k__law_draw⟩ := d__law_draw.ex
  refine F.ok sc__law_spoilt (fun vs H Q E h => ?_) (fun cdv A outer s H vs Q E hr h => ?_)
  · obtain ⟨b, r, rs, jb, RL, DL, n, PL, NL, LL, ni, nt, pms, nds, ls, seed, batch, factor, point, rates, data, rfl, J, ok, n100, q⟩ := h
    rfl
  obtain ⟨b, r, rs, jb, RL, DL, n, PL, NL, LL, ni, nt, pms, nds, ls, seed, batch, factor, point, rates, data, rfl, J, ok, n100, q⟩ := h
  have hu := hr.units
  refine ⟨_, pss_cons (ps_set (i := 2) sc__law_spoilt.nd rfl (.inl rfl) (pe_callTy (list_at (K := K) rfl) (by rfl) T.z_list PyProof.Rows.boot_list (pa_cons (pv 1) pa_nil)))
 (pss_cons (ps_set (i := 3) sc__law_spoilt.nd rfl (.inl rfl) (pe_call G__law_draw hr rfl g__law_draw k__law_draw b__law_draw .nil pass0 (pa_cons (pv 0) (pa_cons pe_int pa_nil))))
 (pss_cons (ps_if (pt_cmpR op_eq (pv 3) pe_int (nomark _)) (pss_one (ps_asg (pe_ix (ixl_at (K := K) rfl) (pe_lst (pa_cons pe_int (pa_cons pe_int (pa_cons (pe_op op_add (pe_op op_add pe_int (pe_call G__law_draw hr rfl g__law_draw k__law_draw b__law_draw .nil pass0 (pa_cons (pv 0) (pa_cons pe_int pa_nil)))) pe_int) pa_nil)))) (pe_call G__law_draw hr rfl g__law_draw k__law_draw b__law_draw .nil pass0 (pa_cons (pv 0) (pa_cons pe_int pa_nil))) (fun _ _ => rfl)) (pg_sub (pv 2) pe_int set_list))) (pss_one (ps_if (pt_cmpR op_eq (pv 3) pe_int (nomark _)) (pss_one (ps_asg (pe_ix (ixl_at (K := K) rfl) (pe_lst (pa_cons (pe_un un_neg pe_int) (pa_cons pe_int (pa_cons (pe_op op_add pe_int (pe_call G__law_draw hr rfl g__law_draw k__law_draw b__law_draw .nil pass0 (pa_cons (pv 0) (pa_cons pe_int pa_nil)))) pa_nil)))) (pe_call G__law_draw hr rfl g__law_draw k__law_draw b__law_draw .nil pass0 (pa_cons (pv 0) (pa_cons pe_int pa_nil))) (fun _ _ => rfl)) (pg_sub (pv 2) pe_int set_list))) (pss_one (ps_if (pt_cmpR op_eq (pv 3) pe_int (nomark _)) (pss_one (ps_asg (pe_lc (own := [("k", 6)]) (g := gName 6) (tt := tYes)  rfl sc__law_spoilt.nd (pi_range1 rfl T.z_range (pa_cons pe_int pa_nil)) (blkOk_by (N := ["box", "job", "other", "kind", "at", "sample", "k"]) (sc := defScope s__law_spoilt) (by decide +kernel)) (fun _ _ _ _ _ => (pg_name (i := 6) sc__law_spoilt.nd rfl (.inl rfl))) (fun _ _ _ _ _ => pts_nil) (fun _ _ _ _ _ => (pe_tup (pa_cons (pv 6) (pa_cons pe_int pa_nil))))) (pg_sub (pv 2) pe_int set_list))) (pss_one (ps_if (pt_cmpR op_eq (pv 3) pe_int (nomark _)) (pss_one (ps_asg (pe_lst pa_nil) (pg_sub (pv 2) pe_int set_list))) (pss_one (ps_if (pt_cmpR op_eq (pv 3) pe_int (nomark _)) (pss_one (ps_asg (pe_op op_rep (pe_lst (pa_cons (pe_ix (ixl_at (K := K) rfl) (pe_ix (ixl_at (K := K) rfl) (pv 2) pe_int (fun _ _ => rfl)) pe_int (fun _ _ => rfl)) pa_nil)) pe_int) (pg_sub (pv 2) pe_int set_list))) (pss_cons (ps_set (i := 4) sc__law_spoilt.nd rfl (.inl rfl) (pe_call G__law_draw hr rfl g__law_draw k__law_draw b__law_draw .nil pass0 (pa_cons (pv 0) (pa_cons (pe_callB (len_at (K := K) rfl) (by rfl) T.z_len PySem.boot_len (pa_cons (pe_ix (ixl_at (K := K) rfl) (pv 2) pe_int (fun _ _ => rfl)) pa_nil)) pa_nil))))
 (pss_cons (ps_set (i := 5) sc__law_spoilt.nd rfl (.inl rfl) (pe_ix (ixl_at (K := K) rfl) (pe_ix (ixl_at (K := K) rfl) (pv 2) pe_int (fun _ _ => rfl)) (pv 4) (fun _ _ => rfl)))
 (pss_one (ps_asg (pe_op op_cat (pe_op op_cat (pe_slice sl_list (pe_ix (ixl_at (K := K) rfl) (pv 2) pe_int (fun _ _ => rfl)) po_none (po_some (pv 4))) (pe_lst (pa_cons (pe_tup (pa_cons (pe_op op_cat (pe_ix (ixt_at (K := K) rfl) (pv 5) pe_int (fun _ _ => rfl)) (pe_lst (pa_cons pe_int pa_nil))) (pa_cons (pe_ix (ixt_at (K := K) rfl) (pv 5) pe_int (fun _ _ => rfl)) pa_nil))) pa_nil))) (pe_slice sl_list (pe_ix (ixl_at (K := K) rfl) (pv 2) pe_int (fun _ _ => rfl)) (po_some (pe_op op_add (pv 4) pe_int)) po_none)) (pg_sub (pv 2) pe_int set_list))))))))))))))
 (pss_one (ps_ret (pv 2))))), ?_⟩
  have B0 := J.g.box
  obtain ⟨bx, hbx⟩ := B0.lst
  refine ⟨_, rfl, jb, _, rfl, .inl (SqL.of J.jl), fun ob nob => ?_⟩
  have nb : ob ≠ b := fun z => by rw [z, hbx] at nob; cases nob
  have s1 := same_new nob (.lst [.ref n, .int seed, .int batch, .int factor, .int point, .ref RL, .ref DL])
  have ho1 : (upd H ob (.lst [V.ref n, .int seed, .int batch, .int factor, .int point, .ref RL, .ref DL])) ob = some (.lst [.ref n, .int seed, .int batch, .int factor, .int point, .ref RL, .ref DL]) := upd_same
  generalize upd H ob (.lst [V.ref n, .int seed, .int batch, .int factor, .int point, .ref RL, .ref DL]) = H1 at *
  refine ⟨_, rfl, b, r, rs, 6, rfl, B0.same s1, by decide, fun kind H2 k0 k1 B2 e2 => ?_⟩
  have ho2 := e2 _ _ nb ho1
  have e02 := (But.of s1).trans e2
  -- how it ends
  have fin : ∀ (H3 : Hp) (RL' DL' : Addr) (batch' point' : Int) (rates' : List (Int × Int)) (data' : List (List Int × List Int)), Box H3 b r rs → But b H H3 →
      (let H4 := upd H3 ob (.lst [.ref n, .int seed, .int batch', .int factor, .int point', .ref RL', .ref DL']); (JobG H4 b r rs jb RL DL n PL NL LL ni nt pms nds ls seed batch factor point rates data → DV (· ≠ b) H4 3 (.ref RL') (.l (rates'.map rateD)) ∧ DV (· ≠ b) H4 4 (.ref DL') (.l (data'.map sampD)))) →
      ¬ JobGood ni nt pms nds seed batch' factor point' rates' data' → Q (.ref ob) (upd H3 ob (.lst [.ref n, .int seed, .int batch', .int factor, .int point', .ref RL', .ref DL'])) := fun H3 RL' DL' batch' point' rates' data' B3 e3 hd bad => by
    have e4 : But b H (upd H3 ob (.lst [.ref n, .int seed, .int batch', .int factor, .int point', .ref RL', .ref DL'])) := e3.mut nob
    have J4 := J.but (B3.mut B0 nob) e4
    obtain ⟨d1, d2⟩ := hd J4
    exact q ob RL' DL' batch' point' rates' data' _ (J4.made nb upd_same d1 d2) bad e4
  refine ⟨_, rfl, rfl, _, rfl, ?_⟩
  refine ite2 (fun c => ?_) (fun c => ?_)
  · -- the batch
    refine ⟨_, rfl, b, r, rs, 840, rfl, B2, by decide, fun v H3 v0 v1 B3 e3 => ?_⟩
    refine ⟨_, _, rfl, rfl, _, _, rfl, rfl, by show 3 ≤ sizeLine; decide, fun l nl => ?_⟩
    have s4 := same_new nl (.lst [V.int 0, .int 5, .int (4 + v + 1)])
    refine ⟨_, rfl, b, r, rs, 3, rfl, B3.same s4, by decide, fun k H5 k0' k1' B5 e5 => ?_⟩
    obtain ⟨x, hx, bad⟩ : ∃ x : Int, atI [V.int 0, .int 5, .int (4 + v + 1)] k = some (.int x) ∧ ¬ (1 ≤ x ∧ x ≤ 4) := by
      rcases (show k = 0 ∨ k = 1 ∨ k = 2 by omega) with rfl | rfl | rfl
      · exact ⟨_, rfl, by omega⟩
      · exact ⟨_, rfl, by omega⟩
      · exact ⟨_, rfl, by omega⟩
    have lb : l ≠ b := fun z => by obtain ⟨_, h⟩ := B3.lst; rw [z, h] at nl; cases nl
    refine ⟨l, _, _, _, rfl, rfl, SqL.of (e5 _ _ lb upd_same), hx, ?_⟩
    refine ⟨_, rfl, ob, _, _, 2, rfl, rfl, e5 _ _ nb (s4 _ _ (e3 _ _ nb ho2)), rfl, ?_⟩
    exact ⟨_, rfl, fin H5 RL DL x point rates data B5 (((e02.trans e3).trans (.of s4)).trans e5) (fun J4 => ⟨J4.rt, J4.dt⟩) fun z => bad z.2.2.2.1⟩
  refine ⟨_, rfl, rfl, _, rfl, ?_⟩
  refine ite2 (fun c => ?_) (fun c => ?_)
  · -- the point
    refine ⟨_, rfl, _, rfl, b, r, rs, 840, rfl, B2, by decide, fun v H3 v0 v1 B3 e3 => ?_⟩
    refine ⟨_, _, rfl, rfl, by show 3 ≤ sizeLine; decide, fun l nl => ?_⟩
    have s4 := same_new nl (.lst [V.int (-1), .int 32, .int (33 + v)])
    refine ⟨_, rfl, b, r, rs, 3, rfl, B3.same s4, by decide, fun k H5 k0' k1' B5 e5 => ?_⟩
    obtain ⟨x, hx, bad⟩ : ∃ x : Int, atI [V.int (-1), .int 32, .int (33 + v)] k = some (.int x) ∧ ¬ (0 ≤ x ∧ x ≤ 31) := by
      rcases (show k = 0 ∨ k = 1 ∨ k = 2 by omega) with rfl | rfl | rfl
      · exact ⟨_, rfl, by omega⟩
      · exact ⟨_, rfl, by omega⟩
      · exact ⟨_, rfl, by omega⟩
    have lb : l ≠ b := fun z => by obtain ⟨_, h⟩ := B3.lst; rw [z, h] at nl; cases nl
    refine ⟨l, _, _, _, rfl, rfl, SqL.of (e5 _ _ lb upd_same), hx, ?_⟩
    refine ⟨_, rfl, ob, _, _, 4, rfl, rfl, e5 _ _ nb (s4 _ _ (e3 _ _ nb ho2)), rfl, ?_⟩
    exact ⟨_, rfl, fin H5 RL DL batch x rates data B5 (((e02.trans e3).trans (.of s4)).trans e5) (fun J4 => ⟨J4.rt, J4.dt⟩) fun z => bad z.2.2.2.2.1⟩
  refine ⟨_, rfl, rfl, _, rfl, ?_⟩
  refine ite2 (fun c => ?_) (fun c => ?_)
  · -- the rates
    refine ⟨5, rfl, by decide, by decide, fun D nD => ?_⟩
    have Db : D ≠ b := fun z => by obtain ⟨_, h⟩ := B2.lst; rw [z, h] at nD; cases nD
    have Do : D ≠ ob := fun z => by rw [z, ho2] at nD; cases nD
    refine lc_range (n := 5) (fun (t : Nat) H' => ∃ us : List V, Same H2 H' ∧ H' D = some (.lst us) ∧ us.length = t ∧ All2 (DV (fun a => H2 a = none ∧ a ≠ D) H' 2) us (((List.range t).map fun k : Nat => ((k : Int), (1 : Int))).map rateD)) ⟨[], same_new nD _, upd_same, rfl, .nil⟩ (fun k H' hk hP => ?_) (fun H' hP => ?_)
    · obtain ⟨us, e, hD, hl, au⟩ := hP
      refine ⟨rfl, _, rfl, by show 2 ≤ sizeLine; decide, fun t nt => ?_⟩
      have s5 := same_new nt (.tup [V.int (0 + (k : Int)), .int 1])
      have tD : t ≠ D := fun z => by rw [z, hD] at nt; cases nt
      refine ⟨us, s5 _ _ hD, smaller (by omega), us ++ [.ref t], same_mut (e.trans s5) nD, upd_same, by rw [List.length_append, hl]; rfl, ?_⟩
      rw [List.range_succ, List.map_append, List.map_append]
      refine (au.mono fun _ _ w => (w.same s5).keep fun a o s h => ⟨s, by rw [upd_ne s.2]; exact h⟩).app' (.cons ?_ .nil)
      refine DV.tup (ns := [(k : Int), 1]) ⟨none_of e nt, tD⟩ ?_ (by show 2 ≤ 100000; decide)
      rw [upd_ne tD, upd_same, Int.zero_add]
      rfl
    · obtain ⟨us, e, hD, hl, au⟩ := hP
      have B3 := B2.same e
      refine ⟨_, rfl, ob, _, _, 5, rfl, rfl, e _ _ ho2, rfl, ?_⟩
      refine ⟨_, rfl, fin H' D DL batch point ((List.range 5).map fun k : Nat => ((k : Int), (1 : Int))) data B3 (e02.trans (.of e)) (fun J4 => ⟨?_, J4.dt⟩) fun z => ?_⟩
      · refine ⟨D, us, rfl, Db, by rw [upd_ne Do]; exact hD, by omega, au.mono fun _ _ w => w.keep fun a o s h => ⟨fun z => ?_, ?_⟩⟩
        · obtain ⟨_, h2⟩ := B2.lst
          rw [z, h2] at s
          cases s.1
        · rw [upd_ne (fun z => by rw [z, ho2] at s; cases s.1)]
          exact h
      · have := z.2.2.2.2.2.1.1
        rw [List.length_map, List.length_range] at this
        omega
  refine ⟨_, rfl, rfl, _, rfl, ?_⟩
  refine ite2 (fun c => ?_) (fun c => ?_)
  · -- no sample
    refine ⟨Nat.zero_le _, fun D nD => ?_⟩
    have Db : D ≠ b := fun z => by obtain ⟨_, h⟩ := B2.lst; rw [z, h] at nD; cases nD
    have Do : D ≠ ob := fun z => by rw [z, ho2] at nD; cases nD
    have s3 := same_new nD (.lst [])
    refine ⟨_, rfl, ob, _, _, 6, rfl, rfl, s3 _ _ ho2, rfl, ?_⟩
    refine ⟨_, rfl, fin _ RL D batch point rates [] (B2.same s3) (e02.trans (.of s3)) (fun J4 => ⟨J4.rt, ⟨D, [], rfl, Db, by rw [upd_ne Do]; exact upd_same, Nat.zero_le _, .nil⟩⟩) fun z => ?_⟩
    have := z.2.2.2.2.2.2.1.1
    rw [List.length_nil] at this
    omega
  obtain ⟨_, ws, re, DLb, t2, t3, t4⟩ := id (J.but B2 e02).dt
  cases re
  have lw : ws.length = data.length := by rw [t4.length, List.length_map]
  have d1 := ok.d1
  have d5 := ok.d5
  refine ⟨_, rfl, rfl, _, rfl, ?_⟩
  refine ite2 (fun c => ?_) (fun c => ?_)
  · -- too many samples
    obtain ⟨v0, hv0⟩ : ∃ v0, ws[0]? = some v0 := ⟨ws[0], List.getElem?_eq_getElem (by omega)⟩
    refine ⟨_, rfl, ob, _, _, _, rfl, rfl, SqL.of ho2, rfl, DL, _, _, _, rfl, rfl, SqL.of t2, atI_nat (j := 0) hv0, by show 1 ≤ sizeLine; decide, fun l nl => ?_⟩
    have s3 := same_new nl (.lst [v0])
    refine ⟨l, 13, _, rfl, rfl, upd_same, by decide, by decide, by show 1 * 13 ≤ sizeLine; decide, fun D nD => ?_⟩
    have s4 := same_new nD (.lst (List.replicate (13 : Int).toNat [v0]).flatten)
    have s34 := s3.trans s4
    have n2 := none_of s3 nD
    have Db : D ≠ b := fun z => by obtain ⟨_, h⟩ := B2.lst; rw [z, h] at n2; cases n2
    have Do : D ≠ ob := fun z => by rw [z, ho2] at n2; cases n2
    refine ⟨_, rfl, ob, _, _, 6, rfl, rfl, s34 _ _ ho2, rfl, ?_⟩
    obtain ⟨p0, hp0⟩ : ∃ p0, data[0]? = some p0 := ⟨data[0], List.getElem?_eq_getElem (by omega)⟩
    refine ⟨_, rfl, fin _ RL D batch point rates (List.replicate 13 p0) (B2.same s34) (e02.trans (.of s34)) (fun J4 => ⟨J4.rt, ?_⟩) fun z => ?_⟩
    · obtain ⟨_, ws4, re, _, u2, u3, u4⟩ := id J4.dt
      cases re
      have DLo : DL ≠ ob := fun z => by
        rw [z] at t2
        rw [ho2] at t2
        have h := All2.length t4
        cases t2
        rw [List.length_map] at h
        simp only [List.length_cons, List.length_nil] at h
        omega
      have DLD : DL ≠ D := fun z => by rw [← z, t2] at n2; cases n2
      have ew : ws4 = ws := by
        rw [upd_ne DLo] at u2
        rw [s34 _ _ t2] at u2
        cases u2
        rfl
      subst ew
      obtain ⟨v0', ev, dv⟩ := u4.get (i := 0) (b := sampD p0) (by rw [List.getElem?_map, hp0]; rfl)
      rw [hv0] at ev
      cases ev
      refine ⟨D, List.replicate 13 v0, rfl, Db, by rw [upd_ne Do, upd_same]; rfl, by show 13 ≤ 100000; decide, ?_⟩
      rw [List.map_replicate]
      exact All2.rep' dv 13
    · have := z.2.2.2.2.2.2.1.2
      rw [List.length_replicate] at this
      omega
  · -- a sample too long
    refine ⟨_, rfl, _, rfl, ob, _, _, _, rfl, rfl, SqL.of ho2, rfl, DL, _, rfl, .inl (SqL.of t2), b, r, rs, _, rfl, B2, by omega, fun at_ H3 a0 a1 B3 e3 => ?_⟩
    have ho3 := e3 _ _ nb ho2
    have e03 := e02.trans e3
    obtain ⟨_, ws3, re, _, t23, t33, t43⟩ := id (J.but B3 e03).dt
    cases re
    have ew : ws3 = ws := by
      rw [e3 _ _ DLb t2] at t23
      cases t23
      rfl
    subst ew
    obtain ⟨k, rfl⟩ := Int.eq_ofNat_of_zero_le a0
    have hk : k < data.length := by omega
    have em : data[k]? = some data[k] := List.getElem?_eq_getElem hk
    obtain ⟨v', ev, dv⟩ := t43.get (i := k) (b := sampD data[k]) (by rw [List.getElem?_map, em]; rfl)
    have hp := ok.dd data[k] (List.getElem_mem hk)
    obtain ⟨p, hpe⟩ : ∃ p, p = data[k] := ⟨_, rfl⟩
    rw [← hpe] at dv hp em
    obtain ⟨t, g, w, rfl, sb1, sb2, sb3, h1, h2, h3, l1, l2⟩ := dv.samp
    refine ⟨_, rfl, ob, _, _, _, rfl, rfl, SqL.of ho3, rfl, _, rfl, DL, _, _, _, rfl, rfl, SqL.of t23, atI_nat ev, ?_⟩
    have lh := h1
    refine ⟨_, rfl, ob, _, _, _, rfl, rfl, SqL.of ho3, rfl, _, rfl, (k : Int), rfl, DL, _, rfl, SqL.of t23, fun p1 np1 => ?_⟩
    generalize eqHa : upd H3 p1 _ = Ha
    obtain ⟨sa, ha⟩ := new_facts eqHa np1
    rw [cutV_to (by omega)] at ha
    refine ⟨_, rfl, t, _, _, _, rfl, rfl, SqT.of (sa _ _ h1), rfl, by show 1 ≤ sizeLine; decide, fun q1 nq1 => ?_⟩
    generalize eqHb : upd Ha q1 _ = Hb
    obtain ⟨sb, hb⟩ := new_facts eqHb nq1
    refine ⟨g, q1, _, _, rfl, rfl, sb _ _ (sa _ _ h2), hb, Nat.le_trans (m := 200000) (by rw [List.length_map]; show p.1.length + 1 ≤ 200000; omega) (by decide), fun g2 ng2 => ?_⟩
    generalize eqHc : upd Hb g2 _ = Hc
    obtain ⟨sc, hc⟩ := new_facts eqHc ng2
    have sac := sa.trans (sb.trans sc)
    refine ⟨_, rfl, t, _, _, _, rfl, rfl, SqT.of (sac _ _ h1), rfl, by show 2 ≤ sizeLine; decide, fun t2' nt2 => ?_⟩
    generalize eqHd : upd Hc t2' _ = Hd
    obtain ⟨sd, hd⟩ := new_facts eqHd nt2
    refine ⟨by show 1 ≤ sizeLine; decide, fun l2' nl2 => ?_⟩
    generalize eqHe : upd Hd l2' _ = He
    obtain ⟨se, he⟩ := new_facts eqHe nl2
    have sae := sac.trans (sd.trans se)
    have sbe := sb.trans (sc.trans (sd.trans se))
    refine ⟨p1, l2', _, _, rfl, rfl, sbe _ _ ha, he, Nat.le_trans (m := 200000) (by rw [List.length_take]; show min k ws3.length + 1 ≤ 200000; omega) (by decide), fun p3 np3 => ?_⟩
    generalize eqHf : upd He p3 _ = Hf
    obtain ⟨sf, hf⟩ := new_facts eqHf np3
    have saf := sae.trans sf
    refine ⟨_, rfl, ob, _, _, _, rfl, rfl, SqL.of (saf _ _ ho3), rfl, _, rfl, _, _, rfl, rfl, ((k + 1 : Nat) : Int), rfl, DL, _, rfl, SqL.of (saf _ _ t23), fun p4 np4 => ?_⟩
    generalize eqHg : upd Hf p4 _ = Hg
    obtain ⟨sg, hg⟩ := new_facts eqHg np4
    rw [cutV_from] at hg
    have sag := saf.trans sg
    refine ⟨p3, p4, _, _, rfl, rfl, sg _ _ hf, hg, Nat.le_trans (m := 200000) (by rw [List.length_append, List.length_take, List.length_drop]; show min k ws3.length + 1 + (ws3.length - (k + 1)) ≤ 200000; omega) (by decide), fun p5 np5 => ?_⟩
    generalize eqHh : upd Hg p5 _ = Hh
    obtain ⟨sh, hh⟩ := new_facts eqHh np5
    have sah := sag.trans sh
    refine ⟨_, rfl, ob, _, _, 6, rfl, rfl, sah _ _ ho3, rfl, ?_⟩
    have far : ∀ {c : Addr}, H3 c = none → c ≠ b ∧ c ≠ ob := fun {c} h => ⟨fun z => (by obtain ⟨_, h2⟩ := B3.lst; rw [z, h2] at h; cases h), fun z => (by rw [z, ho3] at h; cases h)⟩
    have n5 := far (none_of sag np5)
    have ng := far (none_of (sa.trans sb) ng2)
    have nt := far (none_of sac nt2)
    refine ⟨_, rfl, fin _ RL p5 batch point rates (data.take k ++ [(p.1 ++ [1], p.2)] ++ data.drop (k + 1)) (B3.same sah) (e03.trans (.of sah)) (fun J4 => ⟨J4.rt, ?_⟩) fun z => ?_⟩
    · obtain ⟨_, ws4, re, _, u2, u3, u4⟩ := id J4.dt
      cases re
      have DLo : DL ≠ ob := fun z => by
        rw [z] at t23
        rw [ho3] at t23
        have h := All2.length t43
        cases t23
        rw [List.length_map] at h
        simp only [List.length_cons, List.length_nil] at h
        omega
      have ew : ws4 = ws3 := by
        rw [upd_ne DLo, sah _ _ t23] at u2
        cases u2
        rfl
      subst ew
      have hw : (upd Hh ob (.lst [V.ref n, .int seed, .int batch, .int factor, .int point, .ref RL, .ref p5])) w = some (.lst (p.2.map V.int)) := by
        rw [upd_ne (fun z => ?_)]
        · exact sah _ _ h3
        · rw [z, ho3] at h3
          rcases hq : p.2 with _ | ⟨y, r'⟩ <;> rw [hq] at h3 <;> cases h3
      have hgc : (upd Hh ob (.lst [V.ref n, .int seed, .int batch, .int factor, .int point, .ref RL, .ref p5])) g2 = some (.lst ((p.1 ++ [1]).map V.int)) := by
        rw [upd_ne ng.2, sh _ _ (sg _ _ (sf _ _ (se _ _ (sd _ _ hc)))), List.map_append]
        rfl
      have htc : (upd Hh ob (.lst [V.ref n, .int seed, .int batch, .int factor, .int point, .ref RL, .ref p5])) t2' = some (.tup [.ref g2, .ref w]) := by
        rw [upd_ne nt.2, sh _ _ (sg _ _ (sf _ _ (se _ _ hd)))]
      refine ⟨p5, _, rfl, n5.1, by rw [upd_ne n5.2]; exact hh, Nat.le_trans (m := 200) (by rw [List.length_append, List.length_append, List.length_take, List.length_drop]; show min k ws4.length + 1 + (ws4.length - (k + 1)) ≤ 200; omega) (by decide), ?_⟩
      rw [List.map_append, List.map_append, List.map_take, List.map_drop]
      exact ((u4.take' k).app' (.cons (samp_dv (p := (p.1 ++ [1], p.2)) nt.1 ng.1 sb3 htc hgc hw (by rw [List.length_append]; show p.1.length + 1 ≤ 100000; have := hp.1; omega) l2) .nil)).app' (u4.drop' (k + 1))
    · have h := (z.2.2.2.2.2.2.2 (p.1 ++ [1], p.2) (by simp)).1
      rw [List.length_append, List.length_singleton] at h
      have := hp.1
      omega

end

section
variable {P : Program} {w : World} {K : PySem.W.Frag} {mg : Str → Option Value} {cs : Cs} {base : Heap} {f : Addr} {fd : FuncData}
theorem ok_law (F : Fun K "law" "law" s_law f fd) (T : Txt K mg cs w) (d__law_row : Def P w K mg base 2 "_law_row" ["script", "first", "last"] (spRow K)) (d__law_job : Def P w K mg base 7 "_law_job" ["box", "kinds", "most"] (spJob K)) (d__law_job_object : Def P w K mg base 8 "_law_job_object" ["job"] (spJobObj K cs)) (d_is_job : Def P w K mg base 7 "is_job" ["job"] (spIsJob K cs)) (d__law_spoilt : Def P w K mg base 2 "_law_spoilt" ["box", "job"] (spSpoilt)) (d__law_cell : Def P w K mg base 1 "_law_cell" ["script", "k"] (spCell K)) (d_rate_at : Def P w K mg base 1 "rate_at" ["job", "step"] (spRateAt cs)) (d__law_is_integer : Def P w K mg base 1 "_law_is_integer" ["told"] (spIsInt)) (d__law_rate : Def P w K mg base 1 "_law_rate" ["job", "step"] (spLRate)) :
    FnOk P w K mg base CX0 9 f fd ["script"] (spLaw K) := by
  obtain ⟨f0, fd0, G__law_row, b__law_row, g__law_row, k__law_row⟩ := d__law_row.ex
  obtain ⟨f1, fd1, G__law_job, b__law_job, g__law_job, k__law_job⟩ := d__law_job.ex
  obtain ⟨f2, fd2, G__law_job_object, b__law_job_object, g__law_job_object, k__law_job_object⟩ := d__law_job_object.ex
  obtain ⟨f3, fd3, G_is_job, b_is_job, g_is_job, k_is_job⟩ := d_is_job.ex
  obtain ⟨f4, fd4, G__law_spoilt, b__law_spoilt, g__law_spoilt, k__law_spoilt⟩ := d__law_spoilt.ex
  obtain ⟨f5, fd5, G__law_cell, b__law_cell, g__law_cell, k__law_cell⟩ := d__law_cell.ex
  obtain ⟨f6, fd6, G_rate_at, b_rate_at, g_rate_at, k_rate_at⟩ := d_rate_at.ex
  obtain ⟨f7, fd7, G__law_is_integer, b__law_is_integer, g__law_is_integer, k__law_is_integer⟩ := d__law_is_integer.ex
  obtain ⟨f8, fd8, G__law_rate, b__law_rate, g__law_rate, k__law_rate⟩ := d__law_rate.ex
  refine F.ok sc_law (fun vs H Q E h => ?_) (fun cdv A outer s H vs Q E hr h => ?_)
  · obtain ⟨a, ns, rfl, hS, h63, q⟩ := h
    rfl
  obtain ⟨a, ns, rfl, hS, h63, q⟩ := h
  have hu := hr.units
  refine ⟨_, pss_cons (ps_set (i := 1) sc_law.nd rfl (.inl rfl) (pe_lst (pa_cons (pe_call G__law_row (hr.mono (by decide)) rfl g__law_row k__law_row b__law_row .nil pass0 (pa_cons (pv 0) (pa_cons pe_int (pa_cons pe_int pa_nil)))) (pa_cons pe_int pa_nil))))
 (pss_cons (ps_set (i := 2) sc_law.nd rfl (.inl rfl) (pe_call G__law_job (hr.mono (by decide)) rfl g__law_job k__law_job b__law_job .nil pass0 (pa_cons (pv 1) (pa_cons (pe_lst (pa_cons pe_str (pa_cons pe_str (pa_cons pe_str (pa_cons pe_str (pa_cons pe_str (pa_cons pe_str pa_nil))))))) (pa_cons pe_int pa_nil)))))
 (pss_cons (ps_set (i := 3) sc_law.nd rfl (.inl rfl) (pe_call G__law_job_object hr rfl g__law_job_object k__law_job_object b__law_job_object .nil pass0 (pa_cons (pv 2) pa_nil)))
 (pss_cons (ps_if (PW.pt (pw_or (pt_cmpR op_isnot_bl (pe_call G_is_job (hr.mono (by decide)) rfl g_is_job k_is_job b_is_job .nil pass0 (pa_cons (pv 3) pa_nil)) pe_bl (nomark _)) (pw_or1 (pt_cmpR op_isnot_bl (pe_call G_is_job (hr.mono (by decide)) rfl g_is_job k_is_job b_is_job .nil pass0 (pa_cons (pe_call G__law_job_object hr rfl g__law_job_object k__law_job_object b__law_job_object .nil pass0 (pa_cons (pe_call G__law_spoilt (hr.mono (by decide)) rfl g__law_spoilt k__law_spoilt b__law_spoilt .nil pass0 (pa_cons (pv 1) (pa_cons (pv 2) pa_nil))) pa_nil)) pa_nil)) pe_bl (nomark _))))) (pss_one (ps_ret pe_bl)) pss_nil)
 (pss_cons (ps_set (i := 4) sc_law.nd rfl (.inl rfl) (pe_lst (pa_cons pe_int (pa_cons (pe_callB call_abs (by rfl) T.z_abs (by decide +kernel) (pa_cons (pe_call G__law_cell (hr.mono (by decide)) rfl g__law_cell k__law_cell b__law_cell .nil pass0 (pa_cons (pv 0) (pa_cons pe_int pa_nil))) pa_nil)) pa_nil))))
 (pss_cons (ps_for PassesOwn.never rfl (pi_list (pe_ix (ixl_at (K := K) rfl) (pv 2) pe_int (fun _ _ => rfl))) (pg_name (i := 5) sc_law.nd rfl (.inl rfl)) (pss_one (ps_set (i := 4) sc_law.nd rfl (.inl rfl) (pe_op op_cat (pv 4) (pe_lst (pa_cons (pe_ix (ixt_at (K := K) rfl) (pv 5) pe_int (fun _ _ => rfl)) (pa_cons (pe_op op_add (pe_ix (ixt_at (K := K) rfl) (pv 5) pe_int (fun _ _ => rfl)) pe_int) (pa_cons (pe_callB (call_max2 rfl) (by rfl) T.z_max PyProof.Rows.boot_max (pa_cons pe_int (pa_cons (pe_op op_sub (pe_ix (ixt_at (K := K) rfl) (pv 5) pe_int (fun _ _ => rfl)) pe_int) pa_nil))) pa_nil))))))))
 (pss_cons (ps_for PassesOwn.never rfl (pi_list (pv 4)) (pg_name (i := 6) sc_law.nd rfl (.inl rfl)) (pss_cons (ps_set (i := 7) sc_law.nd rfl (.inl rfl) (pe_call G_rate_at (hr.mono (by decide)) rfl g_rate_at k_rate_at b_rate_at .nil pass0 (pa_cons (pv 3) (pa_cons (pv 6) pa_nil))))
 (pss_one (ps_if (PW.pt (pw_or (pt_not (pt_val (pe_call G__law_is_integer (hr.mono (by decide)) rfl g__law_is_integer k__law_is_integer b__law_is_integer .nil pass0 (pa_cons (pv 7) pa_nil)))) (pw_or1 (pt_cmpR op_ne (pv 7) (pe_call G__law_rate (hr.mono (by decide)) rfl g__law_rate k__law_rate b__law_rate .nil pass0 (pa_cons (pv 2) (pa_cons (pv 6) pa_nil))) (nomark _))))) (pss_one (ps_ret pe_bl)) pss_nil))))
 (pss_one (ps_ret pe_bl)))))))), ?_⟩
  refine ⟨_, rfl, a, ns, 1, 40, rfl, hS, by decide, by decide, by decide, fun r rs H1 nr sm hr1 => ?_⟩
  refine ⟨by show 2 ≤ sizeLine; decide, fun b nb => ?_⟩
  have B0 : Box (upd H1 b (.lst [.ref r, .int 0])) b r rs := ⟨⟨0, by decide, upd_same⟩, same_new nb _ _ _ hr1⟩
  have S0 : SqL K (upd H1 b (.lst [.ref r, .int 0])) a (ns.map V.int) := (same_new nb _).seq (sm.seq hS)
  generalize upd H1 b (.lst [.ref r, .int 0]) = H2 at *
  refine ⟨_, rfl, by show 6 ≤ sizeLine; decide, fun kn nk => ?_⟩
  have s3 := same_new nk (.lst [.str "input", .str "target", .str "add", .str "sum", .str "lin", .str "mul"])
  refine ⟨b, r, rs, kn, ["input", "target", "add", "sum", "lin", "mul"], 4, rfl, B0.same s3, SqL.of upd_same, by decide, by decide, by decide, by decide, fun jb RL DL n PL NL LL ni nt pms nds ls seed batch factor point rates data H4 J u hlast hlen ok e4 => ?_⟩
  have S4 := (B0.same s3).farS e4 (s3.seq S0)
  have ng := u.fine (by omega) hlast
  have good : JobGood ni nt pms nds seed batch factor point rates data := by
    refine ⟨ng, ok.sd, ok.fa, ⟨ok.b1, by have := ok.b3; omega⟩, ⟨ok.p0, ok.p1⟩, ⟨ok.rl, fun p hp => ?_⟩, ⟨⟨ok.d1, by have := ok.d5; omega⟩, fun p hp => ?_⟩⟩
    · have h := ok.ro p hp
      exact ⟨⟨h.1, h.2.1⟩, h.2.2⟩
    · have h := ok.dd p hp
      exact ⟨h.1, h.2.1, fun x hx => (List.mem_append.mp hx).elim (h.2.2.1 x) (h.2.2.2 x)⟩
  have nok := u.ok (by omega)
  have few : pms.length ≤ 1000 := by have := u.few; omega
  refine ⟨_, rfl, b, r, rs, jb, RL, DL, n, PL, NL, LL, ni, nt, pms, nds, ls, seed, batch, factor, point, rates, data, rfl, J, nok, few, u.len, fun q0 H5 s5 O5 => ?_⟩
  have J5 := J.same s5
  have S5 := s5.seq S4
  refine ⟨_, rfl, q0, ni, nt, pms, nds, ls, seed, batch, factor, point, rates, data, rfl, O5, nok, few, fun H6 s6 => ?_⟩
  rw [decide_eq_true good]
  refine ⟨_, _, rfl, rfl, _, rfl, iteF ?_⟩
  refine ⟨_, rfl, _, rfl, b, r, rs, jb, RL, DL, n, PL, NL, LL, ni, nt, pms, nds, ls, seed, batch, factor, point, rates, data, rfl, J5.same s6, ok, by have := u.ni3; omega, fun ob RL' DL' batch' point' rates' data' H7 J7 bad e7 => ?_⟩
  refine ⟨b, r, rs, ob, RL', DL', n, PL, NL, LL, ni, nt, pms, nds, ls, seed, batch', factor, point', rates', data', rfl, J7, nok, few, u.len, fun q1 H8 s8 O8 => ?_⟩
  refine ⟨q1, ni, nt, pms, nds, ls, seed, batch', factor, point', rates', data', rfl, O8, nok, few, fun H9 s9 => ?_⟩
  rw [decide_eq_false bad]
  refine ⟨_, _, rfl, rfl, _, rfl, iteF ?_⟩
  have s89 := s8.trans s9
  have B6 : Box H6 b r rs := (J5.same s6).g.box
  have J9 := ((J5.same s6).but J7.g.box e7).same s89
  have JR := ((O5.r.same s6).but B6 e7).same s89
  have S9 := s89.seq (B6.farS e7 (s6.seq S5))
  have jl := J9.jl
  refine ⟨_, rfl, a, ns, 0, rfl, S9, by decide, fun c0 => ⟨c0, rfl, ?_⟩⟩
  dsimp only
  generalize (if c0 < 0 then -c0 else c0) = ep
  refine ⟨by show 2 ≤ sizeLine; decide, fun st nst => ?_⟩
  have s10 := same_new nst (.lst [V.int 0, .int ep])
  have hst : (upd H9 st (.lst [V.int 0, .int ep])) st = some (.lst ([0, ep].map V.int)) := upd_same
  generalize upd H9 st (.lst [V.int 0, .int ep]) = H10 at *
  have JR10 := JR.same s10
  have rt10 := (J9.same s10).rt.any
  have jl10 := s10 _ _ jl
  obtain ⟨_, ws, re, _, t2, t3, t4⟩ := id rt10
  cases re
  have lw : ws.length = rates.length := by rw [t4.length, List.length_map]
  have rl := ok.rl
  refine ⟨_, rfl, jb, _, _, _, rfl, rfl, SqL.of jl10, rfl, RL, rfl, ⟨_, SqL.of t2⟩, ?_⟩
  refine for_list (xs := ws) (fun (i : Nat) σ H' => ∃ (y5 : Option V) (S : Addr) (xs : List Int), σ = [some (.ref a), some (.ref b), some (.ref jb), some (.ref q0), some (.ref S), y5, none, none] ∧ Same H10 H' ∧ H' S = some (.lst (xs.map V.int)) ∧ xs.length = 2 + 3 * i) ⟨none, st, [0, ep], rfl, .refl _, hst, rfl⟩ (fun i σ H' _ hP => ?_) (fun i x σ H' hx hP => ?_) (fun σ H' hP => ?_)
  · obtain ⟨y5, S, xs, rfl, e, _⟩ := hP
    exact SqL.of (e _ _ t2)
  · obtain ⟨y5, S, xs, rfl, e, hS', hl⟩ := hP
    have hi : i < rates.length := by
      have := (List.getElem?_eq_some_iff.mp hx).1
      omega
    have em : rates[i]? = some rates[i] := List.getElem?_eq_getElem hi
    obtain ⟨v', ev, dv⟩ := t4.get (i := i) (b := rateD rates[i]) (by rw [List.getElem?_map, em]; rfl)
    rw [hx] at ev
    cases ev
    obtain ⟨t, rfl, _, h1⟩ := dv.rate
    have ht := e _ _ h1
    generalize rates[i] = m at *
    refine ⟨_, rfl, _, rfl, t, _, _, _, rfl, rfl, SqT.of ht, rfl, _, rfl, t, _, _, _, rfl, rfl, SqT.of ht, rfl, _, _, rfl, rfl, _, rfl, t, _, _, _, rfl, rfl, SqT.of ht, rfl, _, _, rfl, rfl, _, _, rfl, by show 3 ≤ sizeLine; decide, fun l nl => ?_⟩
    dsimp only
    generalize (if m.1 - 1 > 0 then m.1 - 1 else 0) = z3
    generalize eqA : upd H' l _ = Ha
    obtain ⟨sa, ha⟩ := new_facts eqA nl
    refine ⟨S, l, _, _, rfl, rfl, sa _ _ hS', ha, Nat.le_trans (m := 200000) (by rw [List.length_map]; show xs.length + 3 ≤ 200000; omega) (by decide), fun p np => ?_⟩
    generalize eqB : upd Ha p _ = Hb
    obtain ⟨sb, hb⟩ := new_facts eqB np
    refine ⟨_, p, xs ++ [m.1, m.1 + 1, z3], rfl, e.trans (sa.trans sb), by rw [hb, List.map_append]; rfl, by rw [List.length_append, hl]; show 2 + 3 * i + 3 = 2 + 3 * (i + 1); omega⟩
  · obtain ⟨y5, S, xs, rfl, e, hS', hl⟩ := hP
    refine ⟨_, rfl, S, rfl, ⟨_, SqL.of hS'⟩, ?_⟩
    refine for_list (xs := xs.map V.int) (fun (i : Nat) σ H'' => ∃ (y6 y7 : Option V), σ = [some (.ref a), some (.ref b), some (.ref jb), some (.ref q0), some (.ref S), y5, y6, y7] ∧ H'' = H') ⟨_, _, rfl, rfl⟩ (fun i σ H'' _ hP => ?_) (fun i x σ H'' hx hP => ?_) (fun σ H'' hP => ?_)
    · obtain ⟨y6, y7, rfl, rfl⟩ := hP
      exact SqL.of hS'
    · obtain ⟨y6, y7, rfl, rfl⟩ := hP
      obtain ⟨step, rfl, _⟩ := map_get hx
      refine ⟨_, rfl, _, rfl, q0, rates, step, rfl, JR10.same e, ?_⟩
      refine ⟨_, rfl, _, rfl, _, rfl, iteF ?_⟩
      refine ⟨_, rfl, _, rfl, _, rfl, jb, RL, DL, _, _, _, _, _, rates, step, rfl, e _ _ jl10, rt10.same e, rfl, _, rfl, iteNS rfl ?_⟩
      exact ⟨_, _, rfl, rfl⟩
    · obtain ⟨y6, y7, rfl, rfl⟩ := hP
      exact q _
end
theorem all_mk {l : PySem.W.OpenLaw} {w : World} {K : PySem.W.Frag} {h : Heap} {mg : Str → Option Value} {fa : Addr} (X : K.In h) (G : h.Ns mainGlobals mg) (hfa : mg "law" = some (.ref fa))
    {C_Parameter : Addr} (ac_Parameter : PySem.W.nsIn K mainGlobals "Parameter" = some (some (.ref C_Parameter)))
    (pg_Parameter : PySem.W.plainGet K C_Parameter Str.empty = true) (hd_Parameter : PySem.W.hasDictIn K C_Parameter = true) (po_Parameter : PySem.W.plainOver K C_Parameter = true) (sa_Parameter : PySem.W.findIn K (.ref C_Parameter) "__setattr__" = some (some (.builtin "object.__setattr__"))) (mk_Parameter : PySem.W.makesIn K C_Parameter = true) (kc_Parameter : PySem.W.keepIn K (.ref C_Parameter) = true)
    (na_Parameter_rows : PySem.W.findIn K (.ref C_Parameter) "rows" = some none)
    (na_Parameter_cols : PySem.W.findIn K (.ref C_Parameter) "cols" = some none)
    (na_Parameter_fill : PySem.W.findIn K (.ref C_Parameter) "fill" = some none)
    {C_Net : Addr} (ac_Net : PySem.W.nsIn K mainGlobals "Net" = some (some (.ref C_Net)))
    (pg_Net : PySem.W.plainGet K C_Net Str.empty = true) (hd_Net : PySem.W.hasDictIn K C_Net = true) (po_Net : PySem.W.plainOver K C_Net = true) (sa_Net : PySem.W.findIn K (.ref C_Net) "__setattr__" = some (some (.builtin "object.__setattr__"))) (mk_Net : PySem.W.makesIn K C_Net = true) (kc_Net : PySem.W.keepIn K (.ref C_Net) = true)
    (na_Net_inputs : PySem.W.findIn K (.ref C_Net) "inputs" = some none)
    (na_Net_targets : PySem.W.findIn K (.ref C_Net) "targets" = some none)
    (na_Net_parameters : PySem.W.findIn K (.ref C_Net) "parameters" = some none)
    (na_Net_nodes : PySem.W.findIn K (.ref C_Net) "nodes" = some none)
    (na_Net_lengths : PySem.W.findIn K (.ref C_Net) "lengths" = some none)
    {C_Job : Addr} (ac_Job : PySem.W.nsIn K mainGlobals "Job" = some (some (.ref C_Job)))
    (pg_Job : PySem.W.plainGet K C_Job Str.empty = true) (hd_Job : PySem.W.hasDictIn K C_Job = true) (po_Job : PySem.W.plainOver K C_Job = true) (sa_Job : PySem.W.findIn K (.ref C_Job) "__setattr__" = some (some (.builtin "object.__setattr__"))) (mk_Job : PySem.W.makesIn K C_Job = true) (kc_Job : PySem.W.keepIn K (.ref C_Job) = true)
    (na_Job_net : PySem.W.findIn K (.ref C_Job) "net" = some none)
    (na_Job_seed : PySem.W.findIn K (.ref C_Job) "seed" = some none)
    (na_Job_batch : PySem.W.findIn K (.ref C_Job) "batch" = some none)
    (na_Job_factor : PySem.W.findIn K (.ref C_Job) "factor" = some none)
    (na_Job_point : PySem.W.findIn K (.ref C_Job) "point" = some none)
    (na_Job_rates : PySem.W.findIn K (.ref C_Job) "rates" = some none)
    (na_Job_data : PySem.W.findIn K (.ref C_Job) "data" = some none)
    {f_0 : Addr} {od_0 an_0 : Option Addr} {sl_0 : Array (Option Value)} {oc_0 kV_0 dc_0 pm_0 cd_0 ct_0 : Value}
    (a_0 : PySem.W.nsIn K mainGlobals "_law_rate" = some (some (.ref f_0)))
    (l_0 : K.lookup f_0 = some ⟨oc_0, od_0, .func (PySem.W.fnOf "_law_rate" "_law_rate" (defArgs s__law_rate) (defBody s__law_rate) (defScope s__law_rate) .none kV_0 dc_0 pm_0 an_0 cd_0 ct_0), sl_0⟩) (c_0 : PySem.W.codeIn K cd_0 "_law_rate" = true) (k_0 : PySem.W.keepIn K (.ref f_0) = true)
    {f_1 : Addr} {od_1 an_1 : Option Addr} {sl_1 : Array (Option Value)} {oc_1 kV_1 dc_1 pm_1 cd_1 ct_1 : Value}
    (a_1 : PySem.W.nsIn K mainGlobals "_law_is_integer" = some (some (.ref f_1)))
    (l_1 : K.lookup f_1 = some ⟨oc_1, od_1, .func (PySem.W.fnOf "_law_is_integer" "_law_is_integer" (defArgs s__law_is_integer) (defBody s__law_is_integer) (defScope s__law_is_integer) .none kV_1 dc_1 pm_1 an_1 cd_1 ct_1), sl_1⟩) (c_1 : PySem.W.codeIn K cd_1 "_law_is_integer" = true) (k_1 : PySem.W.keepIn K (.ref f_1) = true)
    {f_2 : Addr} {od_2 an_2 : Option Addr} {sl_2 : Array (Option Value)} {oc_2 kV_2 dc_2 pm_2 cd_2 ct_2 : Value}
    (a_2 : PySem.W.nsIn K mainGlobals "rate_at" = some (some (.ref f_2)))
    (l_2 : K.lookup f_2 = some ⟨oc_2, od_2, .func (PySem.W.fnOf "rate_at" "rate_at" (defArgs s_rate_at) (defBody s_rate_at) (defScope s_rate_at) .none kV_2 dc_2 pm_2 an_2 cd_2 ct_2), sl_2⟩) (c_2 : PySem.W.codeIn K cd_2 "rate_at" = true) (k_2 : PySem.W.keepIn K (.ref f_2) = true)
    {f_3 : Addr} {od_3 an_3 : Option Addr} {sl_3 : Array (Option Value)} {oc_3 kV_3 dc_3 pm_3 cd_3 ct_3 : Value}
    (a_3 : PySem.W.nsIn K mainGlobals "_law_cell" = some (some (.ref f_3)))
    (l_3 : K.lookup f_3 = some ⟨oc_3, od_3, .func (PySem.W.fnOf "_law_cell" "_law_cell" (defArgs s__law_cell) (defBody s__law_cell) (defScope s__law_cell) .none kV_3 dc_3 pm_3 an_3 cd_3 ct_3), sl_3⟩) (c_3 : PySem.W.codeIn K cd_3 "_law_cell" = true) (k_3 : PySem.W.keepIn K (.ref f_3) = true)
    {f_4 : Addr} {od_4 an_4 : Option Addr} {sl_4 : Array (Option Value)} {oc_4 kV_4 dc_4 pm_4 cd_4 ct_4 : Value}
    (a_4 : PySem.W.nsIn K mainGlobals "_law_draw" = some (some (.ref f_4)))
    (l_4 : K.lookup f_4 = some ⟨oc_4, od_4, .func (PySem.W.fnOf "_law_draw" "_law_draw" (defArgs s__law_draw) (defBody s__law_draw) (defScope s__law_draw) .none kV_4 dc_4 pm_4 an_4 cd_4 ct_4), sl_4⟩) (c_4 : PySem.W.codeIn K cd_4 "_law_draw" = true) (k_4 : PySem.W.keepIn K (.ref f_4) = true)
    {f_5 : Addr} {od_5 an_5 : Option Addr} {sl_5 : Array (Option Value)} {oc_5 kV_5 dc_5 pm_5 cd_5 ct_5 : Value}
    (a_5 : PySem.W.nsIn K mainGlobals "is_word" = some (some (.ref f_5)))
    (l_5 : K.lookup f_5 = some ⟨oc_5, od_5, .func (PySem.W.fnOf "is_word" "is_word" (defArgs s_is_word) (defBody s_is_word) (defScope s_is_word) .none kV_5 dc_5 pm_5 an_5 cd_5 ct_5), sl_5⟩) (c_5 : PySem.W.codeIn K cd_5 "is_word" = true) (k_5 : PySem.W.keepIn K (.ref f_5) = true)
    {f_6 : Addr} {od_6 an_6 : Option Addr} {sl_6 : Array (Option Value)} {oc_6 kV_6 dc_6 pm_6 cd_6 ct_6 : Value}
    (a_6 : PySem.W.nsIn K mainGlobals "is_inside" = some (some (.ref f_6)))
    (l_6 : K.lookup f_6 = some ⟨oc_6, od_6, .func (PySem.W.fnOf "is_inside" "is_inside" (defArgs s_is_inside) (defBody s_is_inside) (defScope s_is_inside) .none kV_6 dc_6 pm_6 an_6 cd_6 ct_6), sl_6⟩) (c_6 : PySem.W.codeIn K cd_6 "is_inside" = true) (k_6 : PySem.W.keepIn K (.ref f_6) = true)
    {f_7 : Addr} {od_7 an_7 : Option Addr} {sl_7 : Array (Option Value)} {oc_7 kV_7 dc_7 pm_7 cd_7 ct_7 : Value}
    (a_7 : PySem.W.nsIn K mainGlobals "_of_join" = some (some (.ref f_7)))
    (l_7 : K.lookup f_7 = some ⟨oc_7, od_7, .func (PySem.W.fnOf "_of_join" "_of_join" (defArgs s__of_join) (defBody s__of_join) (defScope s__of_join) .none kV_7 dc_7 pm_7 an_7 cd_7 ct_7), sl_7⟩) (c_7 : PySem.W.codeIn K cd_7 "_of_join" = true) (k_7 : PySem.W.keepIn K (.ref f_7) = true)
    {f_8 : Addr} {od_8 an_8 : Option Addr} {sl_8 : Array (Option Value)} {oc_8 kV_8 dc_8 pm_8 cd_8 ct_8 : Value}
    (a_8 : PySem.W.nsIn K mainGlobals "_of_sum" = some (some (.ref f_8)))
    (l_8 : K.lookup f_8 = some ⟨oc_8, od_8, .func (PySem.W.fnOf "_of_sum" "_of_sum" (defArgs s__of_sum) (defBody s__of_sum) (defScope s__of_sum) .none kV_8 dc_8 pm_8 an_8 cd_8 ct_8), sl_8⟩) (c_8 : PySem.W.codeIn K cd_8 "_of_sum" = true) (k_8 : PySem.W.keepIn K (.ref f_8) = true)
    {f_9 : Addr} {od_9 an_9 : Option Addr} {sl_9 : Array (Option Value)} {oc_9 kV_9 dc_9 pm_9 cd_9 ct_9 : Value}
    (a_9 : PySem.W.nsIn K mainGlobals "_of_drop" = some (some (.ref f_9)))
    (l_9 : K.lookup f_9 = some ⟨oc_9, od_9, .func (PySem.W.fnOf "_of_drop" "_of_drop" (defArgs s__of_drop) (defBody s__of_drop) (defScope s__of_drop) .none kV_9 dc_9 pm_9 an_9 cd_9 ct_9), sl_9⟩) (c_9 : PySem.W.codeIn K cd_9 "_of_drop" = true) (k_9 : PySem.W.keepIn K (.ref f_9) = true)
    {f_10 : Addr} {od_10 an_10 : Option Addr} {sl_10 : Array (Option Value)} {oc_10 kV_10 dc_10 pm_10 cd_10 ct_10 : Value}
    (a_10 : PySem.W.nsIn K mainGlobals "_of_relu" = some (some (.ref f_10)))
    (l_10 : K.lookup f_10 = some ⟨oc_10, od_10, .func (PySem.W.fnOf "_of_relu" "_of_relu" (defArgs s__of_relu) (defBody s__of_relu) (defScope s__of_relu) .none kV_10 dc_10 pm_10 an_10 cd_10 ct_10), sl_10⟩) (c_10 : PySem.W.codeIn K cd_10 "_of_relu" = true) (k_10 : PySem.W.keepIn K (.ref f_10) = true)
    {f_11 : Addr} {od_11 an_11 : Option Addr} {sl_11 : Array (Option Value)} {oc_11 kV_11 dc_11 pm_11 cd_11 ct_11 : Value}
    (a_11 : PySem.W.nsIn K mainGlobals "_of_shift" = some (some (.ref f_11)))
    (l_11 : K.lookup f_11 = some ⟨oc_11, od_11, .func (PySem.W.fnOf "_of_shift" "_of_shift" (defArgs s__of_shift) (defBody s__of_shift) (defScope s__of_shift) .none kV_11 dc_11 pm_11 an_11 cd_11 ct_11), sl_11⟩) (c_11 : PySem.W.codeIn K cd_11 "_of_shift" = true) (k_11 : PySem.W.keepIn K (.ref f_11) = true)
    {f_12 : Addr} {od_12 an_12 : Option Addr} {sl_12 : Array (Option Value)} {oc_12 kV_12 dc_12 pm_12 cd_12 ct_12 : Value}
    (a_12 : PySem.W.nsIn K mainGlobals "_of_pair" = some (some (.ref f_12)))
    (l_12 : K.lookup f_12 = some ⟨oc_12, od_12, .func (PySem.W.fnOf "_of_pair" "_of_pair" (defArgs s__of_pair) (defBody s__of_pair) (defScope s__of_pair) .none kV_12 dc_12 pm_12 an_12 cd_12 ct_12), sl_12⟩) (c_12 : PySem.W.codeIn K cd_12 "_of_pair" = true) (k_12 : PySem.W.keepIn K (.ref f_12) = true)
    {f_13 : Addr} {od_13 an_13 : Option Addr} {sl_13 : Array (Option Value)} {oc_13 kV_13 dc_13 pm_13 cd_13 ct_13 : Value}
    (a_13 : PySem.W.nsIn K mainGlobals "is_multiple" = some (some (.ref f_13)))
    (l_13 : K.lookup f_13 = some ⟨oc_13, od_13, .func (PySem.W.fnOf "is_multiple" "is_multiple" (defArgs s_is_multiple) (defBody s_is_multiple) (defScope s_is_multiple) .none kV_13 dc_13 pm_13 an_13 cd_13 ct_13), sl_13⟩) (c_13 : PySem.W.codeIn K cd_13 "is_multiple" = true) (k_13 : PySem.W.keepIn K (.ref f_13) = true)
    {f_14 : Addr} {od_14 an_14 : Option Addr} {sl_14 : Array (Option Value)} {oc_14 kV_14 dc_14 pm_14 cd_14 ct_14 : Value}
    (a_14 : PySem.W.nsIn K mainGlobals "_of_targets" = some (some (.ref f_14)))
    (l_14 : K.lookup f_14 = some ⟨oc_14, od_14, .func (PySem.W.fnOf "_of_targets" "_of_targets" (defArgs s__of_targets) (defBody s__of_targets) (defScope s__of_targets) .none kV_14 dc_14 pm_14 an_14 cd_14 ct_14), sl_14⟩) (c_14 : PySem.W.codeIn K cd_14 "_of_targets" = true) (k_14 : PySem.W.keepIn K (.ref f_14) = true)
    {f_15 : Addr} {od_15 an_15 : Option Addr} {sl_15 : Array (Option Value)} {oc_15 kV_15 dc_15 pm_15 cd_15 ct_15 : Value}
    (a_15 : PySem.W.nsIn K mainGlobals "_of_inputs" = some (some (.ref f_15)))
    (l_15 : K.lookup f_15 = some ⟨oc_15, od_15, .func (PySem.W.fnOf "_of_inputs" "_of_inputs" (defArgs s__of_inputs) (defBody s__of_inputs) (defScope s__of_inputs) .none kV_15 dc_15 pm_15 an_15 cd_15 ct_15), sl_15⟩) (c_15 : PySem.W.codeIn K cd_15 "_of_inputs" = true) (k_15 : PySem.W.keepIn K (.ref f_15) = true)
    {f_16 : Addr} {od_16 an_16 : Option Addr} {sl_16 : Array (Option Value)} {oc_16 kV_16 dc_16 pm_16 cd_16 ct_16 : Value}
    (a_16 : PySem.W.nsIn K mainGlobals "_names_exist" = some (some (.ref f_16)))
    (l_16 : K.lookup f_16 = some ⟨oc_16, od_16, .func (PySem.W.fnOf "_names_exist" "_names_exist" (defArgs s__names_exist) (defBody s__names_exist) (defScope s__names_exist) .none kV_16 dc_16 pm_16 an_16 cd_16 ct_16), sl_16⟩) (c_16 : PySem.W.codeIn K cd_16 "_names_exist" = true) (k_16 : PySem.W.keepIn K (.ref f_16) = true)
    {f_17 : Addr} {od_17 an_17 : Option Addr} {sl_17 : Array (Option Value)} {oc_17 kV_17 dc_17 pm_17 cd_17 ct_17 : Value}
    (a_17 : PySem.W.nsIn K mainGlobals "_is_good" = some (some (.ref f_17)))
    (l_17 : K.lookup f_17 = some ⟨oc_17, od_17, .func (PySem.W.fnOf "_is_good" "_is_good" (defArgs s__is_good) (defBody s__is_good) (defScope s__is_good) .none kV_17 dc_17 pm_17 an_17 cd_17 ct_17), sl_17⟩) (c_17 : PySem.W.codeIn K cd_17 "_is_good" = true) (k_17 : PySem.W.keepIn K (.ref f_17) = true)
    {f_18 : Addr} {od_18 an_18 : Option Addr} {sl_18 : Array (Option Value)} {oc_18 kV_18 dc_18 pm_18 cd_18 ct_18 : Value}
    (a_18 : PySem.W.findIn K (.ref C_Parameter) "__init__" = some (some (.ref f_18))) (i_18 : PySem.W.isFn K (.ref f_18) = true)
    (l_18 : K.lookup f_18 = some ⟨oc_18, od_18, .func (PySem.W.fnOf "__init__" "Parameter.__init__" (defArgs s_Parameter___init__) (defBody s_Parameter___init__) (defScope s_Parameter___init__) .none kV_18 dc_18 pm_18 an_18 cd_18 ct_18), sl_18⟩) (c_18 : PySem.W.codeIn K cd_18 "Parameter.__init__" = true) (k_18 : PySem.W.keepIn K (.ref f_18) = true)
    {f_19 : Addr} {od_19 an_19 : Option Addr} {sl_19 : Array (Option Value)} {oc_19 kV_19 dc_19 pm_19 cd_19 ct_19 : Value}
    (a_19 : PySem.W.findIn K (.ref C_Job) "__init__" = some (some (.ref f_19))) (i_19 : PySem.W.isFn K (.ref f_19) = true)
    (l_19 : K.lookup f_19 = some ⟨oc_19, od_19, .func (PySem.W.fnOf "__init__" "Job.__init__" (defArgs s_Job___init__) (defBody s_Job___init__) (defScope s_Job___init__) .none kV_19 dc_19 pm_19 an_19 cd_19 ct_19), sl_19⟩) (c_19 : PySem.W.codeIn K cd_19 "Job.__init__" = true) (k_19 : PySem.W.keepIn K (.ref f_19) = true)
    {f_20 : Addr} {od_20 an_20 : Option Addr} {sl_20 : Array (Option Value)} {oc_20 kV_20 dc_20 pm_20 cd_20 ct_20 : Value}
    (a_20 : PySem.W.nsIn K mainGlobals "_law_wrap" = some (some (.ref f_20)))
    (l_20 : K.lookup f_20 = some ⟨oc_20, od_20, .func (PySem.W.fnOf "_law_wrap" "_law_wrap" (defArgs s__law_wrap) (defBody s__law_wrap) (defScope s__law_wrap) .none kV_20 dc_20 pm_20 an_20 cd_20 ct_20), sl_20⟩) (c_20 : PySem.W.codeIn K cd_20 "_law_wrap" = true) (k_20 : PySem.W.keepIn K (.ref f_20) = true)
    {f_21 : Addr} {od_21 an_21 : Option Addr} {sl_21 : Array (Option Value)} {oc_21 kV_21 dc_21 pm_21 cd_21 ct_21 : Value}
    (a_21 : PySem.W.nsIn K mainGlobals "_law_divisors" = some (some (.ref f_21)))
    (l_21 : K.lookup f_21 = some ⟨oc_21, od_21, .func (PySem.W.fnOf "_law_divisors" "_law_divisors" (defArgs s__law_divisors) (defBody s__law_divisors) (defScope s__law_divisors) .none kV_21 dc_21 pm_21 an_21 cd_21 ct_21), sl_21⟩) (c_21 : PySem.W.codeIn K cd_21 "_law_divisors" = true) (k_21 : PySem.W.keepIn K (.ref f_21) = true)
    {f_22 : Addr} {od_22 an_22 : Option Addr} {sl_22 : Array (Option Value)} {oc_22 kV_22 dc_22 pm_22 cd_22 ct_22 : Value}
    (a_22 : PySem.W.nsIn K mainGlobals "_law_spoilt" = some (some (.ref f_22)))
    (l_22 : K.lookup f_22 = some ⟨oc_22, od_22, .func (PySem.W.fnOf "_law_spoilt" "_law_spoilt" (defArgs s__law_spoilt) (defBody s__law_spoilt) (defScope s__law_spoilt) .none kV_22 dc_22 pm_22 an_22 cd_22 ct_22), sl_22⟩) (c_22 : PySem.W.codeIn K cd_22 "_law_spoilt" = true) (k_22 : PySem.W.keepIn K (.ref f_22) = true)
    {f_23 : Addr} {od_23 an_23 : Option Addr} {sl_23 : Array (Option Value)} {oc_23 kV_23 dc_23 pm_23 cd_23 ct_23 : Value}
    (a_23 : PySem.W.nsIn K mainGlobals "_has_good_data" = some (some (.ref f_23)))
    (l_23 : K.lookup f_23 = some ⟨oc_23, od_23, .func (PySem.W.fnOf "_has_good_data" "_has_good_data" (defArgs s__has_good_data) (defBody s__has_good_data) (defScope s__has_good_data) .none kV_23 dc_23 pm_23 an_23 cd_23 ct_23), sl_23⟩) (c_23 : PySem.W.codeIn K cd_23 "_has_good_data" = true) (k_23 : PySem.W.keepIn K (.ref f_23) = true)
    {f_24 : Addr} {od_24 an_24 : Option Addr} {sl_24 : Array (Option Value)} {oc_24 kV_24 dc_24 pm_24 cd_24 ct_24 : Value}
    (a_24 : PySem.W.nsIn K mainGlobals "_has_good_rates" = some (some (.ref f_24)))
    (l_24 : K.lookup f_24 = some ⟨oc_24, od_24, .func (PySem.W.fnOf "_has_good_rates" "_has_good_rates" (defArgs s__has_good_rates) (defBody s__has_good_rates) (defScope s__has_good_rates) .none kV_24 dc_24 pm_24 an_24 cd_24 ct_24), sl_24⟩) (c_24 : PySem.W.codeIn K cd_24 "_has_good_rates" = true) (k_24 : PySem.W.keepIn K (.ref f_24) = true)
    {f_25 : Addr} {od_25 an_25 : Option Addr} {sl_25 : Array (Option Value)} {oc_25 kV_25 dc_25 pm_25 cd_25 ct_25 : Value}
    (a_25 : PySem.W.nsIn K mainGlobals "_of_take" = some (some (.ref f_25)))
    (l_25 : K.lookup f_25 = some ⟨oc_25, od_25, .func (PySem.W.fnOf "_of_take" "_of_take" (defArgs s__of_take) (defBody s__of_take) (defScope s__of_take) .none kV_25 dc_25 pm_25 an_25 cd_25 ct_25), sl_25⟩) (c_25 : PySem.W.codeIn K cd_25 "_of_take" = true) (k_25 : PySem.W.keepIn K (.ref f_25) = true)
    {f_26 : Addr} {od_26 an_26 : Option Addr} {sl_26 : Array (Option Value)} {oc_26 kV_26 dc_26 pm_26 cd_26 ct_26 : Value}
    (a_26 : PySem.W.nsIn K mainGlobals "_of_scale" = some (some (.ref f_26)))
    (l_26 : K.lookup f_26 = some ⟨oc_26, od_26, .func (PySem.W.fnOf "_of_scale" "_of_scale" (defArgs s__of_scale) (defBody s__of_scale) (defScope s__of_scale) .none kV_26 dc_26 pm_26 an_26 cd_26 ct_26), sl_26⟩) (c_26 : PySem.W.codeIn K cd_26 "_of_scale" = true) (k_26 : PySem.W.keepIn K (.ref f_26) = true)
    {f_27 : Addr} {od_27 an_27 : Option Addr} {sl_27 : Array (Option Value)} {oc_27 kV_27 dc_27 pm_27 cd_27 ct_27 : Value}
    (a_27 : PySem.W.nsIn K mainGlobals "_of_lower" = some (some (.ref f_27)))
    (l_27 : K.lookup f_27 = some ⟨oc_27, od_27, .func (PySem.W.fnOf "_of_lower" "_of_lower" (defArgs s__of_lower) (defBody s__of_lower) (defScope s__of_lower) .none kV_27 dc_27 pm_27 an_27 cd_27 ct_27), sl_27⟩) (c_27 : PySem.W.codeIn K cd_27 "_of_lower" = true) (k_27 : PySem.W.keepIn K (.ref f_27) = true)
    {f_28 : Addr} {od_28 an_28 : Option Addr} {sl_28 : Array (Option Value)} {oc_28 kV_28 dc_28 pm_28 cd_28 ct_28 : Value}
    (a_28 : PySem.W.nsIn K mainGlobals "_of_mat" = some (some (.ref f_28)))
    (l_28 : K.lookup f_28 = some ⟨oc_28, od_28, .func (PySem.W.fnOf "_of_mat" "_of_mat" (defArgs s__of_mat) (defBody s__of_mat) (defScope s__of_mat) .none kV_28 dc_28 pm_28 an_28 cd_28 ct_28), sl_28⟩) (c_28 : PySem.W.codeIn K cd_28 "_of_mat" = true) (k_28 : PySem.W.keepIn K (.ref f_28) = true)
    {f_29 : Addr} {od_29 an_29 : Option Addr} {sl_29 : Array (Option Value)} {oc_29 kV_29 dc_29 pm_29 cd_29 ct_29 : Value}
    (a_29 : PySem.W.nsIn K mainGlobals "_of_embed" = some (some (.ref f_29)))
    (l_29 : K.lookup f_29 = some ⟨oc_29, od_29, .func (PySem.W.fnOf "_of_embed" "_of_embed" (defArgs s__of_embed) (defBody s__of_embed) (defScope s__of_embed) .none kV_29 dc_29 pm_29 an_29 cd_29 ct_29), sl_29⟩) (c_29 : PySem.W.codeIn K cd_29 "_of_embed" = true) (k_29 : PySem.W.keepIn K (.ref f_29) = true)
    {f_30 : Addr} {od_30 an_30 : Option Addr} {sl_30 : Array (Option Value)} {oc_30 kV_30 dc_30 pm_30 cd_30 ct_30 : Value}
    (a_30 : PySem.W.nsIn K mainGlobals "_of_bias" = some (some (.ref f_30)))
    (l_30 : K.lookup f_30 = some ⟨oc_30, od_30, .func (PySem.W.fnOf "_of_bias" "_of_bias" (defArgs s__of_bias) (defBody s__of_bias) (defScope s__of_bias) .none kV_30 dc_30 pm_30 an_30 cd_30 ct_30), sl_30⟩) (c_30 : PySem.W.codeIn K cd_30 "_of_bias" = true) (k_30 : PySem.W.keepIn K (.ref f_30) = true)
    {f_31 : Addr} {od_31 an_31 : Option Addr} {sl_31 : Array (Option Value)} {oc_31 kV_31 dc_31 pm_31 cd_31 ct_31 : Value}
    (a_31 : PySem.W.nsIn K mainGlobals "_of_lin" = some (some (.ref f_31)))
    (l_31 : K.lookup f_31 = some ⟨oc_31, od_31, .func (PySem.W.fnOf "_of_lin" "_of_lin" (defArgs s__of_lin) (defBody s__of_lin) (defScope s__of_lin) .none kV_31 dc_31 pm_31 an_31 cd_31 ct_31), sl_31⟩) (c_31 : PySem.W.codeIn K cd_31 "_of_lin" = true) (k_31 : PySem.W.keepIn K (.ref f_31) = true)
    {f_32 : Addr} {od_32 an_32 : Option Addr} {sl_32 : Array (Option Value)} {oc_32 kV_32 dc_32 pm_32 cd_32 ct_32 : Value}
    (a_32 : PySem.W.nsIn K mainGlobals "_has_good_parameters" = some (some (.ref f_32)))
    (l_32 : K.lookup f_32 = some ⟨oc_32, od_32, .func (PySem.W.fnOf "_has_good_parameters" "_has_good_parameters" (defArgs s__has_good_parameters) (defBody s__has_good_parameters) (defScope s__has_good_parameters) .none kV_32 dc_32 pm_32 an_32 cd_32 ct_32), sl_32⟩) (c_32 : PySem.W.codeIn K cd_32 "_has_good_parameters" = true) (k_32 : PySem.W.keepIn K (.ref f_32) = true)
    {f_33 : Addr} {od_33 an_33 : Option Addr} {sl_33 : Array (Option Value)} {oc_33 kV_33 dc_33 pm_33 cd_33 ct_33 : Value}
    (a_33 : PySem.W.nsIn K mainGlobals "_law_word" = some (some (.ref f_33)))
    (l_33 : K.lookup f_33 = some ⟨oc_33, od_33, .func (PySem.W.fnOf "_law_word" "_law_word" (defArgs s__law_word) (defBody s__law_word) (defScope s__law_word) .none kV_33 dc_33 pm_33 an_33 cd_33 ct_33), sl_33⟩) (c_33 : PySem.W.codeIn K cd_33 "_law_word" = true) (k_33 : PySem.W.keepIn K (.ref f_33) = true)
    {f_34 : Addr} {od_34 an_34 : Option Addr} {sl_34 : Array (Option Value)} {oc_34 kV_34 dc_34 pm_34 cd_34 ct_34 : Value}
    (a_34 : PySem.W.nsIn K mainGlobals "_law_of_two" = some (some (.ref f_34)))
    (l_34 : K.lookup f_34 = some ⟨oc_34, od_34, .func (PySem.W.fnOf "_law_of_two" "_law_of_two" (defArgs s__law_of_two) (defBody s__law_of_two) (defScope s__law_of_two) .none kV_34 dc_34 pm_34 an_34 cd_34 ct_34), sl_34⟩) (c_34 : PySem.W.codeIn K cd_34 "_law_of_two" = true) (k_34 : PySem.W.keepIn K (.ref f_34) = true)
    {f_35 : Addr} {od_35 an_35 : Option Addr} {sl_35 : Array (Option Value)} {oc_35 kV_35 dc_35 pm_35 cd_35 ct_35 : Value}
    (a_35 : PySem.W.nsIn K mainGlobals "_law_row" = some (some (.ref f_35)))
    (l_35 : K.lookup f_35 = some ⟨oc_35, od_35, .func (PySem.W.fnOf "_law_row" "_law_row" (defArgs s__law_row) (defBody s__law_row) (defScope s__law_row) .none kV_35 dc_35 pm_35 an_35 cd_35 ct_35), sl_35⟩) (c_35 : PySem.W.codeIn K cd_35 "_law_row" = true) (k_35 : PySem.W.keepIn K (.ref f_35) = true)
    {f_36 : Addr} {od_36 an_36 : Option Addr} {sl_36 : Array (Option Value)} {oc_36 kV_36 dc_36 pm_36 cd_36 ct_36 : Value}
    (a_36 : PySem.W.nsIn K mainGlobals "length_of" = some (some (.ref f_36)))
    (l_36 : K.lookup f_36 = some ⟨oc_36, od_36, .func (PySem.W.fnOf "length_of" "length_of" (defArgs s_length_of) (defBody s_length_of) (defScope s_length_of) .none kV_36 dc_36 pm_36 an_36 cd_36 ct_36), sl_36⟩) (c_36 : PySem.W.codeIn K cd_36 "length_of" = true) (k_36 : PySem.W.keepIn K (.ref f_36) = true)
    {f_37 : Addr} {od_37 an_37 : Option Addr} {sl_37 : Array (Option Value)} {oc_37 kV_37 dc_37 pm_37 cd_37 ct_37 : Value}
    (a_37 : PySem.W.nsIn K mainGlobals "_law_sample" = some (some (.ref f_37)))
    (l_37 : K.lookup f_37 = some ⟨oc_37, od_37, .func (PySem.W.fnOf "_law_sample" "_law_sample" (defArgs s__law_sample) (defBody s__law_sample) (defScope s__law_sample) .none kV_37 dc_37 pm_37 an_37 cd_37 ct_37), sl_37⟩) (c_37 : PySem.W.codeIn K cd_37 "_law_sample" = true) (k_37 : PySem.W.keepIn K (.ref f_37) = true)
    {f_38 : Addr} {od_38 an_38 : Option Addr} {sl_38 : Array (Option Value)} {oc_38 kV_38 dc_38 pm_38 cd_38 ct_38 : Value}
    (a_38 : PySem.W.nsIn K mainGlobals "_law_of_one" = some (some (.ref f_38)))
    (l_38 : K.lookup f_38 = some ⟨oc_38, od_38, .func (PySem.W.fnOf "_law_of_one" "_law_of_one" (defArgs s__law_of_one) (defBody s__law_of_one) (defScope s__law_of_one) .none kV_38 dc_38 pm_38 an_38 cd_38 ct_38), sl_38⟩) (c_38 : PySem.W.codeIn K cd_38 "_law_of_one" = true) (k_38 : PySem.W.keepIn K (.ref f_38) = true)
    {f_39 : Addr} {od_39 an_39 : Option Addr} {sl_39 : Array (Option Value)} {oc_39 kV_39 dc_39 pm_39 cd_39 ct_39 : Value}
    (a_39 : PySem.W.nsIn K mainGlobals "_law_parameter" = some (some (.ref f_39)))
    (l_39 : K.lookup f_39 = some ⟨oc_39, od_39, .func (PySem.W.fnOf "_law_parameter" "_law_parameter" (defArgs s__law_parameter) (defBody s__law_parameter) (defScope s__law_parameter) .none kV_39 dc_39 pm_39 an_39 cd_39 ct_39), sl_39⟩) (c_39 : PySem.W.codeIn K cd_39 "_law_parameter" = true) (k_39 : PySem.W.keepIn K (.ref f_39) = true)
    {f_40 : Addr} {od_40 an_40 : Option Addr} {sl_40 : Array (Option Value)} {oc_40 kV_40 dc_40 pm_40 cd_40 ct_40 : Value}
    (a_40 : PySem.W.nsIn K mainGlobals "_lengths" = some (some (.ref f_40)))
    (l_40 : K.lookup f_40 = some ⟨oc_40, od_40, .func (PySem.W.fnOf "_lengths" "_lengths" (defArgs s__lengths) (defBody s__lengths) (defScope s__lengths) .none kV_40 dc_40 pm_40 an_40 cd_40 ct_40), sl_40⟩) (c_40 : PySem.W.codeIn K cd_40 "_lengths" = true) (k_40 : PySem.W.keepIn K (.ref f_40) = true)
    {f_41 : Addr} {od_41 an_41 : Option Addr} {sl_41 : Array (Option Value)} {oc_41 kV_41 dc_41 pm_41 cd_41 ct_41 : Value}
    (a_41 : PySem.W.nsIn K mainGlobals "_law_with_parameter" = some (some (.ref f_41)))
    (l_41 : K.lookup f_41 = some ⟨oc_41, od_41, .func (PySem.W.fnOf "_law_with_parameter" "_law_with_parameter" (defArgs s__law_with_parameter) (defBody s__law_with_parameter) (defScope s__law_with_parameter) .none kV_41 dc_41 pm_41 an_41 cd_41 ct_41), sl_41⟩) (c_41 : PySem.W.codeIn K cd_41 "_law_with_parameter" = true) (k_41 : PySem.W.keepIn K (.ref f_41) = true)
    {f_42 : Addr} {od_42 an_42 : Option Addr} {sl_42 : Array (Option Value)} {oc_42 kV_42 dc_42 pm_42 cd_42 ct_42 : Value}
    (a_42 : PySem.W.nsIn K mainGlobals "_law_embed" = some (some (.ref f_42)))
    (l_42 : K.lookup f_42 = some ⟨oc_42, od_42, .func (PySem.W.fnOf "_law_embed" "_law_embed" (defArgs s__law_embed) (defBody s__law_embed) (defScope s__law_embed) .none kV_42 dc_42 pm_42 an_42 cd_42 ct_42), sl_42⟩) (c_42 : PySem.W.codeIn K cd_42 "_law_embed" = true) (k_42 : PySem.W.keepIn K (.ref f_42) = true)
    {f_43 : Addr} {od_43 an_43 : Option Addr} {sl_43 : Array (Option Value)} {oc_43 kV_43 dc_43 pm_43 cd_43 ct_43 : Value}
    (a_43 : PySem.W.nsIn K mainGlobals "_has_good_nodes" = some (some (.ref f_43)))
    (l_43 : K.lookup f_43 = some ⟨oc_43, od_43, .func (PySem.W.fnOf "_has_good_nodes" "_has_good_nodes" (defArgs s__has_good_nodes) (defBody s__has_good_nodes) (defScope s__has_good_nodes) .none kV_43 dc_43 pm_43 an_43 cd_43 ct_43), sl_43⟩) (c_43 : PySem.W.codeIn K cd_43 "_has_good_nodes" = true) (k_43 : PySem.W.keepIn K (.ref f_43) = true)
    {f_44 : Addr} {od_44 an_44 : Option Addr} {sl_44 : Array (Option Value)} {oc_44 kV_44 dc_44 pm_44 cd_44 ct_44 : Value}
    (a_44 : PySem.W.findIn K (.ref C_Net) "__init__" = some (some (.ref f_44))) (i_44 : PySem.W.isFn K (.ref f_44) = true)
    (l_44 : K.lookup f_44 = some ⟨oc_44, od_44, .func (PySem.W.fnOf "__init__" "Net.__init__" (defArgs s_Net___init__) (defBody s_Net___init__) (defScope s_Net___init__) .none kV_44 dc_44 pm_44 an_44 cd_44 ct_44), sl_44⟩) (c_44 : PySem.W.codeIn K cd_44 "Net.__init__" = true) (k_44 : PySem.W.keepIn K (.ref f_44) = true)
    {f_45 : Addr} {od_45 an_45 : Option Addr} {sl_45 : Array (Option Value)} {oc_45 kV_45 dc_45 pm_45 cd_45 ct_45 : Value}
    (a_45 : PySem.W.nsIn K mainGlobals "_law_node" = some (some (.ref f_45)))
    (l_45 : K.lookup f_45 = some ⟨oc_45, od_45, .func (PySem.W.fnOf "_law_node" "_law_node" (defArgs s__law_node) (defBody s__law_node) (defScope s__law_node) .none kV_45 dc_45 pm_45 an_45 cd_45 ct_45), sl_45⟩) (c_45 : PySem.W.codeIn K cd_45 "_law_node" = true) (k_45 : PySem.W.keepIn K (.ref f_45) = true)
    {f_46 : Addr} {od_46 an_46 : Option Addr} {sl_46 : Array (Option Value)} {oc_46 kV_46 dc_46 pm_46 cd_46 ct_46 : Value}
    (a_46 : PySem.W.nsIn K mainGlobals "is_net" = some (some (.ref f_46)))
    (l_46 : K.lookup f_46 = some ⟨oc_46, od_46, .func (PySem.W.fnOf "is_net" "is_net" (defArgs s_is_net) (defBody s_is_net) (defScope s_is_net) .none kV_46 dc_46 pm_46 an_46 cd_46 ct_46), sl_46⟩) (c_46 : PySem.W.codeIn K cd_46 "is_net" = true) (k_46 : PySem.W.keepIn K (.ref f_46) = true)
    {f_47 : Addr} {od_47 an_47 : Option Addr} {sl_47 : Array (Option Value)} {oc_47 kV_47 dc_47 pm_47 cd_47 ct_47 : Value}
    (a_47 : PySem.W.nsIn K mainGlobals "_law_net" = some (some (.ref f_47)))
    (l_47 : K.lookup f_47 = some ⟨oc_47, od_47, .func (PySem.W.fnOf "_law_net" "_law_net" (defArgs s__law_net) (defBody s__law_net) (defScope s__law_net) .none kV_47 dc_47 pm_47 an_47 cd_47 ct_47), sl_47⟩) (c_47 : PySem.W.codeIn K cd_47 "_law_net" = true) (k_47 : PySem.W.keepIn K (.ref f_47) = true)
    {f_48 : Addr} {od_48 an_48 : Option Addr} {sl_48 : Array (Option Value)} {oc_48 kV_48 dc_48 pm_48 cd_48 ct_48 : Value}
    (a_48 : PySem.W.nsIn K mainGlobals "is_job" = some (some (.ref f_48)))
    (l_48 : K.lookup f_48 = some ⟨oc_48, od_48, .func (PySem.W.fnOf "is_job" "is_job" (defArgs s_is_job) (defBody s_is_job) (defScope s_is_job) .none kV_48 dc_48 pm_48 an_48 cd_48 ct_48), sl_48⟩) (c_48 : PySem.W.codeIn K cd_48 "is_job" = true) (k_48 : PySem.W.keepIn K (.ref f_48) = true)
    {f_49 : Addr} {od_49 an_49 : Option Addr} {sl_49 : Array (Option Value)} {oc_49 kV_49 dc_49 pm_49 cd_49 ct_49 : Value}
    (a_49 : PySem.W.nsIn K mainGlobals "_law_net_object" = some (some (.ref f_49)))
    (l_49 : K.lookup f_49 = some ⟨oc_49, od_49, .func (PySem.W.fnOf "_law_net_object" "_law_net_object" (defArgs s__law_net_object) (defBody s__law_net_object) (defScope s__law_net_object) .none kV_49 dc_49 pm_49 an_49 cd_49 ct_49), sl_49⟩) (c_49 : PySem.W.codeIn K cd_49 "_law_net_object" = true) (k_49 : PySem.W.keepIn K (.ref f_49) = true)
    {f_50 : Addr} {od_50 an_50 : Option Addr} {sl_50 : Array (Option Value)} {oc_50 kV_50 dc_50 pm_50 cd_50 ct_50 : Value}
    (a_50 : PySem.W.nsIn K mainGlobals "_law_job" = some (some (.ref f_50)))
    (l_50 : K.lookup f_50 = some ⟨oc_50, od_50, .func (PySem.W.fnOf "_law_job" "_law_job" (defArgs s__law_job) (defBody s__law_job) (defScope s__law_job) .none kV_50 dc_50 pm_50 an_50 cd_50 ct_50), sl_50⟩) (c_50 : PySem.W.codeIn K cd_50 "_law_job" = true) (k_50 : PySem.W.keepIn K (.ref f_50) = true)
    {f_51 : Addr} {od_51 an_51 : Option Addr} {sl_51 : Array (Option Value)} {oc_51 kV_51 dc_51 pm_51 cd_51 ct_51 : Value}
    (a_51 : PySem.W.nsIn K mainGlobals "_law_job_object" = some (some (.ref f_51)))
    (l_51 : K.lookup f_51 = some ⟨oc_51, od_51, .func (PySem.W.fnOf "_law_job_object" "_law_job_object" (defArgs s__law_job_object) (defBody s__law_job_object) (defScope s__law_job_object) .none kV_51 dc_51 pm_51 an_51 cd_51 ct_51), sl_51⟩) (c_51 : PySem.W.codeIn K cd_51 "_law_job_object" = true) (k_51 : PySem.W.keepIn K (.ref f_51) = true)
    {f_52 : Addr} {od_52 an_52 : Option Addr} {sl_52 : Array (Option Value)} {oc_52 kV_52 dc_52 pm_52 cd_52 ct_52 : Value}
    (a_52 : PySem.W.nsIn K mainGlobals "law" = some (some (.ref f_52)))
    (l_52 : K.lookup f_52 = some ⟨oc_52, od_52, .func (PySem.W.fnOf "law" "law" (defArgs s_law) (defBody s_law) (defScope s_law) .none kV_52 dc_52 pm_52 an_52 cd_52 ct_52), sl_52⟩) (c_52 : PySem.W.codeIn K cd_52 "law" = true) (k_52 : PySem.W.keepIn K (.ref f_52) = true)
    {A_OPERAND_PLACES : Addr} (ga_OPERAND_PLACES : PySem.W.nsIn K mainGlobals "OPERAND_PLACES" = some (some (.ref A_OPERAND_PLACES)))
    {es_OPERAND_PLACES : Array DictEntry} {n_OPERAND_PLACES : Nat} (l_OPERAND_PLACES : K.lookup A_OPERAND_PLACES = some ⟨.type "dict", none, .dict es_OPERAND_PLACES n_OPERAND_PLACES, #[]⟩) (lit_OPERAND_PLACES : PySem.W.KeysLit w.params es_OPERAND_PLACES.toList) (low_OPERAND_PLACES : (A_OPERAND_PLACES == sysModules) = false)
    {t_OPERAND_PLACES_input : Addr} (en_OPERAND_PLACES_input : PySem.W.nsIn K A_OPERAND_PLACES "input" = some (some (.ref t_OPERAND_PLACES_input)))
    {od_OPERAND_PLACES_input : Option Addr} {its_OPERAND_PLACES_input : Array Value} {n_OPERAND_PLACES_input : Nat} {sl_OPERAND_PLACES_input : Array (Option Value)} (l_OPERAND_PLACES_input : K.lookup t_OPERAND_PLACES_input = some ⟨.type "tuple", od_OPERAND_PLACES_input, .seq its_OPERAND_PLACES_input n_OPERAND_PLACES_input, sl_OPERAND_PLACES_input⟩) (z_OPERAND_PLACES_input : its_OPERAND_PLACES_input.size ≤ sizeLine) (v_OPERAND_PLACES_input : Vals [] its_OPERAND_PLACES_input.toList)
    {t_OPERAND_PLACES_target : Addr} (en_OPERAND_PLACES_target : PySem.W.nsIn K A_OPERAND_PLACES "target" = some (some (.ref t_OPERAND_PLACES_target)))
    {od_OPERAND_PLACES_target : Option Addr} {its_OPERAND_PLACES_target : Array Value} {n_OPERAND_PLACES_target : Nat} {sl_OPERAND_PLACES_target : Array (Option Value)} (l_OPERAND_PLACES_target : K.lookup t_OPERAND_PLACES_target = some ⟨.type "tuple", od_OPERAND_PLACES_target, .seq its_OPERAND_PLACES_target n_OPERAND_PLACES_target, sl_OPERAND_PLACES_target⟩) (z_OPERAND_PLACES_target : its_OPERAND_PLACES_target.size ≤ sizeLine) (v_OPERAND_PLACES_target : Vals [] its_OPERAND_PLACES_target.toList)
    {t_OPERAND_PLACES_lin : Addr} (en_OPERAND_PLACES_lin : PySem.W.nsIn K A_OPERAND_PLACES "lin" = some (some (.ref t_OPERAND_PLACES_lin)))
    {od_OPERAND_PLACES_lin : Option Addr} {its_OPERAND_PLACES_lin : Array Value} {n_OPERAND_PLACES_lin : Nat} {sl_OPERAND_PLACES_lin : Array (Option Value)} (l_OPERAND_PLACES_lin : K.lookup t_OPERAND_PLACES_lin = some ⟨.type "tuple", od_OPERAND_PLACES_lin, .seq its_OPERAND_PLACES_lin n_OPERAND_PLACES_lin, sl_OPERAND_PLACES_lin⟩) (z_OPERAND_PLACES_lin : its_OPERAND_PLACES_lin.size ≤ sizeLine) (v_OPERAND_PLACES_lin : Vals [.int (2)] its_OPERAND_PLACES_lin.toList)
    {t_OPERAND_PLACES_bias : Addr} (en_OPERAND_PLACES_bias : PySem.W.nsIn K A_OPERAND_PLACES "bias" = some (some (.ref t_OPERAND_PLACES_bias)))
    {od_OPERAND_PLACES_bias : Option Addr} {its_OPERAND_PLACES_bias : Array Value} {n_OPERAND_PLACES_bias : Nat} {sl_OPERAND_PLACES_bias : Array (Option Value)} (l_OPERAND_PLACES_bias : K.lookup t_OPERAND_PLACES_bias = some ⟨.type "tuple", od_OPERAND_PLACES_bias, .seq its_OPERAND_PLACES_bias n_OPERAND_PLACES_bias, sl_OPERAND_PLACES_bias⟩) (z_OPERAND_PLACES_bias : its_OPERAND_PLACES_bias.size ≤ sizeLine) (v_OPERAND_PLACES_bias : Vals [.int (2)] its_OPERAND_PLACES_bias.toList)
    {t_OPERAND_PLACES_embed : Addr} (en_OPERAND_PLACES_embed : PySem.W.nsIn K A_OPERAND_PLACES "embed" = some (some (.ref t_OPERAND_PLACES_embed)))
    {od_OPERAND_PLACES_embed : Option Addr} {its_OPERAND_PLACES_embed : Array Value} {n_OPERAND_PLACES_embed : Nat} {sl_OPERAND_PLACES_embed : Array (Option Value)} (l_OPERAND_PLACES_embed : K.lookup t_OPERAND_PLACES_embed = some ⟨.type "tuple", od_OPERAND_PLACES_embed, .seq its_OPERAND_PLACES_embed n_OPERAND_PLACES_embed, sl_OPERAND_PLACES_embed⟩) (z_OPERAND_PLACES_embed : its_OPERAND_PLACES_embed.size ≤ sizeLine) (v_OPERAND_PLACES_embed : Vals [] its_OPERAND_PLACES_embed.toList)
    {t_OPERAND_PLACES_mat : Addr} (en_OPERAND_PLACES_mat : PySem.W.nsIn K A_OPERAND_PLACES "mat" = some (some (.ref t_OPERAND_PLACES_mat)))
    {od_OPERAND_PLACES_mat : Option Addr} {its_OPERAND_PLACES_mat : Array Value} {n_OPERAND_PLACES_mat : Nat} {sl_OPERAND_PLACES_mat : Array (Option Value)} (l_OPERAND_PLACES_mat : K.lookup t_OPERAND_PLACES_mat = some ⟨.type "tuple", od_OPERAND_PLACES_mat, .seq its_OPERAND_PLACES_mat n_OPERAND_PLACES_mat, sl_OPERAND_PLACES_mat⟩) (z_OPERAND_PLACES_mat : its_OPERAND_PLACES_mat.size ≤ sizeLine) (v_OPERAND_PLACES_mat : Vals [.int (2), .int (3)] its_OPERAND_PLACES_mat.toList)
    {t_OPERAND_PLACES_matT : Addr} (en_OPERAND_PLACES_matT : PySem.W.nsIn K A_OPERAND_PLACES "matT" = some (some (.ref t_OPERAND_PLACES_matT)))
    {od_OPERAND_PLACES_matT : Option Addr} {its_OPERAND_PLACES_matT : Array Value} {n_OPERAND_PLACES_matT : Nat} {sl_OPERAND_PLACES_matT : Array (Option Value)} (l_OPERAND_PLACES_matT : K.lookup t_OPERAND_PLACES_matT = some ⟨.type "tuple", od_OPERAND_PLACES_matT, .seq its_OPERAND_PLACES_matT n_OPERAND_PLACES_matT, sl_OPERAND_PLACES_matT⟩) (z_OPERAND_PLACES_matT : its_OPERAND_PLACES_matT.size ≤ sizeLine) (v_OPERAND_PLACES_matT : Vals [.int (2), .int (3)] its_OPERAND_PLACES_matT.toList)
    {t_OPERAND_PLACES_lower : Addr} (en_OPERAND_PLACES_lower : PySem.W.nsIn K A_OPERAND_PLACES "lower" = some (some (.ref t_OPERAND_PLACES_lower)))
    {od_OPERAND_PLACES_lower : Option Addr} {its_OPERAND_PLACES_lower : Array Value} {n_OPERAND_PLACES_lower : Nat} {sl_OPERAND_PLACES_lower : Array (Option Value)} (l_OPERAND_PLACES_lower : K.lookup t_OPERAND_PLACES_lower = some ⟨.type "tuple", od_OPERAND_PLACES_lower, .seq its_OPERAND_PLACES_lower n_OPERAND_PLACES_lower, sl_OPERAND_PLACES_lower⟩) (z_OPERAND_PLACES_lower : its_OPERAND_PLACES_lower.size ≤ sizeLine) (v_OPERAND_PLACES_lower : Vals [.int (2)] its_OPERAND_PLACES_lower.toList)
    {t_OPERAND_PLACES_add : Addr} (en_OPERAND_PLACES_add : PySem.W.nsIn K A_OPERAND_PLACES "add" = some (some (.ref t_OPERAND_PLACES_add)))
    {od_OPERAND_PLACES_add : Option Addr} {its_OPERAND_PLACES_add : Array Value} {n_OPERAND_PLACES_add : Nat} {sl_OPERAND_PLACES_add : Array (Option Value)} (l_OPERAND_PLACES_add : K.lookup t_OPERAND_PLACES_add = some ⟨.type "tuple", od_OPERAND_PLACES_add, .seq its_OPERAND_PLACES_add n_OPERAND_PLACES_add, sl_OPERAND_PLACES_add⟩) (z_OPERAND_PLACES_add : its_OPERAND_PLACES_add.size ≤ sizeLine) (v_OPERAND_PLACES_add : Vals [.int (1), .int (2)] its_OPERAND_PLACES_add.toList)
    {t_OPERAND_PLACES_sub : Addr} (en_OPERAND_PLACES_sub : PySem.W.nsIn K A_OPERAND_PLACES "sub" = some (some (.ref t_OPERAND_PLACES_sub)))
    {od_OPERAND_PLACES_sub : Option Addr} {its_OPERAND_PLACES_sub : Array Value} {n_OPERAND_PLACES_sub : Nat} {sl_OPERAND_PLACES_sub : Array (Option Value)} (l_OPERAND_PLACES_sub : K.lookup t_OPERAND_PLACES_sub = some ⟨.type "tuple", od_OPERAND_PLACES_sub, .seq its_OPERAND_PLACES_sub n_OPERAND_PLACES_sub, sl_OPERAND_PLACES_sub⟩) (z_OPERAND_PLACES_sub : its_OPERAND_PLACES_sub.size ≤ sizeLine) (v_OPERAND_PLACES_sub : Vals [.int (1), .int (2)] its_OPERAND_PLACES_sub.toList)
    {t_OPERAND_PLACES_mul : Addr} (en_OPERAND_PLACES_mul : PySem.W.nsIn K A_OPERAND_PLACES "mul" = some (some (.ref t_OPERAND_PLACES_mul)))
    {od_OPERAND_PLACES_mul : Option Addr} {its_OPERAND_PLACES_mul : Array Value} {n_OPERAND_PLACES_mul : Nat} {sl_OPERAND_PLACES_mul : Array (Option Value)} (l_OPERAND_PLACES_mul : K.lookup t_OPERAND_PLACES_mul = some ⟨.type "tuple", od_OPERAND_PLACES_mul, .seq its_OPERAND_PLACES_mul n_OPERAND_PLACES_mul, sl_OPERAND_PLACES_mul⟩) (z_OPERAND_PLACES_mul : its_OPERAND_PLACES_mul.size ≤ sizeLine) (v_OPERAND_PLACES_mul : Vals [.int (1), .int (2)] its_OPERAND_PLACES_mul.toList)
    {t_OPERAND_PLACES_scale : Addr} (en_OPERAND_PLACES_scale : PySem.W.nsIn K A_OPERAND_PLACES "scale" = some (some (.ref t_OPERAND_PLACES_scale)))
    {od_OPERAND_PLACES_scale : Option Addr} {its_OPERAND_PLACES_scale : Array Value} {n_OPERAND_PLACES_scale : Nat} {sl_OPERAND_PLACES_scale : Array (Option Value)} (l_OPERAND_PLACES_scale : K.lookup t_OPERAND_PLACES_scale = some ⟨.type "tuple", od_OPERAND_PLACES_scale, .seq its_OPERAND_PLACES_scale n_OPERAND_PLACES_scale, sl_OPERAND_PLACES_scale⟩) (z_OPERAND_PLACES_scale : its_OPERAND_PLACES_scale.size ≤ sizeLine) (v_OPERAND_PLACES_scale : Vals [.int (2)] its_OPERAND_PLACES_scale.toList)
    {t_OPERAND_PLACES_shift : Addr} (en_OPERAND_PLACES_shift : PySem.W.nsIn K A_OPERAND_PLACES "shift" = some (some (.ref t_OPERAND_PLACES_shift)))
    {od_OPERAND_PLACES_shift : Option Addr} {its_OPERAND_PLACES_shift : Array Value} {n_OPERAND_PLACES_shift : Nat} {sl_OPERAND_PLACES_shift : Array (Option Value)} (l_OPERAND_PLACES_shift : K.lookup t_OPERAND_PLACES_shift = some ⟨.type "tuple", od_OPERAND_PLACES_shift, .seq its_OPERAND_PLACES_shift n_OPERAND_PLACES_shift, sl_OPERAND_PLACES_shift⟩) (z_OPERAND_PLACES_shift : its_OPERAND_PLACES_shift.size ≤ sizeLine) (v_OPERAND_PLACES_shift : Vals [.int (2)] its_OPERAND_PLACES_shift.toList)
    {t_OPERAND_PLACES_relu : Addr} (en_OPERAND_PLACES_relu : PySem.W.nsIn K A_OPERAND_PLACES "relu" = some (some (.ref t_OPERAND_PLACES_relu)))
    {od_OPERAND_PLACES_relu : Option Addr} {its_OPERAND_PLACES_relu : Array Value} {n_OPERAND_PLACES_relu : Nat} {sl_OPERAND_PLACES_relu : Array (Option Value)} (l_OPERAND_PLACES_relu : K.lookup t_OPERAND_PLACES_relu = some ⟨.type "tuple", od_OPERAND_PLACES_relu, .seq its_OPERAND_PLACES_relu n_OPERAND_PLACES_relu, sl_OPERAND_PLACES_relu⟩) (z_OPERAND_PLACES_relu : its_OPERAND_PLACES_relu.size ≤ sizeLine) (v_OPERAND_PLACES_relu : Vals [.int (1)] its_OPERAND_PLACES_relu.toList)
    {t_OPERAND_PLACES_drop : Addr} (en_OPERAND_PLACES_drop : PySem.W.nsIn K A_OPERAND_PLACES "drop" = some (some (.ref t_OPERAND_PLACES_drop)))
    {od_OPERAND_PLACES_drop : Option Addr} {its_OPERAND_PLACES_drop : Array Value} {n_OPERAND_PLACES_drop : Nat} {sl_OPERAND_PLACES_drop : Array (Option Value)} (l_OPERAND_PLACES_drop : K.lookup t_OPERAND_PLACES_drop = some ⟨.type "tuple", od_OPERAND_PLACES_drop, .seq its_OPERAND_PLACES_drop n_OPERAND_PLACES_drop, sl_OPERAND_PLACES_drop⟩) (z_OPERAND_PLACES_drop : its_OPERAND_PLACES_drop.size ≤ sizeLine) (v_OPERAND_PLACES_drop : Vals [.int (2)] its_OPERAND_PLACES_drop.toList)
    {t_OPERAND_PLACES_sum : Addr} (en_OPERAND_PLACES_sum : PySem.W.nsIn K A_OPERAND_PLACES "sum" = some (some (.ref t_OPERAND_PLACES_sum)))
    {od_OPERAND_PLACES_sum : Option Addr} {its_OPERAND_PLACES_sum : Array Value} {n_OPERAND_PLACES_sum : Nat} {sl_OPERAND_PLACES_sum : Array (Option Value)} (l_OPERAND_PLACES_sum : K.lookup t_OPERAND_PLACES_sum = some ⟨.type "tuple", od_OPERAND_PLACES_sum, .seq its_OPERAND_PLACES_sum n_OPERAND_PLACES_sum, sl_OPERAND_PLACES_sum⟩) (z_OPERAND_PLACES_sum : its_OPERAND_PLACES_sum.size ≤ sizeLine) (v_OPERAND_PLACES_sum : Vals [.int (1)] its_OPERAND_PLACES_sum.toList)
    {t_OPERAND_PLACES_join : Addr} (en_OPERAND_PLACES_join : PySem.W.nsIn K A_OPERAND_PLACES "join" = some (some (.ref t_OPERAND_PLACES_join)))
    {od_OPERAND_PLACES_join : Option Addr} {its_OPERAND_PLACES_join : Array Value} {n_OPERAND_PLACES_join : Nat} {sl_OPERAND_PLACES_join : Array (Option Value)} (l_OPERAND_PLACES_join : K.lookup t_OPERAND_PLACES_join = some ⟨.type "tuple", od_OPERAND_PLACES_join, .seq its_OPERAND_PLACES_join n_OPERAND_PLACES_join, sl_OPERAND_PLACES_join⟩) (z_OPERAND_PLACES_join : its_OPERAND_PLACES_join.size ≤ sizeLine) (v_OPERAND_PLACES_join : Vals [.int (1), .int (2)] its_OPERAND_PLACES_join.toList)
    {t_OPERAND_PLACES_take : Addr} (en_OPERAND_PLACES_take : PySem.W.nsIn K A_OPERAND_PLACES "take" = some (some (.ref t_OPERAND_PLACES_take)))
    {od_OPERAND_PLACES_take : Option Addr} {its_OPERAND_PLACES_take : Array Value} {n_OPERAND_PLACES_take : Nat} {sl_OPERAND_PLACES_take : Array (Option Value)} (l_OPERAND_PLACES_take : K.lookup t_OPERAND_PLACES_take = some ⟨.type "tuple", od_OPERAND_PLACES_take, .seq its_OPERAND_PLACES_take n_OPERAND_PLACES_take, sl_OPERAND_PLACES_take⟩) (z_OPERAND_PLACES_take : its_OPERAND_PLACES_take.size ≤ sizeLine) (v_OPERAND_PLACES_take : Vals [.int (3)] its_OPERAND_PLACES_take.toList)
    {A_WITH_PARAMETER : Addr} (ga_WITH_PARAMETER : PySem.W.nsIn K mainGlobals "WITH_PARAMETER" = some (some (.ref A_WITH_PARAMETER)))
    {od_WITH_PARAMETER : Option Addr} {its_WITH_PARAMETER : Array Value} {n_WITH_PARAMETER : Nat} {sl_WITH_PARAMETER : Array (Option Value)} (l_WITH_PARAMETER : K.lookup A_WITH_PARAMETER = some ⟨.type "tuple", od_WITH_PARAMETER, .seq its_WITH_PARAMETER n_WITH_PARAMETER, sl_WITH_PARAMETER⟩) (z_WITH_PARAMETER : its_WITH_PARAMETER.size ≤ sizeLine) (v_WITH_PARAMETER : Vals [.str "lin", .str "bias", .str "embed"] its_WITH_PARAMETER.toList)
    {A_LENGTHS : Addr} (ga_LENGTHS : PySem.W.nsIn K mainGlobals "LENGTHS" = some (some (.ref A_LENGTHS)))
    {es_LENGTHS : Array DictEntry} {n_LENGTHS : Nat} (l_LENGTHS : K.lookup A_LENGTHS = some ⟨.type "dict", none, .dict es_LENGTHS n_LENGTHS, #[]⟩) (lit_LENGTHS : PySem.W.KeysLit w.params es_LENGTHS.toList) (low_LENGTHS : (A_LENGTHS == sysModules) = false)
    (en_LENGTHS_input : PySem.W.nsIn K A_LENGTHS "input" = some (some (.ref f_15)))
    (en_LENGTHS_target : PySem.W.nsIn K A_LENGTHS "target" = some (some (.ref f_14)))
    (en_LENGTHS_lin : PySem.W.nsIn K A_LENGTHS "lin" = some (some (.ref f_31)))
    (en_LENGTHS_bias : PySem.W.nsIn K A_LENGTHS "bias" = some (some (.ref f_30)))
    (en_LENGTHS_embed : PySem.W.nsIn K A_LENGTHS "embed" = some (some (.ref f_29)))
    (en_LENGTHS_mat : PySem.W.nsIn K A_LENGTHS "mat" = some (some (.ref f_28)))
    (en_LENGTHS_matT : PySem.W.nsIn K A_LENGTHS "matT" = some (some (.ref f_28)))
    (en_LENGTHS_lower : PySem.W.nsIn K A_LENGTHS "lower" = some (some (.ref f_27)))
    (en_LENGTHS_add : PySem.W.nsIn K A_LENGTHS "add" = some (some (.ref f_12)))
    (en_LENGTHS_sub : PySem.W.nsIn K A_LENGTHS "sub" = some (some (.ref f_12)))
    (en_LENGTHS_mul : PySem.W.nsIn K A_LENGTHS "mul" = some (some (.ref f_12)))
    (en_LENGTHS_scale : PySem.W.nsIn K A_LENGTHS "scale" = some (some (.ref f_26)))
    (en_LENGTHS_shift : PySem.W.nsIn K A_LENGTHS "shift" = some (some (.ref f_11)))
    (en_LENGTHS_relu : PySem.W.nsIn K A_LENGTHS "relu" = some (some (.ref f_10)))
    (en_LENGTHS_drop : PySem.W.nsIn K A_LENGTHS "drop" = some (some (.ref f_9)))
    (en_LENGTHS_sum : PySem.W.nsIn K A_LENGTHS "sum" = some (some (.ref f_8)))
    (en_LENGTHS_join : PySem.W.nsIn K A_LENGTHS "join" = some (some (.ref f_7)))
    (en_LENGTHS_take : PySem.W.nsIn K A_LENGTHS "take" = some (some (.ref f_25)))
    (z_abs : PySem.W.nsIn K mainGlobals "abs" = some none)
    (z_all : PySem.W.nsIn K mainGlobals "all" = some none)
    (z_bool : PySem.W.nsIn K mainGlobals "bool" = some none)
    (z_int : PySem.W.nsIn K mainGlobals "int" = some none)
    (z_isinstance : PySem.W.nsIn K mainGlobals "isinstance" = some none)
    (z_len : PySem.W.nsIn K mainGlobals "len" = some none)
    (z_list : PySem.W.nsIn K mainGlobals "list" = some none)
    (z_max : PySem.W.nsIn K mainGlobals "max" = some none)
    (z_range : PySem.W.nsIn K mainGlobals "range" = some none)
    {t_MOST_PLACES : Tok} (g_MOST_PLACES : PySem.W.nsIn K mainGlobals "MOST_PLACES" = some (some (.int (8) t_MOST_PLACES)))
    {t_MOST_PARAMETERS : Tok} (g_MOST_PARAMETERS : PySem.W.nsIn K mainGlobals "MOST_PARAMETERS" = some (some (.int (8) t_MOST_PARAMETERS)))
    {t_MOST_SIDE : Tok} (g_MOST_SIDE : PySem.W.nsIn K mainGlobals "MOST_SIDE" = some (some (.int (6) t_MOST_SIDE)))
    {t_MOST_NODES : Tok} (g_MOST_NODES : PySem.W.nsIn K mainGlobals "MOST_NODES" = some (some (.int (24) t_MOST_NODES)))
    {t_MOST_LENGTH : Tok} (g_MOST_LENGTH : PySem.W.nsIn K mainGlobals "MOST_LENGTH" = some (some (.int (12) t_MOST_LENGTH)))
    {t_MOST_SHIFT : Tok} (g_MOST_SHIFT : PySem.W.nsIn K mainGlobals "MOST_SHIFT" = some (some (.int (31) t_MOST_SHIFT)))
    {t_MOST_BATCH : Tok} (g_MOST_BATCH : PySem.W.nsIn K mainGlobals "MOST_BATCH" = some (some (.int (4) t_MOST_BATCH)))
    {t_MOST_RATES : Tok} (g_MOST_RATES : PySem.W.nsIn K mainGlobals "MOST_RATES" = some (some (.int (4) t_MOST_RATES)))
    {t_MOST_SAMPLES : Tok} (g_MOST_SAMPLES : PySem.W.nsIn K mainGlobals "MOST_SAMPLES" = some (some (.int (12) t_MOST_SAMPLES)))
    {t_LEAST_DIVISOR : Tok} (g_LEAST_DIVISOR : PySem.W.nsIn K mainGlobals "LEAST_DIVISOR" = some (some (.int (2) t_LEAST_DIVISOR)))
    {t_GREATEST_NUMBER : Tok} (g_GREATEST_NUMBER : PySem.W.nsIn K mainGlobals "GREATEST_NUMBER" = some (some (.int (4294967295) t_GREATEST_NUMBER)))
    {t_LEAST : Tok} (g_LEAST : PySem.W.nsIn K mainGlobals "LEAST" = some (some (.int (-2147483648) t_LEAST)))
    {t_GREATEST : Tok} (g_GREATEST : PySem.W.nsIn K mainGlobals "GREATEST" = some (some (.int (2147483647) t_GREATEST)))
    : ∃ fd : FuncData, (∀ (s : Shared) (v : Value), BindsTo s fd ⟨[v], []⟩ [("script", v)]) ∧ ∀ base : Heap, K.In base → base.Ns mainGlobals mg → FnOk l.prog w K mg base CX0 9 fa fd ["script"] (spLaw K) := by
  have e := hfa.symm.trans (PySem.W.mg_of X G a_52)
  cases e
  let cs : Cs := ⟨C_Parameter, C_Net, C_Job, A_OPERAND_PLACES, A_WITH_PARAMETER, A_LENGTHS, f_15, f_14, f_31, f_30, f_29, f_28, f_27, f_12, f_26, f_11, f_10, f_9, f_8, f_7, f_25⟩
  have T : Txt K mg cs w := ⟨PySem.W.mg_none_of X G z_abs, PySem.W.mg_none_of X G z_all, PySem.W.mg_none_of X G z_bool, PySem.W.mg_none_of X G z_int, PySem.W.mg_none_of X G z_isinstance, PySem.W.mg_none_of X G z_len, PySem.W.mg_none_of X G z_list, PySem.W.mg_none_of X G z_max, PySem.W.mg_none_of X G z_range, ⟨_, PySem.W.mg_of X G g_MOST_PLACES⟩, ⟨_, PySem.W.mg_of X G g_MOST_PARAMETERS⟩, ⟨_, PySem.W.mg_of X G g_MOST_SIDE⟩, ⟨_, PySem.W.mg_of X G g_MOST_NODES⟩, ⟨_, PySem.W.mg_of X G g_MOST_LENGTH⟩, ⟨_, PySem.W.mg_of X G g_MOST_SHIFT⟩, ⟨_, PySem.W.mg_of X G g_MOST_BATCH⟩, ⟨_, PySem.W.mg_of X G g_MOST_RATES⟩, ⟨_, PySem.W.mg_of X G g_MOST_SAMPLES⟩, ⟨_, PySem.W.mg_of X G g_LEAST_DIVISOR⟩, ⟨_, PySem.W.mg_of X G g_GREATEST_NUMBER⟩, ⟨_, PySem.W.mg_of X G g_LEAST⟩, ⟨_, PySem.W.mg_of X G g_GREATEST⟩, PySem.W.mg_of X G ga_OPERAND_PLACES, ⟨_, _, l_OPERAND_PLACES, lit_OPERAND_PLACES, low_OPERAND_PLACES⟩, ⟨_, en_OPERAND_PLACES_input, _, _, _, l_OPERAND_PLACES_input, rfl, rfl, z_OPERAND_PLACES_input, v_OPERAND_PLACES_input⟩, ⟨_, en_OPERAND_PLACES_target, _, _, _, l_OPERAND_PLACES_target, rfl, rfl, z_OPERAND_PLACES_target, v_OPERAND_PLACES_target⟩, ⟨_, en_OPERAND_PLACES_lin, _, _, _, l_OPERAND_PLACES_lin, rfl, rfl, z_OPERAND_PLACES_lin, v_OPERAND_PLACES_lin⟩, ⟨_, en_OPERAND_PLACES_bias, _, _, _, l_OPERAND_PLACES_bias, rfl, rfl, z_OPERAND_PLACES_bias, v_OPERAND_PLACES_bias⟩, ⟨_, en_OPERAND_PLACES_embed, _, _, _, l_OPERAND_PLACES_embed, rfl, rfl, z_OPERAND_PLACES_embed, v_OPERAND_PLACES_embed⟩, ⟨_, en_OPERAND_PLACES_mat, _, _, _, l_OPERAND_PLACES_mat, rfl, rfl, z_OPERAND_PLACES_mat, v_OPERAND_PLACES_mat⟩, ⟨_, en_OPERAND_PLACES_matT, _, _, _, l_OPERAND_PLACES_matT, rfl, rfl, z_OPERAND_PLACES_matT, v_OPERAND_PLACES_matT⟩, ⟨_, en_OPERAND_PLACES_lower, _, _, _, l_OPERAND_PLACES_lower, rfl, rfl, z_OPERAND_PLACES_lower, v_OPERAND_PLACES_lower⟩, ⟨_, en_OPERAND_PLACES_add, _, _, _, l_OPERAND_PLACES_add, rfl, rfl, z_OPERAND_PLACES_add, v_OPERAND_PLACES_add⟩, ⟨_, en_OPERAND_PLACES_sub, _, _, _, l_OPERAND_PLACES_sub, rfl, rfl, z_OPERAND_PLACES_sub, v_OPERAND_PLACES_sub⟩, ⟨_, en_OPERAND_PLACES_mul, _, _, _, l_OPERAND_PLACES_mul, rfl, rfl, z_OPERAND_PLACES_mul, v_OPERAND_PLACES_mul⟩, ⟨_, en_OPERAND_PLACES_scale, _, _, _, l_OPERAND_PLACES_scale, rfl, rfl, z_OPERAND_PLACES_scale, v_OPERAND_PLACES_scale⟩, ⟨_, en_OPERAND_PLACES_shift, _, _, _, l_OPERAND_PLACES_shift, rfl, rfl, z_OPERAND_PLACES_shift, v_OPERAND_PLACES_shift⟩, ⟨_, en_OPERAND_PLACES_relu, _, _, _, l_OPERAND_PLACES_relu, rfl, rfl, z_OPERAND_PLACES_relu, v_OPERAND_PLACES_relu⟩, ⟨_, en_OPERAND_PLACES_drop, _, _, _, l_OPERAND_PLACES_drop, rfl, rfl, z_OPERAND_PLACES_drop, v_OPERAND_PLACES_drop⟩, ⟨_, en_OPERAND_PLACES_sum, _, _, _, l_OPERAND_PLACES_sum, rfl, rfl, z_OPERAND_PLACES_sum, v_OPERAND_PLACES_sum⟩, ⟨_, en_OPERAND_PLACES_join, _, _, _, l_OPERAND_PLACES_join, rfl, rfl, z_OPERAND_PLACES_join, v_OPERAND_PLACES_join⟩, ⟨_, en_OPERAND_PLACES_take, _, _, _, l_OPERAND_PLACES_take, rfl, rfl, z_OPERAND_PLACES_take, v_OPERAND_PLACES_take⟩, PySem.W.mg_of X G ga_WITH_PARAMETER, ⟨_, _, _, l_WITH_PARAMETER, rfl, rfl, z_WITH_PARAMETER, v_WITH_PARAMETER⟩, PySem.W.mg_of X G ga_LENGTHS, ⟨_, _, l_LENGTHS, lit_LENGTHS, low_LENGTHS⟩, en_LENGTHS_input, en_LENGTHS_target, en_LENGTHS_lin, en_LENGTHS_bias, en_LENGTHS_embed, en_LENGTHS_mat, en_LENGTHS_matT, en_LENGTHS_lower, en_LENGTHS_add, en_LENGTHS_sub, en_LENGTHS_mul, en_LENGTHS_scale, en_LENGTHS_shift, en_LENGTHS_relu, en_LENGTHS_drop, en_LENGTHS_sum, en_LENGTHS_join, en_LENGTHS_take, PySem.W.mg_of X G a_15, PySem.W.mg_of X G a_14, PySem.W.mg_of X G a_31, PySem.W.mg_of X G a_30, PySem.W.mg_of X G a_29, PySem.W.mg_of X G a_28, PySem.W.mg_of X G a_27, PySem.W.mg_of X G a_12, PySem.W.mg_of X G a_26, PySem.W.mg_of X G a_11, PySem.W.mg_of X G a_10, PySem.W.mg_of X G a_9, PySem.W.mg_of X G a_8, PySem.W.mg_of X G a_7, PySem.W.mg_of X G a_25, ⟨pg_Parameter, hd_Parameter, po_Parameter, sa_Parameter⟩, PySem.W.mg_of X G ac_Parameter, ⟨mk_Parameter, kc_Parameter⟩, na_Parameter_rows, na_Parameter_cols, na_Parameter_fill, ⟨pg_Net, hd_Net, po_Net, sa_Net⟩, PySem.W.mg_of X G ac_Net, ⟨mk_Net, kc_Net⟩, na_Net_inputs, na_Net_targets, na_Net_parameters, na_Net_nodes, na_Net_lengths, ⟨pg_Job, hd_Job, po_Job, sa_Job⟩, PySem.W.mg_of X G ac_Job, ⟨mk_Job, kc_Job⟩, na_Job_net, na_Job_seed, na_Job_batch, na_Job_factor, na_Job_point, na_Job_rates, na_Job_data⟩
  refine ⟨PySem.W.fnOf "law" "law" (defArgs s_law) (defBody s_law) (defScope s_law) .none kV_52 dc_52 pm_52 an_52 cd_52 ct_52, fun s v => .of_eq rfl, fun base _ _ => ?_⟩
  have F_0 := fun_mk (st := s__law_rate) l_0 c_0 k_0
  have B_0 : Binds K _ ["job", "step"] [] := F_0.binds (ps := ["job", "step"]) fun _ _ _ _ _ _ us hl => match us, hl with | [_, _], _ => rfl
  have O_0 := ok__law_rate (P := l.prog) (w := w) (base := base) F_0 T 
  have D__law_rate : Def l.prog w K mg base 1 "_law_rate" ["job", "step"] (spLRate) := ⟨_, _, O_0, B_0, PySem.W.mg_of X G a_0, k_0⟩
  have F_1 := fun_mk (st := s__law_is_integer) l_1 c_1 k_1
  have B_1 : Binds K _ ["told"] [] := F_1.binds (ps := ["told"]) fun _ _ _ _ _ _ us hl => match us, hl with | [_], _ => rfl
  have O_1 := ok__law_is_integer (P := l.prog) (w := w) (base := base) F_1 T 
  have D__law_is_integer : Def l.prog w K mg base 1 "_law_is_integer" ["told"] (spIsInt) := ⟨_, _, O_1, B_1, PySem.W.mg_of X G a_1, k_1⟩
  have F_2 := fun_mk (st := s_rate_at) l_2 c_2 k_2
  have B_2 : Binds K _ ["job", "step"] [] := F_2.binds (ps := ["job", "step"]) fun _ _ _ _ _ _ us hl => match us, hl with | [_, _], _ => rfl
  have O_2 := ok_rate_at (P := l.prog) (w := w) (base := base) F_2 T 
  have D_rate_at : Def l.prog w K mg base 1 "rate_at" ["job", "step"] (spRateAt cs) := ⟨_, _, O_2, B_2, PySem.W.mg_of X G a_2, k_2⟩
  have F_3 := fun_mk (st := s__law_cell) l_3 c_3 k_3
  have B_3 : Binds K _ ["script", "k"] [] := F_3.binds (ps := ["script", "k"]) fun _ _ _ _ _ _ us hl => match us, hl with | [_, _], _ => rfl
  have O_3 := ok__law_cell (P := l.prog) (w := w) (base := base) F_3 T 
  have D__law_cell : Def l.prog w K mg base 1 "_law_cell" ["script", "k"] (spCell K) := ⟨_, _, O_3, B_3, PySem.W.mg_of X G a_3, k_3⟩
  have F_4 := fun_mk (st := s__law_draw) l_4 c_4 k_4
  have B_4 : Binds K _ ["box", "many"] [] := F_4.binds (ps := ["box", "many"]) fun _ _ _ _ _ _ us hl => match us, hl with | [_, _], _ => rfl
  have O_4 := ok__law_draw (P := l.prog) (w := w) (base := base) F_4 T 
  have D__law_draw : Def l.prog w K mg base 1 "_law_draw" ["box", "many"] (spDraw) := ⟨_, _, O_4, B_4, PySem.W.mg_of X G a_4, k_4⟩
  have F_5 := fun_mk (st := s_is_word) l_5 c_5 k_5
  have B_5 : Binds K _ ["n"] [] := F_5.binds (ps := ["n"]) fun _ _ _ _ _ _ us hl => match us, hl with | [_], _ => rfl
  have O_5 := ok_is_word (P := l.prog) (w := w) (base := base) F_5 T 
  have D_is_word : Def l.prog w K mg base 1 "is_word" ["n"] (spIsWord) := ⟨_, _, O_5, B_5, PySem.W.mg_of X G a_5, k_5⟩
  have F_6 := fun_mk (st := s_is_inside) l_6 c_6 k_6
  have B_6 : Binds K _ ["lo", "n", "length"] [] := F_6.binds (ps := ["lo", "n", "length"]) fun _ _ _ _ _ _ us hl => match us, hl with | [_, _, _], _ => rfl
  have O_6 := ok_is_inside (P := l.prog) (w := w) (base := base) F_6 T 
  have D_is_inside : Def l.prog w K mg base 1 "is_inside" ["lo", "n", "length"] (spInside) := ⟨_, _, O_6, B_6, PySem.W.mg_of X G a_6, k_6⟩
  have F_7 := fun_mk (st := s__of_join) l_7 c_7 k_7
  have B_7 : Binds K _ ["net", "known", "node"] [] := F_7.binds (ps := ["net", "known", "node"]) fun _ _ _ _ _ _ us hl => match us, hl with | [_, _, _], _ => rfl
  have O_7 := ok__of_join (P := l.prog) (w := w) (base := base) F_7 T 
  have D__of_join : Def l.prog w K mg base 1 "_of_join" ["net", "known", "node"] (spRule K cs fun d => ∃ a b, d = .join a b) := ⟨_, _, O_7, B_7, PySem.W.mg_of X G a_7, k_7⟩
  have F_8 := fun_mk (st := s__of_sum) l_8 c_8 k_8
  have B_8 : Binds K _ ["net", "known", "node"] [] := F_8.binds (ps := ["net", "known", "node"]) fun _ _ _ _ _ _ us hl => match us, hl with | [_, _, _], _ => rfl
  have O_8 := ok__of_sum (P := l.prog) (w := w) (base := base) F_8 T 
  have D__of_sum : Def l.prog w K mg base 1 "_of_sum" ["net", "known", "node"] (spRule K cs fun d => ∃ a, d = .sum a) := ⟨_, _, O_8, B_8, PySem.W.mg_of X G a_8, k_8⟩
  have F_9 := fun_mk (st := s__of_drop) l_9 c_9 k_9
  have B_9 : Binds K _ ["net", "known", "node"] [] := F_9.binds (ps := ["net", "known", "node"]) fun _ _ _ _ _ _ us hl => match us, hl with | [_, _, _], _ => rfl
  have O_9 := ok__of_drop (P := l.prog) (w := w) (base := base) F_9 T 
  have D__of_drop : Def l.prog w K mg base 1 "_of_drop" ["net", "known", "node"] (spRule K cs fun d => ∃ m a, d = .drop m a) := ⟨_, _, O_9, B_9, PySem.W.mg_of X G a_9, k_9⟩
  have F_10 := fun_mk (st := s__of_relu) l_10 c_10 k_10
  have B_10 : Binds K _ ["net", "known", "node"] [] := F_10.binds (ps := ["net", "known", "node"]) fun _ _ _ _ _ _ us hl => match us, hl with | [_, _, _], _ => rfl
  have O_10 := ok__of_relu (P := l.prog) (w := w) (base := base) F_10 T 
  have D__of_relu : Def l.prog w K mg base 1 "_of_relu" ["net", "known", "node"] (spRule K cs fun d => ∃ a, d = .relu a) := ⟨_, _, O_10, B_10, PySem.W.mg_of X G a_10, k_10⟩
  have F_11 := fun_mk (st := s__of_shift) l_11 c_11 k_11
  have B_11 : Binds K _ ["net", "known", "node"] [] := F_11.binds (ps := ["net", "known", "node"]) fun _ _ _ _ _ _ us hl => match us, hl with | [_, _, _], _ => rfl
  have O_11 := ok__of_shift (P := l.prog) (w := w) (base := base) F_11 T 
  have D__of_shift : Def l.prog w K mg base 1 "_of_shift" ["net", "known", "node"] (spRule K cs fun d => ∃ k a, d = .shift k a) := ⟨_, _, O_11, B_11, PySem.W.mg_of X G a_11, k_11⟩
  have F_12 := fun_mk (st := s__of_pair) l_12 c_12 k_12
  have B_12 : Binds K _ ["net", "known", "node"] [] := F_12.binds (ps := ["net", "known", "node"]) fun _ _ _ _ _ _ us hl => match us, hl with | [_, _, _], _ => rfl
  have O_12 := ok__of_pair (P := l.prog) (w := w) (base := base) F_12 T 
  have D__of_pair : Def l.prog w K mg base 1 "_of_pair" ["net", "known", "node"] (spRule K cs fun d => ∃ a b, d = .add a b ∨ d = .sub a b ∨ d = .mul a b) := ⟨_, _, O_12, B_12, PySem.W.mg_of X G a_12, k_12⟩
  have F_13 := fun_mk (st := s_is_multiple) l_13 c_13 k_13
  have B_13 : Binds K _ ["n", "c"] [] := F_13.binds (ps := ["n", "c"]) fun _ _ _ _ _ _ us hl => match us, hl with | [_, _], _ => rfl
  have O_13 := ok_is_multiple (P := l.prog) (w := w) (base := base) F_13 T 
  have D_is_multiple : Def l.prog w K mg base 1 "is_multiple" ["n", "c"] (spMult) := ⟨_, _, O_13, B_13, PySem.W.mg_of X G a_13, k_13⟩
  have F_14 := fun_mk (st := s__of_targets) l_14 c_14 k_14
  have B_14 : Binds K _ ["net", "known", "node"] [] := F_14.binds (ps := ["net", "known", "node"]) fun _ _ _ _ _ _ us hl => match us, hl with | [_, _, _], _ => rfl
  have O_14 := ok__of_targets (P := l.prog) (w := w) (base := base) F_14 T 
  have D__of_targets : Def l.prog w K mg base 1 "_of_targets" ["net", "known", "node"] (spRule K cs (· = .target)) := ⟨_, _, O_14, B_14, PySem.W.mg_of X G a_14, k_14⟩
  have F_15 := fun_mk (st := s__of_inputs) l_15 c_15 k_15
  have B_15 : Binds K _ ["net", "known", "node"] [] := F_15.binds (ps := ["net", "known", "node"]) fun _ _ _ _ _ _ us hl => match us, hl with | [_, _, _], _ => rfl
  have O_15 := ok__of_inputs (P := l.prog) (w := w) (base := base) F_15 T 
  have D__of_inputs : Def l.prog w K mg base 1 "_of_inputs" ["net", "known", "node"] (spRule K cs (· = .input)) := ⟨_, _, O_15, B_15, PySem.W.mg_of X G a_15, k_15⟩
  have F_16 := fun_mk (st := s__names_exist) l_16 c_16 k_16
  have B_16 : Binds K _ ["net", "known", "node"] [] := F_16.binds (ps := ["net", "known", "node"]) fun _ _ _ _ _ _ us hl => match us, hl with | [_, _, _], _ => rfl
  have O_16 := ok__names_exist (P := l.prog) (w := w) (base := base) F_16 T 
  have D__names_exist : Def l.prog w K mg base 1 "_names_exist" ["net", "known", "node"] (spNames K cs) := ⟨_, _, O_16, B_16, PySem.W.mg_of X G a_16, k_16⟩
  have F_17 := fun_mk (st := s__is_good) l_17 c_17 k_17
  have B_17 : Binds K _ ["parameter"] [] := F_17.binds (ps := ["parameter"]) fun _ _ _ _ _ _ us hl => match us, hl with | [_], _ => rfl
  have O_17 := ok__is_good (P := l.prog) (w := w) (base := base) F_17 T 
  have D__is_good : Def l.prog w K mg base 1 "_is_good" ["parameter"] (spIsGood cs) := ⟨_, _, O_17, B_17, PySem.W.mg_of X G a_17, k_17⟩
  have F_18 := fun_mk (st := s_Parameter___init__) l_18 c_18 k_18
  have B_18 : Binds K _ ["self", "rows", "cols", "fill"] [] := F_18.binds (ps := ["self", "rows", "cols", "fill"]) fun _ _ _ _ _ _ us hl => match us, hl with | [_, _, _, _], _ => rfl
  have O_18 := ok_Parameter___init__ (P := l.prog) (w := w) (base := base) F_18 T 
  have D_Parameter___init__ : IDef l.prog w K mg base 1 C_Parameter ["self", "rows", "cols", "fill"] (spParInit cs) := ⟨_, _, O_18, B_18, ⟨mk_Parameter, a_18, i_18, kc_Parameter⟩⟩
  have F_19 := fun_mk (st := s_Job___init__) l_19 c_19 k_19
  have B_19 : Binds K _ ["self", "net", "seed", "batch", "factor", "point", "rates", "data"] [] := F_19.binds (ps := ["self", "net", "seed", "batch", "factor", "point", "rates", "data"]) fun _ _ _ _ _ _ us hl => match us, hl with | [_, _, _, _, _, _, _, _], _ => rfl
  have O_19 := ok_Job___init__ (P := l.prog) (w := w) (base := base) F_19 T 
  have D_Job___init__ : IDef l.prog w K mg base 1 C_Job ["self", "net", "seed", "batch", "factor", "point", "rates", "data"] (spJobInit cs) := ⟨_, _, O_19, B_19, ⟨mk_Job, a_19, i_19, kc_Job⟩⟩
  have F_20 := fun_mk (st := s__law_wrap) l_20 c_20 k_20
  have B_20 : Binds K _ ["n"] [] := F_20.binds (ps := ["n"]) fun _ _ _ _ _ _ us hl => match us, hl with | [_], _ => rfl
  have O_20 := ok__law_wrap (P := l.prog) (w := w) (base := base) F_20 T 
  have D__law_wrap : Def l.prog w K mg base 1 "_law_wrap" ["n"] (spWrap) := ⟨_, _, O_20, B_20, PySem.W.mg_of X G a_20, k_20⟩
  have F_21 := fun_mk (st := s__law_divisors) l_21 c_21 k_21
  have B_21 : Binds K _ ["n", "most"] [] := F_21.binds (ps := ["n", "most"]) fun _ _ _ _ _ _ us hl => match us, hl with | [_, _], _ => rfl
  have O_21 := ok__law_divisors (P := l.prog) (w := w) (base := base) F_21 T 
  have D__law_divisors : Def l.prog w K mg base 1 "_law_divisors" ["n", "most"] (spDivisors) := ⟨_, _, O_21, B_21, PySem.W.mg_of X G a_21, k_21⟩
  have F_22 := fun_mk (st := s__law_spoilt) l_22 c_22 k_22
  have B_22 : Binds K _ ["box", "job"] [] := F_22.binds (ps := ["box", "job"]) fun _ _ _ _ _ _ us hl => match us, hl with | [_, _], _ => rfl
  have O_22 := ok__law_spoilt (P := l.prog) (w := w) (base := base) F_22 T (d__law_draw := D__law_draw)
  have D__law_spoilt : Def l.prog w K mg base 2 "_law_spoilt" ["box", "job"] (spSpoilt) := ⟨_, _, O_22, B_22, PySem.W.mg_of X G a_22, k_22⟩
  have F_23 := fun_mk (st := s__has_good_data) l_23 c_23 k_23
  have B_23 : Binds K _ ["job"] [] := F_23.binds (ps := ["job"]) fun _ _ _ _ _ _ us hl => match us, hl with | [_], _ => rfl
  have O_23 := ok__has_good_data (P := l.prog) (w := w) (base := base) F_23 T (d_is_word := D_is_word)
  have D__has_good_data : Def l.prog w K mg base 2 "_has_good_data" ["job"] (spGoodData cs) := ⟨_, _, O_23, B_23, PySem.W.mg_of X G a_23, k_23⟩
  have F_24 := fun_mk (st := s__has_good_rates) l_24 c_24 k_24
  have B_24 : Binds K _ ["job"] [] := F_24.binds (ps := ["job"]) fun _ _ _ _ _ _ us hl => match us, hl with | [_], _ => rfl
  have O_24 := ok__has_good_rates (P := l.prog) (w := w) (base := base) F_24 T (d_is_word := D_is_word)
  have D__has_good_rates : Def l.prog w K mg base 2 "_has_good_rates" ["job"] (spGoodRates cs) := ⟨_, _, O_24, B_24, PySem.W.mg_of X G a_24, k_24⟩
  have F_25 := fun_mk (st := s__of_take) l_25 c_25 k_25
  have B_25 : Binds K _ ["net", "known", "node"] [] := F_25.binds (ps := ["net", "known", "node"]) fun _ _ _ _ _ _ us hl => match us, hl with | [_, _, _], _ => rfl
  have O_25 := ok__of_take (P := l.prog) (w := w) (base := base) F_25 T (d_is_inside := D_is_inside)
  have D__of_take : Def l.prog w K mg base 2 "_of_take" ["net", "known", "node"] (spRule K cs fun d => ∃ lo n a, d = .take lo n a) := ⟨_, _, O_25, B_25, PySem.W.mg_of X G a_25, k_25⟩
  have F_26 := fun_mk (st := s__of_scale) l_26 c_26 k_26
  have B_26 : Binds K _ ["net", "known", "node"] [] := F_26.binds (ps := ["net", "known", "node"]) fun _ _ _ _ _ _ us hl => match us, hl with | [_, _, _], _ => rfl
  have O_26 := ok__of_scale (P := l.prog) (w := w) (base := base) F_26 T (d_is_word := D_is_word)
  have D__of_scale : Def l.prog w K mg base 2 "_of_scale" ["net", "known", "node"] (spRule K cs fun d => ∃ w a, d = .scale w a) := ⟨_, _, O_26, B_26, PySem.W.mg_of X G a_26, k_26⟩
  have F_27 := fun_mk (st := s__of_lower) l_27 c_27 k_27
  have B_27 : Binds K _ ["net", "known", "node"] [] := F_27.binds (ps := ["net", "known", "node"]) fun _ _ _ _ _ _ us hl => match us, hl with | [_, _, _], _ => rfl
  have O_27 := ok__of_lower (P := l.prog) (w := w) (base := base) F_27 T (d_is_multiple := D_is_multiple)
  have D__of_lower : Def l.prog w K mg base 2 "_of_lower" ["net", "known", "node"] (spRule K cs fun d => ∃ c a, d = .lower c a) := ⟨_, _, O_27, B_27, PySem.W.mg_of X G a_27, k_27⟩
  have F_28 := fun_mk (st := s__of_mat) l_28 c_28 k_28
  have B_28 : Binds K _ ["net", "known", "node"] [] := F_28.binds (ps := ["net", "known", "node"]) fun _ _ _ _ _ _ us hl => match us, hl with | [_, _, _], _ => rfl
  have O_28 := ok__of_mat (P := l.prog) (w := w) (base := base) F_28 T (d_is_multiple := D_is_multiple)
  have D__of_mat : Def l.prog w K mg base 2 "_of_mat" ["net", "known", "node"] (spRule K cs fun d => ∃ k a b, d = .mat k a b ∨ d = .matT k a b) := ⟨_, _, O_28, B_28, PySem.W.mg_of X G a_28, k_28⟩
  have F_29 := fun_mk (st := s__of_embed) l_29 c_29 k_29
  have B_29 : Binds K _ ["net", "known", "node"] [] := F_29.binds (ps := ["net", "known", "node"]) fun _ _ _ _ _ _ us hl => match us, hl with | [_, _, _], _ => rfl
  have O_29 := ok__of_embed (P := l.prog) (w := w) (base := base) F_29 T (d_is_inside := D_is_inside)
  have D__of_embed : Def l.prog w K mg base 2 "_of_embed" ["net", "known", "node"] (spRule K cs fun d => ∃ p lo n, d = .embed p lo n) := ⟨_, _, O_29, B_29, PySem.W.mg_of X G a_29, k_29⟩
  have F_30 := fun_mk (st := s__of_bias) l_30 c_30 k_30
  have B_30 : Binds K _ ["net", "known", "node"] [] := F_30.binds (ps := ["net", "known", "node"]) fun _ _ _ _ _ _ us hl => match us, hl with | [_, _, _], _ => rfl
  have O_30 := ok__of_bias (P := l.prog) (w := w) (base := base) F_30 T (d_is_multiple := D_is_multiple)
  have D__of_bias : Def l.prog w K mg base 2 "_of_bias" ["net", "known", "node"] (spRule K cs fun d => ∃ p a, d = .bias p a) := ⟨_, _, O_30, B_30, PySem.W.mg_of X G a_30, k_30⟩
  have F_31 := fun_mk (st := s__of_lin) l_31 c_31 k_31
  have B_31 : Binds K _ ["net", "known", "node"] [] := F_31.binds (ps := ["net", "known", "node"]) fun _ _ _ _ _ _ us hl => match us, hl with | [_, _, _], _ => rfl
  have O_31 := ok__of_lin (P := l.prog) (w := w) (base := base) F_31 T (d_is_multiple := D_is_multiple)
  have D__of_lin : Def l.prog w K mg base 2 "_of_lin" ["net", "known", "node"] (spRule K cs fun d => ∃ p a, d = .lin p a) := ⟨_, _, O_31, B_31, PySem.W.mg_of X G a_31, k_31⟩
  have F_32 := fun_mk (st := s__has_good_parameters) l_32 c_32 k_32
  have B_32 : Binds K _ ["net"] [] := F_32.binds (ps := ["net"]) fun _ _ _ _ _ _ us hl => match us, hl with | [_], _ => rfl
  have O_32 := ok__has_good_parameters (P := l.prog) (w := w) (base := base) F_32 T (d__is_good := D__is_good)
  have D__has_good_parameters : Def l.prog w K mg base 2 "_has_good_parameters" ["net"] (spGoodPars cs) := ⟨_, _, O_32, B_32, PySem.W.mg_of X G a_32, k_32⟩
  have F_33 := fun_mk (st := s__law_word) l_33 c_33 k_33
  have B_33 : Binds K _ ["box"] [] := F_33.binds (ps := ["box"]) fun _ _ _ _ _ _ us hl => match us, hl with | [_], _ => rfl
  have O_33 := ok__law_word (P := l.prog) (w := w) (base := base) F_33 T (d__law_draw := D__law_draw) (d__law_wrap := D__law_wrap)
  have D__law_word : Def l.prog w K mg base 2 "_law_word" ["box"] (spWord) := ⟨_, _, O_33, B_33, PySem.W.mg_of X G a_33, k_33⟩
  have F_34 := fun_mk (st := s__law_of_two) l_34 c_34 k_34
  have B_34 : Binds K _ ["box", "net", "kind", "a"] [] := F_34.binds (ps := ["box", "net", "kind", "a"]) fun _ _ _ _ _ _ us hl => match us, hl with | [_, _, _, _], _ => rfl
  have O_34 := ok__law_of_two (P := l.prog) (w := w) (base := base) F_34 T (d__law_draw := D__law_draw) (d__law_divisors := D__law_divisors)
  have D__law_of_two : Def l.prog w K mg base 2 "_law_of_two" ["box", "net", "kind", "a"] (spMake fun ls us => ∃ (kd : Str) (a : Int), us = [.str kd, .int a] ∧ (kd = "add" ∨ kd = "sub" ∨ kd = "mul" ∨ kd = "join" ∨ kd = "mat" ∨ kd = "matT") ∧ inR a ls.length) := ⟨_, _, O_34, B_34, PySem.W.mg_of X G a_34, k_34⟩
  have F_35 := fun_mk (st := s__law_row) l_35 c_35 k_35
  have B_35 : Binds K _ ["script", "first", "last"] [] := F_35.binds (ps := ["script", "first", "last"]) fun _ _ _ _ _ _ us hl => match us, hl with | [_, _, _], _ => rfl
  have O_35 := ok__law_row (P := l.prog) (w := w) (base := base) F_35 T (d__law_cell := D__law_cell)
  have D__law_row : Def l.prog w K mg base 2 "_law_row" ["script", "first", "last"] (spRow K) := ⟨_, _, O_35, B_35, PySem.W.mg_of X G a_35, k_35⟩
  have F_36 := fun_mk (st := s_length_of) l_36 c_36 k_36
  have B_36 : Binds K _ ["net", "known", "node"] [] := F_36.binds (ps := ["net", "known", "node"]) fun _ _ _ _ _ _ us hl => match us, hl with | [_, _, _], _ => rfl
  have O_36 := ok_length_of (P := l.prog) (w := w) (base := base) F_36 T (d__names_exist := D__names_exist) (d__of_inputs := D__of_inputs) (d__of_targets := D__of_targets) (d__of_lin := D__of_lin) (d__of_bias := D__of_bias) (d__of_embed := D__of_embed) (d__of_mat := D__of_mat) (d__of_lower := D__of_lower) (d__of_pair := D__of_pair) (d__of_scale := D__of_scale) (d__of_shift := D__of_shift) (d__of_relu := D__of_relu) (d__of_drop := D__of_drop) (d__of_sum := D__of_sum) (d__of_join := D__of_join) (d__of_take := D__of_take)
  have D_length_of : Def l.prog w K mg base 3 "length_of" ["net", "known", "node"] (spLength K cs) := ⟨_, _, O_36, B_36, PySem.W.mg_of X G a_36, k_36⟩
  have F_37 := fun_mk (st := s__law_sample) l_37 c_37 k_37
  have B_37 : Binds K _ ["box", "net"] [] := F_37.binds (ps := ["box", "net"]) fun _ _ _ _ _ _ us hl => match us, hl with | [_, _], _ => rfl
  have O_37 := ok__law_sample (P := l.prog) (w := w) (base := base) F_37 T (d__law_word := D__law_word)
  have D__law_sample : Def l.prog w K mg base 3 "_law_sample" ["box", "net"] (spSample) := ⟨_, _, O_37, B_37, PySem.W.mg_of X G a_37, k_37⟩
  have F_38 := fun_mk (st := s__law_of_one) l_38 c_38 k_38
  have B_38 : Binds K _ ["box", "net", "kind", "a"] [] := F_38.binds (ps := ["box", "net", "kind", "a"]) fun _ _ _ _ _ _ us hl => match us, hl with | [_, _, _, _], _ => rfl
  have O_38 := ok__law_of_one (P := l.prog) (w := w) (base := base) F_38 T (d__law_divisors := D__law_divisors) (d__law_draw := D__law_draw) (d__law_word := D__law_word)
  have D__law_of_one : Def l.prog w K mg base 3 "_law_of_one" ["box", "net", "kind", "a"] (spMake fun ls us => ∃ (kd : Str) (a : Int), us = [.str kd, .int a] ∧ (kd = "lower" ∨ kd = "scale" ∨ kd = "shift" ∨ kd = "drop" ∨ kd = "take" ∨ kd = "sum" ∨ kd = "relu") ∧ inR a ls.length) := ⟨_, _, O_38, B_38, PySem.W.mg_of X G a_38, k_38⟩
  have F_39 := fun_mk (st := s__law_parameter) l_39 c_39 k_39
  have B_39 : Binds K _ ["box", "net", "rows", "cols"] [] := F_39.binds (ps := ["box", "net", "rows", "cols"]) fun _ _ _ _ _ _ us hl => match us, hl with | [_, _, _, _], _ => rfl
  have O_39 := ok__law_parameter (P := l.prog) (w := w) (base := base) F_39 T (d__law_draw := D__law_draw) (d__law_word := D__law_word)
  have D__law_parameter : Def l.prog w K mg base 3 "_law_parameter" ["box", "net", "rows", "cols"] (spParam) := ⟨_, _, O_39, B_39, PySem.W.mg_of X G a_39, k_39⟩
  have F_40 := fun_mk (st := s__lengths) l_40 c_40 k_40
  have B_40 : Binds K _ ["net"] [] := F_40.binds (ps := ["net"]) fun _ _ _ _ _ _ us hl => match us, hl with | [_], _ => rfl
  have O_40 := ok__lengths (P := l.prog) (w := w) (base := base) F_40 T (d_length_of := D_length_of)
  have D__lengths : Def l.prog w K mg base 4 "_lengths" ["net"] (spLengths K cs) := ⟨_, _, O_40, B_40, PySem.W.mg_of X G a_40, k_40⟩
  have F_41 := fun_mk (st := s__law_with_parameter) l_41 c_41 k_41
  have B_41 : Binds K _ ["box", "net", "kind", "a"] [] := F_41.binds (ps := ["box", "net", "kind", "a"]) fun _ _ _ _ _ _ us hl => match us, hl with | [_, _, _, _], _ => rfl
  have O_41 := ok__law_with_parameter (P := l.prog) (w := w) (base := base) F_41 T (d__law_divisors := D__law_divisors) (d__law_parameter := D__law_parameter) (d__law_draw := D__law_draw)
  have D__law_with_parameter : Def l.prog w K mg base 4 "_law_with_parameter" ["box", "net", "kind", "a"] (spMake fun ls us => ∃ (kd : Str) (a : Int), us = [.str kd, .int a] ∧ (kd = "lin" ∨ kd = "bias") ∧ inR a ls.length) := ⟨_, _, O_41, B_41, PySem.W.mg_of X G a_41, k_41⟩
  have F_42 := fun_mk (st := s__law_embed) l_42 c_42 k_42
  have B_42 : Binds K _ ["box", "net"] [] := F_42.binds (ps := ["box", "net"]) fun _ _ _ _ _ _ us hl => match us, hl with | [_, _], _ => rfl
  have O_42 := ok__law_embed (P := l.prog) (w := w) (base := base) F_42 T (d__law_draw := D__law_draw) (d__law_parameter := D__law_parameter)
  have D__law_embed : Def l.prog w K mg base 4 "_law_embed" ["box", "net"] (spMake fun _ us => us = []) := ⟨_, _, O_42, B_42, PySem.W.mg_of X G a_42, k_42⟩
  have F_43 := fun_mk (st := s__has_good_nodes) l_43 c_43 k_43
  have B_43 : Binds K _ ["net"] [] := F_43.binds (ps := ["net"]) fun _ _ _ _ _ _ us hl => match us, hl with | [_], _ => rfl
  have O_43 := ok__has_good_nodes (P := l.prog) (w := w) (base := base) F_43 T (d__lengths := D__lengths)
  have D__has_good_nodes : Def l.prog w K mg base 5 "_has_good_nodes" ["net"] (spGoodNodes K cs) := ⟨_, _, O_43, B_43, PySem.W.mg_of X G a_43, k_43⟩
  have F_44 := fun_mk (st := s_Net___init__) l_44 c_44 k_44
  have B_44 : Binds K _ ["self", "inputs", "targets", "parameters", "nodes"] [] := F_44.binds (ps := ["self", "inputs", "targets", "parameters", "nodes"]) fun _ _ _ _ _ _ us hl => match us, hl with | [_, _, _, _, _], _ => rfl
  have O_44 := ok_Net___init__ (P := l.prog) (w := w) (base := base) F_44 T (d__lengths := D__lengths)
  have D_Net___init__ : IDef l.prog w K mg base 5 C_Net ["self", "inputs", "targets", "parameters", "nodes"] (spNetInit K cs) := ⟨_, _, O_44, B_44, ⟨mk_Net, a_44, i_44, kc_Net⟩⟩
  have F_45 := fun_mk (st := s__law_node) l_45 c_45 k_45
  have B_45 : Binds K _ ["box", "net", "kinds"] [] := F_45.binds (ps := ["box", "net", "kinds"]) fun _ _ _ _ _ _ us hl => match us, hl with | [_, _, _], _ => rfl
  have O_45 := ok__law_node (P := l.prog) (w := w) (base := base) F_45 T (d__law_draw := D__law_draw) (d__law_embed := D__law_embed) (d__law_with_parameter := D__law_with_parameter) (d__law_of_two := D__law_of_two) (d__law_of_one := D__law_of_one)
  have D__law_node : Def l.prog w K mg base 5 "_law_node" ["box", "net", "kinds"] (spNode K) := ⟨_, _, O_45, B_45, PySem.W.mg_of X G a_45, k_45⟩
  have F_46 := fun_mk (st := s_is_net) l_46 c_46 k_46
  have B_46 : Binds K _ ["net"] [] := F_46.binds (ps := ["net"]) fun _ _ _ _ _ _ us hl => match us, hl with | [_], _ => rfl
  have O_46 := ok_is_net (P := l.prog) (w := w) (base := base) F_46 T (d__has_good_parameters := D__has_good_parameters) (d__has_good_nodes := D__has_good_nodes)
  have D_is_net : Def l.prog w K mg base 6 "is_net" ["net"] (spIsNet K cs) := ⟨_, _, O_46, B_46, PySem.W.mg_of X G a_46, k_46⟩
  have F_47 := fun_mk (st := s__law_net) l_47 c_47 k_47
  have B_47 : Binds K _ ["box", "kinds", "most"] [] := F_47.binds (ps := ["box", "kinds", "most"]) fun _ _ _ _ _ _ us hl => match us, hl with | [_, _, _], _ => rfl
  have O_47 := ok__law_net (P := l.prog) (w := w) (base := base) F_47 T (d__law_draw := D__law_draw) (d__law_node := D__law_node)
  have D__law_net : Def l.prog w K mg base 6 "_law_net" ["box", "kinds", "most"] (spNet K) := ⟨_, _, O_47, B_47, PySem.W.mg_of X G a_47, k_47⟩
  have F_48 := fun_mk (st := s_is_job) l_48 c_48 k_48
  have B_48 : Binds K _ ["job"] [] := F_48.binds (ps := ["job"]) fun _ _ _ _ _ _ us hl => match us, hl with | [_], _ => rfl
  have O_48 := ok_is_job (P := l.prog) (w := w) (base := base) F_48 T (d_is_net := D_is_net) (d_is_word := D_is_word) (d__has_good_rates := D__has_good_rates) (d__has_good_data := D__has_good_data)
  have D_is_job : Def l.prog w K mg base 7 "is_job" ["job"] (spIsJob K cs) := ⟨_, _, O_48, B_48, PySem.W.mg_of X G a_48, k_48⟩
  have F_49 := fun_mk (st := s__law_net_object) l_49 c_49 k_49
  have B_49 : Binds K _ ["net"] [] := F_49.binds (ps := ["net"]) fun _ _ _ _ _ _ us hl => match us, hl with | [_], _ => rfl
  have O_49 := ok__law_net_object (P := l.prog) (w := w) (base := base) F_49 T (d_Net___init__ := D_Net___init__) (d_Parameter___init__ := D_Parameter___init__)
  have D__law_net_object : Def l.prog w K mg base 7 "_law_net_object" ["net"] (spNetObj K cs) := ⟨_, _, O_49, B_49, PySem.W.mg_of X G a_49, k_49⟩
  have F_50 := fun_mk (st := s__law_job) l_50 c_50 k_50
  have B_50 : Binds K _ ["box", "kinds", "most"] [] := F_50.binds (ps := ["box", "kinds", "most"]) fun _ _ _ _ _ _ us hl => match us, hl with | [_, _, _], _ => rfl
  have O_50 := ok__law_job (P := l.prog) (w := w) (base := base) F_50 T (d__law_net := D__law_net) (d__law_draw := D__law_draw) (d__law_word := D__law_word) (d__law_sample := D__law_sample)
  have D__law_job : Def l.prog w K mg base 7 "_law_job" ["box", "kinds", "most"] (spJob K) := ⟨_, _, O_50, B_50, PySem.W.mg_of X G a_50, k_50⟩
  have F_51 := fun_mk (st := s__law_job_object) l_51 c_51 k_51
  have B_51 : Binds K _ ["job"] [] := F_51.binds (ps := ["job"]) fun _ _ _ _ _ _ us hl => match us, hl with | [_], _ => rfl
  have O_51 := ok__law_job_object (P := l.prog) (w := w) (base := base) F_51 T (d_Job___init__ := D_Job___init__) (d__law_net_object := D__law_net_object)
  have D__law_job_object : Def l.prog w K mg base 8 "_law_job_object" ["job"] (spJobObj K cs) := ⟨_, _, O_51, B_51, PySem.W.mg_of X G a_51, k_51⟩
  exact ok_law (fun_mk (st := s_law) l_52 c_52 k_52) T (d__law_row := D__law_row) (d__law_job := D__law_job) (d__law_job_object := D__law_job_object) (d_is_job := D_is_job) (d__law_spoilt := D__law_spoilt) (d__law_cell := D__law_cell) (d_rate_at := D_rate_at) (d__law_is_integer := D__law_is_integer) (d__law_rate := D__law_rate)
end My
open PySem PySem.W PyProof.Rows
set_option maxHeartbeats 0 in
theorem PySem.Challenge.cw_asifone_k27_rates_and_jobs_holds : PySem.Challenge.rw_asifone_k27_rates_and_jobs.Holds := by
  w_on; o_law; k_head; (case hw => w_witness2)
  k_fill
  refine L2.walk_of (l := PySem.Challenge.rw_asifone_k27_rates_and_jobs) (n := 63) (k := 9) (x := "script") (CX := fun _ => L2.CX0) (sp := fun w => My.spLaw _) rfl (by decide) rfl ⟨rfl, by decide, by decide⟩ (fun w h Y => PySem.W.kIn_of Y) ?F (fun _ _ a ns hl _ hS => ⟨a, ns, rfl, hS, hl, fun _ => rfl⟩) (fun _ _ _ _ _ h => h)
  case F =>
    intro w mg fa h KX G hmg
    refine' My.all_mk KX G hmg ?ac_Parameter ?pg_Parameter ?hd_Parameter ?po_Parameter ?sa_Parameter ?mk_Parameter ?kc_Parameter ?na_Parameter_rows ?na_Parameter_cols ?na_Parameter_fill ?ac_Net ?pg_Net ?hd_Net ?po_Net ?sa_Net ?mk_Net ?kc_Net ?na_Net_inputs ?na_Net_targets ?na_Net_parameters ?na_Net_nodes ?na_Net_lengths ?ac_Job ?pg_Job ?hd_Job ?po_Job ?sa_Job ?mk_Job ?kc_Job ?na_Job_net ?na_Job_seed ?na_Job_batch ?na_Job_factor ?na_Job_point ?na_Job_rates ?na_Job_data ?a_0 ?l_0 ?c_0 ?k_0 ?a_1 ?l_1 ?c_1 ?k_1 ?a_2 ?l_2 ?c_2 ?k_2 ?a_3 ?l_3 ?c_3 ?k_3 ?a_4 ?l_4 ?c_4 ?k_4 ?a_5 ?l_5 ?c_5 ?k_5 ?a_6 ?l_6 ?c_6 ?k_6 ?a_7 ?l_7 ?c_7 ?k_7 ?a_8 ?l_8 ?c_8 ?k_8 ?a_9 ?l_9 ?c_9 ?k_9 ?a_10 ?l_10 ?c_10 ?k_10 ?a_11 ?l_11 ?c_11 ?k_11 ?a_12 ?l_12 ?c_12 ?k_12 ?a_13 ?l_13 ?c_13 ?k_13 ?a_14 ?l_14 ?c_14 ?k_14 ?a_15 ?l_15 ?c_15 ?k_15 ?a_16 ?l_16 ?c_16 ?k_16 ?a_17 ?l_17 ?c_17 ?k_17 ?a_18 ?i_18 ?l_18 ?c_18 ?k_18 ?a_19 ?i_19 ?l_19 ?c_19 ?k_19 ?a_20 ?l_20 ?c_20 ?k_20 ?a_21 ?l_21 ?c_21 ?k_21 ?a_22 ?l_22 ?c_22 ?k_22 ?a_23 ?l_23 ?c_23 ?k_23 ?a_24 ?l_24 ?c_24 ?k_24 ?a_25 ?l_25 ?c_25 ?k_25 ?a_26 ?l_26 ?c_26 ?k_26 ?a_27 ?l_27 ?c_27 ?k_27 ?a_28 ?l_28 ?c_28 ?k_28 ?a_29 ?l_29 ?c_29 ?k_29 ?a_30 ?l_30 ?c_30 ?k_30 ?a_31 ?l_31 ?c_31 ?k_31 ?a_32 ?l_32 ?c_32 ?k_32 ?a_33 ?l_33 ?c_33 ?k_33 ?a_34 ?l_34 ?c_34 ?k_34 ?a_35 ?l_35 ?c_35 ?k_35 ?a_36 ?l_36 ?c_36 ?k_36 ?a_37 ?l_37 ?c_37 ?k_37 ?a_38 ?l_38 ?c_38 ?k_38 ?a_39 ?l_39 ?c_39 ?k_39 ?a_40 ?l_40 ?c_40 ?k_40 ?a_41 ?l_41 ?c_41 ?k_41 ?a_42 ?l_42 ?c_42 ?k_42 ?a_43 ?l_43 ?c_43 ?k_43 ?a_44 ?i_44 ?l_44 ?c_44 ?k_44 ?a_45 ?l_45 ?c_45 ?k_45 ?a_46 ?l_46 ?c_46 ?k_46 ?a_47 ?l_47 ?c_47 ?k_47 ?a_48 ?l_48 ?c_48 ?k_48 ?a_49 ?l_49 ?c_49 ?k_49 ?a_50 ?l_50 ?c_50 ?k_50 ?a_51 ?l_51 ?c_51 ?k_51 ?a_52 ?l_52 ?c_52 ?k_52 ?ga_OPERAND_PLACES ?l_OPERAND_PLACES ?lit_OPERAND_PLACES ?low_OPERAND_PLACES ?en_OPERAND_PLACES_input ?l_OPERAND_PLACES_input ?z_OPERAND_PLACES_input ?v_OPERAND_PLACES_input ?en_OPERAND_PLACES_target ?l_OPERAND_PLACES_target ?z_OPERAND_PLACES_target ?v_OPERAND_PLACES_target ?en_OPERAND_PLACES_lin ?l_OPERAND_PLACES_lin ?z_OPERAND_PLACES_lin ?v_OPERAND_PLACES_lin ?en_OPERAND_PLACES_bias ?l_OPERAND_PLACES_bias ?z_OPERAND_PLACES_bias ?v_OPERAND_PLACES_bias ?en_OPERAND_PLACES_embed ?l_OPERAND_PLACES_embed ?z_OPERAND_PLACES_embed ?v_OPERAND_PLACES_embed ?en_OPERAND_PLACES_mat ?l_OPERAND_PLACES_mat ?z_OPERAND_PLACES_mat ?v_OPERAND_PLACES_mat ?en_OPERAND_PLACES_matT ?l_OPERAND_PLACES_matT ?z_OPERAND_PLACES_matT ?v_OPERAND_PLACES_matT ?en_OPERAND_PLACES_lower ?l_OPERAND_PLACES_lower ?z_OPERAND_PLACES_lower ?v_OPERAND_PLACES_lower ?en_OPERAND_PLACES_add ?l_OPERAND_PLACES_add ?z_OPERAND_PLACES_add ?v_OPERAND_PLACES_add ?en_OPERAND_PLACES_sub ?l_OPERAND_PLACES_sub ?z_OPERAND_PLACES_sub ?v_OPERAND_PLACES_sub ?en_OPERAND_PLACES_mul ?l_OPERAND_PLACES_mul ?z_OPERAND_PLACES_mul ?v_OPERAND_PLACES_mul ?en_OPERAND_PLACES_scale ?l_OPERAND_PLACES_scale ?z_OPERAND_PLACES_scale ?v_OPERAND_PLACES_scale ?en_OPERAND_PLACES_shift ?l_OPERAND_PLACES_shift ?z_OPERAND_PLACES_shift ?v_OPERAND_PLACES_shift ?en_OPERAND_PLACES_relu ?l_OPERAND_PLACES_relu ?z_OPERAND_PLACES_relu ?v_OPERAND_PLACES_relu ?en_OPERAND_PLACES_drop ?l_OPERAND_PLACES_drop ?z_OPERAND_PLACES_drop ?v_OPERAND_PLACES_drop ?en_OPERAND_PLACES_sum ?l_OPERAND_PLACES_sum ?z_OPERAND_PLACES_sum ?v_OPERAND_PLACES_sum ?en_OPERAND_PLACES_join ?l_OPERAND_PLACES_join ?z_OPERAND_PLACES_join ?v_OPERAND_PLACES_join ?en_OPERAND_PLACES_take ?l_OPERAND_PLACES_take ?z_OPERAND_PLACES_take ?v_OPERAND_PLACES_take ?ga_WITH_PARAMETER ?l_WITH_PARAMETER ?z_WITH_PARAMETER ?v_WITH_PARAMETER ?ga_LENGTHS ?l_LENGTHS ?lit_LENGTHS ?low_LENGTHS ?en_LENGTHS_input ?en_LENGTHS_target ?en_LENGTHS_lin ?en_LENGTHS_bias ?en_LENGTHS_embed ?en_LENGTHS_mat ?en_LENGTHS_matT ?en_LENGTHS_lower ?en_LENGTHS_add ?en_LENGTHS_sub ?en_LENGTHS_mul ?en_LENGTHS_scale ?en_LENGTHS_shift ?en_LENGTHS_relu ?en_LENGTHS_drop ?en_LENGTHS_sum ?en_LENGTHS_join ?en_LENGTHS_take ?z_abs ?z_all ?z_bool ?z_int ?z_isinstance ?z_len ?z_list ?z_max ?z_range ?g_MOST_PLACES ?g_MOST_PARAMETERS ?g_MOST_SIDE ?g_MOST_NODES ?g_MOST_LENGTH ?g_MOST_SHIFT ?g_MOST_BATCH ?g_MOST_RATES ?g_MOST_SAMPLES ?g_LEAST_DIVISOR ?g_GREATEST_NUMBER ?g_LEAST ?g_GREATEST
    (case ac_Parameter => k_is)
    (case pg_Parameter => k_is)
    (case hd_Parameter => k_is)
    (case po_Parameter => k_is)
    (case sa_Parameter => k_is)
    (case mk_Parameter => k_is)
    (case kc_Parameter => k_is)
    (case na_Parameter_rows => k_is)
    (case na_Parameter_cols => k_is)
    (case na_Parameter_fill => k_is)
    (case ac_Net => k_is)
    (case pg_Net => k_is)
    (case hd_Net => k_is)
    (case po_Net => k_is)
    (case sa_Net => k_is)
    (case mk_Net => k_is)
    (case kc_Net => k_is)
    (case na_Net_inputs => k_is)
    (case na_Net_targets => k_is)
    (case na_Net_parameters => k_is)
    (case na_Net_nodes => k_is)
    (case na_Net_lengths => k_is)
    (case ac_Job => k_is)
    (case pg_Job => k_is)
    (case hd_Job => k_is)
    (case po_Job => k_is)
    (case sa_Job => k_is)
    (case mk_Job => k_is)
    (case kc_Job => k_is)
    (case na_Job_net => k_is)
    (case na_Job_seed => k_is)
    (case na_Job_batch => k_is)
    (case na_Job_factor => k_is)
    (case na_Job_point => k_is)
    (case na_Job_rates => k_is)
    (case na_Job_data => k_is)
    (case a_0 => k_is)
    (case l_0 => k_is)
    (case c_0 => k_is)
    (case k_0 => k_is)
    (case a_1 => k_is)
    (case l_1 => k_is)
    (case c_1 => k_is)
    (case k_1 => k_is)
    (case a_2 => k_is)
    (case l_2 => k_is)
    (case c_2 => k_is)
    (case k_2 => k_is)
    (case a_3 => k_is)
    (case l_3 => k_is)
    (case c_3 => k_is)
    (case k_3 => k_is)
    (case a_4 => k_is)
    (case l_4 => k_is)
    (case c_4 => k_is)
    (case k_4 => k_is)
    (case a_5 => k_is)
    (case l_5 => k_is)
    (case c_5 => k_is)
    (case k_5 => k_is)
    (case a_6 => k_is)
    (case l_6 => k_is)
    (case c_6 => k_is)
    (case k_6 => k_is)
    (case a_7 => k_is)
    (case l_7 => k_is)
    (case c_7 => k_is)
    (case k_7 => k_is)
    (case a_8 => k_is)
    (case l_8 => k_is)
    (case c_8 => k_is)
    (case k_8 => k_is)
    (case a_9 => k_is)
    (case l_9 => k_is)
    (case c_9 => k_is)
    (case k_9 => k_is)
    (case a_10 => k_is)
    (case l_10 => k_is)
    (case c_10 => k_is)
    (case k_10 => k_is)
    (case a_11 => k_is)
    (case l_11 => k_is)
    (case c_11 => k_is)
    (case k_11 => k_is)
    (case a_12 => k_is)
    (case l_12 => k_is)
    (case c_12 => k_is)
    (case k_12 => k_is)
    (case a_13 => k_is)
    (case l_13 => k_is)
    (case c_13 => k_is)
    (case k_13 => k_is)
    (case a_14 => k_is)
    (case l_14 => k_is)
    (case c_14 => k_is)
    (case k_14 => k_is)
    (case a_15 => k_is)
    (case l_15 => k_is)
    (case c_15 => k_is)
    (case k_15 => k_is)
    (case a_16 => k_is)
    (case l_16 => k_is)
    (case c_16 => k_is)
    (case k_16 => k_is)
    (case a_17 => k_is)
    (case l_17 => k_is)
    (case c_17 => k_is)
    (case k_17 => k_is)
    (case a_18 => k_is)
    (case i_18 => k_is)
    (case l_18 => k_is)
    (case c_18 => k_is)
    (case k_18 => k_is)
    (case a_19 => k_is)
    (case i_19 => k_is)
    (case l_19 => k_is)
    (case c_19 => k_is)
    (case k_19 => k_is)
    (case a_20 => k_is)
    (case l_20 => k_is)
    (case c_20 => k_is)
    (case k_20 => k_is)
    (case a_21 => k_is)
    (case l_21 => k_is)
    (case c_21 => k_is)
    (case k_21 => k_is)
    (case a_22 => k_is)
    (case l_22 => k_is)
    (case c_22 => k_is)
    (case k_22 => k_is)
    (case a_23 => k_is)
    (case l_23 => k_is)
    (case c_23 => k_is)
    (case k_23 => k_is)
    (case a_24 => k_is)
    (case l_24 => k_is)
    (case c_24 => k_is)
    (case k_24 => k_is)
    (case a_25 => k_is)
    (case l_25 => k_is)
    (case c_25 => k_is)
    (case k_25 => k_is)
    (case a_26 => k_is)
    (case l_26 => k_is)
    (case c_26 => k_is)
    (case k_26 => k_is)
    (case a_27 => k_is)
    (case l_27 => k_is)
    (case c_27 => k_is)
    (case k_27 => k_is)
    (case a_28 => k_is)
    (case l_28 => k_is)
    (case c_28 => k_is)
    (case k_28 => k_is)
    (case a_29 => k_is)
    (case l_29 => k_is)
    (case c_29 => k_is)
    (case k_29 => k_is)
    (case a_30 => k_is)
    (case l_30 => k_is)
    (case c_30 => k_is)
    (case k_30 => k_is)
    (case a_31 => k_is)
    (case l_31 => k_is)
    (case c_31 => k_is)
    (case k_31 => k_is)
    (case a_32 => k_is)
    (case l_32 => k_is)
    (case c_32 => k_is)
    (case k_32 => k_is)
    (case a_33 => k_is)
    (case l_33 => k_is)
    (case c_33 => k_is)
    (case k_33 => k_is)
    (case a_34 => k_is)
    (case l_34 => k_is)
    (case c_34 => k_is)
    (case k_34 => k_is)
    (case a_35 => k_is)
    (case l_35 => k_is)
    (case c_35 => k_is)
    (case k_35 => k_is)
    (case a_36 => k_is)
    (case l_36 => k_is)
    (case c_36 => k_is)
    (case k_36 => k_is)
    (case a_37 => k_is)
    (case l_37 => k_is)
    (case c_37 => k_is)
    (case k_37 => k_is)
    (case a_38 => k_is)
    (case l_38 => k_is)
    (case c_38 => k_is)
    (case k_38 => k_is)
    (case a_39 => k_is)
    (case l_39 => k_is)
    (case c_39 => k_is)
    (case k_39 => k_is)
    (case a_40 => k_is)
    (case l_40 => k_is)
    (case c_40 => k_is)
    (case k_40 => k_is)
    (case a_41 => k_is)
    (case l_41 => k_is)
    (case c_41 => k_is)
    (case k_41 => k_is)
    (case a_42 => k_is)
    (case l_42 => k_is)
    (case c_42 => k_is)
    (case k_42 => k_is)
    (case a_43 => k_is)
    (case l_43 => k_is)
    (case c_43 => k_is)
    (case k_43 => k_is)
    (case a_44 => k_is)
    (case i_44 => k_is)
    (case l_44 => k_is)
    (case c_44 => k_is)
    (case k_44 => k_is)
    (case a_45 => k_is)
    (case l_45 => k_is)
    (case c_45 => k_is)
    (case k_45 => k_is)
    (case a_46 => k_is)
    (case l_46 => k_is)
    (case c_46 => k_is)
    (case k_46 => k_is)
    (case a_47 => k_is)
    (case l_47 => k_is)
    (case c_47 => k_is)
    (case k_47 => k_is)
    (case a_48 => k_is)
    (case l_48 => k_is)
    (case c_48 => k_is)
    (case k_48 => k_is)
    (case a_49 => k_is)
    (case l_49 => k_is)
    (case c_49 => k_is)
    (case k_49 => k_is)
    (case a_50 => k_is)
    (case l_50 => k_is)
    (case c_50 => k_is)
    (case k_50 => k_is)
    (case a_51 => k_is)
    (case l_51 => k_is)
    (case c_51 => k_is)
    (case k_51 => k_is)
    (case a_52 => k_is)
    (case l_52 => k_is)
    (case c_52 => k_is)
    (case k_52 => k_is)
    (case ga_OPERAND_PLACES => k_is)
    (case l_OPERAND_PLACES => k_is)
    (case lit_OPERAND_PLACES => repeat (first | exact True.intro | refine ⟨⟨_, _, rfl, rfl⟩, ?_⟩))
    (case low_OPERAND_PLACES => rfl)
    (case en_OPERAND_PLACES_input => k_is)
    (case l_OPERAND_PLACES_input => k_is)
    (case z_OPERAND_PLACES_input => decide)
    (case v_OPERAND_PLACES_input => repeat (first | exact .nil | refine .cons ⟨_, rfl⟩ ?_))
    (case en_OPERAND_PLACES_target => k_is)
    (case l_OPERAND_PLACES_target => k_is)
    (case z_OPERAND_PLACES_target => decide)
    (case v_OPERAND_PLACES_target => repeat (first | exact .nil | refine .cons ⟨_, rfl⟩ ?_))
    (case en_OPERAND_PLACES_lin => k_is)
    (case l_OPERAND_PLACES_lin => k_is)
    (case z_OPERAND_PLACES_lin => decide)
    (case v_OPERAND_PLACES_lin => repeat (first | exact .nil | refine .cons ⟨_, rfl⟩ ?_))
    (case en_OPERAND_PLACES_bias => k_is)
    (case l_OPERAND_PLACES_bias => k_is)
    (case z_OPERAND_PLACES_bias => decide)
    (case v_OPERAND_PLACES_bias => repeat (first | exact .nil | refine .cons ⟨_, rfl⟩ ?_))
    (case en_OPERAND_PLACES_embed => k_is)
    (case l_OPERAND_PLACES_embed => k_is)
    (case z_OPERAND_PLACES_embed => decide)
    (case v_OPERAND_PLACES_embed => repeat (first | exact .nil | refine .cons ⟨_, rfl⟩ ?_))
    (case en_OPERAND_PLACES_mat => k_is)
    (case l_OPERAND_PLACES_mat => k_is)
    (case z_OPERAND_PLACES_mat => decide)
    (case v_OPERAND_PLACES_mat => repeat (first | exact .nil | refine .cons ⟨_, rfl⟩ ?_))
    (case en_OPERAND_PLACES_matT => k_is)
    (case l_OPERAND_PLACES_matT => k_is)
    (case z_OPERAND_PLACES_matT => decide)
    (case v_OPERAND_PLACES_matT => repeat (first | exact .nil | refine .cons ⟨_, rfl⟩ ?_))
    (case en_OPERAND_PLACES_lower => k_is)
    (case l_OPERAND_PLACES_lower => k_is)
    (case z_OPERAND_PLACES_lower => decide)
    (case v_OPERAND_PLACES_lower => repeat (first | exact .nil | refine .cons ⟨_, rfl⟩ ?_))
    (case en_OPERAND_PLACES_add => k_is)
    (case l_OPERAND_PLACES_add => k_is)
    (case z_OPERAND_PLACES_add => decide)
    (case v_OPERAND_PLACES_add => repeat (first | exact .nil | refine .cons ⟨_, rfl⟩ ?_))
    (case en_OPERAND_PLACES_sub => k_is)
    (case l_OPERAND_PLACES_sub => k_is)
    (case z_OPERAND_PLACES_sub => decide)
    (case v_OPERAND_PLACES_sub => repeat (first | exact .nil | refine .cons ⟨_, rfl⟩ ?_))
    (case en_OPERAND_PLACES_mul => k_is)
    (case l_OPERAND_PLACES_mul => k_is)
    (case z_OPERAND_PLACES_mul => decide)
    (case v_OPERAND_PLACES_mul => repeat (first | exact .nil | refine .cons ⟨_, rfl⟩ ?_))
    (case en_OPERAND_PLACES_scale => k_is)
    (case l_OPERAND_PLACES_scale => k_is)
    (case z_OPERAND_PLACES_scale => decide)
    (case v_OPERAND_PLACES_scale => repeat (first | exact .nil | refine .cons ⟨_, rfl⟩ ?_))
    (case en_OPERAND_PLACES_shift => k_is)
    (case l_OPERAND_PLACES_shift => k_is)
    (case z_OPERAND_PLACES_shift => decide)
    (case v_OPERAND_PLACES_shift => repeat (first | exact .nil | refine .cons ⟨_, rfl⟩ ?_))
    (case en_OPERAND_PLACES_relu => k_is)
    (case l_OPERAND_PLACES_relu => k_is)
    (case z_OPERAND_PLACES_relu => decide)
    (case v_OPERAND_PLACES_relu => repeat (first | exact .nil | refine .cons ⟨_, rfl⟩ ?_))
    (case en_OPERAND_PLACES_drop => k_is)
    (case l_OPERAND_PLACES_drop => k_is)
    (case z_OPERAND_PLACES_drop => decide)
    (case v_OPERAND_PLACES_drop => repeat (first | exact .nil | refine .cons ⟨_, rfl⟩ ?_))
    (case en_OPERAND_PLACES_sum => k_is)
    (case l_OPERAND_PLACES_sum => k_is)
    (case z_OPERAND_PLACES_sum => decide)
    (case v_OPERAND_PLACES_sum => repeat (first | exact .nil | refine .cons ⟨_, rfl⟩ ?_))
    (case en_OPERAND_PLACES_join => k_is)
    (case l_OPERAND_PLACES_join => k_is)
    (case z_OPERAND_PLACES_join => decide)
    (case v_OPERAND_PLACES_join => repeat (first | exact .nil | refine .cons ⟨_, rfl⟩ ?_))
    (case en_OPERAND_PLACES_take => k_is)
    (case l_OPERAND_PLACES_take => k_is)
    (case z_OPERAND_PLACES_take => decide)
    (case v_OPERAND_PLACES_take => repeat (first | exact .nil | refine .cons ⟨_, rfl⟩ ?_))
    (case ga_WITH_PARAMETER => k_is)
    (case l_WITH_PARAMETER => k_is)
    (case z_WITH_PARAMETER => decide)
    (case v_WITH_PARAMETER => repeat (first | exact .nil | refine .cons ⟨_, rfl⟩ ?_))
    (case ga_LENGTHS => k_is)
    (case l_LENGTHS => k_is)
    (case lit_LENGTHS => repeat (first | exact True.intro | refine ⟨⟨_, _, rfl, rfl⟩, ?_⟩))
    (case low_LENGTHS => rfl)
    (case en_LENGTHS_input => k_is)
    (case en_LENGTHS_target => k_is)
    (case en_LENGTHS_lin => k_is)
    (case en_LENGTHS_bias => k_is)
    (case en_LENGTHS_embed => k_is)
    (case en_LENGTHS_mat => k_is)
    (case en_LENGTHS_matT => k_is)
    (case en_LENGTHS_lower => k_is)
    (case en_LENGTHS_add => k_is)
    (case en_LENGTHS_sub => k_is)
    (case en_LENGTHS_mul => k_is)
    (case en_LENGTHS_scale => k_is)
    (case en_LENGTHS_shift => k_is)
    (case en_LENGTHS_relu => k_is)
    (case en_LENGTHS_drop => k_is)
    (case en_LENGTHS_sum => k_is)
    (case en_LENGTHS_join => k_is)
    (case en_LENGTHS_take => k_is)
    (case z_abs => k_is)
    (case z_all => k_is)
    (case z_bool => k_is)
    (case z_int => k_is)
    (case z_isinstance => k_is)
    (case z_len => k_is)
    (case z_list => k_is)
    (case z_max => k_is)
    (case z_range => k_is)
    (case g_MOST_PLACES => k_is)
    (case g_MOST_PARAMETERS => k_is)
    (case g_MOST_SIDE => k_is)
    (case g_MOST_NODES => k_is)
    (case g_MOST_LENGTH => k_is)
    (case g_MOST_SHIFT => k_is)
    (case g_MOST_BATCH => k_is)
    (case g_MOST_RATES => k_is)
    (case g_MOST_SAMPLES => k_is)
    (case g_LEAST_DIVISOR => k_is)
    (case g_GREATEST_NUMBER => k_is)
    (case g_LEAST => k_is)
    (case g_GREATEST => k_is)
