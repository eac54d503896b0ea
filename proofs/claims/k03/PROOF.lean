import PyProof.Rows.All
import Wide.All
import OpenK.AllK
import Wide.FinOn
import HandS.ForMost
import HandS.IsInst
import HandS.More
import HandS.CallLocal
import HandS.Codes
import HandS.Wide
import HandS.TupLe
import HandS.Walk
import HandS.Defaults
import PySem.Challenge.RW_asifone_k03_mixed_numbers
set_option Elab.async false
set_option linter.all false
set_option maxRecDepth 100000
set_option maxHeartbeats 4000000


namespace My
open PySem PySem.Spec PyProof.Rows L2
def topS (i : Nat) : Stmt := PySem.Challenge.pw_asifone_k03_mixed_numbers.main.body.getD i (.Pass ⟨0, 0, 0, 0⟩)
abbrev s_wrap : Stmt := topS 3
abbrev s_unsigned : Stmt := topS 4
abbrev s_mix : Stmt := topS 5
abbrev s_mixed : Stmt := topS 6
abbrev s__law_cell : Stmt := topS 8
abbrev s__law_row : Stmt := topS 9
abbrev s__law_draw : Stmt := topS 10
abbrev s__law_wrap : Stmt := topS 11
abbrev s__law_word : Stmt := topS 12
abbrev s__law_mixed : Stmt := topS 13
abbrev s__law_is_integer : Stmt := topS 14
abbrev s_law : Stmt := topS 15
theorem sc_wrap : FnScope ["n"] ["n"] (defScope s_wrap) := ⟨rfl, rfl, rfl, by decide +kernel, rfl, by decide +kernel, by decide +kernel⟩
theorem sc_unsigned : FnScope ["n"] ["n"] (defScope s_unsigned) := ⟨rfl, rfl, rfl, by decide +kernel, rfl, by decide +kernel, by decide +kernel⟩
theorem sc_mix : FnScope ["a", "b", "start", "t", "s"] ["a", "b"] (defScope s_mix) := ⟨rfl, rfl, rfl, by decide +kernel, rfl, by decide +kernel, by decide +kernel⟩
theorem sc_mixed : FnScope ["seed", "numbers", "word", "number"] ["seed", "numbers"] (defScope s_mixed) := ⟨rfl, rfl, rfl, by decide +kernel, rfl, by decide +kernel, by decide +kernel⟩
theorem sc__law_cell : FnScope ["script", "k"] ["script", "k"] (defScope s__law_cell) := ⟨rfl, rfl, rfl, by decide +kernel, rfl, by decide +kernel, by decide +kernel⟩
theorem sc__law_row : FnScope ["script", "first", "last", "row", "k", "cell", "turn"] ["script", "first", "last"] (defScope s__law_row) := ⟨rfl, rfl, rfl, by decide +kernel, rfl, by decide +kernel, by decide +kernel⟩
theorem sc__law_draw : FnScope ["box", "many", "at"] ["box", "many"] (defScope s__law_draw) := ⟨rfl, rfl, rfl, by decide +kernel, rfl, by decide +kernel, by decide +kernel⟩
theorem sc__law_wrap : FnScope ["n"] ["n"] (defScope s__law_wrap) := ⟨rfl, rfl, rfl, by decide +kernel, rfl, by decide +kernel, by decide +kernel⟩
theorem sc__law_word : FnScope ["box", "kind", "n", "turn"] ["box"] (defScope s__law_word) := ⟨rfl, rfl, rfl, by decide +kernel, rfl, by decide +kernel, by decide +kernel⟩
theorem sc__law_mixed : FnScope ["seed", "numbers", "word", "n"] ["seed", "numbers"] (defScope s__law_mixed) := ⟨rfl, rfl, rfl, by decide +kernel, rfl, by decide +kernel, by decide +kernel⟩
theorem sc__law_is_integer : FnScope ["told"] ["told"] (defScope s__law_is_integer) := ⟨rfl, rfl, rfl, by decide +kernel, rfl, by decide +kernel, by decide +kernel⟩
theorem sc_law : FnScope ["script", "box", "seed", "other", "numbers", "k", "told", "handed"] ["script"] (defScope s_law) := ⟨rfl, rfl, rfl, by decide +kernel, rfl, by decide +kernel, by decide +kernel⟩
/-! ### steps of a reading: one name looked up, one value seen -/
local macro_rules | `(tactic| walk_at "st") => `(tactic| first
  | refine ⟨_, rfl, ?_⟩
  | refine ⟨_, _, rfl, rfl, ?_⟩
  | refine ⟨rfl, ?_⟩
  | refine ⟨Or.inl ⟨by decide, by decide⟩, ?_⟩
  | refine ⟨Or.inr ⟨by decide, by decide⟩, ?_⟩
  | refine ⟨(by decide : (0 : Int) < _), ?_⟩
  | refine ⟨(by decide : (0 : Int) ≤ _), ?_⟩
  | refine ⟨_, _, (rfl : (_ : List V) = _), ?_⟩
  | refine ⟨_, _, _, (rfl : (_ : List V) = _), ?_⟩
  | refine ⟨⟨by decide, by decide⟩, ?_⟩
  | refine ⟨⟨by decide, by decide, by decide⟩, ?_⟩
  | refine Or.inl ⟨_, rfl, ?_⟩
  | refine Or.inr ⟨_, rfl, ?_⟩)
local macro_rules | `(tactic| walk_at "go") => `(tactic| repeat walk_at "st")


theorem iteD {c A B : Prop} [Decidable c] (hc : c) (h : A) : if decide c = true then A else B := by
  rw [decide_eq_true hc]
  exact iteT h
theorem iteNN {c A B : Prop} [Decidable c] (hc : ¬ c) (h : A) : if (!decide c) = true then A else B := by
  rw [decide_eq_false hc]
  exact iteT h
theorem iteDN {c A B : Prop} [Decidable c] (hc : ¬ c) (h : B) : if decide c = true then A else B := by
  rw [decide_eq_false hc]
  exact iteF h
/-! ### rules with the written part named (a comprehension's element stands over another context) -/
section
variable {X : Cx} {K : PySem.W.Frag}
def rLenK (K : PySem.W.Frag) : List V → Hp → VK → Prop := fun xs H Q => ∃ p ys, xs = [.ref p] ∧ (SqL K H p ys ∨ SqT K H p ys) ∧ Q (.int ys.length) H
theorem pe_fld_at {e : PySem.Expr} {f : Str} {pos : Pos} {ta : TE} (h : X.K = K) (he : PE X e ta) (hb : attributeBase e f X.env (eval e X.env) = eval e X.env) : PE X (.Attribute e f pos) (tFld K ta f) := by subst h; exact pe_fld he hb
theorem len_at (h : X.K = K) : CallR X (.builtin "len") (rLenK K) := by subst h; exact call_len_seq
theorem list_at (h : X.K = K) : CallR X (.type "list") (fun xs H Q => ∃ p ys, xs = [.ref p] ∧ (SqL K H p ys ∨ SqT K H p ys) ∧ ∀ l : Addr, H l = none → Q (.ref l) (upd H l (.lst ys))) := by subst h; exact call_list_of
theorem ixl_at (h : X.K = K) : IxR X (rIxL K) := by subst h; exact ix_list
theorem ixt_at (h : X.K = K) : IxR X (rIxT K) := by subst h; exact ix_tup
end
/-! ### heaps: all is as it was but the object at b -/
def But (b : Addr) (H H' : Hp) : Prop := ∀ c o, c ≠ b → H c = some o → H' c = some o
theorem But.refl (b : Addr) (H : Hp) : But b H H := fun _ _ _ h => h
theorem But.trans {b : Addr} {H H1 H2 : Hp} (x : But b H H1) (y : But b H1 H2) : But b H H2 := fun c o n h => y c o n (x c o n h)
theorem But.of {b : Addr} {H H' : Hp} (e : Same H H') : But b H H' := fun c o _ h => e c o h
theorem same_new {H : Hp} {p : Addr} (h : H p = none) (o : HO) : Same H (upd H p o) := fun b u q => by rw [upd_ne (ne_of_none q h)]; exact q
theorem same_mut {H H' : Hp} {o : Addr} {u : HO} (e : Same H H') (no : H o = none) : Same H (upd H' o u) := fun b x h => by rw [upd_ne (ne_of_none h no)]; exact e _ _ h
theorem map_more {H : Hp} {o : Addr} (rs : List Int) (x : Int) : (upd H o (.lst (rs.map V.int ++ [V.int x]))) o = some (.lst ((rs ++ [x]).map V.int)) := by
  rw [upd_same, List.map_append]
  rfl
theorem small {n : Nat} (h : n ≤ 100000) : n ≤ sizeLine := Nat.le_trans h (by decide)
theorem smaller {n : Nat} (h : n < 100000) : n < sizeLine := Nat.lt_of_lt_of_le h (by decide)

/-! ### the box that numbers are drawn from: a list of a row and a place -/
structure Box (H : Hp) (b r : Addr) (rs : List Int) : Prop where
  ex : ∃ at' : Int, 0 ≤ at' ∧ H b = some (.lst [.ref r, .int at'])
  row : H r = some (.lst (rs.map V.int))
theorem Box.ne {H : Hp} {b r : Addr} {rs : List Int} (B : Box H b r rs) : r ≠ b := fun e => by
  obtain ⟨z, _, h⟩ := B.ex
  have q := B.row
  rw [e, h] at q
  cases rs with
  | nil => cases q
  | cons x t => cases q
theorem Box.far {H : Hp} {b r l : Addr} {rs ns : List Int} (B : Box H b r rs) (h : H l = some (.lst (ns.map V.int))) : l ≠ b := fun e => by
  obtain ⟨z, _, hb⟩ := B.ex
  rw [e, hb] at h
  cases ns with
  | nil => cases h
  | cons x t => cases h
theorem Box.farS {K : PySem.W.Frag} {H H' : Hp} {b r a : Addr} {rs ns : List Int} (B : Box H b r rs) (e : But b H H') (h : SqL K H a (ns.map V.int)) : SqL K H' a (ns.map V.int) := by
  rcases h with (h | ⟨o, h⟩) | h
  · exact .inl (.inl (e _ _ (B.far h) h))
  · refine .inl (.inr ⟨o, e _ _ (fun z => ?_) h⟩)
    obtain ⟨_, _, hb⟩ := B.ex
    rw [z, hb] at h
    cases h
  · exact .inr h
theorem Box.same {H H' : Hp} {b r : Addr} {rs : List Int} (B : Box H b r rs) (e : Same H H') : Box H' b r rs := by
  obtain ⟨z, h0, h⟩ := B.ex
  exact ⟨⟨z, h0, e _ _ h⟩, e _ _ B.row⟩

theorem But.mut {b l : Addr} {H H' : Hp} {o : HO} (e : But b H H') (h : H l = none) : But b H (upd H' l o) := fun c x n hc => by
  rw [upd_ne (ne_of_none hc h)]
  exact e c x n hc
theorem But.mut' {l : Addr} {H H' : Hp} {o : HO} (e : But l H H') (_ : H l = none) : But l H (upd H' l o) := fun c x n hc => by
  rw [upd_ne n]
  exact e c x n hc
theorem Box.mut {b r l : Addr} {H H' : Hp} {rs : List Int} {o : HO} (B : Box H' b r rs) (B0 : Box H b r rs) (h : H l = none) : Box (upd H' l o) b r rs := by
  obtain ⟨z, h0, hb⟩ := B.ex
  obtain ⟨_, _, hb0⟩ := B0.ex
  exact ⟨⟨z, h0, by rw [upd_ne (ne_of_none hb0 h)]; exact hb⟩, by rw [upd_ne (ne_of_none B0.row h)]; exact B.row⟩
theorem map_get {ns : List Int} {i : Nat} {x : V} (h : (ns.map V.int)[i]? = some x) : ∃ n, x = .int n ∧ ns[i]? = some n := by
  rw [List.getElem?_map] at h
  cases e : ns[i]? with
  | none => rw [e] at h; cases h
  | some n => rw [e] at h; exact ⟨n, (Option.some.inj h).symm, rfl⟩
/-! ### lists of ints compared -/
theorem dp_ints {K : PySem.W.Frag} {H : Hp} : ∀ ns : List Int, DpAll K H (ns.map V.int) (ns.map PyData.int)
  | [] => .nil
  | n :: r => .cons (.int n) (dp_ints r)
theorem can_ints : ∀ ns : List Int, PyData.canLayAll0 (ns.map PyData.int) = true
  | [] => rfl
  | n :: r => by
    show (PyData.canLay0 (.int n) && PyData.canLayAll0 (r.map PyData.int)) = true
    rw [can_ints r]
    rfl
theorem shaped_ns (ns : List Int) : SeqAt.shaped (.list (ns.map PyData.int)) = true := PySem.W.shaped_ints ns
theorem eqv_ns (ns : List Int) : PyData.eqv (.list (ns.map PyData.int)) (.list (ns.map PyData.int)) = true := PySem.SeqAt.eqv_refl _ (can_ints ns)
theorem shaped_tup (m n : Int) : SeqAt.shaped (.tuple ([m, n].map PyData.int)) = true := by
  simp [SeqAt.shaped, PyData.canLay0, PyData.canLayAll0, PyData.depth, PyData.depthAll]
theorem eqv_tup (m n : Int) : PyData.eqv (.tuple ([m, n].map PyData.int)) (.tuple ([m, n].map PyData.int)) = true := PySem.SeqAt.eqv_refl _ (can_ints [m, n])
theorem eq_ints {K : PySem.W.Frag} {H : Hp} {p q : Addr} {ns : List Int} {Q : VK} (hp : SqL K H p (ns.map V.int)) (hq : SqL K H q (ns.map V.int)) (k : Q (.bl true) H) : rEqD K (.ref p) (.ref q) H Q :=
  ⟨_, _, .lst hp (dp_ints ns), .lst hq (dp_ints ns), shaped_ns ns, shaped_ns ns, by rw [eqv_ns]; exact k⟩
theorem ne_ints {K : PySem.W.Frag} {H : Hp} {p q : Addr} {ns : List Int} {Q : VK} (hp : SqL K H p (ns.map V.int)) (hq : SqL K H q (ns.map V.int)) (k : Q (.bl false) H) : rNeD K (.ref p) (.ref q) H Q :=
  ⟨_, _, .lst hp (dp_ints ns), .lst hq (dp_ints ns), shaped_ns ns, shaped_ns ns, by rw [eqv_ns]; exact k⟩

theorem eq_pair {K : PySem.W.Frag} {H : Hp} {p q : Addr} {m n : Int} {Q : VK} (hp : SqT K H p [.int m, .int n]) (hq : SqT K H q [.int m, .int n]) (k : Q (.bl true) H) : rEqD K (.ref p) (.ref q) H Q :=
  ⟨_, _, .tup hp (dp_ints [m, n]), .tup hq (dp_ints [m, n]), shaped_tup m n, shaped_tup m n, by rw [eqv_tup]; exact k⟩
theorem ne_pair {K : PySem.W.Frag} {H : Hp} {p q : Addr} {m n : Int} {Q : VK} (hp : SqT K H p [.int m, .int n]) (hq : SqT K H q [.int m, .int n]) (k : Q (.bl false) H) : rNeD K (.ref p) (.ref q) H Q :=
  ⟨_, _, .tup hp (dp_ints [m, n]), .tup hq (dp_ints [m, n]), shaped_tup m n, shaped_tup m n, by rw [eqv_tup]; exact k⟩

/-! ### the numbers of words -/
def wr (n : Int) : Int := (n + 2147483648) % 4294967296 - 2147483648
theorem wr_lo (n : Int) : -2147483648 ≤ wr n := by unfold wr; omega
theorem wr_hi (n : Int) : wr n ≤ 2147483647 := by unfold wr; omega
theorem wr_same {n : Int} (h : -2147483648 ≤ n) (h2 : n ≤ 2147483647) : wr n = n := by unfold wr; omega

/-! ### promises -/
def spCell (K : PySem.W.Frag) : Sp := fun vs H Q _ => ∃ (a : Addr) (ns : List Int) (k : Int), vs = [.ref a, .int k] ∧ SqL K H a (ns.map V.int) ∧ 0 ≤ k ∧ ∀ n : Int, Q (.int n) H
def spRow (K : PySem.W.Frag) : Sp := fun vs H Q _ => ∃ (a : Addr) (ns : List Int) (i j : Int), vs = [.ref a, .int i, .int j] ∧ SqL K H a (ns.map V.int) ∧ 0 ≤ i ∧ i ≤ j ∧ j ≤ 100 ∧
  ∀ (p : Addr) (rs : List Int) (H' : Hp), H p = none → Same H H' → H' p = some (.lst (rs.map V.int)) → Q (.ref p) H'
def spDraw : Sp := fun vs H Q _ => ∃ (b r : Addr) (rs : List Int) (many : Int), vs = [.ref b, .int many] ∧ Box H b r rs ∧ 0 < many ∧
  ∀ (v : Int) (H' : Hp), 0 ≤ v → v < many → Box H' b r rs → But b H H' → Q (.int v) H'
def spWrap : Sp := fun vs H Q _ => ∃ n : Int, vs = [.int n] ∧ Q (.int (wr n)) H
def spWord : Sp := fun vs H Q _ => ∃ (b r : Addr) (rs : List Int), vs = [.ref b] ∧ Box H b r rs ∧
  ∀ (v : Int) (H' : Hp), -2147483648 ≤ v → v ≤ 2147483647 → Box H' b r rs → But b H H' → Q (.int v) H'
def spIsInt : Sp := fun vs H Q _ => ∃ n : Int, vs = [.int n] ∧ Q (.bl true) H
def spLaw (K : PySem.W.Frag) : Sp := fun vs H Q _ => ∃ (a : Addr) (ns : List Int), vs = [.ref a] ∧ SqL K H a (ns.map V.int) ∧ ns.length ≤ 63 ∧ ∀ H', Q (.bl true) H'
/-- a def of the text that keeps a promise, with all that a caller asks -/
structure Def (P : Program) (w : World) (K : PySem.W.Frag) (mg : Str → Option Value) (base : Heap) (k : Nat) (x : Str) (ps : List Str) (sp : Sp) : Prop where
  ex : ∃ (f : Addr) (fd : FuncData), FnOk P w K mg base CX0 k f fd ps sp ∧ Binds K fd ps [] ∧ mg x = some (.ref f) ∧ PySem.W.keepIn K (.ref f) = true
/-- a method of a class of the text; its __init__ -/
structure MDef (P : Program) (w : World) (K : PySem.W.Frag) (mg : Str → Option Value) (base : Heap) (k : Nat) (C : Addr) (m : Str) (ps : List Str) (sp : Sp) : Prop where
  ex : ∃ (f : Addr) (fd : FuncData), FnOk P w K mg base CX0 k f fd ps sp ∧ Binds K fd ps [] ∧ Meth K C m f
structure IDef (P : Program) (w : World) (K : PySem.W.Frag) (mg : Str → Option Value) (base : Heap) (k : Nat) (C : Addr) (ps : List Str) (sp : Sp) : Prop where
  ex : ∃ (f : Addr) (fd : FuncData), FnOk P w K mg base CX0 k f fd ps sp ∧ Binds K fd ps [] ∧ Mk K C f
structure Txt (K : PySem.W.Frag) (mg : Str → Option Value) : Prop where
  z_abs : mg "abs" = none
  z_bool : mg "bool" = none
  z_int : mg "int" = none
  z_isinstance : mg "isinstance" = none
  z_len : mg "len" = none
  z_list : mg "list" = none
  z_range : mg "range" = none
  g_SIZE : ∃ t, mg "SIZE" = some (.int (4294967296) t)
  g_LEAST : ∃ t, mg "LEAST" = some (.int (-2147483648) t)

section
variable {P : Program} {w : World} {K : PySem.W.Frag} {mg : Str → Option Value} {base : Heap} {f : Addr} {fd : FuncData}
theorem ok__law_cell (F : Fun K "_law_cell" "_law_cell" s__law_cell f fd) (T : Txt K mg)  :
    FnOk P w K mg base CX0 1 f fd ["script", "k"] (spCell K) := by
  refine F.ok sc__law_cell (fun vs H Q E h => ?_) (fun cdv A outer s H vs Q E hr h => ?_)
  · obtain ⟨a, ns, k, rfl, hS, h0, q⟩ := h
    rfl
  obtain ⟨a, ns, k, rfl, hS, h0, q⟩ := h
  have hu := hr.units
  refine ⟨_, pss_cons (ps_if (pt_cmpR op_lt (pv 1) (pe_callB (len_at (K := K) rfl) (by rfl) T.z_len PySem.boot_len (pa_cons (pv 0) pa_nil)) (nomark _)) (pss_one (ps_ret (pe_ix (ixl_at (K := K) rfl) (pv 0) (pv 1) (fun _ _ => rfl)))) pss_nil)
 (pss_one (ps_ret pe_int)), ?_⟩
  -- k; len(script); the test
  refine ⟨_, rfl, _, rfl, a, _, rfl, .inl hS, _, _, rfl, rfl, _, rfl, ?_⟩
  refine ite2 (fun c => ?_) (fun c => ?_)
  · have c' : k < (((ns.map V.int).length : Nat) : Int) := of_decide_eq_true c
    rw [List.length_map] at c'
    have hk : k.toNat < ns.length := by omega
    have ek : k = ((k.toNat : Nat) : Int) := by omega
    have z : atI (ns.map V.int) ((k.toNat : Nat) : Int) = some (.int ns[k.toNat]) := atI_nat (by rw [List.getElem?_map, List.getElem?_eq_getElem hk] <;> rfl)
    rw [← ek] at z
    exact ⟨_, rfl, _, rfl, a, _, _, _, rfl, rfl, hS, z, q _⟩
  · exact q 0

theorem ok__law_row (F : Fun K "_law_row" "_law_row" s__law_row f fd) (T : Txt K mg) (d__law_cell : Def P w K mg base 1 "_law_cell" ["script", "k"] (spCell K)) :
    FnOk P w K mg base CX0 2 f fd ["script", "first", "last"] (spRow K) := by
  obtain ⟨f0, fd0, G__law_cell, b__law_cell, g__law_cell, k__law_cell⟩ := d__law_cell.ex
  refine F.ok sc__law_row (fun vs H Q E h => ?_) (fun cdv A outer s H vs Q E hr h => ?_)
  · obtain ⟨a, ns, i, j, rfl, hS, h0, h1, h2, q⟩ := h
    rfl
  obtain ⟨a, ns, i, j, rfl, hS, h0, h1, h2, q⟩ := h
  have hu := hr.units
  refine ⟨_, pss_cons (ps_set (i := 3) sc__law_row.nd rfl (.inl rfl) (pe_lst pa_nil))
 (pss_cons (ps_for PassesOwn.never rfl (pi_range2 rfl T.z_range (pa_cons (pv 1) (pa_cons (pv 2) pa_nil))) (pg_name (i := 4) sc__law_row.nd rfl (.inl rfl)) (pss_cons (ps_set (i := 5) sc__law_row.nd rfl (.inl rfl) (pe_call G__law_cell hr rfl g__law_cell k__law_cell b__law_cell .nil pass0 (pa_cons (pv 0) (pa_cons (pv 4) pa_nil))))
 (pss_cons (ps_set (i := 5) sc__law_row.nd rfl (.inl rfl) (pe_op op_add (pe_callB call_abs (by rfl) T.z_abs (by decide +kernel) (pa_cons (pe_op op_mul pe_int (pv 5)) pa_nil)) (pe_callTy call_int1 (by rfl) T.z_int PyProof.Rows.boot_int (pa_cons (pe_cmpR op_lt (pv 5) pe_int (nomark _)) pa_nil))))
 (pss_one (ps_if (pt_cmpR op_gt (pv 5) (pe_op op_pow pe_int pe_int) (nomark _)) (pss_one (ps_for PassesOwn.never rfl (pi_range1 rfl T.z_range (pa_cons pe_int pa_nil)) (pg_name (i := 6) sc__law_row.nd rfl (.inl rfl)) (pss_one (ps_if (pt_cmpR op_gt (pv 5) pe_int (nomark _)) (pss_cons (ps_expr (pe_bm PySem.F.plainAttrs_list PySem.F.slot_list_append PySem.F.type_list_append mt_append (pv 3) (pa_cons (pe_op op_mod (pe_callTy call_int1 (by rfl) T.z_int PyProof.Rows.boot_int (pa_cons (pv 5) pa_nil)) pe_int) pa_nil)))
 (pss_one (ps_set (i := 5) sc__law_row.nd rfl (.inl rfl) (pe_op op_fdiv (pv 5) pe_int)))) pss_nil)))) (pss_one (ps_for PassesOwn.never rfl (pi_range1 rfl T.z_range (pa_cons pe_int pa_nil)) (pg_name (i := 6) sc__law_row.nd rfl (.inl rfl)) (pss_cons (ps_set (i := 5) sc__law_row.nd rfl (.inl rfl) (pe_op op_mod (pe_callTy call_int1 (by rfl) T.z_int PyProof.Rows.boot_int (pa_cons (pe_op op_add (pe_op op_add (pe_op op_mul (pv 5) pe_int) (pe_op op_mul pe_int (pe_op op_add (pv 4) (pv 6)))) pe_int) pa_nil)) pe_int))
 (pss_one (ps_expr (pe_bm PySem.F.plainAttrs_list PySem.F.slot_list_append PySem.F.type_list_append mt_append (pv 3) (pa_cons (pe_op op_mod (pe_callTy call_int1 (by rfl) T.z_int PyProof.Rows.boot_int (pa_cons (pe_op op_fdiv (pv 5) pe_int) pa_nil)) pe_int) pa_nil))))))))))))
 (pss_one (ps_ret (pv 3)))), ?_⟩
  -- row = []
  refine ⟨Nat.zero_le _, fun o no => ?_⟩
  -- for k in range(first, last)
  refine ⟨_, rfl, _, rfl, i, j, rfl, ⟨by omega, by omega, by omega, by omega⟩, ?_⟩
  refine for_range (fun (t : Nat) σ H' => ∃ (y4 y5 y6 : Option V) (rs : List Int), σ = [some (.ref a), some (.int i), some (.int j), some (.ref o), y4, y5, y6] ∧ Same H H' ∧ H' o = some (.lst (rs.map V.int)) ∧ rs.length ≤ 60 * t)
    ⟨none, none, none, [], rfl, same_new no _, upd_same, Nat.zero_le _⟩ (fun t σ H' ht hP => ?_) (fun σ H' hP => ?_)
  · obtain ⟨y4, y5, y6, rs, rfl, sm, ho, hl⟩ := hP
    -- cell = _law_cell(script, k)
    refine ⟨_, rfl, _, rfl, a, ns, i + t, rfl, sm.seq hS, by omega, fun n => ?_⟩
    -- cell = abs(2 * cell) + int(cell < 0)
    walk_at "go"
    refine ite2 (fun c => ?_) (fun c => ?_)
    · -- 60 turns
      refine ⟨60, rfl, by decide, by decide, ?_⟩
      refine for_range (fun (u : Nat) σ H' => ∃ (y6 : Option V) (m : Int) (rs' : List Int), σ = [some (.ref a), some (.int i), some (.int j), some (.ref o), some (.int (i + t)), some (.int m), y6] ∧ Same H H' ∧ H' o = some (.lst (rs'.map V.int)) ∧ rs'.length ≤ 60 * t + u)
        ⟨y6, _, rs, rfl, sm, ho, by omega⟩ (fun u σ H' hu hP => ?_) (fun σ H' hP => ?_)
      · obtain ⟨y6, m, rs', rfl, sm, ho, hl⟩ := hP
        walk_at "go"
        refine ite2 (fun c => ?_) (fun c => ?_)
        · refine ⟨_, rfl, .inl ⟨rfl, _, .inl (.inl ho)⟩, ?_⟩
          walk_at "go"
          refine ⟨o, _, _, rfl, rfl, ho, smaller (by rw [List.length_map]; omega), ?_⟩
          walk_at "go"
          exact ⟨_, _, _, rfl, same_mut sm no, map_more _ _, by rw [List.length_append, List.length_singleton]; omega⟩
        · exact ⟨_, m, rs', rfl, sm, ho, by omega⟩
      · obtain ⟨y6, m, rs', rfl, sm, ho, hl⟩ := hP
        exact ⟨_, _, _, rs', rfl, sm, ho, by omega⟩
    · -- 10 turns
      refine ⟨10, rfl, by decide, by decide, ?_⟩
      refine for_range (fun (u : Nat) σ H' => ∃ (y6 : Option V) (m : Int) (rs' : List Int), σ = [some (.ref a), some (.int i), some (.int j), some (.ref o), some (.int (i + t)), some (.int m), y6] ∧ Same H H' ∧ H' o = some (.lst (rs'.map V.int)) ∧ rs'.length ≤ 60 * t + u)
        ⟨y6, _, rs, rfl, sm, ho, by omega⟩ (fun u σ H' hu hP => ?_) (fun σ H' hP => ?_)
      · obtain ⟨y6, m, rs', rfl, sm, ho, hl⟩ := hP
        walk_at "go"
        refine ⟨.inl ⟨rfl, _, .inl (.inl ho)⟩, ?_⟩
        walk_at "go"
        refine ⟨o, _, _, rfl, rfl, ho, smaller (by rw [List.length_map]; omega), ?_⟩
        exact ⟨_, _, _, rfl, same_mut sm no, map_more _ _, by rw [List.length_append, List.length_singleton]; omega⟩
      · obtain ⟨y6, m, rs', rfl, sm, ho, hl⟩ := hP
        exact ⟨_, _, _, rs', rfl, sm, ho, by omega⟩
  · obtain ⟨y4, y5, y6, rs, rfl, sm, ho, hl⟩ := hP
    exact ⟨_, rfl, q o rs H' no sm ho⟩
theorem ok__law_draw (F : Fun K "_law_draw" "_law_draw" s__law_draw f fd) (T : Txt K mg)  :
    FnOk P w K mg base CX0 1 f fd ["box", "many"] (spDraw) := by
  refine F.ok sc__law_draw (fun vs H Q E h => ?_) (fun cdv A outer s H vs Q E hr h => ?_)
  · obtain ⟨b, r, rs, many, rfl, B, hm, q⟩ := h
    rfl
  obtain ⟨b, r, rs, many, rfl, B, hm, q⟩ := h
  have hu := hr.units
  refine ⟨_, pss_cons (ps_set (i := 2) sc__law_draw.nd rfl (.inl rfl) (pe_ix (ixl_at (K := K) rfl) (pv 0) pe_int (fun _ _ => rfl)))
 (pss_cons (ps_asg (pe_op op_add (pv 2) pe_int) (pg_sub (pv 0) pe_int set_list))
 (pss_cons (ps_if (pt_cmpR op_lt (pv 2) (pe_callB (len_at (K := K) rfl) (by rfl) T.z_len PySem.boot_len (pa_cons (pe_ix (ixl_at (K := K) rfl) (pv 0) pe_int (fun _ _ => rfl)) pa_nil)) (nomark _)) (pss_one (ps_ret (pe_op op_mod (pe_callTy call_int1 (by rfl) T.z_int PyProof.Rows.boot_int (pa_cons (pe_ix (ixl_at (K := K) rfl) (pe_ix (ixl_at (K := K) rfl) (pv 0) pe_int (fun _ _ => rfl)) (pv 2) (fun _ _ => rfl)) pa_nil)) (pv 1)))) pss_nil)
 (pss_one (ps_ret (pe_op op_mod (pe_callTy call_int1 (by rfl) T.z_int PyProof.Rows.boot_int (pa_cons (pe_op op_add (pe_op op_mul (pv 2) pe_int) pe_int) pa_nil)) (pv 1)))))), ?_⟩
  obtain ⟨z, hz, hb⟩ := B.ex
  have hr' := B.row
  -- at = box[1]
  refine ⟨_, rfl, b, _, _, _, rfl, rfl, SqL.of hb, rfl, ?_⟩
  -- box[1] = at + 1
  walk_at "go"
  refine ⟨b, _, _, 1, rfl, rfl, hb, rfl, ?_⟩
  have e : (upd H b (.lst ([V.ref r, V.int z].set 1 (.int (z + 1))))) b = some (.lst [.ref r, .int (z + 1)]) := upd_same
  have er : (upd H b (.lst ([V.ref r, V.int z].set 1 (.int (z + 1))))) r = some (.lst (rs.map V.int)) := by rw [upd_ne B.ne]; exact hr'
  have B' : Box (upd H b (.lst ([V.ref r, V.int z].set 1 (.int (z + 1))))) b r rs := ⟨⟨z + 1, by omega, e⟩, er⟩
  have bt : But b H (upd H b (.lst ([V.ref r, V.int z].set 1 (.int (z + 1))))) := fun c o n h => by rw [upd_ne n]; exact h
  generalize (upd H b (.lst ([V.ref r, V.int z].set 1 (.int (z + 1))))) = H1 at *
  -- if at < len(box[0])
  refine ⟨_, rfl, _, rfl, b, _, _, _, rfl, rfl, SqL.of e, rfl, r, _, rfl, .inl (SqL.of er), _, _, rfl, rfl, _, rfl, ?_⟩
  refine ite2 (fun c => ?_) (fun c => ?_)
  · have c' : z < (((rs.map V.int).length : Nat) : Int) := of_decide_eq_true c
    rw [List.length_map] at c'
    have hk : z.toNat < rs.length := by omega
    have ek : z = ((z.toNat : Nat) : Int) := by omega
    have y : atI (rs.map V.int) ((z.toNat : Nat) : Int) = some (.int rs[z.toNat]) := atI_nat (by rw [List.getElem?_map, List.getElem?_eq_getElem hk] <;> rfl)
    rw [← ek] at y
    refine ⟨_, rfl, b, _, _, _, rfl, rfl, SqL.of e, rfl, _, rfl, r, _, _, _, rfl, rfl, SqL.of er, y, .inl ⟨_, rfl, _, rfl, _, _, rfl, rfl, hm, ?_⟩⟩
    exact q _ _ (Int.emod_nonneg _ (by omega)) (Int.emod_lt_of_pos _ hm) B' bt
  · refine ⟨_, rfl, _, _, rfl, rfl, .inr ⟨by decide, by decide⟩, _, _, rfl, rfl, .inl ⟨_, rfl, _, rfl, _, _, rfl, rfl, hm, ?_⟩⟩
    exact q _ _ (Int.emod_nonneg _ (by omega)) (Int.emod_lt_of_pos _ hm) B' bt
theorem ok__law_wrap (F : Fun K "_law_wrap" "_law_wrap" s__law_wrap f fd) (T : Txt K mg)  :
    FnOk P w K mg base CX0 1 f fd ["n"] (spWrap) := by
  refine F.ok sc__law_wrap (fun vs H Q E h => ?_) (fun cdv A outer s H vs Q E hr h => ?_)
  · obtain ⟨n, rfl, q⟩ := h
    rfl
  obtain ⟨n, rfl, q⟩ := h
  have hu := hr.units
  refine ⟨_, pss_one (ps_ret (pe_op op_sub (pe_op op_mod (pe_callTy call_int1 (by rfl) T.z_int PyProof.Rows.boot_int (pa_cons (pe_op op_add (pv 0) pe_int) pa_nil)) pe_int) pe_int)), ?_⟩
  walk_at "go"
  exact q

theorem ok__law_is_integer (F : Fun K "_law_is_integer" "_law_is_integer" s__law_is_integer f fd) (T : Txt K mg)  :
    FnOk P w K mg base CX0 1 f fd ["told"] (spIsInt) := by
  refine F.ok sc__law_is_integer (fun vs H Q E h => ?_) (fun cdv A outer s H vs Q E hr h => ?_)
  · obtain ⟨n, rfl, q⟩ := h
    rfl
  obtain ⟨n, rfl, q⟩ := h
  have hu := hr.units
  refine ⟨_, pss_one (ps_ret (pe_and (pe_callB call_isi (by rfl) T.z_isinstance (by decide +kernel) (pa_cons (pv 0) (pa_cons (pe_bltn (v := .ty "int") rfl T.z_int PyProof.Rows.boot_int rfl) pa_nil))) (pe_one (pe_not (pe_callB call_isi (by rfl) T.z_isinstance (by decide +kernel) (pa_cons (pv 0) (pa_cons (pe_bltn (v := .ty "bool") rfl T.z_bool PyProof.Rows.boot_bool rfl) pa_nil))))))), ?_⟩
  refine ⟨_, rfl, _, _, _, _, true, rfl, .ty _, .base (.int n), kit_ty (by decide +kernel), _, rfl, iteT ?_⟩
  refine ⟨_, rfl, _, _, _, _, false, rfl, .ty _, .base (.int n), kit_ty (by decide +kernel), _, rfl, q⟩

theorem ok__law_word (F : Fun K "_law_word" "_law_word" s__law_word f fd) (T : Txt K mg) (d__law_draw : Def P w K mg base 1 "_law_draw" ["box", "many"] (spDraw)) (d__law_wrap : Def P w K mg base 1 "_law_wrap" ["n"] (spWrap)) :
    FnOk P w K mg base CX0 2 f fd ["box"] (spWord) := by
  obtain ⟨f0, fd0, G__law_draw, b__law_draw, g__law_draw, k__law_draw⟩ := d__law_draw.ex
  obtain ⟨f1, fd1, G__law_wrap, b__law_wrap, g__law_wrap, k__law_wrap⟩ := d__law_wrap.ex
  refine F.ok sc__law_word (fun vs H Q E h => ?_) (fun cdv A outer s H vs Q E hr h => ?_)
  · obtain ⟨b, r, rs, rfl, B, q⟩ := h
    rfl
  obtain ⟨b, r, rs, rfl, B, q⟩ := h
  have hu := hr.units
  refine ⟨_, pss_cons (ps_set (i := 1) sc__law_word.nd rfl (.inl rfl) (pe_call G__law_draw hr rfl g__law_draw k__law_draw b__law_draw .nil pass0 (pa_cons (pv 0) (pa_cons pe_int pa_nil))))
 (pss_cons (ps_if (pt_cmpR op_lt (pv 1) pe_int (nomark _)) (pss_one (ps_ret (pe_op op_sub (pe_call G__law_draw hr rfl g__law_draw k__law_draw b__law_draw .nil pass0 (pa_cons (pv 0) (pa_cons pe_int pa_nil))) pe_int))) pss_nil)
 (pss_cons (ps_if (pt_cmpR op_eq (pv 1) pe_int (nomark _)) (pss_one (ps_ret (pe_op op_sub pe_int (pe_call G__law_draw hr rfl g__law_draw k__law_draw b__law_draw .nil pass0 (pa_cons (pv 0) (pa_cons pe_int pa_nil)))))) pss_nil)
 (pss_cons (ps_if (pt_cmpR op_eq (pv 1) pe_int (nomark _)) (pss_one (ps_ret (pe_op op_sub (pe_call G__law_draw hr rfl g__law_draw k__law_draw b__law_draw .nil pass0 (pa_cons (pv 0) (pa_cons pe_int pa_nil))) pe_int))) pss_nil)
 (pss_cons (ps_if (pt_cmpR op_eq (pv 1) pe_int (nomark _)) (pss_one (ps_ret (pe_op op_mul pe_int (pe_op op_sub (pe_call G__law_draw hr rfl g__law_draw k__law_draw b__law_draw .nil pass0 (pa_cons (pv 0) (pa_cons pe_int pa_nil))) pe_int)))) pss_nil)
 (pss_cons (ps_set (i := 2) sc__law_word.nd rfl (.inl rfl) pe_int)
 (pss_cons (ps_for PassesOwn.never rfl (pi_range1 rfl T.z_range (pa_cons pe_int pa_nil)) (pg_name (i := 3) sc__law_word.nd rfl (.inl rfl)) (pss_one (ps_set (i := 2) sc__law_word.nd rfl (.inl rfl) (pe_op op_add (pe_op op_mul (pv 2) pe_int) (pe_call G__law_draw hr rfl g__law_draw k__law_draw b__law_draw .nil pass0 (pa_cons (pv 0) (pa_cons pe_int pa_nil)))))))
 (pss_one (ps_ret (pe_call G__law_wrap hr rfl g__law_wrap k__law_wrap b__law_wrap .nil pass0 (pa_cons (pv 2) pa_nil)))))))))), ?_⟩
  refine ⟨_, rfl, b, r, rs, 7, rfl, B, by decide, fun kind H1 k0 k1 B1 e1 => ?_⟩
  walk_at "go"
  refine ite2 (fun _ => ?_) (fun _ => ?_)
  · refine ⟨_, rfl, b, r, rs, 7, rfl, B1, by decide, fun v H2 v0 v1 B2 e2 => ?_⟩
    walk_at "go"
    exact q _ _ (by omega) (by omega) B2 (e1.trans e2)
  walk_at "go"
  refine ite2 (fun _ => ?_) (fun _ => ?_)
  · refine ⟨_, rfl, b, r, rs, 3, rfl, B1, by decide, fun v H2 v0 v1 B2 e2 => ?_⟩
    walk_at "go"
    exact q _ _ (by omega) (by omega) B2 (e1.trans e2)
  walk_at "go"
  refine ite2 (fun _ => ?_) (fun _ => ?_)
  · refine ⟨_, rfl, b, r, rs, 3, rfl, B1, by decide, fun v H2 v0 v1 B2 e2 => ?_⟩
    walk_at "go"
    exact q _ _ (by omega) (by omega) B2 (e1.trans e2)
  walk_at "go"
  refine ite2 (fun _ => ?_) (fun _ => ?_)
  · refine ⟨_, rfl, b, r, rs, 7, rfl, B1, by decide, fun v H2 v0 v1 B2 e2 => ?_⟩
    walk_at "go"
    exact q _ _ (by omega) (by omega) B2 (e1.trans e2)
  -- n = 0; four turns
  walk_at "go"
  refine ⟨by decide, by decide, ?_⟩
  refine for_range (fun (t : Nat) σ H' => ∃ (y3 : Option V) (n : Int), σ = [some (.ref b), some (.int kind), some (.int n), y3] ∧ Box H' b r rs ∧ But b H1 H') ⟨none, 0, rfl, B1, But.refl b H1⟩ (fun t σ H' ht hP => ?_) (fun σ H' hP => ?_)
  · obtain ⟨y3, n, rfl, B2, e2⟩ := hP
    walk_at "go"
    refine ⟨b, r, rs, 840, rfl, B2, by decide, fun v H3 v0 v1 B3 e3 => ?_⟩
    walk_at "go"
    exact ⟨_, _, rfl, B3, e2.trans e3⟩
  · obtain ⟨y3, n, rfl, B2, e2⟩ := hP
    refine ⟨_, rfl, n, rfl, ?_⟩
    exact q _ _ (wr_lo n) (wr_hi n) B2 (e1.trans e2)
end


/-! ### mixing -/
def un (n : Int) : Int := n % 4294967296
theorem un_un (n : Int) : un (un n) = un n := by unfold un; omega
theorem un_add (n c : Int) : un (un n + c) = un (n + c) := by unfold un; omega
theorem un_wr (n : Int) : un (wr n) = un n := by unfold un wr; omega
theorem wr_un (n : Int) : wr (un n) = wr n := by unfold un wr; omega
def mixI (a b : Int) : Int :=
  wr (Builtin.bitXor (un (Builtin.bitXor (un a) (un (b + 2654435769)) * 2246822507)) (un (Builtin.bitXor (un a) (un (b + 2654435769)) * 2246822507) / 2 ^ (15 : Int).toNat) * 3266489909)
def mixedI (seed : Int) (ns : List Int) : Int := ns.foldl (fun w n => mixI w (un n)) seed
def half (w n : Int) : Int := un (Builtin.bitXor w (un (n + 2654435769)) * 2246822507)
def lstep (w n : Int) : Int := un (Builtin.bitXor (half w n) (half w n / 32768) * 3266489909)
theorem p15 : (2 : Int) ^ (15 : Int).toNat = 32768 := by decide +kernel
theorem mix_step (a b : Int) : un (mixI a b) = lstep (un a) b := by
  unfold mixI lstep half
  rw [un_wr, p15]
theorem mixI_un (a b : Int) : mixI a (un b) = mixI a b := by
  unfold mixI
  rw [un_add]
theorem mixed_step : ∀ (ns : List Int) (seed : Int), un (mixedI seed ns) = ns.foldl lstep (un seed)
  | [], seed => rfl
  | n :: r, seed => by
    show un (mixedI (mixI seed (un n)) r) = r.foldl lstep (lstep (un seed) n)
    rw [mixed_step r, mixI_un, mix_step]
theorem mixI_word (a b : Int) : wr (mixI a b) = mixI a b := wr_same (wr_lo _) (wr_hi _)
theorem mixed_word : ∀ (ns : List Int) (seed : Int), wr seed = seed → wr (mixedI seed ns) = mixedI seed ns
  | [], _, h => h
  | n :: r, seed, _ => mixed_word r (mixI seed (un n)) (mixI_word _ _)
theorem mixed_is (ns : List Int) {seed : Int} (h : wr seed = seed) : mixedI seed ns = wr (ns.foldl lstep (un seed)) := by
  rw [← mixed_step, wr_un, mixed_word ns seed h]
theorem mix_is (a b : Int) : mixI a b = wr ([b].foldl lstep (un a)) := by
  show mixI a b = wr (lstep (un a) b)
  rw [← mix_step, wr_un, mixI_word]
def spUn : Sp := fun vs H Q _ => ∃ n : Int, vs = [.int n] ∧ Q (.int (un n)) H
def spMix : Sp := fun vs H Q _ => ∃ a b : Int, vs = [.int a, .int b] ∧ Q (.int (mixI a b)) H
def spMixed (K : PySem.W.Frag) : Sp := fun vs H Q _ => ∃ (seed : Int) (l : Addr) (ns : List Int), vs = [.int seed, .ref l] ∧ SqL K H l (ns.map V.int) ∧ Q (.int (mixedI seed ns)) H
def spLMixed (K : PySem.W.Frag) : Sp := fun vs H Q _ => ∃ (seed : Int) (l : Addr) (ns : List Int), vs = [.int seed, .ref l] ∧ SqL K H l (ns.map V.int) ∧ Q (.int (ns.foldl lstep (un seed))) H
theorem take_succ_foldl {α β : Type} (g : β → α → β) (b : β) {xs : List α} {i : Nat} {x : α} (h : xs[i]? = some x) : (xs.take (i + 1)).foldl g b = g ((xs.take i).foldl g b) x := by
  rw [List.take_add_one, h, List.foldl_append]
  rfl

section
variable {P : Program} {w : World} {K : PySem.W.Frag} {mg : Str → Option Value} {base : Heap} {f : Addr} {fd : FuncData}
theorem ok_wrap (F : Fun K "wrap" "wrap" s_wrap f fd) (T : Txt K mg)  :
    FnOk P w K mg base CX0 1 f fd ["n"] (spWrap) := by
  obtain ⟨_, g_SIZE⟩ := T.g_SIZE
  obtain ⟨_, g_LEAST⟩ := T.g_LEAST
  refine F.ok sc_wrap (fun vs H Q E h => ?_) (fun cdv A outer s H vs Q E hr h => ?_)
  · obtain ⟨n, rfl, q⟩ := h
    rfl
  obtain ⟨n, rfl, q⟩ := h
  have hu := hr.units
  refine ⟨_, pss_one (ps_ret (pe_op op_add (pe_op op_mod (pe_op op_sub (pv 0) (pe_glob (v := .int (-2147483648)) rfl g_LEAST ⟨_, rfl⟩)) (pe_glob (v := .int (4294967296)) rfl g_SIZE ⟨_, rfl⟩)) (pe_glob (v := .int (-2147483648)) rfl g_LEAST ⟨_, rfl⟩))), ?_⟩
  walk_at "go"
  have e : (n - (-2147483648)) % 4294967296 + (-2147483648) = wr n := by unfold wr; omega
  show Q (.int ((n - (-2147483648)) % 4294967296 + (-2147483648))) H
  rw [e]
  exact q
theorem ok_unsigned (F : Fun K "unsigned" "unsigned" s_unsigned f fd) (T : Txt K mg)  :
    FnOk P w K mg base CX0 1 f fd ["n"] (spUn) := by
  obtain ⟨_, g_SIZE⟩ := T.g_SIZE
  refine F.ok sc_unsigned (fun vs H Q E h => ?_) (fun cdv A outer s H vs Q E hr h => ?_)
  · obtain ⟨n, rfl, q⟩ := h
    rfl
  obtain ⟨n, rfl, q⟩ := h
  have hu := hr.units
  refine ⟨_, pss_one (ps_ret (pe_op op_mod (pv 0) (pe_glob (v := .int (4294967296)) rfl g_SIZE ⟨_, rfl⟩))), ?_⟩
  walk_at "go"
  exact q
theorem ok_mix (F : Fun K "mix" "mix" s_mix f fd) (T : Txt K mg) (d_unsigned : Def P w K mg base 1 "unsigned" ["n"] (spUn)) (d_wrap : Def P w K mg base 1 "wrap" ["n"] (spWrap)) :
    FnOk P w K mg base CX0 2 f fd ["a", "b"] (spMix) := by
  obtain ⟨f0, fd0, G_unsigned, b_unsigned, g_unsigned, k_unsigned⟩ := d_unsigned.ex
  obtain ⟨f1, fd1, G_wrap, b_wrap, g_wrap, k_wrap⟩ := d_wrap.ex
  refine F.ok sc_mix (fun vs H Q E h => ?_) (fun cdv A outer s H vs Q E hr h => ?_)
  · obtain ⟨a, b, rfl, q⟩ := h
    rfl
  obtain ⟨a, b, rfl, q⟩ := h
  have hu := hr.units
  refine ⟨_, pss_cons (ps_set (i := 2) sc_mix.nd rfl (.inl rfl) (pe_op op_xor (pe_call G_unsigned hr rfl g_unsigned k_unsigned b_unsigned .nil pass0 (pa_cons (pv 0) pa_nil)) (pe_call G_unsigned hr rfl g_unsigned k_unsigned b_unsigned .nil pass0 (pa_cons (pe_op op_add (pv 1) pe_int) pa_nil))))
 (pss_cons (ps_set (i := 3) sc_mix.nd rfl (.inl rfl) (pe_call G_unsigned hr rfl g_unsigned k_unsigned b_unsigned .nil pass0 (pa_cons (pe_op op_mul (pv 2) pe_int) pa_nil)))
 (pss_cons (ps_set (i := 4) sc_mix.nd rfl (.inl rfl) (pe_op op_xor (pv 3) (pe_op op_shr (pv 3) pe_int)))
 (pss_one (ps_ret (pe_call G_wrap hr rfl g_wrap k_wrap b_wrap .nil pass0 (pa_cons (pe_op op_mul (pv 4) pe_int) pa_nil)))))), ?_⟩
  walk_at "go"
  exact q
theorem ok_mixed (F : Fun K "mixed" "mixed" s_mixed f fd) (T : Txt K mg) (d_mix : Def P w K mg base 2 "mix" ["a", "b"] (spMix)) (d_unsigned : Def P w K mg base 1 "unsigned" ["n"] (spUn)) :
    FnOk P w K mg base CX0 3 f fd ["seed", "numbers"] (spMixed K) := by
  obtain ⟨f0, fd0, G_mix, b_mix, g_mix, k_mix⟩ := d_mix.ex
  obtain ⟨f1, fd1, G_unsigned, b_unsigned, g_unsigned, k_unsigned⟩ := d_unsigned.ex
  refine F.ok sc_mixed (fun vs H Q E h => ?_) (fun cdv A outer s H vs Q E hr h => ?_)
  · obtain ⟨seed, l, ns, rfl, hS, q⟩ := h
    rfl
  obtain ⟨seed, l, ns, rfl, hS, q⟩ := h
  have hu := hr.units
  refine ⟨_, pss_cons (ps_set (i := 2) sc_mixed.nd rfl (.inl rfl) (pv 0))
 (pss_cons (ps_for PassesOwn.never rfl (pi_list (pv 1)) (pg_name (i := 3) sc_mixed.nd rfl (.inl rfl)) (pss_one (ps_set (i := 2) sc_mixed.nd rfl (.inl rfl) (pe_call G_mix hr rfl g_mix k_mix b_mix .nil pass0 (pa_cons (pv 2) (pa_cons (pe_call G_unsigned (hr.mono (by decide)) rfl g_unsigned k_unsigned b_unsigned .nil pass0 (pa_cons (pv 3) pa_nil)) pa_nil))))))
 (pss_one (ps_ret (pv 2)))), ?_⟩
  walk_at "go"
  refine ⟨⟨_, hS⟩, ?_⟩
  refine for_list (xs := ns.map V.int) (fun (t : Nat) σ H' => ∃ (y3 : Option V), σ = [some (.int seed), some (.ref l), some (.int (mixedI seed (ns.take t))), y3] ∧ H' = H) ⟨none, rfl, rfl⟩ (fun t σ H' _ hP => ?_) (fun t x σ H' hx hP => ?_) (fun σ H' hP => ?_)
  · obtain ⟨y3, rfl, rfl⟩ := hP
    exact hS
  · obtain ⟨y3, rfl, rfl⟩ := hP
    obtain ⟨n, rfl, hn⟩ := map_get hx
    walk_at "go"
    refine ⟨some (.int n), ?_, rfl⟩
    have e : mixedI seed (ns.take (t + 1)) = mixI (mixedI seed (ns.take t)) (un n) := take_succ_foldl _ _ hn
    rw [e]
    rfl
  · obtain ⟨y3, rfl, rfl⟩ := hP
    rw [List.length_map, List.take_length]
    walk_at "go"
    exact q
theorem ok__law_mixed (F : Fun K "_law_mixed" "_law_mixed" s__law_mixed f fd) (T : Txt K mg)  :
    FnOk P w K mg base CX0 1 f fd ["seed", "numbers"] (spLMixed K) := by
  refine F.ok sc__law_mixed (fun vs H Q E h => ?_) (fun cdv A outer s H vs Q E hr h => ?_)
  · obtain ⟨seed, l, ns, rfl, hS, q⟩ := h
    rfl
  obtain ⟨seed, l, ns, rfl, hS, q⟩ := h
  have hu := hr.units
  refine ⟨_, pss_cons (ps_set (i := 2) sc__law_mixed.nd rfl (.inl rfl) (pe_op op_mod (pe_callTy call_int1 (by rfl) T.z_int PyProof.Rows.boot_int (pa_cons (pv 0) pa_nil)) pe_int))
 (pss_cons (ps_for PassesOwn.never rfl (pi_list (pv 1)) (pg_name (i := 3) sc__law_mixed.nd rfl (.inl rfl)) (pss_cons (ps_set (i := 2) sc__law_mixed.nd rfl (.inl rfl) (pe_op op_mod (pe_callTy call_int1 (by rfl) T.z_int PyProof.Rows.boot_int (pa_cons (pe_op op_mul (pe_op op_xor (pv 2) (pe_op op_mod (pe_callTy call_int1 (by rfl) T.z_int PyProof.Rows.boot_int (pa_cons (pe_op op_add (pv 3) pe_int) pa_nil)) pe_int)) pe_int) pa_nil)) pe_int))
 (pss_one (ps_set (i := 2) sc__law_mixed.nd rfl (.inl rfl) (pe_op op_mod (pe_callTy call_int1 (by rfl) T.z_int PyProof.Rows.boot_int (pa_cons (pe_op op_mul (pe_op op_xor (pv 2) (pe_op op_fdiv (pv 2) pe_int)) pe_int) pa_nil)) pe_int)))))
 (pss_one (ps_ret (pv 2)))), ?_⟩
  walk_at "go"
  refine ⟨⟨_, hS⟩, ?_⟩
  refine for_list (xs := ns.map V.int) (fun (t : Nat) σ H' => ∃ (y3 : Option V), σ = [some (.int seed), some (.ref l), some (.int ((ns.take t).foldl lstep (un seed))), y3] ∧ H' = H) ⟨none, rfl, rfl⟩ (fun t σ H' _ hP => ?_) (fun t x σ H' hx hP => ?_) (fun σ H' hP => ?_)
  · obtain ⟨y3, rfl, rfl⟩ := hP
    exact hS
  · obtain ⟨y3, rfl, rfl⟩ := hP
    obtain ⟨n, rfl, hn⟩ := map_get hx
    walk_at "go"
    refine ⟨some (.int n), ?_, rfl⟩
    rw [take_succ_foldl _ _ hn]
    rfl
  · obtain ⟨y3, rfl, rfl⟩ := hP
    rw [List.length_map, List.take_length]
    walk_at "go"
    exact q

theorem ok_law (F : Fun K "law" "law" s_law f fd) (T : Txt K mg) (d__law_row : Def P w K mg base 2 "_law_row" ["script", "first", "last"] (spRow K)) (d__law_word : Def P w K mg base 2 "_law_word" ["box"] (spWord)) (d__law_draw : Def P w K mg base 1 "_law_draw" ["box", "many"] (spDraw)) (d__law_cell : Def P w K mg base 1 "_law_cell" ["script", "k"] (spCell K)) (d_mix : Def P w K mg base 2 "mix" ["a", "b"] (spMix)) (d__law_is_integer : Def P w K mg base 1 "_law_is_integer" ["told"] (spIsInt)) (d__law_wrap : Def P w K mg base 1 "_law_wrap" ["n"] (spWrap)) (d__law_mixed : Def P w K mg base 1 "_law_mixed" ["seed", "numbers"] (spLMixed K)) (d_mixed : Def P w K mg base 3 "mixed" ["seed", "numbers"] (spMixed K)) :
    FnOk P w K mg base CX0 4 f fd ["script"] (spLaw K) := by
  obtain ⟨f0, fd0, G__law_row, b__law_row, g__law_row, k__law_row⟩ := d__law_row.ex
  obtain ⟨f1, fd1, G__law_word, b__law_word, g__law_word, k__law_word⟩ := d__law_word.ex
  obtain ⟨f2, fd2, G__law_draw, b__law_draw, g__law_draw, k__law_draw⟩ := d__law_draw.ex
  obtain ⟨f3, fd3, G__law_cell, b__law_cell, g__law_cell, k__law_cell⟩ := d__law_cell.ex
  obtain ⟨f4, fd4, G_mix, b_mix, g_mix, k_mix⟩ := d_mix.ex
  obtain ⟨f5, fd5, G__law_is_integer, b__law_is_integer, g__law_is_integer, k__law_is_integer⟩ := d__law_is_integer.ex
  obtain ⟨f6, fd6, G__law_wrap, b__law_wrap, g__law_wrap, k__law_wrap⟩ := d__law_wrap.ex
  obtain ⟨f7, fd7, G__law_mixed, b__law_mixed, g__law_mixed, k__law_mixed⟩ := d__law_mixed.ex
  obtain ⟨f8, fd8, G_mixed, b_mixed, g_mixed, k_mixed⟩ := d_mixed.ex
  refine F.ok sc_law (fun vs H Q E h => ?_) (fun cdv A outer s H vs Q E hr h => ?_)
  · obtain ⟨a, ns, rfl, hS, h63, q⟩ := h
    rfl
  obtain ⟨a, ns, rfl, hS, h63, q⟩ := h
  have hu := hr.units
  refine ⟨_, pss_cons (ps_set (i := 1) sc_law.nd rfl (.inl rfl) (pe_lst (pa_cons (pe_call G__law_row (hr.mono (by decide)) rfl g__law_row k__law_row b__law_row .nil pass0 (pa_cons (pv 0) (pa_cons pe_int (pa_cons pe_int pa_nil)))) (pa_cons pe_int pa_nil))))
 (pss_cons (ps_set (i := 2) sc_law.nd rfl (.inl rfl) (pe_call G__law_word (hr.mono (by decide)) rfl g__law_word k__law_word b__law_word .nil pass0 (pa_cons (pv 1) pa_nil)))
 (pss_cons (ps_set (i := 3) sc_law.nd rfl (.inl rfl) (pe_call G__law_word (hr.mono (by decide)) rfl g__law_word k__law_word b__law_word .nil pass0 (pa_cons (pv 1) pa_nil)))
 (pss_cons (ps_set (i := 4) sc_law.nd rfl (.inl rfl) (pe_lst pa_nil))
 (pss_cons (ps_for PassesOwn.never rfl (pi_range1 rfl T.z_range (pa_cons (pe_op op_fdiv (pe_call G__law_draw (hr.mono (by decide)) rfl g__law_draw k__law_draw b__law_draw .nil pass0 (pa_cons (pv 1) (pa_cons pe_int pa_nil))) pe_int) pa_nil)) (pg_name (i := 5) sc_law.nd rfl (.inl rfl)) (pss_one (ps_if (pt_cmpR op_eq (pe_op op_mod (pe_callTy call_int1 (by rfl) T.z_int PyProof.Rows.boot_int (pa_cons (pv 5) pa_nil)) pe_int) pe_int (nomark _)) (pss_one (ps_expr (pe_bm PySem.F.plainAttrs_list PySem.F.slot_list_append PySem.F.type_list_append mt_append (pv 4) (pa_cons (pe_call G__law_word (hr.mono (by decide)) rfl g__law_word k__law_word b__law_word .nil pass0 (pa_cons (pv 1) pa_nil)) pa_nil)))) (pss_one (ps_if (pt_cmpR op_eq (pe_op op_mod (pe_callTy call_int1 (by rfl) T.z_int PyProof.Rows.boot_int (pa_cons (pv 5) pa_nil)) pe_int) pe_int (nomark _)) (pss_one (ps_expr (pe_bm PySem.F.plainAttrs_list PySem.F.slot_list_append PySem.F.type_list_append mt_append (pv 4) (pa_cons (pe_call G__law_cell (hr.mono (by decide)) rfl g__law_cell k__law_cell b__law_cell .nil pass0 (pa_cons (pv 0) (pa_cons (pv 5) pa_nil))) pa_nil)))) (pss_one (ps_expr (pe_bm PySem.F.plainAttrs_list PySem.F.slot_list_append PySem.F.type_list_append mt_append (pv 4) (pa_cons (pe_call G__law_draw (hr.mono (by decide)) rfl g__law_draw k__law_draw b__law_draw .nil pass0 (pa_cons (pv 1) (pa_cons pe_int pa_nil))) pa_nil)))))))))
 (pss_cons (ps_set (i := 6) sc_law.nd rfl (.inl rfl) (pe_call G_mix (hr.mono (by decide)) rfl g_mix k_mix b_mix .nil pass0 (pa_cons (pv 2) (pa_cons (pv 3) pa_nil))))
 (pss_cons (ps_if (PW.pt (pw_or (pt_not (pt_val (pe_call G__law_is_integer (hr.mono (by decide)) rfl g__law_is_integer k__law_is_integer b__law_is_integer .nil pass0 (pa_cons (pv 6) pa_nil)))) (pw_or1 (pt_cmpR op_ne (pv 6) (pe_call G__law_wrap (hr.mono (by decide)) rfl g__law_wrap k__law_wrap b__law_wrap .nil pass0 (pa_cons (pe_call G__law_mixed (hr.mono (by decide)) rfl g__law_mixed k__law_mixed b__law_mixed .nil pass0 (pa_cons (pv 2) (pa_cons (pe_lst (pa_cons (pv 3) pa_nil)) pa_nil))) pa_nil)) (nomark _))))) (pss_one (ps_ret pe_bl)) pss_nil)
 (pss_cons (ps_set (i := 7) sc_law.nd rfl (.inl rfl) (pe_callTy (list_at (K := K) rfl) (by rfl) T.z_list PyProof.Rows.boot_list (pa_cons (pv 4) pa_nil)))
 (pss_cons (ps_set (i := 6) sc_law.nd rfl (.inl rfl) (pe_call G_mixed hr rfl g_mixed k_mixed b_mixed .nil pass0 (pa_cons (pv 2) (pa_cons (pv 7) pa_nil))))
 (pss_one (ps_ret (pe_and (pe_call G__law_is_integer (hr.mono (by decide)) rfl g__law_is_integer k__law_is_integer b__law_is_integer .nil pass0 (pa_cons (pv 6) pa_nil)) (pe_and (pe_cmpR op_eq (pv 6) (pe_call G__law_wrap (hr.mono (by decide)) rfl g__law_wrap k__law_wrap b__law_wrap .nil pass0 (pa_cons (pe_call G__law_mixed (hr.mono (by decide)) rfl g__law_mixed k__law_mixed b__law_mixed .nil pass0 (pa_cons (pv 2) (pa_cons (pv 4) pa_nil))) pa_nil)) (nomark _)) (pe_one (pe_cmpR (op_eqD hu) (pv 7) (pv 4) (nomark _))))))))))))))), ?_⟩
  -- box = [_law_row(script, 0, 6), 0]
  refine ⟨_, rfl, a, ns, 0, 6, rfl, hS, by decide, by decide, by decide, fun r rs H1 nr sm hr1 => ?_⟩
  refine ⟨by show 2 ≤ sizeLine; decide, fun b nb => ?_⟩
  have B0 : Box (upd H1 b (.lst [.ref r, .int 0])) b r rs := ⟨⟨0, by decide, upd_same⟩, same_new nb _ _ _ hr1⟩
  have S0 : SqL K (upd H1 b (.lst [.ref r, .int 0])) a (ns.map V.int) := (same_new nb _).seq (sm.seq hS)
  generalize upd H1 b (.lst [.ref r, .int 0]) = H2 at *
  -- seed, other, numbers
  refine ⟨_, rfl, b, r, rs, rfl, B0, fun seed H3 s0 s1 B3 e3 => ?_⟩
  have S3 := B0.farS e3 S0
  refine ⟨_, rfl, b, r, rs, rfl, B3, fun other H4 o0 o1 B4 e4 => ?_⟩
  have S4 := B3.farS e4 S3
  refine ⟨Nat.zero_le _, fun l nl => ?_⟩
  have B5 := B4.same (same_new nl (.lst []))
  have e5 : But b H4 (upd H4 l (.lst [])) := .of (same_new nl _)
  have L5 : (upd H4 l (.lst [])) l = some (.lst (([] : List Int).map V.int)) := upd_same
  generalize upd H4 l (.lst []) = H5 at *
  -- for k in range(_law_draw(box, 840) // 64)
  refine ⟨_, rfl, b, r, rs, 840, rfl, B5, by decide, fun n H6 n0 n1 B6 e6 => ?_⟩
  have L6 := e6 _ _ (B5.far L5) L5
  refine ⟨_, _, rfl, rfl, ⟨by decide, by decide⟩, n / 64, rfl, by omega, by omega, ?_⟩
  refine for_range (fun (t : Nat) σ H' => ∃ (y5 y6 y7 : Option V) (ms : List Int), σ = [some (.ref a), some (.ref b), some (.int seed), some (.int other), some (.ref l), y5, y6, y7] ∧ Box H' b r rs ∧ But b H4 H' ∧ H' l = some (.lst (ms.map V.int)) ∧ ms.length ≤ t)
    ⟨none, none, none, [], rfl, B6, e5.trans e6, L6, Nat.zero_le _⟩ (fun t σ H' ht hP => ?_) (fun σ H' hP => ?_)
  · obtain ⟨y5, y6, y7, ms, rfl, B7, e7, L7, hl⟩ := hP
    have hs : (ms.map V.int).length < sizeLine := smaller (by rw [List.length_map]; omega)
    have hm : ∀ v : Int, (ms ++ [v]).length ≤ t + 1 := fun v => by rw [List.length_append, List.length_singleton]; omega
    walk_at "go"
    refine ite2 (fun c => ?_) (fun c => ?_)
    · refine ⟨_, rfl, .inl ⟨rfl, _, .inl (.inl L7)⟩, _, rfl, b, r, rs, rfl, B7, fun v H8 v0 v1 B8 e8 => ?_⟩
      refine ⟨l, _, _, rfl, rfl, e8 _ _ (B7.far L7) L7, hs, ?_⟩
      exact ⟨_, _, _, _, rfl, B8.mut B4 nl, (e7.trans e8).mut nl, map_more _ _, hm v⟩
    · walk_at "go"
      refine ite2 (fun c => ?_) (fun c => ?_)
      · refine ⟨_, rfl, .inl ⟨rfl, _, .inl (.inl L7)⟩, _, rfl, _, rfl, a, ns, _, rfl, B4.farS e7 S4, by omega, fun v => ?_⟩
        refine ⟨l, _, _, rfl, rfl, L7, hs, ?_⟩
        exact ⟨_, _, _, _, rfl, B7.mut B4 nl, e7.mut nl, map_more _ _, hm v⟩
      · refine ⟨_, rfl, .inl ⟨rfl, _, .inl (.inl L7)⟩, _, rfl, b, r, rs, 840, rfl, B7, by decide, fun v H8 v0 v1 B8 e8 => ?_⟩
        refine ⟨l, _, _, rfl, rfl, e8 _ _ (B7.far L7) L7, hs, ?_⟩
        exact ⟨_, _, _, _, rfl, B8.mut B4 nl, (e7.trans e8).mut nl, map_more _ _, hm v⟩
  · obtain ⟨y5, y6, y7, ms, rfl, B7, e7, L7, hl⟩ := hP
    -- told = mix(seed, other)
    walk_at "go"
    refine ⟨by show 1 ≤ sizeLine; decide, fun p np => ?_⟩
    refine ⟨_, p, [other], rfl, SqL.of upd_same, ?_⟩
    walk_at "go"
    refine iteNS (show V.int (mixI seed other) = V.int (wr ([other].foldl lstep (un seed))) by rw [mix_is]) ?_
    -- handed = list(numbers)
    have L8 : (upd H' p (.lst [V.int other])) l = some (.lst (ms.map V.int)) := same_new np _ _ _ L7
    generalize upd H' p (.lst [V.int other]) = H8 at *
    refine ⟨_, rfl, l, _, rfl, .inl (SqL.of L8), fun d nd => ?_⟩
    have L9 := same_new nd (.lst (ms.map V.int)) _ _ L8
    refine ⟨_, rfl, _, rfl, seed, d, ms, rfl, SqL.of upd_same, ?_⟩
    walk_at "go"
    refine ⟨seed, l, ms, rfl, SqL.of L9, ?_⟩
    walk_at "go"
    refine iteD (show V.int (mixedI seed ms) = V.int (wr (ms.foldl lstep (un seed))) by rw [mixed_is ms (wr_same s0 s1)]) ?_
    refine ⟨_, rfl, _, rfl, ?_⟩
    exact eq_ints (SqL.of upd_same) (SqL.of L9) (q _)
end
theorem all_mk {l : PySem.W.OpenLaw} {w : World} {K : PySem.W.Frag} {h : Heap} {mg : Str → Option Value} {fa : Addr} (X : K.In h) (G : h.Ns mainGlobals mg) (hfa : mg "law" = some (.ref fa))
    {f_0 : Addr} {od_0 an_0 : Option Addr} {sl_0 : Array (Option Value)} {oc_0 kV_0 dc_0 pm_0 cd_0 ct_0 : Value}
    (a_0 : PySem.W.nsIn K mainGlobals "unsigned" = some (some (.ref f_0)))
    (l_0 : K.lookup f_0 = some ⟨oc_0, od_0, .func (PySem.W.fnOf "unsigned" "unsigned" (defArgs s_unsigned) (defBody s_unsigned) (defScope s_unsigned) .none kV_0 dc_0 pm_0 an_0 cd_0 ct_0), sl_0⟩) (c_0 : PySem.W.codeIn K cd_0 "unsigned" = true) (k_0 : PySem.W.keepIn K (.ref f_0) = true)
    {f_1 : Addr} {od_1 an_1 : Option Addr} {sl_1 : Array (Option Value)} {oc_1 kV_1 dc_1 pm_1 cd_1 ct_1 : Value}
    (a_1 : PySem.W.nsIn K mainGlobals "wrap" = some (some (.ref f_1)))
    (l_1 : K.lookup f_1 = some ⟨oc_1, od_1, .func (PySem.W.fnOf "wrap" "wrap" (defArgs s_wrap) (defBody s_wrap) (defScope s_wrap) .none kV_1 dc_1 pm_1 an_1 cd_1 ct_1), sl_1⟩) (c_1 : PySem.W.codeIn K cd_1 "wrap" = true) (k_1 : PySem.W.keepIn K (.ref f_1) = true)
    {f_2 : Addr} {od_2 an_2 : Option Addr} {sl_2 : Array (Option Value)} {oc_2 kV_2 dc_2 pm_2 cd_2 ct_2 : Value}
    (a_2 : PySem.W.nsIn K mainGlobals "_law_mixed" = some (some (.ref f_2)))
    (l_2 : K.lookup f_2 = some ⟨oc_2, od_2, .func (PySem.W.fnOf "_law_mixed" "_law_mixed" (defArgs s__law_mixed) (defBody s__law_mixed) (defScope s__law_mixed) .none kV_2 dc_2 pm_2 an_2 cd_2 ct_2), sl_2⟩) (c_2 : PySem.W.codeIn K cd_2 "_law_mixed" = true) (k_2 : PySem.W.keepIn K (.ref f_2) = true)
    {f_3 : Addr} {od_3 an_3 : Option Addr} {sl_3 : Array (Option Value)} {oc_3 kV_3 dc_3 pm_3 cd_3 ct_3 : Value}
    (a_3 : PySem.W.nsIn K mainGlobals "_law_wrap" = some (some (.ref f_3)))
    (l_3 : K.lookup f_3 = some ⟨oc_3, od_3, .func (PySem.W.fnOf "_law_wrap" "_law_wrap" (defArgs s__law_wrap) (defBody s__law_wrap) (defScope s__law_wrap) .none kV_3 dc_3 pm_3 an_3 cd_3 ct_3), sl_3⟩) (c_3 : PySem.W.codeIn K cd_3 "_law_wrap" = true) (k_3 : PySem.W.keepIn K (.ref f_3) = true)
    {f_4 : Addr} {od_4 an_4 : Option Addr} {sl_4 : Array (Option Value)} {oc_4 kV_4 dc_4 pm_4 cd_4 ct_4 : Value}
    (a_4 : PySem.W.nsIn K mainGlobals "_law_is_integer" = some (some (.ref f_4)))
    (l_4 : K.lookup f_4 = some ⟨oc_4, od_4, .func (PySem.W.fnOf "_law_is_integer" "_law_is_integer" (defArgs s__law_is_integer) (defBody s__law_is_integer) (defScope s__law_is_integer) .none kV_4 dc_4 pm_4 an_4 cd_4 ct_4), sl_4⟩) (c_4 : PySem.W.codeIn K cd_4 "_law_is_integer" = true) (k_4 : PySem.W.keepIn K (.ref f_4) = true)
    {f_5 : Addr} {od_5 an_5 : Option Addr} {sl_5 : Array (Option Value)} {oc_5 kV_5 dc_5 pm_5 cd_5 ct_5 : Value}
    (a_5 : PySem.W.nsIn K mainGlobals "_law_cell" = some (some (.ref f_5)))
    (l_5 : K.lookup f_5 = some ⟨oc_5, od_5, .func (PySem.W.fnOf "_law_cell" "_law_cell" (defArgs s__law_cell) (defBody s__law_cell) (defScope s__law_cell) .none kV_5 dc_5 pm_5 an_5 cd_5 ct_5), sl_5⟩) (c_5 : PySem.W.codeIn K cd_5 "_law_cell" = true) (k_5 : PySem.W.keepIn K (.ref f_5) = true)
    {f_6 : Addr} {od_6 an_6 : Option Addr} {sl_6 : Array (Option Value)} {oc_6 kV_6 dc_6 pm_6 cd_6 ct_6 : Value}
    (a_6 : PySem.W.nsIn K mainGlobals "_law_draw" = some (some (.ref f_6)))
    (l_6 : K.lookup f_6 = some ⟨oc_6, od_6, .func (PySem.W.fnOf "_law_draw" "_law_draw" (defArgs s__law_draw) (defBody s__law_draw) (defScope s__law_draw) .none kV_6 dc_6 pm_6 an_6 cd_6 ct_6), sl_6⟩) (c_6 : PySem.W.codeIn K cd_6 "_law_draw" = true) (k_6 : PySem.W.keepIn K (.ref f_6) = true)
    {f_7 : Addr} {od_7 an_7 : Option Addr} {sl_7 : Array (Option Value)} {oc_7 kV_7 dc_7 pm_7 cd_7 ct_7 : Value}
    (a_7 : PySem.W.nsIn K mainGlobals "mix" = some (some (.ref f_7)))
    (l_7 : K.lookup f_7 = some ⟨oc_7, od_7, .func (PySem.W.fnOf "mix" "mix" (defArgs s_mix) (defBody s_mix) (defScope s_mix) .none kV_7 dc_7 pm_7 an_7 cd_7 ct_7), sl_7⟩) (c_7 : PySem.W.codeIn K cd_7 "mix" = true) (k_7 : PySem.W.keepIn K (.ref f_7) = true)
    {f_8 : Addr} {od_8 an_8 : Option Addr} {sl_8 : Array (Option Value)} {oc_8 kV_8 dc_8 pm_8 cd_8 ct_8 : Value}
    (a_8 : PySem.W.nsIn K mainGlobals "_law_word" = some (some (.ref f_8)))
    (l_8 : K.lookup f_8 = some ⟨oc_8, od_8, .func (PySem.W.fnOf "_law_word" "_law_word" (defArgs s__law_word) (defBody s__law_word) (defScope s__law_word) .none kV_8 dc_8 pm_8 an_8 cd_8 ct_8), sl_8⟩) (c_8 : PySem.W.codeIn K cd_8 "_law_word" = true) (k_8 : PySem.W.keepIn K (.ref f_8) = true)
    {f_9 : Addr} {od_9 an_9 : Option Addr} {sl_9 : Array (Option Value)} {oc_9 kV_9 dc_9 pm_9 cd_9 ct_9 : Value}
    (a_9 : PySem.W.nsIn K mainGlobals "_law_row" = some (some (.ref f_9)))
    (l_9 : K.lookup f_9 = some ⟨oc_9, od_9, .func (PySem.W.fnOf "_law_row" "_law_row" (defArgs s__law_row) (defBody s__law_row) (defScope s__law_row) .none kV_9 dc_9 pm_9 an_9 cd_9 ct_9), sl_9⟩) (c_9 : PySem.W.codeIn K cd_9 "_law_row" = true) (k_9 : PySem.W.keepIn K (.ref f_9) = true)
    {f_10 : Addr} {od_10 an_10 : Option Addr} {sl_10 : Array (Option Value)} {oc_10 kV_10 dc_10 pm_10 cd_10 ct_10 : Value}
    (a_10 : PySem.W.nsIn K mainGlobals "mixed" = some (some (.ref f_10)))
    (l_10 : K.lookup f_10 = some ⟨oc_10, od_10, .func (PySem.W.fnOf "mixed" "mixed" (defArgs s_mixed) (defBody s_mixed) (defScope s_mixed) .none kV_10 dc_10 pm_10 an_10 cd_10 ct_10), sl_10⟩) (c_10 : PySem.W.codeIn K cd_10 "mixed" = true) (k_10 : PySem.W.keepIn K (.ref f_10) = true)
    {f_11 : Addr} {od_11 an_11 : Option Addr} {sl_11 : Array (Option Value)} {oc_11 kV_11 dc_11 pm_11 cd_11 ct_11 : Value}
    (a_11 : PySem.W.nsIn K mainGlobals "law" = some (some (.ref f_11)))
    (l_11 : K.lookup f_11 = some ⟨oc_11, od_11, .func (PySem.W.fnOf "law" "law" (defArgs s_law) (defBody s_law) (defScope s_law) .none kV_11 dc_11 pm_11 an_11 cd_11 ct_11), sl_11⟩) (c_11 : PySem.W.codeIn K cd_11 "law" = true) (k_11 : PySem.W.keepIn K (.ref f_11) = true)
    (z_abs : PySem.W.nsIn K mainGlobals "abs" = some none)
    (z_bool : PySem.W.nsIn K mainGlobals "bool" = some none)
    (z_int : PySem.W.nsIn K mainGlobals "int" = some none)
    (z_isinstance : PySem.W.nsIn K mainGlobals "isinstance" = some none)
    (z_len : PySem.W.nsIn K mainGlobals "len" = some none)
    (z_list : PySem.W.nsIn K mainGlobals "list" = some none)
    (z_range : PySem.W.nsIn K mainGlobals "range" = some none)
    {t_SIZE : Tok} (g_SIZE : PySem.W.nsIn K mainGlobals "SIZE" = some (some (.int (4294967296) t_SIZE)))
    {t_LEAST : Tok} (g_LEAST : PySem.W.nsIn K mainGlobals "LEAST" = some (some (.int (-2147483648) t_LEAST)))
    : ∃ fd : FuncData, (∀ (s : Shared) (v : Value), BindsTo s fd ⟨[v], []⟩ [("script", v)]) ∧ ∀ base : Heap, K.In base → base.Ns mainGlobals mg → FnOk l.prog w K mg base CX0 4 fa fd ["script"] (spLaw K) := by
  have e := hfa.symm.trans (PySem.W.mg_of X G a_11)
  cases e
  have T : Txt K mg := ⟨PySem.W.mg_none_of X G z_abs, PySem.W.mg_none_of X G z_bool, PySem.W.mg_none_of X G z_int, PySem.W.mg_none_of X G z_isinstance, PySem.W.mg_none_of X G z_len, PySem.W.mg_none_of X G z_list, PySem.W.mg_none_of X G z_range, ⟨_, PySem.W.mg_of X G g_SIZE⟩, ⟨_, PySem.W.mg_of X G g_LEAST⟩⟩
  refine ⟨PySem.W.fnOf "law" "law" (defArgs s_law) (defBody s_law) (defScope s_law) .none kV_11 dc_11 pm_11 an_11 cd_11 ct_11, fun s v => .of_eq rfl, fun base _ _ => ?_⟩
  have F_0 := fun_mk (st := s_unsigned) l_0 c_0 k_0
  have B_0 : Binds K _ ["n"] [] := F_0.binds (ps := ["n"]) fun _ _ _ _ _ _ us hl => match us, hl with | [_], _ => rfl
  have O_0 := ok_unsigned (P := l.prog) (w := w) (base := base) F_0 T 
  have D_unsigned : Def l.prog w K mg base 1 "unsigned" ["n"] (spUn) := ⟨_, _, O_0, B_0, PySem.W.mg_of X G a_0, k_0⟩
  have F_1 := fun_mk (st := s_wrap) l_1 c_1 k_1
  have B_1 : Binds K _ ["n"] [] := F_1.binds (ps := ["n"]) fun _ _ _ _ _ _ us hl => match us, hl with | [_], _ => rfl
  have O_1 := ok_wrap (P := l.prog) (w := w) (base := base) F_1 T 
  have D_wrap : Def l.prog w K mg base 1 "wrap" ["n"] (spWrap) := ⟨_, _, O_1, B_1, PySem.W.mg_of X G a_1, k_1⟩
  have F_2 := fun_mk (st := s__law_mixed) l_2 c_2 k_2
  have B_2 : Binds K _ ["seed", "numbers"] [] := F_2.binds (ps := ["seed", "numbers"]) fun _ _ _ _ _ _ us hl => match us, hl with | [_, _], _ => rfl
  have O_2 := ok__law_mixed (P := l.prog) (w := w) (base := base) F_2 T 
  have D__law_mixed : Def l.prog w K mg base 1 "_law_mixed" ["seed", "numbers"] (spLMixed K) := ⟨_, _, O_2, B_2, PySem.W.mg_of X G a_2, k_2⟩
  have F_3 := fun_mk (st := s__law_wrap) l_3 c_3 k_3
  have B_3 : Binds K _ ["n"] [] := F_3.binds (ps := ["n"]) fun _ _ _ _ _ _ us hl => match us, hl with | [_], _ => rfl
  have O_3 := ok__law_wrap (P := l.prog) (w := w) (base := base) F_3 T 
  have D__law_wrap : Def l.prog w K mg base 1 "_law_wrap" ["n"] (spWrap) := ⟨_, _, O_3, B_3, PySem.W.mg_of X G a_3, k_3⟩
  have F_4 := fun_mk (st := s__law_is_integer) l_4 c_4 k_4
  have B_4 : Binds K _ ["told"] [] := F_4.binds (ps := ["told"]) fun _ _ _ _ _ _ us hl => match us, hl with | [_], _ => rfl
  have O_4 := ok__law_is_integer (P := l.prog) (w := w) (base := base) F_4 T 
  have D__law_is_integer : Def l.prog w K mg base 1 "_law_is_integer" ["told"] (spIsInt) := ⟨_, _, O_4, B_4, PySem.W.mg_of X G a_4, k_4⟩
  have F_5 := fun_mk (st := s__law_cell) l_5 c_5 k_5
  have B_5 : Binds K _ ["script", "k"] [] := F_5.binds (ps := ["script", "k"]) fun _ _ _ _ _ _ us hl => match us, hl with | [_, _], _ => rfl
  have O_5 := ok__law_cell (P := l.prog) (w := w) (base := base) F_5 T 
  have D__law_cell : Def l.prog w K mg base 1 "_law_cell" ["script", "k"] (spCell K) := ⟨_, _, O_5, B_5, PySem.W.mg_of X G a_5, k_5⟩
  have F_6 := fun_mk (st := s__law_draw) l_6 c_6 k_6
  have B_6 : Binds K _ ["box", "many"] [] := F_6.binds (ps := ["box", "many"]) fun _ _ _ _ _ _ us hl => match us, hl with | [_, _], _ => rfl
  have O_6 := ok__law_draw (P := l.prog) (w := w) (base := base) F_6 T 
  have D__law_draw : Def l.prog w K mg base 1 "_law_draw" ["box", "many"] (spDraw) := ⟨_, _, O_6, B_6, PySem.W.mg_of X G a_6, k_6⟩
  have F_7 := fun_mk (st := s_mix) l_7 c_7 k_7
  have B_7 : Binds K _ ["a", "b"] [] := F_7.binds (ps := ["a", "b"]) fun _ _ _ _ _ _ us hl => match us, hl with | [_, _], _ => rfl
  have O_7 := ok_mix (P := l.prog) (w := w) (base := base) F_7 T (d_unsigned := D_unsigned) (d_wrap := D_wrap)
  have D_mix : Def l.prog w K mg base 2 "mix" ["a", "b"] (spMix) := ⟨_, _, O_7, B_7, PySem.W.mg_of X G a_7, k_7⟩
  have F_8 := fun_mk (st := s__law_word) l_8 c_8 k_8
  have B_8 : Binds K _ ["box"] [] := F_8.binds (ps := ["box"]) fun _ _ _ _ _ _ us hl => match us, hl with | [_], _ => rfl
  have O_8 := ok__law_word (P := l.prog) (w := w) (base := base) F_8 T (d__law_draw := D__law_draw) (d__law_wrap := D__law_wrap)
  have D__law_word : Def l.prog w K mg base 2 "_law_word" ["box"] (spWord) := ⟨_, _, O_8, B_8, PySem.W.mg_of X G a_8, k_8⟩
  have F_9 := fun_mk (st := s__law_row) l_9 c_9 k_9
  have B_9 : Binds K _ ["script", "first", "last"] [] := F_9.binds (ps := ["script", "first", "last"]) fun _ _ _ _ _ _ us hl => match us, hl with | [_, _, _], _ => rfl
  have O_9 := ok__law_row (P := l.prog) (w := w) (base := base) F_9 T (d__law_cell := D__law_cell)
  have D__law_row : Def l.prog w K mg base 2 "_law_row" ["script", "first", "last"] (spRow K) := ⟨_, _, O_9, B_9, PySem.W.mg_of X G a_9, k_9⟩
  have F_10 := fun_mk (st := s_mixed) l_10 c_10 k_10
  have B_10 : Binds K _ ["seed", "numbers"] [] := F_10.binds (ps := ["seed", "numbers"]) fun _ _ _ _ _ _ us hl => match us, hl with | [_, _], _ => rfl
  have O_10 := ok_mixed (P := l.prog) (w := w) (base := base) F_10 T (d_mix := D_mix) (d_unsigned := D_unsigned)
  have D_mixed : Def l.prog w K mg base 3 "mixed" ["seed", "numbers"] (spMixed K) := ⟨_, _, O_10, B_10, PySem.W.mg_of X G a_10, k_10⟩
  exact ok_law (fun_mk (st := s_law) l_11 c_11 k_11) T (d__law_row := D__law_row) (d__law_word := D__law_word) (d__law_draw := D__law_draw) (d__law_cell := D__law_cell) (d_mix := D_mix) (d__law_is_integer := D__law_is_integer) (d__law_wrap := D__law_wrap) (d__law_mixed := D__law_mixed) (d_mixed := D_mixed)
end My
open PySem PySem.W PyProof.Rows
set_option maxHeartbeats 0 in
theorem PySem.Challenge.cw_asifone_k03_mixed_numbers_holds : PySem.Challenge.rw_asifone_k03_mixed_numbers.Holds := by
  w_on; o_law; k_head; (case hw => w_witness2)
  k_fill
  refine L2.walk_of (l := PySem.Challenge.rw_asifone_k03_mixed_numbers) (n := 63) (k := 4) (x := "script") (CX := fun _ => L2.CX0) (sp := fun w => My.spLaw _) rfl (by decide) rfl ⟨rfl, by decide, by decide⟩ (fun w h Y => PySem.W.kIn_of Y) ?F (fun _ _ a ns hl _ hS => ⟨a, ns, rfl, hS, hl, fun _ => rfl⟩) (fun _ _ _ _ _ h => h)
  case F =>
    intro w mg fa h KX G hmg
    refine' My.all_mk KX G hmg ?a_0 ?l_0 ?c_0 ?k_0 ?a_1 ?l_1 ?c_1 ?k_1 ?a_2 ?l_2 ?c_2 ?k_2 ?a_3 ?l_3 ?c_3 ?k_3 ?a_4 ?l_4 ?c_4 ?k_4 ?a_5 ?l_5 ?c_5 ?k_5 ?a_6 ?l_6 ?c_6 ?k_6 ?a_7 ?l_7 ?c_7 ?k_7 ?a_8 ?l_8 ?c_8 ?k_8 ?a_9 ?l_9 ?c_9 ?k_9 ?a_10 ?l_10 ?c_10 ?k_10 ?a_11 ?l_11 ?c_11 ?k_11 ?z_abs ?z_bool ?z_int ?z_isinstance ?z_len ?z_list ?z_range ?g_SIZE ?g_LEAST
    (case a_0 => k_is)
    (case l_0 => k_is)
    (case c_0 => k_is)
    (case k_0 => k_is)
    (case a_1 => k_is)
    (case l_1 => k_is)
    (case c_1 => k_is)
    (case k_1 => k_is)
    (case a_2 => k_is)
    (case l_2 => k_is)
    (case c_2 => k_is)
    (case k_2 => k_is)
    (case a_3 => k_is)
    (case l_3 => k_is)
    (case c_3 => k_is)
    (case k_3 => k_is)
    (case a_4 => k_is)
    (case l_4 => k_is)
    (case c_4 => k_is)
    (case k_4 => k_is)
    (case a_5 => k_is)
    (case l_5 => k_is)
    (case c_5 => k_is)
    (case k_5 => k_is)
    (case a_6 => k_is)
    (case l_6 => k_is)
    (case c_6 => k_is)
    (case k_6 => k_is)
    (case a_7 => k_is)
    (case l_7 => k_is)
    (case c_7 => k_is)
    (case k_7 => k_is)
    (case a_8 => k_is)
    (case l_8 => k_is)
    (case c_8 => k_is)
    (case k_8 => k_is)
    (case a_9 => k_is)
    (case l_9 => k_is)
    (case c_9 => k_is)
    (case k_9 => k_is)
    (case a_10 => k_is)
    (case l_10 => k_is)
    (case c_10 => k_is)
    (case k_10 => k_is)
    (case a_11 => k_is)
    (case l_11 => k_is)
    (case c_11 => k_is)
    (case k_11 => k_is)
    (case z_abs => k_is)
    (case z_bool => k_is)
    (case z_int => k_is)
    (case z_isinstance => k_is)
    (case z_len => k_is)
    (case z_list => k_is)
    (case z_range => k_is)
    (case g_SIZE => k_is)
    (case g_LEAST => k_is)
