import PyProof.Rows.All
import Wide.All
import OpenK.AllK
import Wide.FinOn
import HandS.ForMost
import HandS.IsInst
import HandS.More
import HandS.CallLocal
import HandS.Codes
import HandS.Wide
import HandS.TupLe
import HandS.Walk
import HandS.Defaults
import PySem.Challenge.RW_asifone_k09_rings
set_option Elab.async false
set_option linter.all false
set_option maxRecDepth 100000
set_option maxHeartbeats 4000000


namespace My
open PySem PySem.Spec PyProof.Rows L2
def topS (i : Nat) : Stmt := PySem.Challenge.pw_asifone_k09_rings.main.body.getD i (.Pass ⟨0, 0, 0, 0⟩)
abbrev s_wrap : Stmt := topS 3
abbrev s_shifted : Stmt := topS 4
abbrev s_divided : Stmt := topS 5
abbrev s_WordRing_zero : Stmt := inClass (topS 8) 0
abbrev s_WordRing_one : Stmt := inClass (topS 8) 1
abbrev s_WordRing_still : Stmt := inClass (topS 8) 2
abbrev s_WordRing_plus : Stmt := inClass (topS 8) 3
abbrev s_WordRing_minus : Stmt := inClass (topS 8) 4
abbrev s_WordRing_times : Stmt := inClass (topS 8) 5
abbrev s_WordRing_divided : Stmt := inClass (topS 8) 6
abbrev s_WordRing_positive : Stmt := inClass (topS 8) 7
abbrev s_DualRing_zero : Stmt := inClass (topS 9) 0
abbrev s_DualRing_one : Stmt := inClass (topS 9) 1
abbrev s_DualRing_still : Stmt := inClass (topS 9) 2
abbrev s_DualRing_plus : Stmt := inClass (topS 9) 3
abbrev s_DualRing_minus : Stmt := inClass (topS 9) 4
abbrev s_DualRing_times : Stmt := inClass (topS 9) 5
abbrev s_DualRing_divided : Stmt := inClass (topS 9) 6
abbrev s_DualRing_positive : Stmt := inClass (topS 9) 7
abbrev s__law_cell : Stmt := topS 11
abbrev s__law_row : Stmt := topS 12
abbrev s__law_draw : Stmt := topS 13
abbrev s__law_wrap : Stmt := topS 14
abbrev s__law_divided : Stmt := topS 15
abbrev s__law_word : Stmt := topS 16
abbrev s__law_is_integer : Stmt := topS 17
abbrev s__law_same_pair : Stmt := topS 18
abbrev s__law_same_word : Stmt := topS 19
abbrev s__law_times : Stmt := topS 20
abbrev s__law_words_ok : Stmt := topS 21
abbrev s_law : Stmt := topS 22
theorem sc_wrap : FnScope ["n"] ["n"] (defScope s_wrap) := ⟨rfl, rfl, rfl, by decide +kernel, rfl, by decide +kernel, by decide +kernel⟩
theorem sc_shifted : FnScope ["n", "k"] ["n", "k"] (defScope s_shifted) := ⟨rfl, rfl, rfl, by decide +kernel, rfl, by decide +kernel, by decide +kernel⟩
theorem sc_divided : FnScope ["n", "k"] ["n", "k"] (defScope s_divided) := ⟨rfl, rfl, rfl, by decide +kernel, rfl, by decide +kernel, by decide +kernel⟩
theorem sc_WordRing_zero : FnScope ["self"] ["self"] (defScope s_WordRing_zero) := ⟨rfl, rfl, rfl, by decide +kernel, rfl, by decide +kernel, by decide +kernel⟩
theorem sc_WordRing_one : FnScope ["self"] ["self"] (defScope s_WordRing_one) := ⟨rfl, rfl, rfl, by decide +kernel, rfl, by decide +kernel, by decide +kernel⟩
theorem sc_WordRing_still : FnScope ["self", "word"] ["self", "word"] (defScope s_WordRing_still) := ⟨rfl, rfl, rfl, by decide +kernel, rfl, by decide +kernel, by decide +kernel⟩
theorem sc_WordRing_plus : FnScope ["self", "a", "b"] ["self", "a", "b"] (defScope s_WordRing_plus) := ⟨rfl, rfl, rfl, by decide +kernel, rfl, by decide +kernel, by decide +kernel⟩
theorem sc_WordRing_minus : FnScope ["self", "a", "b"] ["self", "a", "b"] (defScope s_WordRing_minus) := ⟨rfl, rfl, rfl, by decide +kernel, rfl, by decide +kernel, by decide +kernel⟩
theorem sc_WordRing_times : FnScope ["self", "a", "b"] ["self", "a", "b"] (defScope s_WordRing_times) := ⟨rfl, rfl, rfl, by decide +kernel, rfl, by decide +kernel, by decide +kernel⟩
theorem sc_WordRing_divided : FnScope ["self", "a", "k"] ["self", "a", "k"] (defScope s_WordRing_divided) := ⟨rfl, rfl, rfl, by decide +kernel, rfl, by decide +kernel, by decide +kernel⟩
theorem sc_WordRing_positive : FnScope ["self", "a"] ["self", "a"] (defScope s_WordRing_positive) := ⟨rfl, rfl, rfl, by decide +kernel, rfl, by decide +kernel, by decide +kernel⟩
theorem sc_DualRing_zero : FnScope ["self"] ["self"] (defScope s_DualRing_zero) := ⟨rfl, rfl, rfl, by decide +kernel, rfl, by decide +kernel, by decide +kernel⟩
theorem sc_DualRing_one : FnScope ["self"] ["self"] (defScope s_DualRing_one) := ⟨rfl, rfl, rfl, by decide +kernel, rfl, by decide +kernel, by decide +kernel⟩
theorem sc_DualRing_still : FnScope ["self", "word"] ["self", "word"] (defScope s_DualRing_still) := ⟨rfl, rfl, rfl, by decide +kernel, rfl, by decide +kernel, by decide +kernel⟩
theorem sc_DualRing_plus : FnScope ["self", "a", "b"] ["self", "a", "b"] (defScope s_DualRing_plus) := ⟨rfl, rfl, rfl, by decide +kernel, rfl, by decide +kernel, by decide +kernel⟩
theorem sc_DualRing_minus : FnScope ["self", "a", "b"] ["self", "a", "b"] (defScope s_DualRing_minus) := ⟨rfl, rfl, rfl, by decide +kernel, rfl, by decide +kernel, by decide +kernel⟩
theorem sc_DualRing_times : FnScope ["self", "a", "b"] ["self", "a", "b"] (defScope s_DualRing_times) := ⟨rfl, rfl, rfl, by decide +kernel, rfl, by decide +kernel, by decide +kernel⟩
theorem sc_DualRing_divided : FnScope ["self", "a", "k"] ["self", "a", "k"] (defScope s_DualRing_divided) := ⟨rfl, rfl, rfl, by decide +kernel, rfl, by decide +kernel, by decide +kernel⟩
theorem sc_DualRing_positive : FnScope ["self", "a"] ["self", "a"] (defScope s_DualRing_positive) := ⟨rfl, rfl, rfl, by decide +kernel, rfl, by decide +kernel, by decide +kernel⟩
theorem sc__law_cell : FnScope ["script", "k"] ["script", "k"] (defScope s__law_cell) := ⟨rfl, rfl, rfl, by decide +kernel, rfl, by decide +kernel, by decide +kernel⟩
theorem sc__law_row : FnScope ["script", "first", "last", "row", "k", "cell", "turn"] ["script", "first", "last"] (defScope s__law_row) := ⟨rfl, rfl, rfl, by decide +kernel, rfl, by decide +kernel, by decide +kernel⟩
theorem sc__law_draw : FnScope ["box", "many", "at"] ["box", "many"] (defScope s__law_draw) := ⟨rfl, rfl, rfl, by decide +kernel, rfl, by decide +kernel, by decide +kernel⟩
theorem sc__law_wrap : FnScope ["n"] ["n"] (defScope s__law_wrap) := ⟨rfl, rfl, rfl, by decide +kernel, rfl, by decide +kernel, by decide +kernel⟩
theorem sc__law_divided : FnScope ["a", "k"] ["a", "k"] (defScope s__law_divided) := ⟨rfl, rfl, rfl, by decide +kernel, rfl, by decide +kernel, by decide +kernel⟩
theorem sc__law_word : FnScope ["box", "kind", "n", "turn"] ["box"] (defScope s__law_word) := ⟨rfl, rfl, rfl, by decide +kernel, rfl, by decide +kernel, by decide +kernel⟩
theorem sc__law_is_integer : FnScope ["told"] ["told"] (defScope s__law_is_integer) := ⟨rfl, rfl, rfl, by decide +kernel, rfl, by decide +kernel, by decide +kernel⟩
theorem sc__law_same_pair : FnScope ["told", "due"] ["told", "due"] (defScope s__law_same_pair) := ⟨rfl, rfl, rfl, by decide +kernel, rfl, by decide +kernel, by decide +kernel⟩
theorem sc__law_same_word : FnScope ["told", "due"] ["told", "due"] (defScope s__law_same_word) := ⟨rfl, rfl, rfl, by decide +kernel, rfl, by decide +kernel, by decide +kernel⟩
theorem sc__law_times : FnScope ["a", "b"] ["a", "b"] (defScope s__law_times) := ⟨rfl, rfl, rfl, by decide +kernel, rfl, by decide +kernel, by decide +kernel⟩
theorem sc__law_words_ok : FnScope ["ring", "a", "b", "k", "told"] ["ring", "a", "b", "k"] (defScope s__law_words_ok) := ⟨rfl, rfl, rfl, by decide +kernel, rfl, by decide +kernel, by decide +kernel⟩
theorem sc_law : FnScope ["script", "box", "turn", "a", "b", "c", "k", "ring", "told", "one"] ["script"] (defScope s_law) := ⟨rfl, rfl, rfl, by decide +kernel, rfl, by decide +kernel, by decide +kernel⟩
/-! ### steps of a reading: one name looked up, one value seen -/
local macro_rules | `(tactic| walk_at "st") => `(tactic| first
  | refine ⟨_, rfl, ?_⟩
  | refine ⟨_, _, rfl, rfl, ?_⟩
  | refine ⟨rfl, ?_⟩
  | refine ⟨Or.inl ⟨by decide, by decide⟩, ?_⟩
  | refine ⟨Or.inr ⟨by decide, by decide⟩, ?_⟩
  | refine ⟨(by decide : (0 : Int) < _), ?_⟩
  | refine ⟨(by decide : (0 : Int) ≤ _), ?_⟩
  | refine ⟨_, _, (rfl : (_ : List V) = _), ?_⟩
  | refine ⟨_, _, _, (rfl : (_ : List V) = _), ?_⟩
  | refine ⟨⟨by decide, by decide⟩, ?_⟩
  | refine ⟨⟨by decide, by decide, by decide⟩, ?_⟩
  | refine Or.inl ⟨_, rfl, ?_⟩
  | refine Or.inr ⟨_, rfl, ?_⟩)
local macro_rules | `(tactic| walk_at "go") => `(tactic| repeat walk_at "st")


theorem iteD {c A B : Prop} [Decidable c] (hc : c) (h : A) : if decide c = true then A else B := by
  rw [decide_eq_true hc]
  exact iteT h
theorem iteNN {c A B : Prop} [Decidable c] (hc : ¬ c) (h : A) : if (!decide c) = true then A else B := by
  rw [decide_eq_false hc]
  exact iteT h
theorem iteDN {c A B : Prop} [Decidable c] (hc : ¬ c) (h : B) : if decide c = true then A else B := by
  rw [decide_eq_false hc]
  exact iteF h
/-! ### rules with the written part named (a comprehension's element stands over another context) -/
section
variable {X : Cx} {K : PySem.W.Frag}
def rLenK (K : PySem.W.Frag) : List V → Hp → VK → Prop := fun xs H Q => ∃ p ys, xs = [.ref p] ∧ (SqL K H p ys ∨ SqT K H p ys) ∧ Q (.int ys.length) H
theorem pe_fld_at {e : PySem.Expr} {f : Str} {pos : Pos} {ta : TE} (h : X.K = K) (he : PE X e ta) (hb : attributeBase e f X.env (eval e X.env) = eval e X.env) : PE X (.Attribute e f pos) (tFld K ta f) := by subst h; exact pe_fld he hb
theorem len_at (h : X.K = K) : CallR X (.builtin "len") (rLenK K) := by subst h; exact call_len_seq
theorem list_at (h : X.K = K) : CallR X (.type "list") (fun xs H Q => ∃ p ys, xs = [.ref p] ∧ (SqL K H p ys ∨ SqT K H p ys) ∧ ∀ l : Addr, H l = none → Q (.ref l) (upd H l (.lst ys))) := by subst h; exact call_list_of
theorem ixl_at (h : X.K = K) : IxR X (rIxL K) := by subst h; exact ix_list
theorem ixt_at (h : X.K = K) : IxR X (rIxT K) := by subst h; exact ix_tup
end
/-! ### heaps: all is as it was but the object at b -/
def But (b : Addr) (H H' : Hp) : Prop := ∀ c o, c ≠ b → H c = some o → H' c = some o
theorem But.refl (b : Addr) (H : Hp) : But b H H := fun _ _ _ h => h
theorem But.trans {b : Addr} {H H1 H2 : Hp} (x : But b H H1) (y : But b H1 H2) : But b H H2 := fun c o n h => y c o n (x c o n h)
theorem But.of {b : Addr} {H H' : Hp} (e : Same H H') : But b H H' := fun c o _ h => e c o h
theorem same_new {H : Hp} {p : Addr} (h : H p = none) (o : HO) : Same H (upd H p o) := fun b u q => by rw [upd_ne (ne_of_none q h)]; exact q
theorem same_mut {H H' : Hp} {o : Addr} {u : HO} (e : Same H H') (no : H o = none) : Same H (upd H' o u) := fun b x h => by rw [upd_ne (ne_of_none h no)]; exact e _ _ h
theorem map_more {H : Hp} {o : Addr} (rs : List Int) (x : Int) : (upd H o (.lst (rs.map V.int ++ [V.int x]))) o = some (.lst ((rs ++ [x]).map V.int)) := by
  rw [upd_same, List.map_append]
  rfl
theorem small {n : Nat} (h : n ≤ 100000) : n ≤ sizeLine := Nat.le_trans h (by decide)
theorem smaller {n : Nat} (h : n < 100000) : n < sizeLine := Nat.lt_of_lt_of_le h (by decide)

/-! ### the box that numbers are drawn from: a list of a row and a place -/
structure Box (H : Hp) (b r : Addr) (rs : List Int) : Prop where
  ex : ∃ at' : Int, 0 ≤ at' ∧ H b = some (.lst [.ref r, .int at'])
  row : H r = some (.lst (rs.map V.int))
theorem Box.ne {H : Hp} {b r : Addr} {rs : List Int} (B : Box H b r rs) : r ≠ b := fun e => by
  obtain ⟨z, _, h⟩ := B.ex
  have q := B.row
  rw [e, h] at q
  cases rs with
  | nil => cases q
  | cons x t => cases q
theorem Box.far {H : Hp} {b r l : Addr} {rs ns : List Int} (B : Box H b r rs) (h : H l = some (.lst (ns.map V.int))) : l ≠ b := fun e => by
  obtain ⟨z, _, hb⟩ := B.ex
  rw [e, hb] at h
  cases ns with
  | nil => cases h
  | cons x t => cases h
theorem Box.farS {K : PySem.W.Frag} {H H' : Hp} {b r a : Addr} {rs ns : List Int} (B : Box H b r rs) (e : But b H H') (h : SqL K H a (ns.map V.int)) : SqL K H' a (ns.map V.int) := by
  rcases h with (h | ⟨o, h⟩) | h
  · exact .inl (.inl (e _ _ (B.far h) h))
  · refine .inl (.inr ⟨o, e _ _ (fun z => ?_) h⟩)
    obtain ⟨_, _, hb⟩ := B.ex
    rw [z, hb] at h
    cases h
  · exact .inr h
theorem Box.same {H H' : Hp} {b r : Addr} {rs : List Int} (B : Box H b r rs) (e : Same H H') : Box H' b r rs := by
  obtain ⟨z, h0, h⟩ := B.ex
  exact ⟨⟨z, h0, e _ _ h⟩, e _ _ B.row⟩

theorem But.mut {b l : Addr} {H H' : Hp} {o : HO} (e : But b H H') (h : H l = none) : But b H (upd H' l o) := fun c x n hc => by
  rw [upd_ne (ne_of_none hc h)]
  exact e c x n hc
theorem But.mut' {l : Addr} {H H' : Hp} {o : HO} (e : But l H H') (_ : H l = none) : But l H (upd H' l o) := fun c x n hc => by
  rw [upd_ne n]
  exact e c x n hc
theorem Box.mut {b r l : Addr} {H H' : Hp} {rs : List Int} {o : HO} (B : Box H' b r rs) (B0 : Box H b r rs) (h : H l = none) : Box (upd H' l o) b r rs := by
  obtain ⟨z, h0, hb⟩ := B.ex
  obtain ⟨_, _, hb0⟩ := B0.ex
  exact ⟨⟨z, h0, by rw [upd_ne (ne_of_none hb0 h)]; exact hb⟩, by rw [upd_ne (ne_of_none B0.row h)]; exact B.row⟩
theorem map_get {ns : List Int} {i : Nat} {x : V} (h : (ns.map V.int)[i]? = some x) : ∃ n, x = .int n ∧ ns[i]? = some n := by
  rw [List.getElem?_map] at h
  cases e : ns[i]? with
  | none => rw [e] at h; cases h
  | some n => rw [e] at h; exact ⟨n, (Option.some.inj h).symm, rfl⟩
/-! ### lists of ints compared -/
theorem dp_ints {K : PySem.W.Frag} {H : Hp} : ∀ ns : List Int, DpAll K H (ns.map V.int) (ns.map PyData.int)
  | [] => .nil
  | n :: r => .cons (.int n) (dp_ints r)
theorem can_ints : ∀ ns : List Int, PyData.canLayAll0 (ns.map PyData.int) = true
  | [] => rfl
  | n :: r => by
    show (PyData.canLay0 (.int n) && PyData.canLayAll0 (r.map PyData.int)) = true
    rw [can_ints r]
    rfl
theorem shaped_ns (ns : List Int) : SeqAt.shaped (.list (ns.map PyData.int)) = true := PySem.W.shaped_ints ns
theorem eqv_ns (ns : List Int) : PyData.eqv (.list (ns.map PyData.int)) (.list (ns.map PyData.int)) = true := PySem.SeqAt.eqv_refl _ (can_ints ns)
theorem shaped_tup (m n : Int) : SeqAt.shaped (.tuple ([m, n].map PyData.int)) = true := by
  simp [SeqAt.shaped, PyData.canLay0, PyData.canLayAll0, PyData.depth, PyData.depthAll]
theorem eqv_tup (m n : Int) : PyData.eqv (.tuple ([m, n].map PyData.int)) (.tuple ([m, n].map PyData.int)) = true := PySem.SeqAt.eqv_refl _ (can_ints [m, n])
theorem eq_ints {K : PySem.W.Frag} {H : Hp} {p q : Addr} {ns : List Int} {Q : VK} (hp : SqL K H p (ns.map V.int)) (hq : SqL K H q (ns.map V.int)) (k : Q (.bl true) H) : rEqD K (.ref p) (.ref q) H Q :=
  ⟨_, _, .lst hp (dp_ints ns), .lst hq (dp_ints ns), shaped_ns ns, shaped_ns ns, by rw [eqv_ns]; exact k⟩
theorem ne_ints {K : PySem.W.Frag} {H : Hp} {p q : Addr} {ns : List Int} {Q : VK} (hp : SqL K H p (ns.map V.int)) (hq : SqL K H q (ns.map V.int)) (k : Q (.bl false) H) : rNeD K (.ref p) (.ref q) H Q :=
  ⟨_, _, .lst hp (dp_ints ns), .lst hq (dp_ints ns), shaped_ns ns, shaped_ns ns, by rw [eqv_ns]; exact k⟩

theorem eq_pair {K : PySem.W.Frag} {H : Hp} {p q : Addr} {m n : Int} {Q : VK} (hp : SqT K H p [.int m, .int n]) (hq : SqT K H q [.int m, .int n]) (k : Q (.bl true) H) : rEqD K (.ref p) (.ref q) H Q :=
  ⟨_, _, .tup hp (dp_ints [m, n]), .tup hq (dp_ints [m, n]), shaped_tup m n, shaped_tup m n, by rw [eqv_tup]; exact k⟩
theorem ne_pair {K : PySem.W.Frag} {H : Hp} {p q : Addr} {m n : Int} {Q : VK} (hp : SqT K H p [.int m, .int n]) (hq : SqT K H q [.int m, .int n]) (k : Q (.bl false) H) : rNeD K (.ref p) (.ref q) H Q :=
  ⟨_, _, .tup hp (dp_ints [m, n]), .tup hq (dp_ints [m, n]), shaped_tup m n, shaped_tup m n, by rw [eqv_tup]; exact k⟩

/-! ### the numbers of words -/
def wr (n : Int) : Int := (n + 2147483648) % 4294967296 - 2147483648
theorem wr_lo (n : Int) : -2147483648 ≤ wr n := by unfold wr; omega
theorem wr_hi (n : Int) : wr n ≤ 2147483647 := by unfold wr; omega
theorem wr_same {n : Int} (h : -2147483648 ≤ n) (h2 : n ≤ 2147483647) : wr n = n := by unfold wr; omega

/-! ### promises -/
def spCell (K : PySem.W.Frag) : Sp := fun vs H Q _ => ∃ (a : Addr) (ns : List Int) (k : Int), vs = [.ref a, .int k] ∧ SqL K H a (ns.map V.int) ∧ 0 ≤ k ∧ ∀ n : Int, Q (.int n) H
def spRow (K : PySem.W.Frag) : Sp := fun vs H Q _ => ∃ (a : Addr) (ns : List Int) (i j : Int), vs = [.ref a, .int i, .int j] ∧ SqL K H a (ns.map V.int) ∧ 0 ≤ i ∧ i ≤ j ∧ j ≤ 100 ∧
  ∀ (p : Addr) (rs : List Int) (H' : Hp), H p = none → Same H H' → H' p = some (.lst (rs.map V.int)) → Q (.ref p) H'
def spDraw : Sp := fun vs H Q _ => ∃ (b r : Addr) (rs : List Int) (many : Int), vs = [.ref b, .int many] ∧ Box H b r rs ∧ 0 < many ∧
  ∀ (v : Int) (H' : Hp), 0 ≤ v → v < many → Box H' b r rs → But b H H' → Q (.int v) H'
def spWrap : Sp := fun vs H Q _ => ∃ n : Int, vs = [.int n] ∧ Q (.int (wr n)) H
def spWord : Sp := fun vs H Q _ => ∃ (b r : Addr) (rs : List Int), vs = [.ref b] ∧ Box H b r rs ∧
  ∀ (v : Int) (H' : Hp), -2147483648 ≤ v → v ≤ 2147483647 → Box H' b r rs → But b H H' → Q (.int v) H'
def spIsInt : Sp := fun vs H Q _ => ∃ n : Int, vs = [.int n] ∧ Q (.bl true) H
def spLaw (K : PySem.W.Frag) : Sp := fun vs H Q _ => ∃ (a : Addr) (ns : List Int), vs = [.ref a] ∧ SqL K H a (ns.map V.int) ∧ ns.length ≤ 63 ∧ ∀ H', Q (.bl true) H'
/-- a def of the text that keeps a promise, with all that a caller asks -/
structure Def (P : Program) (w : World) (K : PySem.W.Frag) (mg : Str → Option Value) (base : Heap) (k : Nat) (x : Str) (ps : List Str) (sp : Sp) : Prop where
  ex : ∃ (f : Addr) (fd : FuncData), FnOk P w K mg base CX0 k f fd ps sp ∧ Binds K fd ps [] ∧ mg x = some (.ref f) ∧ PySem.W.keepIn K (.ref f) = true
/-- a method of a class of the text; its __init__ -/
structure MDef (P : Program) (w : World) (K : PySem.W.Frag) (mg : Str → Option Value) (base : Heap) (k : Nat) (C : Addr) (m : Str) (ps : List Str) (sp : Sp) : Prop where
  ex : ∃ (f : Addr) (fd : FuncData), FnOk P w K mg base CX0 k f fd ps sp ∧ Binds K fd ps [] ∧ Meth K C m f
structure IDef (P : Program) (w : World) (K : PySem.W.Frag) (mg : Str → Option Value) (base : Heap) (k : Nat) (C : Addr) (ps : List Str) (sp : Sp) : Prop where
  ex : ∃ (f : Addr) (fd : FuncData), FnOk P w K mg base CX0 k f fd ps sp ∧ Binds K fd ps [] ∧ Mk K C f
structure Cs where
  WordRing : Addr
  DualRing : Addr
structure Txt (K : PySem.W.Frag) (mg : Str → Option Value) (cs : Cs) : Prop where
  z_abs : mg "abs" = none
  z_bool : mg "bool" = none
  z_int : mg "int" = none
  z_isinstance : mg "isinstance" = none
  z_len : mg "len" = none
  z_range : mg "range" = none
  z_tuple : mg "tuple" = none
  g_SIZE : ∃ t, mg "SIZE" = some (.int (4294967296) t)
  g_LEAST : ∃ t, mg "LEAST" = some (.int (-2147483648) t)
  C_WordRing : Cls K cs.WordRing
  c_WordRing : mg "WordRing" = some (.ref cs.WordRing)
  mk_WordRing : PySem.W.makesIn K cs.WordRing = true ∧ PySem.W.findIn K (.ref cs.WordRing) "__init__" = some (some (.builtin "object.__init__")) ∧ PySem.W.keepIn K (.ref cs.WordRing) = true
  C_DualRing : Cls K cs.DualRing
  c_DualRing : mg "DualRing" = some (.ref cs.DualRing)
  mk_DualRing : PySem.W.makesIn K cs.DualRing = true ∧ PySem.W.findIn K (.ref cs.DualRing) "__init__" = some (some (.builtin "object.__init__")) ∧ PySem.W.keepIn K (.ref cs.DualRing) = true

/-! ### C() of a class of the text that has no __init__ of its own -/
section
variable {X : Cx} {C : Addr} {x : Str} {p pos : Pos}
theorem run_bare {pins : List (Addr × Obj)} {σ : L2.St} {H : Hp} {s : Shared} {Q : VK} (hm : PySem.W.makesIn X.K C = true) (hi : PySem.W.findIn X.K (.ref C) "__init__" = some (some (.builtin "object.__init__"))) (I : Inv X pins σ H s)
    (h : ∀ x dx, H x = none → H dx = none → dx ≠ x → Q (.ref x) (upd (upd H dx (.own x)) x (.ins C dx []))) : wpAny (model X.prog X.w) X.A (call (.ref C) []) (EP X pins σ Q) X.xe s := by
  have hq := h (s.heap.objs.size + 1) s.heap.objs.size (I.hok.fresh (Nat.le_succ _)) (I.hok.fresh (Nat.le_refl _)) (Nat.ne_of_lt (Nat.lt_succ_self _))
  have I2 := Inv.made (C := C) I
  have Y := PySem.W.makes_of (M := model X.prog X.w) I.kIn hm
  refine wpAny_call (make_map0 I.kIn hm hi (fun self => PySem.W.Looks.of_pure (PySem.W.oi_bind self)) ?_)
  have e2 : ((s.heap.push PySem.W.emptyDict).push (PySem.W.instObj C s.heap.objs.size)).get? (s.heap.objs.size + 1) = some (PySem.W.instObj C s.heap.objs.size) := by
    have := Heap.get?_push_size (s.heap.push PySem.W.emptyDict) (o := PySem.W.instObj C s.heap.objs.size) rfl
    rwa [Heap.size_push] at this
  have t1 : PySem.W.Looks (model X.prog X.w) ((s.heap.push PySem.W.emptyDict).push (PySem.W.instObj C s.heap.objs.size)) (typeOf (.ref (s.heap.objs.size + 1))) (.ref C) := (PySem.W.Looks.ld e2).andThen .now
  have t2 : PySem.W.Looks (model X.prog X.w) ((s.heap.push PySem.W.emptyDict).push (PySem.W.instObj C s.heap.objs.size)) (isInstance (.ref (s.heap.objs.size + 1)) (.type "object")) true :=
    t1.andThen (Y.top.keeps fun b o e => Heap.get?_push_of_some _ (Heap.get?_push_of_some _ e))
  refine codeAny_call_builtin PySem.W.oi_plain PySem.W.entry_oi (@PySem.W.check_slot (model X.prog X.w) _ _ _ "object.__init__" "object" "__init__" (.ref (s.heap.objs.size + 1)) [] [] _ PySem.W.oi_kind PySem.W.oi_split t2 (PySem.W.oi_args (.ref (s.heap.objs.size + 1))) ?_)
  rw [PySem.W.oi_run]
  exact wpAny_pure ⟨rfl, V.ref (s.heap.objs.size + 1), _, I2, rfl, hq⟩
def tBare (C : Addr) : TE := fun _ H Q => ∀ x dx, H x = none → H dx = none → dx ≠ x → Q (.ref x) (upd (upd H dx (.own x)) x (.ins C dx []))
theorem pe_bare (M : PySem.W.makesIn X.K C = true ∧ PySem.W.findIn X.K (.ref C) "__init__" = some (some (.builtin "object.__init__")) ∧ PySem.W.keepIn X.K (.ref C) = true) (hg : Gl X x) (hm : X.mg x = some (.ref C))
    (hdb : (x == ("__debug__" : Str)) = false := by decide) : PE X (.Call (.Name x p) [] [] pos) (tBare C) := by
  refine ⟨fun pins s σ H Q I h => ?_⟩
  refine wpAny_Call_Name_kw (ld_glob I hg hm ?_ hdb)
  exact PySem.W.callWith_K0 I.kIn M.2.2 (run_bare M.1 M.2.1 I h)
end

/-! ### the program's words -/
theorem pow31n : ∀ m : Fin 32, 0 < (2 : Int) ^ m.val ∧ (2 : Int) ^ m.val ≤ 2147483648 := by decide +kernel
theorem pow31 {k : Int} (h : k ≤ 31) : 0 < (2 : Int) ^ k.toNat ∧ (2 : Int) ^ k.toNat ≤ 2147483648 := pow31n ⟨k.toNat, by omega⟩
def dv (n k : Int) : Int := if k < 1 then n else wr (n + 1 * 2 ^ (k - 1).toNat) / 2 ^ k.toNat
def spShr : Sp := fun vs H Q _ => ∃ n k : Int, vs = [.int n, .int k] ∧ 1 ≤ k ∧ Q (.int (n / 2 ^ k.toNat)) H
def spDiv : Sp := fun vs H Q _ => ∃ n k : Int, vs = [.int n, .int k] ∧ k ≤ 31 ∧ Q (.int (dv n k)) H

/-! ### rings: promises -/
def isW (n : Int) : Prop := -2147483648 ≤ n ∧ n ≤ 2147483647
theorem isW_wr (n : Int) : isW (wr n) := ⟨wr_lo n, wr_hi n⟩
def spZero : Sp := fun vs H Q _ => ∃ x : V, vs = [x] ∧ Q (.int 0) H
def spOne : Sp := fun vs H Q _ => ∃ x : V, vs = [x] ∧ Q (.int 1) H
def spStill : Sp := fun vs H Q _ => ∃ (x : V) (a : Int), vs = [x, .int a] ∧ Q (.int a) H
def spPlus : Sp := fun vs H Q _ => ∃ (x : V) (a b : Int), vs = [x, .int a, .int b] ∧ Q (.int (wr (a + b))) H
def spMinus : Sp := fun vs H Q _ => ∃ (x : V) (a b : Int), vs = [x, .int a, .int b] ∧ Q (.int (wr (a - b))) H
def spTimes : Sp := fun vs H Q _ => ∃ (x : V) (a b : Int), vs = [x, .int a, .int b] ∧ isW a ∧ Q (.int (wr (a * b))) H
def spDivided : Sp := fun vs H Q _ => ∃ (x : V) (a k : Int), vs = [x, .int a, .int k] ∧ k ≤ 31 ∧ Q (.int (dv a k)) H
def spPositive : Sp := fun vs H Q _ => ∃ (x : V) (a : Int), vs = [x, .int a] ∧ Q (.bl (decide (0 < a))) H
/-- a new pair of ints -/
def New2 (H : Hp) (Q : VK) (m n : Int) : Prop := ∀ (p : Addr) (H' : Hp), H p = none → Same H H' → H' p = some (.tup [.int m, .int n]) → Q (.ref p) H'
theorem New2.to {H : Hp} {Q : VK} {m n : Int} {p : Addr} (h : New2 H Q m n) (np : H p = none) : Q (.ref p) (upd H p (.tup [.int m, .int n])) := h p _ np (same_new np _) upd_same
def spDZero : Sp := fun vs H Q _ => ∃ x : V, vs = [x] ∧ New2 H Q 0 0
def spDOne : Sp := fun vs H Q _ => ∃ x : V, vs = [x] ∧ New2 H Q 1 0
def spDStill : Sp := fun vs H Q _ => ∃ (x : V) (a : Int), vs = [x, .int a] ∧ New2 H Q a 0
def spDPlus (K : PySem.W.Frag) : Sp := fun vs H Q _ => ∃ (x : V) (a b : Addr) (m n i j : Int), vs = [x, .ref a, .ref b] ∧ SqT K H a [.int m, .int n] ∧ SqT K H b [.int i, .int j] ∧ New2 H Q (wr (m + i)) (wr (n + j))
def spDMinus (K : PySem.W.Frag) : Sp := fun vs H Q _ => ∃ (x : V) (a b : Addr) (m n i j : Int), vs = [x, .ref a, .ref b] ∧ SqT K H a [.int m, .int n] ∧ SqT K H b [.int i, .int j] ∧ New2 H Q (wr (m - i)) (wr (n - j))
def spDTimes (K : PySem.W.Frag) : Sp := fun vs H Q _ => ∃ (x : V) (a b : Addr) (m n i j : Int), vs = [x, .ref a, .ref b] ∧ SqT K H a [.int m, .int n] ∧ SqT K H b [.int i, .int j] ∧ isW m ∧ isW n ∧ New2 H Q (wr (m * i)) (wr (m * j + n * i))
def spDDivided (K : PySem.W.Frag) : Sp := fun vs H Q _ => ∃ (x : V) (a : Addr) (m n k : Int), vs = [x, .ref a, .int k] ∧ SqT K H a [.int m, .int n] ∧ k ≤ 31 ∧ New2 H Q (dv m k) (dv n k)
def spDPositive (K : PySem.W.Frag) : Sp := fun vs H Q _ => ∃ (x : V) (a : Addr) (m n : Int), vs = [x, .ref a] ∧ SqT K H a [.int m, .int n] ∧ Q (.bl (decide (0 < m))) H
theorem isW.mul {a b : Int} (h : isW a) : CMul a b := .inl (by obtain ⟨h1, h2⟩ := h; exact ⟨by omega, by omega⟩)

theorem wr_add_mul (n q : Int) : wr (n + 4294967296 * q) = wr n := by unfold wr; omega
theorem wr_ex (n : Int) : ∃ q, wr n = n + 4294967296 * q := ⟨-((n + 2147483648) / 4294967296), by unfold wr; omega⟩
theorem wr_add_l (m n : Int) : wr (wr m + n) = wr (m + n) := by unfold wr; omega
theorem wr_add_r (m n : Int) : wr (m + wr n) = wr (m + n) := by unfold wr; omega
theorem wr_pl (x y z : Int) : wr (wr x * y + z) = wr (x * y + z) := by
  obtain ⟨q, e⟩ := wr_ex x
  rw [e, Int.add_mul, Int.mul_assoc, show x * y + 4294967296 * (q * y) + z = (x * y + z) + 4294967296 * (q * y) by omega, wr_add_mul]
theorem wr_pr (x y z : Int) : wr (x * wr y + z) = wr (x * y + z) := by rw [Int.mul_comm x, wr_pl, Int.mul_comm x]
theorem wr_ql (x y z : Int) : wr (z + wr x * y) = wr (z + x * y) := by rw [Int.add_comm z, wr_pl, Int.add_comm z]
theorem wr_qr (x y z : Int) : wr (z + x * wr y) = wr (z + x * y) := by rw [Int.add_comm z, wr_pr, Int.add_comm z]
theorem wr_ml (x y : Int) : wr (wr x * y) = wr (x * y) := by
  have h := wr_pl x y 0
  rwa [Int.add_zero, Int.add_zero] at h
theorem wr_mr (x y : Int) : wr (x * wr y) = wr (x * y) := by rw [Int.mul_comm x, wr_ml, Int.mul_comm x]
theorem dist0 (a b c : Int) : wr (a * wr (b + c)) = wr (wr (a * b) + wr (a * c)) := by
  rw [wr_mr, wr_add_l, wr_add_r, Int.mul_add]
theorem dist1 (a0 a1 b0 b1 c0 c1 : Int) : wr (a0 * wr (b1 + c1) + a1 * wr (b0 + c0)) = wr (wr (a0 * b1 + a1 * b0) + wr (a0 * c1 + a1 * c0)) := by
  rw [wr_pr, wr_qr, wr_add_l, wr_add_r, Int.mul_add, Int.mul_add]
  exact congrArg wr (by omega)
theorem assoc0 (a b c : Int) : wr (wr (a * b) * c) = wr (a * wr (b * c)) := by rw [wr_ml, wr_mr, Int.mul_assoc]
theorem assoc1 (a0 a1 b0 b1 c0 c1 : Int) : wr (wr (a0 * b0) * c1 + wr (a0 * b1 + a1 * b0) * c0) = wr (a0 * wr (b0 * c1 + b1 * c0) + a1 * wr (b0 * c0)) := by
  rw [wr_pl, wr_ql, wr_pr, wr_qr, Int.add_mul, Int.mul_add, Int.mul_assoc, Int.mul_assoc, Int.mul_assoc]
  exact congrArg wr (by omega)
theorem Box.farT {H : Hp} {b r l : Addr} {rs : List Int} {xs : List V} (B : Box H b r rs) (h : H l = some (.tup xs)) : l ≠ b := fun e => by
  obtain ⟨z, _, hb⟩ := B.ex
  rw [e, hb] at h
  cases h
theorem same_bare {H : Hp} {x dx C : Addr} (nx : H x = none) (nd : H dx = none) : Same H (upd (upd H dx (.own x)) x (.ins C dx [])) := fun c o h => by
  rw [upd_ne (ne_of_none h nx), upd_ne (ne_of_none h nd)]
  exact h
structure Abc (H : Hp) (bx r : Addr) (rs : List Int) (ta tb tc : Addr) (a0 a1 b0 b1 c0 c1 : Int) : Prop where
  box : Box H bx r rs
  a : H ta = some (.tup [.int a0, .int a1])
  b : H tb = some (.tup [.int b0, .int b1])
  c : H tc = some (.tup [.int c0, .int c1])
theorem Abc.same {H H' : Hp} {bx r : Addr} {rs : List Int} {ta tb tc : Addr} {a0 a1 b0 b1 c0 c1 : Int} (W : Abc H bx r rs ta tb tc a0 a1 b0 b1 c0 c1) (e : Same H H') : Abc H' bx r rs ta tb tc a0 a1 b0 b1 c0 c1 :=
  ⟨W.box.same e, e _ _ W.a, e _ _ W.b, e _ _ W.c⟩
def spLDiv : Sp := fun vs H Q _ => ∃ a k : Int, vs = [.int a, .int k] ∧ 0 ≤ k ∧ k ≤ 31 ∧ Q (.int (dv a k)) H
def spPair : Sp := fun vs H Q _ => ∃ (a b : Addr) (m n : Int), vs = [.ref a, .ref b] ∧ H a = some (.tup [.int m, .int n]) ∧ H b = some (.tup [.int m, .int n]) ∧ Q (.bl true) H
def spWordEq : Sp := fun vs H Q _ => ∃ a : Int, vs = [.int a, .int a] ∧ Q (.bl true) H
def spLTimes (K : PySem.W.Frag) : Sp := fun vs H Q _ => ∃ (a b : Addr) (m n i j : Int), vs = [.ref a, .ref b] ∧ SqT K H a [.int m, .int n] ∧ SqT K H b [.int i, .int j] ∧ isW m ∧ isW n ∧ New2 H Q (wr (m * i)) (wr (m * j + n * i))
def spWordsOk (cs : Cs) : Sp := fun vs H Q _ => ∃ (p dx : Addr) (a b k : Int), vs = [.ref p, .int a, .int b, .int k] ∧ H p = some (.ins cs.WordRing dx []) ∧ isW a ∧ isW b ∧ 0 ≤ k ∧ k ≤ 31 ∧ Q (.bl true) H
section
variable {P : Program} {w : World} {K : PySem.W.Frag} {mg : Str → Option Value} {cs : Cs} {base : Heap} {f : Addr} {fd : FuncData}
theorem ok__law_cell (F : Fun K "_law_cell" "_law_cell" s__law_cell f fd) (T : Txt K mg cs)  :
    FnOk P w K mg base CX0 1 f fd ["script", "k"] (spCell K) := by
  refine F.ok sc__law_cell (fun vs H Q E h => ?_) (fun cdv A outer s H vs Q E hr h => ?_)
  · obtain ⟨a, ns, k, rfl, hS, h0, q⟩ := h
    rfl
  obtain ⟨a, ns, k, rfl, hS, h0, q⟩ := h
  have hu := hr.units
  refine ⟨_, pss_cons (ps_if (pt_cmpR op_lt (pv 1) (pe_callB (len_at (K := K) rfl) (by rfl) T.z_len PySem.boot_len (pa_cons (pv 0) pa_nil)) (nomark _)) (pss_one (ps_ret (pe_ix (ixl_at (K := K) rfl) (pv 0) (pv 1) (fun _ _ => rfl)))) pss_nil)
 (pss_one (ps_ret pe_int)), ?_⟩
  -- k; len(script); the test
  refine ⟨_, rfl, _, rfl, a, _, rfl, .inl hS, _, _, rfl, rfl, _, rfl, ?_⟩
  refine ite2 (fun c => ?_) (fun c => ?_)
  · have c' : k < (((ns.map V.int).length : Nat) : Int) := of_decide_eq_true c
    rw [List.length_map] at c'
    have hk : k.toNat < ns.length := by omega
    have ek : k = ((k.toNat : Nat) : Int) := by omega
    have z : atI (ns.map V.int) ((k.toNat : Nat) : Int) = some (.int ns[k.toNat]) := atI_nat (by rw [List.getElem?_map, List.getElem?_eq_getElem hk] <;> rfl)
    rw [← ek] at z
    exact ⟨_, rfl, _, rfl, a, _, _, _, rfl, rfl, hS, z, q _⟩
  · exact q 0

theorem ok__law_row (F : Fun K "_law_row" "_law_row" s__law_row f fd) (T : Txt K mg cs) (d__law_cell : Def P w K mg base 1 "_law_cell" ["script", "k"] (spCell K)) :
    FnOk P w K mg base CX0 2 f fd ["script", "first", "last"] (spRow K) := by
  obtain ⟨f0, fd0, G__law_cell, b__law_cell, g__law_cell, k__law_cell⟩ := d__law_cell.ex
  refine F.ok sc__law_row (fun vs H Q E h => ?_) (fun cdv A outer s H vs Q E hr h => ?_)
  · obtain ⟨a, ns, i, j, rfl, hS, h0, h1, h2, q⟩ := h
    rfl
  obtain ⟨a, ns, i, j, rfl, hS, h0, h1, h2, q⟩ := h
  have hu := hr.units
  refine ⟨_, pss_cons (ps_set (i := 3) sc__law_row.nd rfl (.inl rfl) (pe_lst pa_nil))
 (pss_cons (ps_for PassesOwn.never rfl (pi_range2 rfl T.z_range (pa_cons (pv 1) (pa_cons (pv 2) pa_nil))) (pg_name (i := 4) sc__law_row.nd rfl (.inl rfl)) (pss_cons (ps_set (i := 5) sc__law_row.nd rfl (.inl rfl) (pe_call G__law_cell hr rfl g__law_cell k__law_cell b__law_cell .nil pass0 (pa_cons (pv 0) (pa_cons (pv 4) pa_nil))))
 (pss_cons (ps_set (i := 5) sc__law_row.nd rfl (.inl rfl) (pe_op op_add (pe_callB call_abs (by rfl) T.z_abs (by decide +kernel) (pa_cons (pe_op op_mul pe_int (pv 5)) pa_nil)) (pe_callTy call_int1 (by rfl) T.z_int PyProof.Rows.boot_int (pa_cons (pe_cmpR op_lt (pv 5) pe_int (nomark _)) pa_nil))))
 (pss_one (ps_if (pt_cmpR op_gt (pv 5) (pe_op op_pow pe_int pe_int) (nomark _)) (pss_one (ps_for PassesOwn.never rfl (pi_range1 rfl T.z_range (pa_cons pe_int pa_nil)) (pg_name (i := 6) sc__law_row.nd rfl (.inl rfl)) (pss_one (ps_if (pt_cmpR op_gt (pv 5) pe_int (nomark _)) (pss_cons (ps_expr (pe_bm PySem.F.plainAttrs_list PySem.F.slot_list_append PySem.F.type_list_append mt_append (pv 3) (pa_cons (pe_op op_mod (pe_callTy call_int1 (by rfl) T.z_int PyProof.Rows.boot_int (pa_cons (pv 5) pa_nil)) pe_int) pa_nil)))
 (pss_one (ps_set (i := 5) sc__law_row.nd rfl (.inl rfl) (pe_op op_fdiv (pv 5) pe_int)))) pss_nil)))) (pss_one (ps_for PassesOwn.never rfl (pi_range1 rfl T.z_range (pa_cons pe_int pa_nil)) (pg_name (i := 6) sc__law_row.nd rfl (.inl rfl)) (pss_cons (ps_set (i := 5) sc__law_row.nd rfl (.inl rfl) (pe_op op_mod (pe_callTy call_int1 (by rfl) T.z_int PyProof.Rows.boot_int (pa_cons (pe_op op_add (pe_op op_add (pe_op op_mul (pv 5) pe_int) (pe_op op_mul pe_int (pe_op op_add (pv 4) (pv 6)))) pe_int) pa_nil)) pe_int))
 (pss_one (ps_expr (pe_bm PySem.F.plainAttrs_list PySem.F.slot_list_append PySem.F.type_list_append mt_append (pv 3) (pa_cons (pe_op op_mod (pe_callTy call_int1 (by rfl) T.z_int PyProof.Rows.boot_int (pa_cons (pe_op op_fdiv (pv 5) pe_int) pa_nil)) pe_int) pa_nil))))))))))))
 (pss_one (ps_ret (pv 3)))), ?_⟩
  -- row = []
  refine ⟨Nat.zero_le _, fun o no => ?_⟩
  -- for k in range(first, last)
  refine ⟨_, rfl, _, rfl, i, j, rfl, ⟨by omega, by omega, by omega, by omega⟩, ?_⟩
  refine for_range (fun (t : Nat) σ H' => ∃ (y4 y5 y6 : Option V) (rs : List Int), σ = [some (.ref a), some (.int i), some (.int j), some (.ref o), y4, y5, y6] ∧ Same H H' ∧ H' o = some (.lst (rs.map V.int)) ∧ rs.length ≤ 60 * t)
    ⟨none, none, none, [], rfl, same_new no _, upd_same, Nat.zero_le _⟩ (fun t σ H' ht hP => ?_) (fun σ H' hP => ?_)
  · obtain ⟨y4, y5, y6, rs, rfl, sm, ho, hl⟩ := hP
    -- cell = _law_cell(script, k)
    refine ⟨_, rfl, _, rfl, a, ns, i + t, rfl, sm.seq hS, by omega, fun n => ?_⟩
    -- cell = abs(2 * cell) + int(cell < 0)
    walk_at "go"
    refine ite2 (fun c => ?_) (fun c => ?_)
    · -- 60 turns
      refine ⟨60, rfl, by decide, by decide, ?_⟩
      refine for_range (fun (u : Nat) σ H' => ∃ (y6 : Option V) (m : Int) (rs' : List Int), σ = [some (.ref a), some (.int i), some (.int j), some (.ref o), some (.int (i + t)), some (.int m), y6] ∧ Same H H' ∧ H' o = some (.lst (rs'.map V.int)) ∧ rs'.length ≤ 60 * t + u)
        ⟨y6, _, rs, rfl, sm, ho, by omega⟩ (fun u σ H' hu hP => ?_) (fun σ H' hP => ?_)
      · obtain ⟨y6, m, rs', rfl, sm, ho, hl⟩ := hP
        walk_at "go"
        refine ite2 (fun c => ?_) (fun c => ?_)
        · refine ⟨_, rfl, .inl ⟨rfl, _, .inl (.inl ho)⟩, ?_⟩
          walk_at "go"
          refine ⟨o, _, _, rfl, rfl, ho, smaller (by rw [List.length_map]; omega), ?_⟩
          walk_at "go"
          exact ⟨_, _, _, rfl, same_mut sm no, map_more _ _, by rw [List.length_append, List.length_singleton]; omega⟩
        · exact ⟨_, m, rs', rfl, sm, ho, by omega⟩
      · obtain ⟨y6, m, rs', rfl, sm, ho, hl⟩ := hP
        exact ⟨_, _, _, rs', rfl, sm, ho, by omega⟩
    · -- 10 turns
      refine ⟨10, rfl, by decide, by decide, ?_⟩
      refine for_range (fun (u : Nat) σ H' => ∃ (y6 : Option V) (m : Int) (rs' : List Int), σ = [some (.ref a), some (.int i), some (.int j), some (.ref o), some (.int (i + t)), some (.int m), y6] ∧ Same H H' ∧ H' o = some (.lst (rs'.map V.int)) ∧ rs'.length ≤ 60 * t + u)
        ⟨y6, _, rs, rfl, sm, ho, by omega⟩ (fun u σ H' hu hP => ?_) (fun σ H' hP => ?_)
      · obtain ⟨y6, m, rs', rfl, sm, ho, hl⟩ := hP
        walk_at "go"
        refine ⟨.inl ⟨rfl, _, .inl (.inl ho)⟩, ?_⟩
        walk_at "go"
        refine ⟨o, _, _, rfl, rfl, ho, smaller (by rw [List.length_map]; omega), ?_⟩
        exact ⟨_, _, _, rfl, same_mut sm no, map_more _ _, by rw [List.length_append, List.length_singleton]; omega⟩
      · obtain ⟨y6, m, rs', rfl, sm, ho, hl⟩ := hP
        exact ⟨_, _, _, rs', rfl, sm, ho, by omega⟩
  · obtain ⟨y4, y5, y6, rs, rfl, sm, ho, hl⟩ := hP
    exact ⟨_, rfl, q o rs H' no sm ho⟩
theorem ok__law_draw (F : Fun K "_law_draw" "_law_draw" s__law_draw f fd) (T : Txt K mg cs)  :
    FnOk P w K mg base CX0 1 f fd ["box", "many"] (spDraw) := by
  refine F.ok sc__law_draw (fun vs H Q E h => ?_) (fun cdv A outer s H vs Q E hr h => ?_)
  · obtain ⟨b, r, rs, many, rfl, B, hm, q⟩ := h
    rfl
  obtain ⟨b, r, rs, many, rfl, B, hm, q⟩ := h
  have hu := hr.units
  refine ⟨_, pss_cons (ps_set (i := 2) sc__law_draw.nd rfl (.inl rfl) (pe_ix (ixl_at (K := K) rfl) (pv 0) pe_int (fun _ _ => rfl)))
 (pss_cons (ps_asg (pe_op op_add (pv 2) pe_int) (pg_sub (pv 0) pe_int set_list))
 (pss_cons (ps_if (pt_cmpR op_lt (pv 2) (pe_callB (len_at (K := K) rfl) (by rfl) T.z_len PySem.boot_len (pa_cons (pe_ix (ixl_at (K := K) rfl) (pv 0) pe_int (fun _ _ => rfl)) pa_nil)) (nomark _)) (pss_one (ps_ret (pe_op op_mod (pe_callTy call_int1 (by rfl) T.z_int PyProof.Rows.boot_int (pa_cons (pe_ix (ixl_at (K := K) rfl) (pe_ix (ixl_at (K := K) rfl) (pv 0) pe_int (fun _ _ => rfl)) (pv 2) (fun _ _ => rfl)) pa_nil)) (pv 1)))) pss_nil)
 (pss_one (ps_ret (pe_op op_mod (pe_callTy call_int1 (by rfl) T.z_int PyProof.Rows.boot_int (pa_cons (pe_op op_add (pe_op op_mul (pv 2) pe_int) pe_int) pa_nil)) (pv 1)))))), ?_⟩
  obtain ⟨z, hz, hb⟩ := B.ex
  have hr' := B.row
  -- at = box[1]
  refine ⟨_, rfl, b, _, _, _, rfl, rfl, SqL.of hb, rfl, ?_⟩
  -- box[1] = at + 1
  walk_at "go"
  refine ⟨b, _, _, 1, rfl, rfl, hb, rfl, ?_⟩
  have e : (upd H b (.lst ([V.ref r, V.int z].set 1 (.int (z + 1))))) b = some (.lst [.ref r, .int (z + 1)]) := upd_same
  have er : (upd H b (.lst ([V.ref r, V.int z].set 1 (.int (z + 1))))) r = some (.lst (rs.map V.int)) := by rw [upd_ne B.ne]; exact hr'
  have B' : Box (upd H b (.lst ([V.ref r, V.int z].set 1 (.int (z + 1))))) b r rs := ⟨⟨z + 1, by omega, e⟩, er⟩
  have bt : But b H (upd H b (.lst ([V.ref r, V.int z].set 1 (.int (z + 1))))) := fun c o n h => by rw [upd_ne n]; exact h
  generalize (upd H b (.lst ([V.ref r, V.int z].set 1 (.int (z + 1))))) = H1 at *
  -- if at < len(box[0])
  refine ⟨_, rfl, _, rfl, b, _, _, _, rfl, rfl, SqL.of e, rfl, r, _, rfl, .inl (SqL.of er), _, _, rfl, rfl, _, rfl, ?_⟩
  refine ite2 (fun c => ?_) (fun c => ?_)
  · have c' : z < (((rs.map V.int).length : Nat) : Int) := of_decide_eq_true c
    rw [List.length_map] at c'
    have hk : z.toNat < rs.length := by omega
    have ek : z = ((z.toNat : Nat) : Int) := by omega
    have y : atI (rs.map V.int) ((z.toNat : Nat) : Int) = some (.int rs[z.toNat]) := atI_nat (by rw [List.getElem?_map, List.getElem?_eq_getElem hk] <;> rfl)
    rw [← ek] at y
    refine ⟨_, rfl, b, _, _, _, rfl, rfl, SqL.of e, rfl, _, rfl, r, _, _, _, rfl, rfl, SqL.of er, y, .inl ⟨_, rfl, _, rfl, _, _, rfl, rfl, hm, ?_⟩⟩
    exact q _ _ (Int.emod_nonneg _ (by omega)) (Int.emod_lt_of_pos _ hm) B' bt
  · refine ⟨_, rfl, _, _, rfl, rfl, .inr ⟨by decide, by decide⟩, _, _, rfl, rfl, .inl ⟨_, rfl, _, rfl, _, _, rfl, rfl, hm, ?_⟩⟩
    exact q _ _ (Int.emod_nonneg _ (by omega)) (Int.emod_lt_of_pos _ hm) B' bt
theorem ok__law_wrap (F : Fun K "_law_wrap" "_law_wrap" s__law_wrap f fd) (T : Txt K mg cs)  :
    FnOk P w K mg base CX0 1 f fd ["n"] (spWrap) := by
  refine F.ok sc__law_wrap (fun vs H Q E h => ?_) (fun cdv A outer s H vs Q E hr h => ?_)
  · obtain ⟨n, rfl, q⟩ := h
    rfl
  obtain ⟨n, rfl, q⟩ := h
  have hu := hr.units
  refine ⟨_, pss_one (ps_ret (pe_op op_sub (pe_op op_mod (pe_callTy call_int1 (by rfl) T.z_int PyProof.Rows.boot_int (pa_cons (pe_op op_add (pv 0) pe_int) pa_nil)) pe_int) pe_int)), ?_⟩
  walk_at "go"
  exact q

theorem ok__law_is_integer (F : Fun K "_law_is_integer" "_law_is_integer" s__law_is_integer f fd) (T : Txt K mg cs)  :
    FnOk P w K mg base CX0 1 f fd ["told"] (spIsInt) := by
  refine F.ok sc__law_is_integer (fun vs H Q E h => ?_) (fun cdv A outer s H vs Q E hr h => ?_)
  · obtain ⟨n, rfl, q⟩ := h
    rfl
  obtain ⟨n, rfl, q⟩ := h
  have hu := hr.units
  refine ⟨_, pss_one (ps_ret (pe_and (pe_callB call_isi (by rfl) T.z_isinstance (by decide +kernel) (pa_cons (pv 0) (pa_cons (pe_bltn (v := .ty "int") rfl T.z_int PyProof.Rows.boot_int rfl) pa_nil))) (pe_one (pe_not (pe_callB call_isi (by rfl) T.z_isinstance (by decide +kernel) (pa_cons (pv 0) (pa_cons (pe_bltn (v := .ty "bool") rfl T.z_bool PyProof.Rows.boot_bool rfl) pa_nil))))))), ?_⟩
  refine ⟨_, rfl, _, _, _, _, true, rfl, .ty _, .base (.int n), kit_ty (by decide +kernel), _, rfl, iteT ?_⟩
  refine ⟨_, rfl, _, _, _, _, false, rfl, .ty _, .base (.int n), kit_ty (by decide +kernel), _, rfl, q⟩

theorem ok__law_word (F : Fun K "_law_word" "_law_word" s__law_word f fd) (T : Txt K mg cs) (d__law_draw : Def P w K mg base 1 "_law_draw" ["box", "many"] (spDraw)) (d__law_wrap : Def P w K mg base 1 "_law_wrap" ["n"] (spWrap)) :
    FnOk P w K mg base CX0 2 f fd ["box"] (spWord) := by
  obtain ⟨f0, fd0, G__law_draw, b__law_draw, g__law_draw, k__law_draw⟩ := d__law_draw.ex
  obtain ⟨f1, fd1, G__law_wrap, b__law_wrap, g__law_wrap, k__law_wrap⟩ := d__law_wrap.ex
  refine F.ok sc__law_word (fun vs H Q E h => ?_) (fun cdv A outer s H vs Q E hr h => ?_)
  · obtain ⟨b, r, rs, rfl, B, q⟩ := h
    rfl
  obtain ⟨b, r, rs, rfl, B, q⟩ := h
  have hu := hr.units
  refine ⟨_, pss_cons (ps_set (i := 1) sc__law_word.nd rfl (.inl rfl) (pe_call G__law_draw hr rfl g__law_draw k__law_draw b__law_draw .nil pass0 (pa_cons (pv 0) (pa_cons pe_int pa_nil))))
 (pss_cons (ps_if (pt_cmpR op_lt (pv 1) pe_int (nomark _)) (pss_one (ps_ret (pe_op op_sub (pe_call G__law_draw hr rfl g__law_draw k__law_draw b__law_draw .nil pass0 (pa_cons (pv 0) (pa_cons pe_int pa_nil))) pe_int))) pss_nil)
 (pss_cons (ps_if (pt_cmpR op_eq (pv 1) pe_int (nomark _)) (pss_one (ps_ret (pe_op op_sub pe_int (pe_call G__law_draw hr rfl g__law_draw k__law_draw b__law_draw .nil pass0 (pa_cons (pv 0) (pa_cons pe_int pa_nil)))))) pss_nil)
 (pss_cons (ps_if (pt_cmpR op_eq (pv 1) pe_int (nomark _)) (pss_one (ps_ret (pe_op op_sub (pe_call G__law_draw hr rfl g__law_draw k__law_draw b__law_draw .nil pass0 (pa_cons (pv 0) (pa_cons pe_int pa_nil))) pe_int))) pss_nil)
 (pss_cons (ps_if (pt_cmpR op_eq (pv 1) pe_int (nomark _)) (pss_one (ps_ret (pe_op op_mul pe_int (pe_op op_sub (pe_call G__law_draw hr rfl g__law_draw k__law_draw b__law_draw .nil pass0 (pa_cons (pv 0) (pa_cons pe_int pa_nil))) pe_int)))) pss_nil)
 (pss_cons (ps_set (i := 2) sc__law_word.nd rfl (.inl rfl) pe_int)
 (pss_cons (ps_for PassesOwn.never rfl (pi_range1 rfl T.z_range (pa_cons pe_int pa_nil)) (pg_name (i := 3) sc__law_word.nd rfl (.inl rfl)) (pss_one (ps_set (i := 2) sc__law_word.nd rfl (.inl rfl) (pe_op op_add (pe_op op_mul (pv 2) pe_int) (pe_call G__law_draw hr rfl g__law_draw k__law_draw b__law_draw .nil pass0 (pa_cons (pv 0) (pa_cons pe_int pa_nil)))))))
 (pss_one (ps_ret (pe_call G__law_wrap hr rfl g__law_wrap k__law_wrap b__law_wrap .nil pass0 (pa_cons (pv 2) pa_nil)))))))))), ?_⟩
  refine ⟨_, rfl, b, r, rs, 7, rfl, B, by decide, fun kind H1 k0 k1 B1 e1 => ?_⟩
  walk_at "go"
  refine ite2 (fun _ => ?_) (fun _ => ?_)
  · refine ⟨_, rfl, b, r, rs, 7, rfl, B1, by decide, fun v H2 v0 v1 B2 e2 => ?_⟩
    walk_at "go"
    exact q _ _ (by omega) (by omega) B2 (e1.trans e2)
  walk_at "go"
  refine ite2 (fun _ => ?_) (fun _ => ?_)
  · refine ⟨_, rfl, b, r, rs, 3, rfl, B1, by decide, fun v H2 v0 v1 B2 e2 => ?_⟩
    walk_at "go"
    exact q _ _ (by omega) (by omega) B2 (e1.trans e2)
  walk_at "go"
  refine ite2 (fun _ => ?_) (fun _ => ?_)
  · refine ⟨_, rfl, b, r, rs, 3, rfl, B1, by decide, fun v H2 v0 v1 B2 e2 => ?_⟩
    walk_at "go"
    exact q _ _ (by omega) (by omega) B2 (e1.trans e2)
  walk_at "go"
  refine ite2 (fun _ => ?_) (fun _ => ?_)
  · refine ⟨_, rfl, b, r, rs, 7, rfl, B1, by decide, fun v H2 v0 v1 B2 e2 => ?_⟩
    walk_at "go"
    exact q _ _ (by omega) (by omega) B2 (e1.trans e2)
  -- n = 0; four turns
  walk_at "go"
  refine ⟨by decide, by decide, ?_⟩
  refine for_range (fun (t : Nat) σ H' => ∃ (y3 : Option V) (n : Int), σ = [some (.ref b), some (.int kind), some (.int n), y3] ∧ Box H' b r rs ∧ But b H1 H') ⟨none, 0, rfl, B1, But.refl b H1⟩ (fun t σ H' ht hP => ?_) (fun σ H' hP => ?_)
  · obtain ⟨y3, n, rfl, B2, e2⟩ := hP
    walk_at "go"
    refine ⟨b, r, rs, 840, rfl, B2, by decide, fun v H3 v0 v1 B3 e3 => ?_⟩
    walk_at "go"
    exact ⟨_, _, rfl, B3, e2.trans e3⟩
  · obtain ⟨y3, n, rfl, B2, e2⟩ := hP
    refine ⟨_, rfl, n, rfl, ?_⟩
    exact q _ _ (wr_lo n) (wr_hi n) B2 (e1.trans e2)
end


section
variable {P : Program} {w : World} {K : PySem.W.Frag} {mg : Str → Option Value} {cs : Cs} {base : Heap} {f : Addr} {fd : FuncData}
theorem ok_wrap (F : Fun K "wrap" "wrap" s_wrap f fd) (T : Txt K mg cs)  :
    FnOk P w K mg base CX0 1 f fd ["n"] (spWrap) := by
  obtain ⟨_, g_SIZE⟩ := T.g_SIZE
  obtain ⟨_, g_LEAST⟩ := T.g_LEAST
  refine F.ok sc_wrap (fun vs H Q E h => ?_) (fun cdv A outer s H vs Q E hr h => ?_)
  · obtain ⟨n, rfl, q⟩ := h
    rfl
  obtain ⟨n, rfl, q⟩ := h
  have hu := hr.units
  refine ⟨_, pss_one (ps_ret (pe_op op_add (pe_op op_mod (pe_op op_sub (pv 0) (pe_glob (v := .int (-2147483648)) rfl g_LEAST ⟨_, rfl⟩)) (pe_glob (v := .int (4294967296)) rfl g_SIZE ⟨_, rfl⟩)) (pe_glob (v := .int (-2147483648)) rfl g_LEAST ⟨_, rfl⟩))), ?_⟩
  walk_at "go"
  have e : (n - (-2147483648)) % 4294967296 + (-2147483648) = wr n := by unfold wr; omega
  show Q (.int ((n - (-2147483648)) % 4294967296 + (-2147483648))) H
  rw [e]
  exact q
theorem ok_shifted (F : Fun K "shifted" "shifted" s_shifted f fd) (T : Txt K mg cs)  :
    FnOk P w K mg base CX0 1 f fd ["n", "k"] (spShr) := by
  refine F.ok sc_shifted (fun vs H Q E h => ?_) (fun cdv A outer s H vs Q E hr h => ?_)
  · obtain ⟨n, k, rfl, hk, q⟩ := h
    rfl
  obtain ⟨n, k, rfl, hk, q⟩ := h
  have hu := hr.units
  refine ⟨_, pss_one (ps_ret (pe_ifExp (pt_cmpR op_gt (pv 1) pe_int (nomark _)) (pe_op op_shr (pv 0) (pv 1)) (pv 0))), ?_⟩
  walk_at "go"
  refine ite2 (fun c => ?_) (fun c => ?_)
  · walk_at "go"
    exact ⟨by omega, q⟩
  · exact absurd (decide_eq_true (show 0 < k by omega)) c
theorem ok_divided (F : Fun K "divided" "divided" s_divided f fd) (T : Txt K mg cs) (d_shifted : Def P w K mg base 1 "shifted" ["n", "k"] (spShr)) (d_wrap : Def P w K mg base 1 "wrap" ["n"] (spWrap)) :
    FnOk P w K mg base CX0 2 f fd ["n", "k"] (spDiv) := by
  obtain ⟨f0, fd0, G_shifted, b_shifted, g_shifted, k_shifted⟩ := d_shifted.ex
  obtain ⟨f1, fd1, G_wrap, b_wrap, g_wrap, k_wrap⟩ := d_wrap.ex
  refine F.ok sc_divided (fun vs H Q E h => ?_) (fun cdv A outer s H vs Q E hr h => ?_)
  · obtain ⟨n, k, rfl, hk, q⟩ := h
    rfl
  obtain ⟨n, k, rfl, hk, q⟩ := h
  have hu := hr.units
  refine ⟨_, pss_cons (ps_if (pt_cmpR op_lt (pv 1) pe_int (nomark _)) (pss_one (ps_ret (pv 0))) pss_nil)
 (pss_one (ps_ret (pe_call G_shifted hr rfl g_shifted k_shifted b_shifted .nil pass0 (pa_cons (pe_call G_wrap hr rfl g_wrap k_wrap b_wrap .nil pass0 (pa_cons (pe_op op_add (pv 0) (pe_op op_shl pe_int (pe_op op_sub (pv 1) pe_int))) pa_nil)) (pa_cons (pv 1) pa_nil))))), ?_⟩
  walk_at "go"
  refine ite2 (fun c => ?_) (fun c => ?_)
  · have c' : k < 1 := of_decide_eq_true c
    walk_at "go"
    have e : dv n k = n := if_pos c'
    rw [e] at q
    exact q
  · have c' : ¬ k < 1 := of_decide_eq_false (Bool.eq_false_iff.mpr c)
    walk_at "go"
    refine ⟨⟨by omega, by omega, by decide⟩, ?_⟩
    walk_at "go"
    refine ⟨by omega, ?_⟩
    have e : dv n k = wr (n + 1 * 2 ^ (k - 1).toNat) / 2 ^ k.toNat := if_neg c'
    rw [e] at q
    exact q

theorem ok_WordRing_zero (F : Fun K "zero" "WordRing.zero" s_WordRing_zero f fd) (T : Txt K mg cs)  :
    FnOk P w K mg base CX0 1 f fd ["self"] (spZero) := by
  refine F.ok sc_WordRing_zero (fun vs H Q E h => ?_) (fun cdv A outer s H vs Q E hr h => ?_)
  · obtain ⟨x, rfl, q⟩ := h
    rfl
  obtain ⟨x, rfl, q⟩ := h
  have hu := hr.units
  refine ⟨_, pss_one (ps_ret pe_int), ?_⟩
  exact q
theorem ok_WordRing_one (F : Fun K "one" "WordRing.one" s_WordRing_one f fd) (T : Txt K mg cs)  :
    FnOk P w K mg base CX0 1 f fd ["self"] (spOne) := by
  refine F.ok sc_WordRing_one (fun vs H Q E h => ?_) (fun cdv A outer s H vs Q E hr h => ?_)
  · obtain ⟨x, rfl, q⟩ := h
    rfl
  obtain ⟨x, rfl, q⟩ := h
  have hu := hr.units
  refine ⟨_, pss_one (ps_ret pe_int), ?_⟩
  exact q
theorem ok_WordRing_still (F : Fun K "still" "WordRing.still" s_WordRing_still f fd) (T : Txt K mg cs)  :
    FnOk P w K mg base CX0 1 f fd ["self", "word"] (spStill) := by
  refine F.ok sc_WordRing_still (fun vs H Q E h => ?_) (fun cdv A outer s H vs Q E hr h => ?_)
  · obtain ⟨x, a, rfl, q⟩ := h
    rfl
  obtain ⟨x, a, rfl, q⟩ := h
  have hu := hr.units
  refine ⟨_, pss_one (ps_ret (pv 1)), ?_⟩
  exact ⟨_, rfl, q⟩
theorem ok_WordRing_plus (F : Fun K "plus" "WordRing.plus" s_WordRing_plus f fd) (T : Txt K mg cs) (d_wrap : Def P w K mg base 1 "wrap" ["n"] (spWrap)) :
    FnOk P w K mg base CX0 2 f fd ["self", "a", "b"] (spPlus) := by
  obtain ⟨f0, fd0, G_wrap, b_wrap, g_wrap, k_wrap⟩ := d_wrap.ex
  refine F.ok sc_WordRing_plus (fun vs H Q E h => ?_) (fun cdv A outer s H vs Q E hr h => ?_)
  · obtain ⟨x, a, b, rfl, q⟩ := h
    rfl
  obtain ⟨x, a, b, rfl, q⟩ := h
  have hu := hr.units
  refine ⟨_, pss_one (ps_ret (pe_call G_wrap hr rfl g_wrap k_wrap b_wrap .nil pass0 (pa_cons (pe_op op_add (pv 1) (pv 2)) pa_nil))), ?_⟩
  walk_at "go"
  exact q
theorem ok_WordRing_minus (F : Fun K "minus" "WordRing.minus" s_WordRing_minus f fd) (T : Txt K mg cs) (d_wrap : Def P w K mg base 1 "wrap" ["n"] (spWrap)) :
    FnOk P w K mg base CX0 2 f fd ["self", "a", "b"] (spMinus) := by
  obtain ⟨f0, fd0, G_wrap, b_wrap, g_wrap, k_wrap⟩ := d_wrap.ex
  refine F.ok sc_WordRing_minus (fun vs H Q E h => ?_) (fun cdv A outer s H vs Q E hr h => ?_)
  · obtain ⟨x, a, b, rfl, q⟩ := h
    rfl
  obtain ⟨x, a, b, rfl, q⟩ := h
  have hu := hr.units
  refine ⟨_, pss_one (ps_ret (pe_call G_wrap hr rfl g_wrap k_wrap b_wrap .nil pass0 (pa_cons (pe_op op_sub (pv 1) (pv 2)) pa_nil))), ?_⟩
  walk_at "go"
  exact q
theorem ok_WordRing_times (F : Fun K "times" "WordRing.times" s_WordRing_times f fd) (T : Txt K mg cs) (d_wrap : Def P w K mg base 1 "wrap" ["n"] (spWrap)) :
    FnOk P w K mg base CX0 2 f fd ["self", "a", "b"] (spTimes) := by
  obtain ⟨f0, fd0, G_wrap, b_wrap, g_wrap, k_wrap⟩ := d_wrap.ex
  refine F.ok sc_WordRing_times (fun vs H Q E h => ?_) (fun cdv A outer s H vs Q E hr h => ?_)
  · obtain ⟨x, a, b, rfl, ha, q⟩ := h
    rfl
  obtain ⟨x, a, b, rfl, ha, q⟩ := h
  have hu := hr.units
  refine ⟨_, pss_one (ps_ret (pe_call G_wrap hr rfl g_wrap k_wrap b_wrap .nil pass0 (pa_cons (pe_op op_mul (pv 1) (pv 2)) pa_nil))), ?_⟩
  walk_at "go"
  refine ⟨ha.mul, ?_⟩
  walk_at "go"
  exact q
theorem ok_WordRing_divided (F : Fun K "divided" "WordRing.divided" s_WordRing_divided f fd) (T : Txt K mg cs) (d_divided_words : Def P w K mg base 2 "divided_words" ["n", "k"] (spDiv)) :
    FnOk P w K mg base CX0 3 f fd ["self", "a", "k"] (spDivided) := by
  obtain ⟨f0, fd0, G_divided_words, b_divided_words, g_divided_words, k_divided_words⟩ := d_divided_words.ex
  refine F.ok sc_WordRing_divided (fun vs H Q E h => ?_) (fun cdv A outer s H vs Q E hr h => ?_)
  · obtain ⟨x, a, k, rfl, hk, q⟩ := h
    rfl
  obtain ⟨x, a, k, rfl, hk, q⟩ := h
  have hu := hr.units
  refine ⟨_, pss_one (ps_ret (pe_call G_divided_words hr rfl g_divided_words k_divided_words b_divided_words .nil pass0 (pa_cons (pv 1) (pa_cons (pv 2) pa_nil)))), ?_⟩
  walk_at "go"
  exact ⟨hk, q⟩
theorem ok_WordRing_positive (F : Fun K "positive" "WordRing.positive" s_WordRing_positive f fd) (T : Txt K mg cs)  :
    FnOk P w K mg base CX0 1 f fd ["self", "a"] (spPositive) := by
  refine F.ok sc_WordRing_positive (fun vs H Q E h => ?_) (fun cdv A outer s H vs Q E hr h => ?_)
  · obtain ⟨x, a, rfl, q⟩ := h
    rfl
  obtain ⟨x, a, rfl, q⟩ := h
  have hu := hr.units
  refine ⟨_, pss_one (ps_ret (pe_cmpR op_gt (pv 1) pe_int (nomark _))), ?_⟩
  walk_at "go"
  exact q
theorem ok_DualRing_zero (F : Fun K "zero" "DualRing.zero" s_DualRing_zero f fd) (T : Txt K mg cs)  :
    FnOk P w K mg base CX0 1 f fd ["self"] (spDZero) := by
  refine F.ok sc_DualRing_zero (fun vs H Q E h => ?_) (fun cdv A outer s H vs Q E hr h => ?_)
  · obtain ⟨x, rfl, q⟩ := h
    rfl
  obtain ⟨x, rfl, q⟩ := h
  have hu := hr.units
  refine ⟨_, pss_one (ps_ret (pe_tup (pa_cons pe_int (pa_cons pe_int pa_nil)))), ?_⟩
  exact ⟨by show 2 ≤ sizeLine; decide, fun p np => q.to np⟩
theorem ok_DualRing_one (F : Fun K "one" "DualRing.one" s_DualRing_one f fd) (T : Txt K mg cs)  :
    FnOk P w K mg base CX0 1 f fd ["self"] (spDOne) := by
  refine F.ok sc_DualRing_one (fun vs H Q E h => ?_) (fun cdv A outer s H vs Q E hr h => ?_)
  · obtain ⟨x, rfl, q⟩ := h
    rfl
  obtain ⟨x, rfl, q⟩ := h
  have hu := hr.units
  refine ⟨_, pss_one (ps_ret (pe_tup (pa_cons pe_int (pa_cons pe_int pa_nil)))), ?_⟩
  exact ⟨by show 2 ≤ sizeLine; decide, fun p np => q.to np⟩
theorem ok_DualRing_still (F : Fun K "still" "DualRing.still" s_DualRing_still f fd) (T : Txt K mg cs)  :
    FnOk P w K mg base CX0 1 f fd ["self", "word"] (spDStill) := by
  refine F.ok sc_DualRing_still (fun vs H Q E h => ?_) (fun cdv A outer s H vs Q E hr h => ?_)
  · obtain ⟨x, a, rfl, q⟩ := h
    rfl
  obtain ⟨x, a, rfl, q⟩ := h
  have hu := hr.units
  refine ⟨_, pss_one (ps_ret (pe_tup (pa_cons (pv 1) (pa_cons pe_int pa_nil)))), ?_⟩
  exact ⟨_, rfl, by show 2 ≤ sizeLine; decide, fun p np => q.to np⟩
theorem ok_DualRing_plus (F : Fun K "plus" "DualRing.plus" s_DualRing_plus f fd) (T : Txt K mg cs) (d_wrap : Def P w K mg base 1 "wrap" ["n"] (spWrap)) :
    FnOk P w K mg base CX0 2 f fd ["self", "a", "b"] (spDPlus K) := by
  obtain ⟨f0, fd0, G_wrap, b_wrap, g_wrap, k_wrap⟩ := d_wrap.ex
  refine F.ok sc_DualRing_plus (fun vs H Q E h => ?_) (fun cdv A outer s H vs Q E hr h => ?_)
  · obtain ⟨x, a, b, m, n, i, j, rfl, ha, hb, q⟩ := h
    rfl
  obtain ⟨x, a, b, m, n, i, j, rfl, ha, hb, q⟩ := h
  have hu := hr.units
  refine ⟨_, pss_one (ps_ret (pe_tup (pa_cons (pe_call G_wrap hr rfl g_wrap k_wrap b_wrap .nil pass0 (pa_cons (pe_op op_add (pe_ix (ixt_at (K := K) rfl) (pv 1) pe_int (fun _ _ => rfl)) (pe_ix (ixt_at (K := K) rfl) (pv 2) pe_int (fun _ _ => rfl))) pa_nil)) (pa_cons (pe_call G_wrap hr rfl g_wrap k_wrap b_wrap .nil pass0 (pa_cons (pe_op op_add (pe_ix (ixt_at (K := K) rfl) (pv 1) pe_int (fun _ _ => rfl)) (pe_ix (ixt_at (K := K) rfl) (pv 2) pe_int (fun _ _ => rfl))) pa_nil)) pa_nil)))), ?_⟩
  refine ⟨_, rfl, a, _, _, _, rfl, rfl, ha, rfl, ?_⟩
  refine ⟨_, rfl, b, _, _, _, rfl, rfl, hb, rfl, ?_⟩
  walk_at "go"
  refine ⟨a, _, _, _, rfl, rfl, ha, rfl, ?_⟩
  refine ⟨_, rfl, b, _, _, _, rfl, rfl, hb, rfl, ?_⟩
  walk_at "go"
  exact ⟨by show 2 ≤ sizeLine; decide, fun p np => q.to np⟩
theorem ok_DualRing_minus (F : Fun K "minus" "DualRing.minus" s_DualRing_minus f fd) (T : Txt K mg cs) (d_wrap : Def P w K mg base 1 "wrap" ["n"] (spWrap)) :
    FnOk P w K mg base CX0 2 f fd ["self", "a", "b"] (spDMinus K) := by
  obtain ⟨f0, fd0, G_wrap, b_wrap, g_wrap, k_wrap⟩ := d_wrap.ex
  refine F.ok sc_DualRing_minus (fun vs H Q E h => ?_) (fun cdv A outer s H vs Q E hr h => ?_)
  · obtain ⟨x, a, b, m, n, i, j, rfl, ha, hb, q⟩ := h
    rfl
  obtain ⟨x, a, b, m, n, i, j, rfl, ha, hb, q⟩ := h
  have hu := hr.units
  refine ⟨_, pss_one (ps_ret (pe_tup (pa_cons (pe_call G_wrap hr rfl g_wrap k_wrap b_wrap .nil pass0 (pa_cons (pe_op op_sub (pe_ix (ixt_at (K := K) rfl) (pv 1) pe_int (fun _ _ => rfl)) (pe_ix (ixt_at (K := K) rfl) (pv 2) pe_int (fun _ _ => rfl))) pa_nil)) (pa_cons (pe_call G_wrap hr rfl g_wrap k_wrap b_wrap .nil pass0 (pa_cons (pe_op op_sub (pe_ix (ixt_at (K := K) rfl) (pv 1) pe_int (fun _ _ => rfl)) (pe_ix (ixt_at (K := K) rfl) (pv 2) pe_int (fun _ _ => rfl))) pa_nil)) pa_nil)))), ?_⟩
  refine ⟨_, rfl, a, _, _, _, rfl, rfl, ha, rfl, ?_⟩
  refine ⟨_, rfl, b, _, _, _, rfl, rfl, hb, rfl, ?_⟩
  walk_at "go"
  refine ⟨a, _, _, _, rfl, rfl, ha, rfl, ?_⟩
  refine ⟨_, rfl, b, _, _, _, rfl, rfl, hb, rfl, ?_⟩
  walk_at "go"
  exact ⟨by show 2 ≤ sizeLine; decide, fun p np => q.to np⟩
theorem ok_DualRing_times (F : Fun K "times" "DualRing.times" s_DualRing_times f fd) (T : Txt K mg cs) (d_wrap : Def P w K mg base 1 "wrap" ["n"] (spWrap)) :
    FnOk P w K mg base CX0 2 f fd ["self", "a", "b"] (spDTimes K) := by
  obtain ⟨f0, fd0, G_wrap, b_wrap, g_wrap, k_wrap⟩ := d_wrap.ex
  refine F.ok sc_DualRing_times (fun vs H Q E h => ?_) (fun cdv A outer s H vs Q E hr h => ?_)
  · obtain ⟨x, a, b, m, n, i, j, rfl, ha, hb, hm, hn, q⟩ := h
    rfl
  obtain ⟨x, a, b, m, n, i, j, rfl, ha, hb, hm, hn, q⟩ := h
  have hu := hr.units
  refine ⟨_, pss_one (ps_ret (pe_tup (pa_cons (pe_call G_wrap hr rfl g_wrap k_wrap b_wrap .nil pass0 (pa_cons (pe_op op_mul (pe_ix (ixt_at (K := K) rfl) (pv 1) pe_int (fun _ _ => rfl)) (pe_ix (ixt_at (K := K) rfl) (pv 2) pe_int (fun _ _ => rfl))) pa_nil)) (pa_cons (pe_call G_wrap hr rfl g_wrap k_wrap b_wrap .nil pass0 (pa_cons (pe_op op_add (pe_op op_mul (pe_ix (ixt_at (K := K) rfl) (pv 1) pe_int (fun _ _ => rfl)) (pe_ix (ixt_at (K := K) rfl) (pv 2) pe_int (fun _ _ => rfl))) (pe_op op_mul (pe_ix (ixt_at (K := K) rfl) (pv 1) pe_int (fun _ _ => rfl)) (pe_ix (ixt_at (K := K) rfl) (pv 2) pe_int (fun _ _ => rfl)))) pa_nil)) pa_nil)))), ?_⟩
  refine ⟨_, rfl, a, _, _, _, rfl, rfl, ha, rfl, ?_⟩
  refine ⟨_, rfl, b, _, _, _, rfl, rfl, hb, rfl, ?_⟩
  refine ⟨_, _, rfl, rfl, hm.mul, ?_⟩
  walk_at "go"
  refine ⟨a, _, _, _, rfl, rfl, ha, rfl, ?_⟩
  refine ⟨_, rfl, b, _, _, _, rfl, rfl, hb, rfl, ?_⟩
  refine ⟨_, _, rfl, rfl, hm.mul, ?_⟩
  refine ⟨_, rfl, a, _, _, _, rfl, rfl, ha, rfl, ?_⟩
  refine ⟨_, rfl, b, _, _, _, rfl, rfl, hb, rfl, ?_⟩
  refine ⟨_, _, rfl, rfl, hn.mul, ?_⟩
  walk_at "go"
  exact ⟨by show 2 ≤ sizeLine; decide, fun p np => q.to np⟩
theorem ok_DualRing_divided (F : Fun K "divided" "DualRing.divided" s_DualRing_divided f fd) (T : Txt K mg cs) (d_divided_words : Def P w K mg base 2 "divided_words" ["n", "k"] (spDiv)) :
    FnOk P w K mg base CX0 3 f fd ["self", "a", "k"] (spDDivided K) := by
  obtain ⟨f0, fd0, G_divided_words, b_divided_words, g_divided_words, k_divided_words⟩ := d_divided_words.ex
  refine F.ok sc_DualRing_divided (fun vs H Q E h => ?_) (fun cdv A outer s H vs Q E hr h => ?_)
  · obtain ⟨x, a, m, n, k, rfl, ha, hk, q⟩ := h
    rfl
  obtain ⟨x, a, m, n, k, rfl, ha, hk, q⟩ := h
  have hu := hr.units
  refine ⟨_, pss_one (ps_ret (pe_tup (pa_cons (pe_call G_divided_words hr rfl g_divided_words k_divided_words b_divided_words .nil pass0 (pa_cons (pe_ix (ixt_at (K := K) rfl) (pv 1) pe_int (fun _ _ => rfl)) (pa_cons (pv 2) pa_nil))) (pa_cons (pe_call G_divided_words hr rfl g_divided_words k_divided_words b_divided_words .nil pass0 (pa_cons (pe_ix (ixt_at (K := K) rfl) (pv 1) pe_int (fun _ _ => rfl)) (pa_cons (pv 2) pa_nil))) pa_nil)))), ?_⟩
  refine ⟨_, rfl, a, _, _, _, rfl, rfl, ha, rfl, ?_⟩
  walk_at "go"
  refine ⟨hk, ?_⟩
  refine ⟨_, rfl, a, _, _, _, rfl, rfl, ha, rfl, ?_⟩
  walk_at "go"
  refine ⟨hk, ?_⟩
  exact ⟨by show 2 ≤ sizeLine; decide, fun p np => q.to np⟩
theorem ok_DualRing_positive (F : Fun K "positive" "DualRing.positive" s_DualRing_positive f fd) (T : Txt K mg cs)  :
    FnOk P w K mg base CX0 1 f fd ["self", "a"] (spDPositive K) := by
  refine F.ok sc_DualRing_positive (fun vs H Q E h => ?_) (fun cdv A outer s H vs Q E hr h => ?_)
  · obtain ⟨x, a, m, n, rfl, ha, q⟩ := h
    rfl
  obtain ⟨x, a, m, n, rfl, ha, q⟩ := h
  have hu := hr.units
  refine ⟨_, pss_one (ps_ret (pe_cmpR op_gt (pe_ix (ixt_at (K := K) rfl) (pv 1) pe_int (fun _ _ => rfl)) pe_int (nomark _))), ?_⟩
  refine ⟨_, rfl, a, _, _, _, rfl, rfl, ha, rfl, ?_⟩
  walk_at "go"
  exact q

theorem ok__law_divided (F : Fun K "_law_divided" "_law_divided" s__law_divided f fd) (T : Txt K mg cs) (d__law_wrap : Def P w K mg base 1 "_law_wrap" ["n"] (spWrap)) :
    FnOk P w K mg base CX0 2 f fd ["a", "k"] (spLDiv) := by
  obtain ⟨f0, fd0, G__law_wrap, b__law_wrap, g__law_wrap, k__law_wrap⟩ := d__law_wrap.ex
  refine F.ok sc__law_divided (fun vs H Q E h => ?_) (fun cdv A outer s H vs Q E hr h => ?_)
  · obtain ⟨a, k, rfl, h0, h1, q⟩ := h
    rfl
  obtain ⟨a, k, rfl, h0, h1, q⟩ := h
  have hu := hr.units
  refine ⟨_, pss_cons (ps_if (pt_cmpR op_eq (pv 1) pe_int (nomark _)) (pss_one (ps_ret (pv 0))) pss_nil)
 (pss_one (ps_ret (pe_op op_shr (pe_call G__law_wrap hr rfl g__law_wrap k__law_wrap b__law_wrap .nil pass0 (pa_cons (pe_op op_add (pv 0) (pe_op op_shl pe_int (pe_op op_sub (pv 1) pe_int))) pa_nil)) (pv 1)))), ?_⟩
  walk_at "go"
  refine ite2 (fun c => ?_) (fun c => ?_)
  · have c' : V.int k = V.int 0 := of_decide_eq_true c
    cases c'
    exact ⟨_, rfl, q⟩
  · have k2 : ¬ k < 1 := by
      have z : ¬ V.int k = V.int 0 := fun e => c (decide_eq_true e)
      have z2 : k ≠ 0 := fun e => z (by rw [e])
      omega
    walk_at "go"
    refine ⟨⟨by omega, by omega, by decide⟩, ?_⟩
    walk_at "go"
    refine ⟨h0, ?_⟩
    have e : dv a k = wr (a + 1 * 2 ^ (k - 1).toNat) / 2 ^ k.toNat := if_neg k2
    rw [e] at q
    exact q
theorem ok__law_same_word (F : Fun K "_law_same_word" "_law_same_word" s__law_same_word f fd) (T : Txt K mg cs) (d__law_is_integer : Def P w K mg base 1 "_law_is_integer" ["told"] (spIsInt)) :
    FnOk P w K mg base CX0 2 f fd ["told", "due"] (spWordEq) := by
  obtain ⟨f0, fd0, G__law_is_integer, b__law_is_integer, g__law_is_integer, k__law_is_integer⟩ := d__law_is_integer.ex
  refine F.ok sc__law_same_word (fun vs H Q E h => ?_) (fun cdv A outer s H vs Q E hr h => ?_)
  · obtain ⟨a, rfl, q⟩ := h
    rfl
  obtain ⟨a, rfl, q⟩ := h
  have hu := hr.units
  refine ⟨_, pss_one (ps_ret (pe_and (pe_call G__law_is_integer hr rfl g__law_is_integer k__law_is_integer b__law_is_integer .nil pass0 (pa_cons (pv 0) pa_nil)) (pe_one (pe_cmpR op_eq (pv 0) (pv 1) (nomark _))))), ?_⟩
  walk_at "go"
  have e : decide (V.int a = V.int a) = true := decide_eq_true rfl
  show Q (.bl (decide (V.int a = V.int a))) H
  rw [e]
  exact q
theorem ok__law_same_pair (F : Fun K "_law_same_pair" "_law_same_pair" s__law_same_pair f fd) (T : Txt K mg cs) (d__law_is_integer : Def P w K mg base 1 "_law_is_integer" ["told"] (spIsInt)) :
    FnOk P w K mg base CX0 2 f fd ["told", "due"] (spPair) := by
  obtain ⟨f0, fd0, G__law_is_integer, b__law_is_integer, g__law_is_integer, k__law_is_integer⟩ := d__law_is_integer.ex
  refine F.ok sc__law_same_pair (fun vs H Q E h => ?_) (fun cdv A outer s H vs Q E hr h => ?_)
  · obtain ⟨a, b, m, n, rfl, ha, hb, q⟩ := h
    rfl
  obtain ⟨a, b, m, n, rfl, ha, hb, q⟩ := h
  have hu := hr.units
  refine ⟨_, pss_cons (ps_if (PW.pt (pw_or (pt_not (pt_val (pe_callB call_isi (by rfl) T.z_isinstance (by decide +kernel) (pa_cons (pv 0) (pa_cons (pe_bltn (v := .ty "tuple") rfl T.z_tuple PyProof.Rows.boot_tuple rfl) pa_nil))))) (pw_or1 (pt_cmpR op_ne (pe_callB (len_at (K := K) rfl) (by rfl) T.z_len PySem.boot_len (pa_cons (pv 0) pa_nil)) pe_int (nomark _))))) (pss_one (ps_ret pe_bl)) pss_nil)
 (pss_one (ps_ret (pe_and (pe_call G__law_is_integer hr rfl g__law_is_integer k__law_is_integer b__law_is_integer .nil pass0 (pa_cons (pe_ix (ixt_at (K := K) rfl) (pv 0) pe_int (fun _ _ => rfl)) pa_nil)) (pe_and (pe_call G__law_is_integer hr rfl g__law_is_integer k__law_is_integer b__law_is_integer .nil pass0 (pa_cons (pe_ix (ixt_at (K := K) rfl) (pv 0) pe_int (fun _ _ => rfl)) pa_nil)) (pe_one (pe_cmpR (op_eqD hu) (pv 0) (pv 1) (nomark _))))))), ?_⟩
  refine ⟨_, rfl, _, _, _, _, true, rfl, .ty _, .base (.tup ha), kit_ty (by decide +kernel), _, rfl, ?_⟩
  refine ⟨_, rfl, a, _, rfl, .inr (SqT.of ha), ?_⟩
  walk_at "go"
  refine ⟨a, _, _, _, rfl, rfl, SqT.of ha, rfl, _, rfl, _, rfl, ?_⟩
  refine ⟨_, rfl, a, _, _, _, rfl, rfl, SqT.of ha, rfl, _, rfl, _, rfl, ?_⟩
  refine ⟨_, rfl, _, rfl, ?_⟩
  exact eq_pair (SqT.of ha) (SqT.of hb) q
theorem ok__law_times (F : Fun K "_law_times" "_law_times" s__law_times f fd) (T : Txt K mg cs) (d__law_wrap : Def P w K mg base 1 "_law_wrap" ["n"] (spWrap)) :
    FnOk P w K mg base CX0 2 f fd ["a", "b"] (spLTimes K) := by
  obtain ⟨f0, fd0, G__law_wrap, b__law_wrap, g__law_wrap, k__law_wrap⟩ := d__law_wrap.ex
  refine F.ok sc__law_times (fun vs H Q E h => ?_) (fun cdv A outer s H vs Q E hr h => ?_)
  · obtain ⟨a, b, m, n, i, j, rfl, ha, hb, hm, hn, q⟩ := h
    rfl
  obtain ⟨a, b, m, n, i, j, rfl, ha, hb, hm, hn, q⟩ := h
  have hu := hr.units
  refine ⟨_, pss_one (ps_ret (pe_tup (pa_cons (pe_call G__law_wrap hr rfl g__law_wrap k__law_wrap b__law_wrap .nil pass0 (pa_cons (pe_op op_mul (pe_ix (ixt_at (K := K) rfl) (pv 0) pe_int (fun _ _ => rfl)) (pe_ix (ixt_at (K := K) rfl) (pv 1) pe_int (fun _ _ => rfl))) pa_nil)) (pa_cons (pe_call G__law_wrap hr rfl g__law_wrap k__law_wrap b__law_wrap .nil pass0 (pa_cons (pe_op op_add (pe_op op_mul (pe_ix (ixt_at (K := K) rfl) (pv 0) pe_int (fun _ _ => rfl)) (pe_ix (ixt_at (K := K) rfl) (pv 1) pe_int (fun _ _ => rfl))) (pe_op op_mul (pe_ix (ixt_at (K := K) rfl) (pv 0) pe_int (fun _ _ => rfl)) (pe_ix (ixt_at (K := K) rfl) (pv 1) pe_int (fun _ _ => rfl)))) pa_nil)) pa_nil)))), ?_⟩
  refine ⟨_, rfl, a, _, _, _, rfl, rfl, ha, rfl, ?_⟩
  refine ⟨_, rfl, b, _, _, _, rfl, rfl, hb, rfl, ?_⟩
  refine ⟨_, _, rfl, rfl, hm.mul, ?_⟩
  walk_at "go"
  refine ⟨a, _, _, _, rfl, rfl, ha, rfl, ?_⟩
  refine ⟨_, rfl, b, _, _, _, rfl, rfl, hb, rfl, ?_⟩
  refine ⟨_, _, rfl, rfl, hm.mul, ?_⟩
  refine ⟨_, rfl, a, _, _, _, rfl, rfl, ha, rfl, ?_⟩
  refine ⟨_, rfl, b, _, _, _, rfl, rfl, hb, rfl, ?_⟩
  refine ⟨_, _, rfl, rfl, hn.mul, ?_⟩
  walk_at "go"
  exact ⟨by show 2 ≤ sizeLine; decide, fun p np => q.to np⟩
theorem ok__law_words_ok (F : Fun K "_law_words_ok" "_law_words_ok" s__law_words_ok f fd) (T : Txt K mg cs) (d__law_same_word : Def P w K mg base 2 "_law_same_word" ["told", "due"] (spWordEq)) (d_WordRing_zero : MDef P w K mg base 1 cs.WordRing "zero" ["self"] (spZero)) (d_WordRing_one : MDef P w K mg base 1 cs.WordRing "one" ["self"] (spOne)) (d_WordRing_still : MDef P w K mg base 1 cs.WordRing "still" ["self", "word"] (spStill)) (d__law_wrap : Def P w K mg base 1 "_law_wrap" ["n"] (spWrap)) (d_WordRing_plus : MDef P w K mg base 2 cs.WordRing "plus" ["self", "a", "b"] (spPlus)) (d_WordRing_minus : MDef P w K mg base 2 cs.WordRing "minus" ["self", "a", "b"] (spMinus)) (d_WordRing_times : MDef P w K mg base 2 cs.WordRing "times" ["self", "a", "b"] (spTimes)) (d__law_divided : Def P w K mg base 2 "_law_divided" ["a", "k"] (spLDiv)) (d_WordRing_divided : MDef P w K mg base 3 cs.WordRing "divided" ["self", "a", "k"] (spDivided)) (d_WordRing_positive : MDef P w K mg base 1 cs.WordRing "positive" ["self", "a"] (spPositive)) :
    FnOk P w K mg base CX0 4 f fd ["ring", "a", "b", "k"] (spWordsOk cs) := by
  obtain ⟨f0, fd0, G__law_same_word, b__law_same_word, g__law_same_word, k__law_same_word⟩ := d__law_same_word.ex
  obtain ⟨f1, fd1, G_WordRing_zero, b_WordRing_zero, m_WordRing_zero⟩ := d_WordRing_zero.ex
  obtain ⟨f2, fd2, G_WordRing_one, b_WordRing_one, m_WordRing_one⟩ := d_WordRing_one.ex
  obtain ⟨f3, fd3, G_WordRing_still, b_WordRing_still, m_WordRing_still⟩ := d_WordRing_still.ex
  obtain ⟨f4, fd4, G__law_wrap, b__law_wrap, g__law_wrap, k__law_wrap⟩ := d__law_wrap.ex
  obtain ⟨f5, fd5, G_WordRing_plus, b_WordRing_plus, m_WordRing_plus⟩ := d_WordRing_plus.ex
  obtain ⟨f6, fd6, G_WordRing_minus, b_WordRing_minus, m_WordRing_minus⟩ := d_WordRing_minus.ex
  obtain ⟨f7, fd7, G_WordRing_times, b_WordRing_times, m_WordRing_times⟩ := d_WordRing_times.ex
  obtain ⟨f8, fd8, G__law_divided, b__law_divided, g__law_divided, k__law_divided⟩ := d__law_divided.ex
  obtain ⟨f9, fd9, G_WordRing_divided, b_WordRing_divided, m_WordRing_divided⟩ := d_WordRing_divided.ex
  obtain ⟨f10, fd10, G_WordRing_positive, b_WordRing_positive, m_WordRing_positive⟩ := d_WordRing_positive.ex
  refine F.ok sc__law_words_ok (fun vs H Q E h => ?_) (fun cdv A outer s H vs Q E hr h => ?_)
  · obtain ⟨p, dx, a, b, k, rfl, hp, ha, hb, h0, h1, q⟩ := h
    rfl
  obtain ⟨p, dx, a, b, k, rfl, hp, ha, hb, h0, h1, q⟩ := h
  have hu := hr.units
  refine ⟨_, pss_cons (ps_if (PW.pt (pw_or (pt_not (pt_val (pe_call G__law_same_word (hr.mono (by decide)) rfl g__law_same_word k__law_same_word b__law_same_word .nil pass0 (pa_cons (pe_meth0 (pv 0) T.C_WordRing m_WordRing_zero G_WordRing_zero (hr.mono (by decide)) b_WordRing_zero .nil pass0) (pa_cons pe_int pa_nil))))) (pw_or (pt_not (pt_val (pe_call G__law_same_word (hr.mono (by decide)) rfl g__law_same_word k__law_same_word b__law_same_word .nil pass0 (pa_cons (pe_meth0 (pv 0) T.C_WordRing m_WordRing_one G_WordRing_one (hr.mono (by decide)) b_WordRing_one .nil pass0) (pa_cons pe_int pa_nil))))) (pw_or1 (pt_not (pt_val (pe_call G__law_same_word (hr.mono (by decide)) rfl g__law_same_word k__law_same_word b__law_same_word .nil pass0 (pa_cons (pe_meth (pv 0) T.C_WordRing m_WordRing_still G_WordRing_still (hr.mono (by decide)) b_WordRing_still .nil pass0 (pa_cons (pv 1) pa_nil)) (pa_cons (pv 1) pa_nil))))))))) (pss_one (ps_ret pe_bl)) pss_nil)
 (pss_cons (ps_if (PW.pt (pw_or (pt_not (pt_val (pe_call G__law_same_word (hr.mono (by decide)) rfl g__law_same_word k__law_same_word b__law_same_word .nil pass0 (pa_cons (pe_meth (pv 0) T.C_WordRing m_WordRing_plus G_WordRing_plus (hr.mono (by decide)) b_WordRing_plus .nil pass0 (pa_cons (pv 1) (pa_cons (pv 2) pa_nil))) (pa_cons (pe_call G__law_wrap (hr.mono (by decide)) rfl g__law_wrap k__law_wrap b__law_wrap .nil pass0 (pa_cons (pe_op op_add (pv 1) (pv 2)) pa_nil)) pa_nil))))) (pw_or1 (pt_not (pt_val (pe_call G__law_same_word (hr.mono (by decide)) rfl g__law_same_word k__law_same_word b__law_same_word .nil pass0 (pa_cons (pe_meth (pv 0) T.C_WordRing m_WordRing_minus G_WordRing_minus (hr.mono (by decide)) b_WordRing_minus .nil pass0 (pa_cons (pv 1) (pa_cons (pv 2) pa_nil))) (pa_cons (pe_call G__law_wrap (hr.mono (by decide)) rfl g__law_wrap k__law_wrap b__law_wrap .nil pass0 (pa_cons (pe_op op_sub (pv 1) (pv 2)) pa_nil)) pa_nil)))))))) (pss_one (ps_ret pe_bl)) pss_nil)
 (pss_cons (ps_if (PW.pt (pw_or (pt_not (pt_val (pe_call G__law_same_word (hr.mono (by decide)) rfl g__law_same_word k__law_same_word b__law_same_word .nil pass0 (pa_cons (pe_meth (pv 0) T.C_WordRing m_WordRing_times G_WordRing_times (hr.mono (by decide)) b_WordRing_times .nil pass0 (pa_cons (pv 1) (pa_cons (pv 2) pa_nil))) (pa_cons (pe_call G__law_wrap (hr.mono (by decide)) rfl g__law_wrap k__law_wrap b__law_wrap .nil pass0 (pa_cons (pe_op op_mul (pv 1) (pv 2)) pa_nil)) pa_nil))))) (pw_or1 (pt_not (pt_val (pe_call G__law_same_word (hr.mono (by decide)) rfl g__law_same_word k__law_same_word b__law_same_word .nil pass0 (pa_cons (pe_meth (pv 0) T.C_WordRing m_WordRing_divided G_WordRing_divided hr b_WordRing_divided .nil pass0 (pa_cons (pv 1) (pa_cons (pv 3) pa_nil))) (pa_cons (pe_call G__law_divided (hr.mono (by decide)) rfl g__law_divided k__law_divided b__law_divided .nil pass0 (pa_cons (pv 1) (pa_cons (pv 3) pa_nil))) pa_nil)))))))) (pss_one (ps_ret pe_bl)) pss_nil)
 (pss_cons (ps_set (i := 4) sc__law_words_ok.nd rfl (.inl rfl) (pe_meth (pv 0) T.C_WordRing m_WordRing_positive G_WordRing_positive (hr.mono (by decide)) b_WordRing_positive .nil pass0 (pa_cons (pv 1) pa_nil)))
 (pss_one (ps_ret (pe_and (pe_callB call_isi (by rfl) T.z_isinstance (by decide +kernel) (pa_cons (pv 4) (pa_cons (pe_bltn (v := .ty "bool") rfl T.z_bool PyProof.Rows.boot_bool rfl) pa_nil))) (pe_one (pe_cmpR op_eq (pv 4) (pe_cmpR op_gt (pv 1) pe_int (nomark _)) (nomark _))))))))), ?_⟩
  refine ⟨_, rfl, p, dx, [], rfl, hp, rfl, ?_⟩
  walk_at "go"
  refine ⟨p, dx, [], rfl, hp, rfl, ?_⟩
  walk_at "go"
  refine ⟨p, dx, [], rfl, hp, rfl, ?_⟩
  walk_at "go"
  refine ⟨p, dx, [], rfl, hp, rfl, ?_⟩
  walk_at "go"
  refine ⟨p, dx, [], rfl, hp, rfl, ?_⟩
  walk_at "go"
  refine ⟨p, dx, [], rfl, hp, rfl, ?_⟩
  walk_at "go"
  refine ⟨ha, ?_⟩
  walk_at "go"
  refine ⟨ha.mul, ?_⟩
  walk_at "go"
  refine ⟨p, dx, [], rfl, hp, rfl, ?_⟩
  walk_at "go"
  refine ⟨h1, ?_⟩
  walk_at "go"
  refine ⟨h0, h1, ?_⟩
  walk_at "go"
  refine ⟨p, dx, [], rfl, hp, rfl, ?_⟩
  walk_at "go"
  refine ⟨_, _, _, _, true, rfl, .ty _, .base (.bl _), kit_ty (by decide +kernel), _, rfl, ?_⟩
  walk_at "go"
  have e : decide (V.bl (decide (0 < a)) = V.bl (decide (0 < a))) = true := decide_eq_true rfl
  show Q (.bl (decide (V.bl (decide (0 < a)) = V.bl (decide (0 < a))))) H
  rw [e]
  exact q
theorem ok_law (F : Fun K "law" "law" s_law f fd) (T : Txt K mg cs) (d__law_row : Def P w K mg base 2 "_law_row" ["script", "first", "last"] (spRow K)) (d__law_word : Def P w K mg base 2 "_law_word" ["box"] (spWord)) (d__law_draw : Def P w K mg base 1 "_law_draw" ["box", "many"] (spDraw)) (d__law_words_ok : Def P w K mg base 4 "_law_words_ok" ["ring", "a", "b", "k"] (spWordsOk cs)) (d__law_same_pair : Def P w K mg base 2 "_law_same_pair" ["told", "due"] (spPair)) (d_DualRing_zero : MDef P w K mg base 1 cs.DualRing "zero" ["self"] (spDZero)) (d_DualRing_one : MDef P w K mg base 1 cs.DualRing "one" ["self"] (spDOne)) (d_DualRing_still : MDef P w K mg base 1 cs.DualRing "still" ["self", "word"] (spDStill)) (d__law_times : Def P w K mg base 2 "_law_times" ["a", "b"] (spLTimes K)) (d_DualRing_times : MDef P w K mg base 2 cs.DualRing "times" ["self", "a", "b"] (spDTimes K)) (d__law_wrap : Def P w K mg base 1 "_law_wrap" ["n"] (spWrap)) (d_DualRing_plus : MDef P w K mg base 2 cs.DualRing "plus" ["self", "a", "b"] (spDPlus K)) (d_DualRing_minus : MDef P w K mg base 2 cs.DualRing "minus" ["self", "a", "b"] (spDMinus K)) (d__law_divided : Def P w K mg base 2 "_law_divided" ["a", "k"] (spLDiv)) (d_DualRing_divided : MDef P w K mg base 3 cs.DualRing "divided" ["self", "a", "k"] (spDDivided K)) (d_DualRing_positive : MDef P w K mg base 1 cs.DualRing "positive" ["self", "a"] (spDPositive K)) :
    FnOk P w K mg base CX0 5 f fd ["script"] (spLaw K) := by
  obtain ⟨f0, fd0, G__law_row, b__law_row, g__law_row, k__law_row⟩ := d__law_row.ex
  obtain ⟨f1, fd1, G__law_word, b__law_word, g__law_word, k__law_word⟩ := d__law_word.ex
  obtain ⟨f2, fd2, G__law_draw, b__law_draw, g__law_draw, k__law_draw⟩ := d__law_draw.ex
  obtain ⟨f3, fd3, G__law_words_ok, b__law_words_ok, g__law_words_ok, k__law_words_ok⟩ := d__law_words_ok.ex
  obtain ⟨f4, fd4, G__law_same_pair, b__law_same_pair, g__law_same_pair, k__law_same_pair⟩ := d__law_same_pair.ex
  obtain ⟨f5, fd5, G_DualRing_zero, b_DualRing_zero, m_DualRing_zero⟩ := d_DualRing_zero.ex
  obtain ⟨f6, fd6, G_DualRing_one, b_DualRing_one, m_DualRing_one⟩ := d_DualRing_one.ex
  obtain ⟨f7, fd7, G_DualRing_still, b_DualRing_still, m_DualRing_still⟩ := d_DualRing_still.ex
  obtain ⟨f8, fd8, G__law_times, b__law_times, g__law_times, k__law_times⟩ := d__law_times.ex
  obtain ⟨f9, fd9, G_DualRing_times, b_DualRing_times, m_DualRing_times⟩ := d_DualRing_times.ex
  obtain ⟨f10, fd10, G__law_wrap, b__law_wrap, g__law_wrap, k__law_wrap⟩ := d__law_wrap.ex
  obtain ⟨f11, fd11, G_DualRing_plus, b_DualRing_plus, m_DualRing_plus⟩ := d_DualRing_plus.ex
  obtain ⟨f12, fd12, G_DualRing_minus, b_DualRing_minus, m_DualRing_minus⟩ := d_DualRing_minus.ex
  obtain ⟨f13, fd13, G__law_divided, b__law_divided, g__law_divided, k__law_divided⟩ := d__law_divided.ex
  obtain ⟨f14, fd14, G_DualRing_divided, b_DualRing_divided, m_DualRing_divided⟩ := d_DualRing_divided.ex
  obtain ⟨f15, fd15, G_DualRing_positive, b_DualRing_positive, m_DualRing_positive⟩ := d_DualRing_positive.ex
  refine F.ok sc_law (fun vs H Q E h => ?_) (fun cdv A outer s H vs Q E hr h => ?_)
  · obtain ⟨a, ns, rfl, hS, h63, q⟩ := h
    rfl
  obtain ⟨a, ns, rfl, hS, h63, q⟩ := h
  have hu := hr.units
  refine ⟨_, pss_cons (ps_set (i := 1) sc_law.nd rfl (.inl rfl) (pe_lst (pa_cons (pe_call G__law_row (hr.mono (by decide)) rfl g__law_row k__law_row b__law_row .nil pass0 (pa_cons (pv 0) (pa_cons pe_int (pa_cons pe_int pa_nil)))) (pa_cons pe_int pa_nil))))
 (pss_cons (ps_for PassesOwn.never rfl (pi_range1 rfl T.z_range (pa_cons pe_int pa_nil)) (pg_name (i := 2) sc_law.nd rfl (.inl rfl)) (pss_cons (ps_set (i := 3) sc_law.nd rfl (.inl rfl) (pe_tup (pa_cons (pe_call G__law_word (hr.mono (by decide)) rfl g__law_word k__law_word b__law_word .nil pass0 (pa_cons (pv 1) pa_nil)) (pa_cons (pe_call G__law_word (hr.mono (by decide)) rfl g__law_word k__law_word b__law_word .nil pass0 (pa_cons (pv 1) pa_nil)) pa_nil))))
 (pss_cons (ps_set (i := 4) sc_law.nd rfl (.inl rfl) (pe_tup (pa_cons (pe_call G__law_word (hr.mono (by decide)) rfl g__law_word k__law_word b__law_word .nil pass0 (pa_cons (pv 1) pa_nil)) (pa_cons (pe_call G__law_word (hr.mono (by decide)) rfl g__law_word k__law_word b__law_word .nil pass0 (pa_cons (pv 1) pa_nil)) pa_nil))))
 (pss_cons (ps_set (i := 5) sc_law.nd rfl (.inl rfl) (pe_tup (pa_cons (pe_call G__law_word (hr.mono (by decide)) rfl g__law_word k__law_word b__law_word .nil pass0 (pa_cons (pv 1) pa_nil)) (pa_cons (pe_call G__law_word (hr.mono (by decide)) rfl g__law_word k__law_word b__law_word .nil pass0 (pa_cons (pv 1) pa_nil)) pa_nil))))
 (pss_cons (ps_set (i := 6) sc_law.nd rfl (.inl rfl) (pe_op op_mod (pe_callTy call_int1 (by rfl) T.z_int PyProof.Rows.boot_int (pa_cons (pe_call G__law_draw (hr.mono (by decide)) rfl g__law_draw k__law_draw b__law_draw .nil pass0 (pa_cons (pv 1) (pa_cons pe_int pa_nil))) pa_nil)) pe_int))
 (pss_cons (ps_if (pt_not (pt_val (pe_call G__law_words_ok hr rfl g__law_words_ok k__law_words_ok b__law_words_ok .nil pass0 (pa_cons (pe_bare T.mk_WordRing rfl T.c_WordRing) (pa_cons (pe_ix (ixt_at (K := K) rfl) (pv 3) pe_int (fun _ _ => rfl)) (pa_cons (pe_ix (ixt_at (K := K) rfl) (pv 4) pe_int (fun _ _ => rfl)) (pa_cons (pv 6) pa_nil))))))) (pss_one (ps_ret pe_bl)) pss_nil)
 (pss_cons (ps_set (i := 7) sc_law.nd rfl (.inl rfl) (pe_bare T.mk_DualRing rfl T.c_DualRing))
 (pss_cons (ps_if (PW.pt (pw_or (pt_not (pt_val (pe_call G__law_same_pair (hr.mono (by decide)) rfl g__law_same_pair k__law_same_pair b__law_same_pair .nil pass0 (pa_cons (pe_meth0 (pv 7) T.C_DualRing m_DualRing_zero G_DualRing_zero (hr.mono (by decide)) b_DualRing_zero .nil pass0) (pa_cons (pe_tup (pa_cons pe_int (pa_cons pe_int pa_nil))) pa_nil))))) (pw_or1 (pt_not (pt_val (pe_call G__law_same_pair (hr.mono (by decide)) rfl g__law_same_pair k__law_same_pair b__law_same_pair .nil pass0 (pa_cons (pe_meth0 (pv 7) T.C_DualRing m_DualRing_one G_DualRing_one (hr.mono (by decide)) b_DualRing_one .nil pass0) (pa_cons (pe_tup (pa_cons pe_int (pa_cons pe_int pa_nil))) pa_nil)))))))) (pss_one (ps_ret pe_bl)) pss_nil)
 (pss_cons (ps_if (PW.pt (pw_or (pt_not (pt_val (pe_call G__law_same_pair (hr.mono (by decide)) rfl g__law_same_pair k__law_same_pair b__law_same_pair .nil pass0 (pa_cons (pe_meth (pv 7) T.C_DualRing m_DualRing_still G_DualRing_still (hr.mono (by decide)) b_DualRing_still .nil pass0 (pa_cons (pe_ix (ixt_at (K := K) rfl) (pv 3) pe_int (fun _ _ => rfl)) pa_nil)) (pa_cons (pe_tup (pa_cons (pe_ix (ixt_at (K := K) rfl) (pv 3) pe_int (fun _ _ => rfl)) (pa_cons pe_int pa_nil))) pa_nil))))) (pw_or1 (pt_not (pt_val (pe_call G__law_same_pair (hr.mono (by decide)) rfl g__law_same_pair k__law_same_pair b__law_same_pair .nil pass0 (pa_cons (pe_meth (pv 7) T.C_DualRing m_DualRing_times G_DualRing_times (hr.mono (by decide)) b_DualRing_times .nil pass0 (pa_cons (pv 3) (pa_cons (pv 4) pa_nil))) (pa_cons (pe_call G__law_times (hr.mono (by decide)) rfl g__law_times k__law_times b__law_times .nil pass0 (pa_cons (pv 3) (pa_cons (pv 4) pa_nil))) pa_nil)))))))) (pss_one (ps_ret pe_bl)) pss_nil)
 (pss_cons (ps_if (pt_not (pt_val (pe_call G__law_same_pair (hr.mono (by decide)) rfl g__law_same_pair k__law_same_pair b__law_same_pair .nil pass0 (pa_cons (pe_meth (pv 7) T.C_DualRing m_DualRing_plus G_DualRing_plus (hr.mono (by decide)) b_DualRing_plus .nil pass0 (pa_cons (pv 3) (pa_cons (pv 4) pa_nil))) (pa_cons (pe_tup (pa_cons (pe_call G__law_wrap (hr.mono (by decide)) rfl g__law_wrap k__law_wrap b__law_wrap .nil pass0 (pa_cons (pe_op op_add (pe_ix (ixt_at (K := K) rfl) (pv 3) pe_int (fun _ _ => rfl)) (pe_ix (ixt_at (K := K) rfl) (pv 4) pe_int (fun _ _ => rfl))) pa_nil)) (pa_cons (pe_call G__law_wrap (hr.mono (by decide)) rfl g__law_wrap k__law_wrap b__law_wrap .nil pass0 (pa_cons (pe_op op_add (pe_ix (ixt_at (K := K) rfl) (pv 3) pe_int (fun _ _ => rfl)) (pe_ix (ixt_at (K := K) rfl) (pv 4) pe_int (fun _ _ => rfl))) pa_nil)) pa_nil))) pa_nil))))) (pss_one (ps_ret pe_bl)) pss_nil)
 (pss_cons (ps_if (pt_not (pt_val (pe_call G__law_same_pair (hr.mono (by decide)) rfl g__law_same_pair k__law_same_pair b__law_same_pair .nil pass0 (pa_cons (pe_meth (pv 7) T.C_DualRing m_DualRing_minus G_DualRing_minus (hr.mono (by decide)) b_DualRing_minus .nil pass0 (pa_cons (pv 3) (pa_cons (pv 4) pa_nil))) (pa_cons (pe_tup (pa_cons (pe_call G__law_wrap (hr.mono (by decide)) rfl g__law_wrap k__law_wrap b__law_wrap .nil pass0 (pa_cons (pe_op op_sub (pe_ix (ixt_at (K := K) rfl) (pv 3) pe_int (fun _ _ => rfl)) (pe_ix (ixt_at (K := K) rfl) (pv 4) pe_int (fun _ _ => rfl))) pa_nil)) (pa_cons (pe_call G__law_wrap (hr.mono (by decide)) rfl g__law_wrap k__law_wrap b__law_wrap .nil pass0 (pa_cons (pe_op op_sub (pe_ix (ixt_at (K := K) rfl) (pv 3) pe_int (fun _ _ => rfl)) (pe_ix (ixt_at (K := K) rfl) (pv 4) pe_int (fun _ _ => rfl))) pa_nil)) pa_nil))) pa_nil))))) (pss_one (ps_ret pe_bl)) pss_nil)
 (pss_cons (ps_if (pt_not (pt_val (pe_call G__law_same_pair (hr.mono (by decide)) rfl g__law_same_pair k__law_same_pair b__law_same_pair .nil pass0 (pa_cons (pe_meth (pv 7) T.C_DualRing m_DualRing_divided G_DualRing_divided (hr.mono (by decide)) b_DualRing_divided .nil pass0 (pa_cons (pv 3) (pa_cons (pv 6) pa_nil))) (pa_cons (pe_tup (pa_cons (pe_call G__law_divided (hr.mono (by decide)) rfl g__law_divided k__law_divided b__law_divided .nil pass0 (pa_cons (pe_ix (ixt_at (K := K) rfl) (pv 3) pe_int (fun _ _ => rfl)) (pa_cons (pv 6) pa_nil))) (pa_cons (pe_call G__law_divided (hr.mono (by decide)) rfl g__law_divided k__law_divided b__law_divided .nil pass0 (pa_cons (pe_ix (ixt_at (K := K) rfl) (pv 3) pe_int (fun _ _ => rfl)) (pa_cons (pv 6) pa_nil))) pa_nil))) pa_nil))))) (pss_one (ps_ret pe_bl)) pss_nil)
 (pss_cons (ps_set (i := 8) sc_law.nd rfl (.inl rfl) (pe_meth (pv 7) T.C_DualRing m_DualRing_positive G_DualRing_positive (hr.mono (by decide)) b_DualRing_positive .nil pass0 (pa_cons (pv 3) pa_nil)))
 (pss_cons (ps_if (PW.pt (pw_or (pt_not (pt_val (pe_callB call_isi (by rfl) T.z_isinstance (by decide +kernel) (pa_cons (pv 8) (pa_cons (pe_bltn (v := .ty "bool") rfl T.z_bool PyProof.Rows.boot_bool rfl) pa_nil))))) (pw_or1 (pt_cmpR op_ne (pv 8) (pe_cmpR op_gt (pe_ix (ixt_at (K := K) rfl) (pv 3) pe_int (fun _ _ => rfl)) pe_int (nomark _)) (nomark _))))) (pss_one (ps_ret pe_bl)) pss_nil)
 (pss_cons (ps_set (i := 9) sc_law.nd rfl (.inl rfl) (pe_meth (pv 7) T.C_DualRing m_DualRing_plus G_DualRing_plus (hr.mono (by decide)) b_DualRing_plus .nil pass0 (pa_cons (pe_meth (pv 7) T.C_DualRing m_DualRing_times G_DualRing_times (hr.mono (by decide)) b_DualRing_times .nil pass0 (pa_cons (pv 3) (pa_cons (pv 4) pa_nil))) (pa_cons (pe_meth (pv 7) T.C_DualRing m_DualRing_times G_DualRing_times (hr.mono (by decide)) b_DualRing_times .nil pass0 (pa_cons (pv 3) (pa_cons (pv 5) pa_nil))) pa_nil))))
 (pss_one (ps_if (PW.pt (pw_or (pt_not (pt_val (pe_call G__law_same_pair (hr.mono (by decide)) rfl g__law_same_pair k__law_same_pair b__law_same_pair .nil pass0 (pa_cons (pe_meth (pv 7) T.C_DualRing m_DualRing_times G_DualRing_times (hr.mono (by decide)) b_DualRing_times .nil pass0 (pa_cons (pv 3) (pa_cons (pe_meth (pv 7) T.C_DualRing m_DualRing_plus G_DualRing_plus (hr.mono (by decide)) b_DualRing_plus .nil pass0 (pa_cons (pv 4) (pa_cons (pv 5) pa_nil))) pa_nil))) (pa_cons (pv 9) pa_nil))))) (pw_or1 (pt_cmpR (op_neD hu) (pe_meth (pv 7) T.C_DualRing m_DualRing_times G_DualRing_times (hr.mono (by decide)) b_DualRing_times .nil pass0 (pa_cons (pe_meth (pv 7) T.C_DualRing m_DualRing_times G_DualRing_times (hr.mono (by decide)) b_DualRing_times .nil pass0 (pa_cons (pv 3) (pa_cons (pv 4) pa_nil))) (pa_cons (pv 5) pa_nil))) (pe_meth (pv 7) T.C_DualRing m_DualRing_times G_DualRing_times (hr.mono (by decide)) b_DualRing_times .nil pass0 (pa_cons (pv 3) (pa_cons (pe_meth (pv 7) T.C_DualRing m_DualRing_times G_DualRing_times (hr.mono (by decide)) b_DualRing_times .nil pass0 (pa_cons (pv 4) (pa_cons (pv 5) pa_nil))) pa_nil))) (nomark _))))) (pss_one (ps_ret pe_bl)) pss_nil)))))))))))))))))
 (pss_one (ps_ret pe_bl))), ?_⟩
  -- box = [_law_row(script, 0, 8), 0]
  refine ⟨_, rfl, a, ns, 0, 8, rfl, hS, by decide, by decide, by decide, fun r rs H1 nr sm hr1 => ?_⟩
  refine ⟨by show 2 ≤ sizeLine; decide, fun bx nb => ?_⟩
  have B0 : Box (upd H1 bx (.lst [.ref r, .int 0])) bx r rs := ⟨⟨0, by decide, upd_same⟩, same_new nb _ _ _ hr1⟩
  generalize upd H1 bx (.lst [.ref r, .int 0]) = H2 at *
  refine ⟨4, rfl, by decide, by decide, ?_⟩
  refine for_range (fun (t : Nat) σ H' => ∃ (y2 y3 y4 y5 y6 y7 y8 y9 : Option V), σ = [some (.ref a), some (.ref bx), y2, y3, y4, y5, y6, y7, y8, y9] ∧ Box H' bx r rs) ⟨none, none, none, none, none, none, none, none, rfl, B0⟩ (fun t σ H' ht hP => ?_) (fun σ H' hP => ?_)
  · obtain ⟨y2, y3, y4, y5, y6, y7, y8, y9, rfl, B1⟩ := hP
    -- a, b, c
    refine ⟨_, rfl, bx, r, rs, rfl, B1, fun a0 H3 l1 l2 B3 e3 => ?_⟩
    refine ⟨_, rfl, bx, r, rs, rfl, B3, fun a1 H4 l3 l4 B4 e4 => ?_⟩
    refine ⟨by show 2 ≤ sizeLine; decide, fun ta nta => ?_⟩
    have B5 := B4.same (same_new nta (.tup [.int a0, .int a1]))
    have A5 : (upd H4 ta (.tup [.int a0, .int a1])) ta = some (.tup [.int a0, .int a1]) := upd_same
    generalize upd H4 ta (.tup [.int a0, .int a1]) = H5 at *
    refine ⟨_, rfl, bx, r, rs, rfl, B5, fun b0 H6 l5 l6 B6 e6 => ?_⟩
    have A6 := e6 _ _ (B5.farT A5) A5
    refine ⟨_, rfl, bx, r, rs, rfl, B6, fun b1 H7 l7 l8 B7 e7 => ?_⟩
    have A7 := e7 _ _ (B6.farT A6) A6
    refine ⟨by show 2 ≤ sizeLine; decide, fun tb ntb => ?_⟩
    have B8 := B7.same (same_new ntb (.tup [.int b0, .int b1]))
    have A8 := same_new ntb (.tup [.int b0, .int b1]) _ _ A7
    have D8 : (upd H7 tb (.tup [.int b0, .int b1])) tb = some (.tup [.int b0, .int b1]) := upd_same
    generalize upd H7 tb (.tup [.int b0, .int b1]) = H8 at *
    refine ⟨_, rfl, bx, r, rs, rfl, B8, fun c0 H9 l9 l10 B9 e9 => ?_⟩
    have A9 := e9 _ _ (B8.farT A8) A8
    have D9 := e9 _ _ (B8.farT D8) D8
    refine ⟨_, rfl, bx, r, rs, rfl, B9, fun c1 H10 l11 l12 B10 e10 => ?_⟩
    have A10 := e10 _ _ (B9.farT A9) A9
    have D10 := e10 _ _ (B9.farT D9) D9
    refine ⟨by show 2 ≤ sizeLine; decide, fun tc ntc => ?_⟩
    have B11 := B10.same (same_new ntc (.tup [.int c0, .int c1]))
    have A11 := same_new ntc (.tup [.int c0, .int c1]) _ _ A10
    have D11 := same_new ntc (.tup [.int c0, .int c1]) _ _ D10
    have C11 : (upd H10 tc (.tup [.int c0, .int c1])) tc = some (.tup [.int c0, .int c1]) := upd_same
    generalize upd H10 tc (.tup [.int c0, .int c1]) = H11 at *
    -- k
    refine ⟨_, rfl, bx, r, rs, 840, rfl, B11, by decide, fun n H12 n0 n1 B12 e12 => ?_⟩
    have W12 : Abc H12 bx r rs ta tb tc a0 a1 b0 b1 c0 c1 := ⟨B12, e12 _ _ (B11.farT A11) A11, e12 _ _ (B11.farT D11) D11, e12 _ _ (B11.farT C11) C11⟩
    have k0 : 0 ≤ n % 32 := by omega
    have k1 : n % 32 ≤ 31 := by omega
    refine .inl ⟨n, rfl, n, 32, rfl, rfl, (by decide : (0 : Int) < 32), ?_⟩
    dsimp only
    generalize n % 32 = k at k0 k1 ⊢
    have wa0 : isW a0 := ⟨l1, l2⟩
    have wa1 : isW a1 := ⟨l3, l4⟩
    have wb0 : isW b0 := ⟨l5, l6⟩
    have wb1 : isW b1 := ⟨l7, l8⟩
    -- _law_words_ok(WordRing(), a[0], b[0], k)
    refine fun x dx nx ndx ne => ?_
    have W13 := W12.same (same_bare (C := cs.WordRing) nx ndx)
    have X13 : (upd (upd H12 dx (.own x)) x (.ins cs.WordRing dx [])) x = some (.ins cs.WordRing dx []) := upd_same
    generalize upd (upd H12 dx (.own x)) x (.ins cs.WordRing dx []) = H13 at *
    refine ⟨_, rfl, ta, _, _, _, rfl, rfl, SqT.of W13.a, rfl, ?_⟩
    refine ⟨_, rfl, tb, _, _, _, rfl, rfl, SqT.of W13.b, rfl, ?_⟩
    refine ⟨_, rfl, x, dx, a0, b0, k, rfl, X13, wa0, wb0, k0, k1, ?_⟩
    walk_at "go"
    refine iteF ?_
    -- ring = DualRing()
    refine fun g dg ng ndg neg => ?_
    have W14 := W13.same (same_bare (C := cs.DualRing) ng ndg)
    have X14 : (upd (upd H13 dg (.own g)) g (.ins cs.DualRing dg [])) g = some (.ins cs.DualRing dg []) := upd_same
    generalize upd (upd H13 dg (.own g)) g (.ins cs.DualRing dg []) = H14 at *
    refine ⟨_, rfl, g, dg, [], rfl, X14, rfl, _, rfl, fun p15 H15 np15 e15 hp15 => ?_⟩
    have W15 := W14.same e15
    have X15 := e15 _ _ X14
    refine ⟨by show 2 ≤ sizeLine; decide, fun p16 np16 => ?_⟩
    have e16 := same_new np16 (.tup [.int (0), .int (0)])
    have hp16 : (upd H15 p16 (.tup [.int (0), .int (0)])) p16 = some (.tup [.int (0), .int (0)]) := upd_same
    generalize upd H15 p16 (.tup [.int (0), .int (0)]) = H16 at *
    have W16 := W15.same e16
    have X16 := e16 _ _ X15
    refine ⟨p15, p16, 0, 0, rfl, e16 _ _ hp15, hp16, ?_⟩
    walk_at "go"
    try refine iteF ?_
    refine ⟨g, dg, [], rfl, X16, rfl, _, rfl, fun p17 H17 np17 e17 hp17 => ?_⟩
    have W17 := W16.same e17
    have X17 := e17 _ _ X16
    refine ⟨by show 2 ≤ sizeLine; decide, fun p18 np18 => ?_⟩
    have e18 := same_new np18 (.tup [.int (1), .int (0)])
    have hp18 : (upd H17 p18 (.tup [.int (1), .int (0)])) p18 = some (.tup [.int (1), .int (0)]) := upd_same
    generalize upd H17 p18 (.tup [.int (1), .int (0)]) = H18 at *
    have W18 := W17.same e18
    have X18 := e18 _ _ X17
    refine ⟨p17, p18, 1, 0, rfl, e18 _ _ hp17, hp18, ?_⟩
    walk_at "go"
    try refine iteF ?_
    refine ⟨g, dg, [], rfl, X18, rfl, _, rfl, ta, _, _, _, rfl, rfl, SqT.of W18.a, rfl, _, _, rfl, fun p19 H19 np19 e19 hp19 => ?_⟩
    have W19 := W18.same e19
    have X19 := e19 _ _ X18
    refine ⟨_, rfl, ta, _, _, _, rfl, rfl, SqT.of W19.a, rfl, by show 2 ≤ sizeLine; decide, fun p20 np20 => ?_⟩
    have e20 := same_new np20 (.tup [.int (a0), .int (0)])
    have hp20 : (upd H19 p20 (.tup [.int (a0), .int (0)])) p20 = some (.tup [.int (a0), .int (0)]) := upd_same
    generalize upd H19 p20 (.tup [.int (a0), .int (0)]) = H20 at *
    have W20 := W19.same e20
    have X20 := e20 _ _ X19
    refine ⟨p19, p20, a0, 0, rfl, e20 _ _ hp19, hp20, ?_⟩
    walk_at "go"
    try refine iteF ?_
    refine ⟨g, dg, [], rfl, X20, rfl, _, rfl, _, rfl, _, ta, tb, a0, a1, b0, b1, rfl, SqT.of W20.a, SqT.of W20.b, wa0, wa1, fun p21 H21 np21 e21 hp21 => ?_⟩
    have W21 := W20.same e21
    have X21 := e21 _ _ X20
    refine ⟨_, rfl, _, rfl, ta, tb, a0, a1, b0, b1, rfl, SqT.of W21.a, SqT.of W21.b, wa0, wa1, fun p22 H22 np22 e22 hp22 => ?_⟩
    have W22 := W21.same e22
    have X22 := e22 _ _ X21
    refine ⟨p21, p22, wr (a0 * b0), wr (a0 * b1 + a1 * b0), rfl, e22 _ _ hp21, hp22, ?_⟩
    walk_at "go"
    try refine iteF ?_
    refine ⟨g, dg, [], rfl, X22, rfl, _, rfl, _, rfl, _, ta, tb, a0, a1, b0, b1, rfl, SqT.of W22.a, SqT.of W22.b, fun p23 H23 np23 e23 hp23 => ?_⟩
    have W23 := W22.same e23
    have X23 := e23 _ _ X22
    refine ⟨_, rfl, ta, _, _, _, rfl, rfl, SqT.of W23.a, rfl, _, rfl, tb, _, _, _, rfl, rfl, SqT.of W23.b, rfl, _, _, rfl, rfl, _, rfl, _, rfl, ta, _, _, _, rfl, rfl, SqT.of W23.a, rfl, _, rfl, tb, _, _, _, rfl, rfl, SqT.of W23.b, rfl, _, _, rfl, rfl, _, rfl, by show 2 ≤ sizeLine; decide, fun p24 np24 => ?_⟩
    have e24 := same_new np24 (.tup [.int (wr (a0 + b0)), .int (wr (a1 + b1))])
    have hp24 : (upd H23 p24 (.tup [.int (wr (a0 + b0)), .int (wr (a1 + b1))])) p24 = some (.tup [.int (wr (a0 + b0)), .int (wr (a1 + b1))]) := upd_same
    generalize upd H23 p24 (.tup [.int (wr (a0 + b0)), .int (wr (a1 + b1))]) = H24 at *
    have W24 := W23.same e24
    have X24 := e24 _ _ X23
    refine ⟨p23, p24, wr (a0 + b0), wr (a1 + b1), rfl, e24 _ _ hp23, hp24, ?_⟩
    walk_at "go"
    try refine iteF ?_
    refine ⟨g, dg, [], rfl, X24, rfl, _, rfl, _, rfl, _, ta, tb, a0, a1, b0, b1, rfl, SqT.of W24.a, SqT.of W24.b, fun p25 H25 np25 e25 hp25 => ?_⟩
    have W25 := W24.same e25
    have X25 := e25 _ _ X24
    refine ⟨_, rfl, ta, _, _, _, rfl, rfl, SqT.of W25.a, rfl, _, rfl, tb, _, _, _, rfl, rfl, SqT.of W25.b, rfl, _, _, rfl, rfl, _, rfl, _, rfl, ta, _, _, _, rfl, rfl, SqT.of W25.a, rfl, _, rfl, tb, _, _, _, rfl, rfl, SqT.of W25.b, rfl, _, _, rfl, rfl, _, rfl, by show 2 ≤ sizeLine; decide, fun p26 np26 => ?_⟩
    have e26 := same_new np26 (.tup [.int (wr (a0 - b0)), .int (wr (a1 - b1))])
    have hp26 : (upd H25 p26 (.tup [.int (wr (a0 - b0)), .int (wr (a1 - b1))])) p26 = some (.tup [.int (wr (a0 - b0)), .int (wr (a1 - b1))]) := upd_same
    generalize upd H25 p26 (.tup [.int (wr (a0 - b0)), .int (wr (a1 - b1))]) = H26 at *
    have W26 := W25.same e26
    have X26 := e26 _ _ X25
    refine ⟨p25, p26, wr (a0 - b0), wr (a1 - b1), rfl, e26 _ _ hp25, hp26, ?_⟩
    walk_at "go"
    try refine iteF ?_
    refine ⟨g, dg, [], rfl, X26, rfl, _, rfl, _, rfl, _, ta, a0, a1, k, rfl, SqT.of W26.a, k1, fun p27 H27 np27 e27 hp27 => ?_⟩
    have W27 := W26.same e27
    have X27 := e27 _ _ X26
    refine ⟨_, rfl, ta, _, _, _, rfl, rfl, SqT.of W27.a, rfl, _, rfl, _, _, rfl, k0, k1, _, rfl, ta, _, _, _, rfl, rfl, SqT.of W27.a, rfl, _, rfl, _, _, rfl, k0, k1, by show 2 ≤ sizeLine; decide, fun p28 np28 => ?_⟩
    have e28 := same_new np28 (.tup [.int (dv a0 k), .int (dv a1 k)])
    have hp28 : (upd H27 p28 (.tup [.int (dv a0 k), .int (dv a1 k)])) p28 = some (.tup [.int (dv a0 k), .int (dv a1 k)]) := upd_same
    generalize upd H27 p28 (.tup [.int (dv a0 k), .int (dv a1 k)]) = H28 at *
    have W28 := W27.same e28
    have X28 := e28 _ _ X27
    refine ⟨p27, p28, dv a0 k, dv a1 k, rfl, e28 _ _ hp27, hp28, ?_⟩
    walk_at "go"
    try refine iteF ?_
    refine ⟨g, dg, [], rfl, X28, rfl, _, rfl, _, ta, a0, a1, rfl, SqT.of W28.a, ?_⟩
    walk_at "go"
    refine ⟨_, _, _, _, true, rfl, .ty _, .base (.bl _), kit_ty (by decide +kernel), _, rfl, ?_⟩
    walk_at "go"
    refine ⟨ta, _, _, _, rfl, rfl, SqT.of W28.a, rfl, ?_⟩
    walk_at "go"
    refine iteNS rfl ?_
    refine ⟨_, rfl, g, dg, [], rfl, X28, rfl, _, rfl, g, dg, [], rfl, X28, rfl, _, rfl, _, rfl, _, ta, tb, a0, a1, b0, b1, rfl, SqT.of W28.a, SqT.of W28.b, wa0, wa1, fun p29 H29 np29 e29 hp29 => ?_⟩
    have W29 := W28.same e29
    have X29 := e29 _ _ X28
    refine ⟨_, rfl, g, dg, [], rfl, X29, rfl, _, rfl, _, rfl, _, ta, tc, a0, a1, c0, c1, rfl, SqT.of W29.a, SqT.of W29.c, wa0, wa1, fun p30 H30 np30 e30 hp30 => ?_⟩
    have W30 := W29.same e30
    have X30 := e30 _ _ X29
    refine ⟨_, p29, p30, _, _, _, _, rfl, SqT.of (e30 _ _ hp29), SqT.of hp30, fun p31 H31 np31 e31 hp31 => ?_⟩
    have W31 := W30.same e31
    have X31 := e31 _ _ X30
    refine ⟨_, rfl, g, dg, [], rfl, X31, rfl, _, rfl, _, rfl, g, dg, [], rfl, X31, rfl, _, rfl, _, rfl, _, tb, tc, b0, b1, c0, c1, rfl, SqT.of W31.b, SqT.of W31.c, fun p32 H32 np32 e32 hp32 => ?_⟩
    have W32 := W31.same e32
    have X32 := e32 _ _ X31
    refine ⟨_, ta, p32, a0, a1, _, _, rfl, SqT.of W32.a, SqT.of hp32, wa0, wa1, fun p33 H33 np33 e33 hp33 => ?_⟩
    have W33 := W32.same e33
    have X33 := e33 _ _ X32
    have one33 : H33 p31 = some (.tup [.int (wr (a0 * wr (b0 + c0))), .int (wr (a0 * wr (b1 + c1) + a1 * wr (b0 + c0)))]) := by
      rw [dist0, dist1]
      exact e33 _ _ (e32 _ _ hp31)
    refine ⟨_, rfl, p33, p31, _, _, rfl, hp33, one33, ?_⟩
    walk_at "go"
    try refine iteF ?_
    refine ⟨g, dg, [], rfl, X33, rfl, _, rfl, g, dg, [], rfl, X33, rfl, _, rfl, _, rfl, _, ta, tb, a0, a1, b0, b1, rfl, SqT.of W33.a, SqT.of W33.b, wa0, wa1, fun p34 H34 np34 e34 hp34 => ?_⟩
    have W34 := W33.same e34
    have X34 := e34 _ _ X33
    refine ⟨_, rfl, _, p34, tc, _, _, c0, c1, rfl, SqT.of hp34, SqT.of W34.c, isW_wr _, isW_wr _, fun p35 H35 np35 e35 hp35 => ?_⟩
    have W35 := W34.same e35
    have X35 := e35 _ _ X34
    refine ⟨_, rfl, g, dg, [], rfl, X35, rfl, _, rfl, _, rfl, g, dg, [], rfl, X35, rfl, _, rfl, _, rfl, _, tb, tc, b0, b1, c0, c1, rfl, SqT.of W35.b, SqT.of W35.c, wb0, wb1, fun p36 H36 np36 e36 hp36 => ?_⟩
    have W36 := W35.same e36
    have X36 := e36 _ _ X35
    refine ⟨_, ta, p36, a0, a1, _, _, rfl, SqT.of W36.a, SqT.of hp36, wa0, wa1, fun p37 H37 np37 e37 hp37 => ?_⟩
    have W37 := W36.same e37
    have X37 := e37 _ _ X36
    have fst37 := e37 _ _ (e36 _ _ hp35)
    rw [← assoc0, ← assoc1] at hp37
    refine ne_pair (SqT.of fst37) (SqT.of hp37) ?_
    walk_at "go"
    try refine iteF ?_
    exact ⟨_, _, _, _, _, _, _, _, rfl, W37.box⟩
  · obtain ⟨y2, y3, y4, y5, y6, y7, y8, y9, rfl, B1⟩ := hP
    exact q _
end
theorem all_mk {l : PySem.W.OpenLaw} {w : World} {K : PySem.W.Frag} {h : Heap} {mg : Str → Option Value} {fa : Addr} (X : K.In h) (G : h.Ns mainGlobals mg) (hfa : mg "law" = some (.ref fa))
    {C_WordRing : Addr} (ac_WordRing : PySem.W.nsIn K mainGlobals "WordRing" = some (some (.ref C_WordRing)))
    (pg_WordRing : PySem.W.plainGet K C_WordRing Str.empty = true) (hd_WordRing : PySem.W.hasDictIn K C_WordRing = true) (po_WordRing : PySem.W.plainOver K C_WordRing = true) (sa_WordRing : PySem.W.findIn K (.ref C_WordRing) "__setattr__" = some (some (.builtin "object.__setattr__"))) (mk_WordRing : PySem.W.makesIn K C_WordRing = true) (kc_WordRing : PySem.W.keepIn K (.ref C_WordRing) = true)
    (ini_WordRing : PySem.W.findIn K (.ref C_WordRing) "__init__" = some (some (.builtin "object.__init__")))
    {C_DualRing : Addr} (ac_DualRing : PySem.W.nsIn K mainGlobals "DualRing" = some (some (.ref C_DualRing)))
    (pg_DualRing : PySem.W.plainGet K C_DualRing Str.empty = true) (hd_DualRing : PySem.W.hasDictIn K C_DualRing = true) (po_DualRing : PySem.W.plainOver K C_DualRing = true) (sa_DualRing : PySem.W.findIn K (.ref C_DualRing) "__setattr__" = some (some (.builtin "object.__setattr__"))) (mk_DualRing : PySem.W.makesIn K C_DualRing = true) (kc_DualRing : PySem.W.keepIn K (.ref C_DualRing) = true)
    (ini_DualRing : PySem.W.findIn K (.ref C_DualRing) "__init__" = some (some (.builtin "object.__init__")))
    {f_0 : Addr} {od_0 an_0 : Option Addr} {sl_0 : Array (Option Value)} {oc_0 kV_0 dc_0 pm_0 cd_0 ct_0 : Value}
    (a_0 : PySem.W.findIn K (.ref C_DualRing) "positive" = some (some (.ref f_0))) (i_0 : PySem.W.isFn K (.ref f_0) = true)
    (l_0 : K.lookup f_0 = some ⟨oc_0, od_0, .func (PySem.W.fnOf "positive" "DualRing.positive" (defArgs s_DualRing_positive) (defBody s_DualRing_positive) (defScope s_DualRing_positive) .none kV_0 dc_0 pm_0 an_0 cd_0 ct_0), sl_0⟩) (c_0 : PySem.W.codeIn K cd_0 "DualRing.positive" = true) (k_0 : PySem.W.keepIn K (.ref f_0) = true)
    {f_1 : Addr} {od_1 an_1 : Option Addr} {sl_1 : Array (Option Value)} {oc_1 kV_1 dc_1 pm_1 cd_1 ct_1 : Value}
    (a_1 : PySem.W.nsIn K mainGlobals "wrap" = some (some (.ref f_1)))
    (l_1 : K.lookup f_1 = some ⟨oc_1, od_1, .func (PySem.W.fnOf "wrap" "wrap" (defArgs s_wrap) (defBody s_wrap) (defScope s_wrap) .none kV_1 dc_1 pm_1 an_1 cd_1 ct_1), sl_1⟩) (c_1 : PySem.W.codeIn K cd_1 "wrap" = true) (k_1 : PySem.W.keepIn K (.ref f_1) = true)
    {f_2 : Addr} {od_2 an_2 : Option Addr} {sl_2 : Array (Option Value)} {oc_2 kV_2 dc_2 pm_2 cd_2 ct_2 : Value}
    (a_2 : PySem.W.nsIn K mainGlobals "shifted" = some (some (.ref f_2)))
    (l_2 : K.lookup f_2 = some ⟨oc_2, od_2, .func (PySem.W.fnOf "shifted" "shifted" (defArgs s_shifted) (defBody s_shifted) (defScope s_shifted) .none kV_2 dc_2 pm_2 an_2 cd_2 ct_2), sl_2⟩) (c_2 : PySem.W.codeIn K cd_2 "shifted" = true) (k_2 : PySem.W.keepIn K (.ref f_2) = true)
    {f_3 : Addr} {od_3 an_3 : Option Addr} {sl_3 : Array (Option Value)} {oc_3 kV_3 dc_3 pm_3 cd_3 ct_3 : Value}
    (a_3 : PySem.W.nsIn K mainGlobals "_law_wrap" = some (some (.ref f_3)))
    (l_3 : K.lookup f_3 = some ⟨oc_3, od_3, .func (PySem.W.fnOf "_law_wrap" "_law_wrap" (defArgs s__law_wrap) (defBody s__law_wrap) (defScope s__law_wrap) .none kV_3 dc_3 pm_3 an_3 cd_3 ct_3), sl_3⟩) (c_3 : PySem.W.codeIn K cd_3 "_law_wrap" = true) (k_3 : PySem.W.keepIn K (.ref f_3) = true)
    {f_4 : Addr} {od_4 an_4 : Option Addr} {sl_4 : Array (Option Value)} {oc_4 kV_4 dc_4 pm_4 cd_4 ct_4 : Value}
    (a_4 : PySem.W.findIn K (.ref C_DualRing) "still" = some (some (.ref f_4))) (i_4 : PySem.W.isFn K (.ref f_4) = true)
    (l_4 : K.lookup f_4 = some ⟨oc_4, od_4, .func (PySem.W.fnOf "still" "DualRing.still" (defArgs s_DualRing_still) (defBody s_DualRing_still) (defScope s_DualRing_still) .none kV_4 dc_4 pm_4 an_4 cd_4 ct_4), sl_4⟩) (c_4 : PySem.W.codeIn K cd_4 "DualRing.still" = true) (k_4 : PySem.W.keepIn K (.ref f_4) = true)
    {f_5 : Addr} {od_5 an_5 : Option Addr} {sl_5 : Array (Option Value)} {oc_5 kV_5 dc_5 pm_5 cd_5 ct_5 : Value}
    (a_5 : PySem.W.findIn K (.ref C_DualRing) "one" = some (some (.ref f_5))) (i_5 : PySem.W.isFn K (.ref f_5) = true)
    (l_5 : K.lookup f_5 = some ⟨oc_5, od_5, .func (PySem.W.fnOf "one" "DualRing.one" (defArgs s_DualRing_one) (defBody s_DualRing_one) (defScope s_DualRing_one) .none kV_5 dc_5 pm_5 an_5 cd_5 ct_5), sl_5⟩) (c_5 : PySem.W.codeIn K cd_5 "DualRing.one" = true) (k_5 : PySem.W.keepIn K (.ref f_5) = true)
    {f_6 : Addr} {od_6 an_6 : Option Addr} {sl_6 : Array (Option Value)} {oc_6 kV_6 dc_6 pm_6 cd_6 ct_6 : Value}
    (a_6 : PySem.W.findIn K (.ref C_DualRing) "zero" = some (some (.ref f_6))) (i_6 : PySem.W.isFn K (.ref f_6) = true)
    (l_6 : K.lookup f_6 = some ⟨oc_6, od_6, .func (PySem.W.fnOf "zero" "DualRing.zero" (defArgs s_DualRing_zero) (defBody s_DualRing_zero) (defScope s_DualRing_zero) .none kV_6 dc_6 pm_6 an_6 cd_6 ct_6), sl_6⟩) (c_6 : PySem.W.codeIn K cd_6 "DualRing.zero" = true) (k_6 : PySem.W.keepIn K (.ref f_6) = true)
    {f_7 : Addr} {od_7 an_7 : Option Addr} {sl_7 : Array (Option Value)} {oc_7 kV_7 dc_7 pm_7 cd_7 ct_7 : Value}
    (a_7 : PySem.W.nsIn K mainGlobals "_law_is_integer" = some (some (.ref f_7)))
    (l_7 : K.lookup f_7 = some ⟨oc_7, od_7, .func (PySem.W.fnOf "_law_is_integer" "_law_is_integer" (defArgs s__law_is_integer) (defBody s__law_is_integer) (defScope s__law_is_integer) .none kV_7 dc_7 pm_7 an_7 cd_7 ct_7), sl_7⟩) (c_7 : PySem.W.codeIn K cd_7 "_law_is_integer" = true) (k_7 : PySem.W.keepIn K (.ref f_7) = true)
    {f_8 : Addr} {od_8 an_8 : Option Addr} {sl_8 : Array (Option Value)} {oc_8 kV_8 dc_8 pm_8 cd_8 ct_8 : Value}
    (a_8 : PySem.W.findIn K (.ref C_WordRing) "positive" = some (some (.ref f_8))) (i_8 : PySem.W.isFn K (.ref f_8) = true)
    (l_8 : K.lookup f_8 = some ⟨oc_8, od_8, .func (PySem.W.fnOf "positive" "WordRing.positive" (defArgs s_WordRing_positive) (defBody s_WordRing_positive) (defScope s_WordRing_positive) .none kV_8 dc_8 pm_8 an_8 cd_8 ct_8), sl_8⟩) (c_8 : PySem.W.codeIn K cd_8 "WordRing.positive" = true) (k_8 : PySem.W.keepIn K (.ref f_8) = true)
    {f_9 : Addr} {od_9 an_9 : Option Addr} {sl_9 : Array (Option Value)} {oc_9 kV_9 dc_9 pm_9 cd_9 ct_9 : Value}
    (a_9 : PySem.W.findIn K (.ref C_WordRing) "still" = some (some (.ref f_9))) (i_9 : PySem.W.isFn K (.ref f_9) = true)
    (l_9 : K.lookup f_9 = some ⟨oc_9, od_9, .func (PySem.W.fnOf "still" "WordRing.still" (defArgs s_WordRing_still) (defBody s_WordRing_still) (defScope s_WordRing_still) .none kV_9 dc_9 pm_9 an_9 cd_9 ct_9), sl_9⟩) (c_9 : PySem.W.codeIn K cd_9 "WordRing.still" = true) (k_9 : PySem.W.keepIn K (.ref f_9) = true)
    {f_10 : Addr} {od_10 an_10 : Option Addr} {sl_10 : Array (Option Value)} {oc_10 kV_10 dc_10 pm_10 cd_10 ct_10 : Value}
    (a_10 : PySem.W.findIn K (.ref C_WordRing) "one" = some (some (.ref f_10))) (i_10 : PySem.W.isFn K (.ref f_10) = true)
    (l_10 : K.lookup f_10 = some ⟨oc_10, od_10, .func (PySem.W.fnOf "one" "WordRing.one" (defArgs s_WordRing_one) (defBody s_WordRing_one) (defScope s_WordRing_one) .none kV_10 dc_10 pm_10 an_10 cd_10 ct_10), sl_10⟩) (c_10 : PySem.W.codeIn K cd_10 "WordRing.one" = true) (k_10 : PySem.W.keepIn K (.ref f_10) = true)
    {f_11 : Addr} {od_11 an_11 : Option Addr} {sl_11 : Array (Option Value)} {oc_11 kV_11 dc_11 pm_11 cd_11 ct_11 : Value}
    (a_11 : PySem.W.findIn K (.ref C_WordRing) "zero" = some (some (.ref f_11))) (i_11 : PySem.W.isFn K (.ref f_11) = true)
    (l_11 : K.lookup f_11 = some ⟨oc_11, od_11, .func (PySem.W.fnOf "zero" "WordRing.zero" (defArgs s_WordRing_zero) (defBody s_WordRing_zero) (defScope s_WordRing_zero) .none kV_11 dc_11 pm_11 an_11 cd_11 ct_11), sl_11⟩) (c_11 : PySem.W.codeIn K cd_11 "WordRing.zero" = true) (k_11 : PySem.W.keepIn K (.ref f_11) = true)
    {f_12 : Addr} {od_12 an_12 : Option Addr} {sl_12 : Array (Option Value)} {oc_12 kV_12 dc_12 pm_12 cd_12 ct_12 : Value}
    (a_12 : PySem.W.nsIn K mainGlobals "_law_draw" = some (some (.ref f_12)))
    (l_12 : K.lookup f_12 = some ⟨oc_12, od_12, .func (PySem.W.fnOf "_law_draw" "_law_draw" (defArgs s__law_draw) (defBody s__law_draw) (defScope s__law_draw) .none kV_12 dc_12 pm_12 an_12 cd_12 ct_12), sl_12⟩) (c_12 : PySem.W.codeIn K cd_12 "_law_draw" = true) (k_12 : PySem.W.keepIn K (.ref f_12) = true)
    {f_13 : Addr} {od_13 an_13 : Option Addr} {sl_13 : Array (Option Value)} {oc_13 kV_13 dc_13 pm_13 cd_13 ct_13 : Value}
    (a_13 : PySem.W.nsIn K mainGlobals "_law_cell" = some (some (.ref f_13)))
    (l_13 : K.lookup f_13 = some ⟨oc_13, od_13, .func (PySem.W.fnOf "_law_cell" "_law_cell" (defArgs s__law_cell) (defBody s__law_cell) (defScope s__law_cell) .none kV_13 dc_13 pm_13 an_13 cd_13 ct_13), sl_13⟩) (c_13 : PySem.W.codeIn K cd_13 "_law_cell" = true) (k_13 : PySem.W.keepIn K (.ref f_13) = true)
    {f_14 : Addr} {od_14 an_14 : Option Addr} {sl_14 : Array (Option Value)} {oc_14 kV_14 dc_14 pm_14 cd_14 ct_14 : Value}
    (a_14 : PySem.W.nsIn K mainGlobals "divided" = some (some (.ref f_14)))
    (l_14 : K.lookup f_14 = some ⟨oc_14, od_14, .func (PySem.W.fnOf "divided" "divided" (defArgs s_divided) (defBody s_divided) (defScope s_divided) .none kV_14 dc_14 pm_14 an_14 cd_14 ct_14), sl_14⟩) (c_14 : PySem.W.codeIn K cd_14 "divided" = true) (k_14 : PySem.W.keepIn K (.ref f_14) = true)
    {f_15 : Addr} {od_15 an_15 : Option Addr} {sl_15 : Array (Option Value)} {oc_15 kV_15 dc_15 pm_15 cd_15 ct_15 : Value}
    (a_15 : PySem.W.nsIn K mainGlobals "_law_divided" = some (some (.ref f_15)))
    (l_15 : K.lookup f_15 = some ⟨oc_15, od_15, .func (PySem.W.fnOf "_law_divided" "_law_divided" (defArgs s__law_divided) (defBody s__law_divided) (defScope s__law_divided) .none kV_15 dc_15 pm_15 an_15 cd_15 ct_15), sl_15⟩) (c_15 : PySem.W.codeIn K cd_15 "_law_divided" = true) (k_15 : PySem.W.keepIn K (.ref f_15) = true)
    {f_16 : Addr} {od_16 an_16 : Option Addr} {sl_16 : Array (Option Value)} {oc_16 kV_16 dc_16 pm_16 cd_16 ct_16 : Value}
    (a_16 : PySem.W.findIn K (.ref C_DualRing) "minus" = some (some (.ref f_16))) (i_16 : PySem.W.isFn K (.ref f_16) = true)
    (l_16 : K.lookup f_16 = some ⟨oc_16, od_16, .func (PySem.W.fnOf "minus" "DualRing.minus" (defArgs s_DualRing_minus) (defBody s_DualRing_minus) (defScope s_DualRing_minus) .none kV_16 dc_16 pm_16 an_16 cd_16 ct_16), sl_16⟩) (c_16 : PySem.W.codeIn K cd_16 "DualRing.minus" = true) (k_16 : PySem.W.keepIn K (.ref f_16) = true)
    {f_17 : Addr} {od_17 an_17 : Option Addr} {sl_17 : Array (Option Value)} {oc_17 kV_17 dc_17 pm_17 cd_17 ct_17 : Value}
    (a_17 : PySem.W.findIn K (.ref C_DualRing) "plus" = some (some (.ref f_17))) (i_17 : PySem.W.isFn K (.ref f_17) = true)
    (l_17 : K.lookup f_17 = some ⟨oc_17, od_17, .func (PySem.W.fnOf "plus" "DualRing.plus" (defArgs s_DualRing_plus) (defBody s_DualRing_plus) (defScope s_DualRing_plus) .none kV_17 dc_17 pm_17 an_17 cd_17 ct_17), sl_17⟩) (c_17 : PySem.W.codeIn K cd_17 "DualRing.plus" = true) (k_17 : PySem.W.keepIn K (.ref f_17) = true)
    {f_18 : Addr} {od_18 an_18 : Option Addr} {sl_18 : Array (Option Value)} {oc_18 kV_18 dc_18 pm_18 cd_18 ct_18 : Value}
    (a_18 : PySem.W.findIn K (.ref C_DualRing) "times" = some (some (.ref f_18))) (i_18 : PySem.W.isFn K (.ref f_18) = true)
    (l_18 : K.lookup f_18 = some ⟨oc_18, od_18, .func (PySem.W.fnOf "times" "DualRing.times" (defArgs s_DualRing_times) (defBody s_DualRing_times) (defScope s_DualRing_times) .none kV_18 dc_18 pm_18 an_18 cd_18 ct_18), sl_18⟩) (c_18 : PySem.W.codeIn K cd_18 "DualRing.times" = true) (k_18 : PySem.W.keepIn K (.ref f_18) = true)
    {f_19 : Addr} {od_19 an_19 : Option Addr} {sl_19 : Array (Option Value)} {oc_19 kV_19 dc_19 pm_19 cd_19 ct_19 : Value}
    (a_19 : PySem.W.nsIn K mainGlobals "_law_times" = some (some (.ref f_19)))
    (l_19 : K.lookup f_19 = some ⟨oc_19, od_19, .func (PySem.W.fnOf "_law_times" "_law_times" (defArgs s__law_times) (defBody s__law_times) (defScope s__law_times) .none kV_19 dc_19 pm_19 an_19 cd_19 ct_19), sl_19⟩) (c_19 : PySem.W.codeIn K cd_19 "_law_times" = true) (k_19 : PySem.W.keepIn K (.ref f_19) = true)
    {f_20 : Addr} {od_20 an_20 : Option Addr} {sl_20 : Array (Option Value)} {oc_20 kV_20 dc_20 pm_20 cd_20 ct_20 : Value}
    (a_20 : PySem.W.nsIn K mainGlobals "_law_same_pair" = some (some (.ref f_20)))
    (l_20 : K.lookup f_20 = some ⟨oc_20, od_20, .func (PySem.W.fnOf "_law_same_pair" "_law_same_pair" (defArgs s__law_same_pair) (defBody s__law_same_pair) (defScope s__law_same_pair) .none kV_20 dc_20 pm_20 an_20 cd_20 ct_20), sl_20⟩) (c_20 : PySem.W.codeIn K cd_20 "_law_same_pair" = true) (k_20 : PySem.W.keepIn K (.ref f_20) = true)
    {f_21 : Addr} {od_21 an_21 : Option Addr} {sl_21 : Array (Option Value)} {oc_21 kV_21 dc_21 pm_21 cd_21 ct_21 : Value}
    (a_21 : PySem.W.findIn K (.ref C_WordRing) "times" = some (some (.ref f_21))) (i_21 : PySem.W.isFn K (.ref f_21) = true)
    (l_21 : K.lookup f_21 = some ⟨oc_21, od_21, .func (PySem.W.fnOf "times" "WordRing.times" (defArgs s_WordRing_times) (defBody s_WordRing_times) (defScope s_WordRing_times) .none kV_21 dc_21 pm_21 an_21 cd_21 ct_21), sl_21⟩) (c_21 : PySem.W.codeIn K cd_21 "WordRing.times" = true) (k_21 : PySem.W.keepIn K (.ref f_21) = true)
    {f_22 : Addr} {od_22 an_22 : Option Addr} {sl_22 : Array (Option Value)} {oc_22 kV_22 dc_22 pm_22 cd_22 ct_22 : Value}
    (a_22 : PySem.W.findIn K (.ref C_WordRing) "minus" = some (some (.ref f_22))) (i_22 : PySem.W.isFn K (.ref f_22) = true)
    (l_22 : K.lookup f_22 = some ⟨oc_22, od_22, .func (PySem.W.fnOf "minus" "WordRing.minus" (defArgs s_WordRing_minus) (defBody s_WordRing_minus) (defScope s_WordRing_minus) .none kV_22 dc_22 pm_22 an_22 cd_22 ct_22), sl_22⟩) (c_22 : PySem.W.codeIn K cd_22 "WordRing.minus" = true) (k_22 : PySem.W.keepIn K (.ref f_22) = true)
    {f_23 : Addr} {od_23 an_23 : Option Addr} {sl_23 : Array (Option Value)} {oc_23 kV_23 dc_23 pm_23 cd_23 ct_23 : Value}
    (a_23 : PySem.W.findIn K (.ref C_WordRing) "plus" = some (some (.ref f_23))) (i_23 : PySem.W.isFn K (.ref f_23) = true)
    (l_23 : K.lookup f_23 = some ⟨oc_23, od_23, .func (PySem.W.fnOf "plus" "WordRing.plus" (defArgs s_WordRing_plus) (defBody s_WordRing_plus) (defScope s_WordRing_plus) .none kV_23 dc_23 pm_23 an_23 cd_23 ct_23), sl_23⟩) (c_23 : PySem.W.codeIn K cd_23 "WordRing.plus" = true) (k_23 : PySem.W.keepIn K (.ref f_23) = true)
    {f_24 : Addr} {od_24 an_24 : Option Addr} {sl_24 : Array (Option Value)} {oc_24 kV_24 dc_24 pm_24 cd_24 ct_24 : Value}
    (a_24 : PySem.W.nsIn K mainGlobals "_law_same_word" = some (some (.ref f_24)))
    (l_24 : K.lookup f_24 = some ⟨oc_24, od_24, .func (PySem.W.fnOf "_law_same_word" "_law_same_word" (defArgs s__law_same_word) (defBody s__law_same_word) (defScope s__law_same_word) .none kV_24 dc_24 pm_24 an_24 cd_24 ct_24), sl_24⟩) (c_24 : PySem.W.codeIn K cd_24 "_law_same_word" = true) (k_24 : PySem.W.keepIn K (.ref f_24) = true)
    {f_25 : Addr} {od_25 an_25 : Option Addr} {sl_25 : Array (Option Value)} {oc_25 kV_25 dc_25 pm_25 cd_25 ct_25 : Value}
    (a_25 : PySem.W.nsIn K mainGlobals "_law_word" = some (some (.ref f_25)))
    (l_25 : K.lookup f_25 = some ⟨oc_25, od_25, .func (PySem.W.fnOf "_law_word" "_law_word" (defArgs s__law_word) (defBody s__law_word) (defScope s__law_word) .none kV_25 dc_25 pm_25 an_25 cd_25 ct_25), sl_25⟩) (c_25 : PySem.W.codeIn K cd_25 "_law_word" = true) (k_25 : PySem.W.keepIn K (.ref f_25) = true)
    {f_26 : Addr} {od_26 an_26 : Option Addr} {sl_26 : Array (Option Value)} {oc_26 kV_26 dc_26 pm_26 cd_26 ct_26 : Value}
    (a_26 : PySem.W.nsIn K mainGlobals "_law_row" = some (some (.ref f_26)))
    (l_26 : K.lookup f_26 = some ⟨oc_26, od_26, .func (PySem.W.fnOf "_law_row" "_law_row" (defArgs s__law_row) (defBody s__law_row) (defScope s__law_row) .none kV_26 dc_26 pm_26 an_26 cd_26 ct_26), sl_26⟩) (c_26 : PySem.W.codeIn K cd_26 "_law_row" = true) (k_26 : PySem.W.keepIn K (.ref f_26) = true)
    {f_27 : Addr} {od_27 an_27 : Option Addr} {sl_27 : Array (Option Value)} {oc_27 kV_27 dc_27 pm_27 cd_27 ct_27 : Value}
    (a_27 : PySem.W.findIn K (.ref C_DualRing) "divided" = some (some (.ref f_27))) (i_27 : PySem.W.isFn K (.ref f_27) = true)
    (l_27 : K.lookup f_27 = some ⟨oc_27, od_27, .func (PySem.W.fnOf "divided" "DualRing.divided" (defArgs s_DualRing_divided) (defBody s_DualRing_divided) (defScope s_DualRing_divided) .none kV_27 dc_27 pm_27 an_27 cd_27 ct_27), sl_27⟩) (c_27 : PySem.W.codeIn K cd_27 "DualRing.divided" = true) (k_27 : PySem.W.keepIn K (.ref f_27) = true)
    {f_28 : Addr} {od_28 an_28 : Option Addr} {sl_28 : Array (Option Value)} {oc_28 kV_28 dc_28 pm_28 cd_28 ct_28 : Value}
    (a_28 : PySem.W.findIn K (.ref C_WordRing) "divided" = some (some (.ref f_28))) (i_28 : PySem.W.isFn K (.ref f_28) = true)
    (l_28 : K.lookup f_28 = some ⟨oc_28, od_28, .func (PySem.W.fnOf "divided" "WordRing.divided" (defArgs s_WordRing_divided) (defBody s_WordRing_divided) (defScope s_WordRing_divided) .none kV_28 dc_28 pm_28 an_28 cd_28 ct_28), sl_28⟩) (c_28 : PySem.W.codeIn K cd_28 "WordRing.divided" = true) (k_28 : PySem.W.keepIn K (.ref f_28) = true)
    {f_29 : Addr} {od_29 an_29 : Option Addr} {sl_29 : Array (Option Value)} {oc_29 kV_29 dc_29 pm_29 cd_29 ct_29 : Value}
    (a_29 : PySem.W.nsIn K mainGlobals "_law_words_ok" = some (some (.ref f_29)))
    (l_29 : K.lookup f_29 = some ⟨oc_29, od_29, .func (PySem.W.fnOf "_law_words_ok" "_law_words_ok" (defArgs s__law_words_ok) (defBody s__law_words_ok) (defScope s__law_words_ok) .none kV_29 dc_29 pm_29 an_29 cd_29 ct_29), sl_29⟩) (c_29 : PySem.W.codeIn K cd_29 "_law_words_ok" = true) (k_29 : PySem.W.keepIn K (.ref f_29) = true)
    {f_30 : Addr} {od_30 an_30 : Option Addr} {sl_30 : Array (Option Value)} {oc_30 kV_30 dc_30 pm_30 cd_30 ct_30 : Value}
    (a_30 : PySem.W.nsIn K mainGlobals "law" = some (some (.ref f_30)))
    (l_30 : K.lookup f_30 = some ⟨oc_30, od_30, .func (PySem.W.fnOf "law" "law" (defArgs s_law) (defBody s_law) (defScope s_law) .none kV_30 dc_30 pm_30 an_30 cd_30 ct_30), sl_30⟩) (c_30 : PySem.W.codeIn K cd_30 "law" = true) (k_30 : PySem.W.keepIn K (.ref f_30) = true)
    (al_divided_words : PySem.W.nsIn K mainGlobals "divided_words" = some (some (.ref f_14)))
    (z_abs : PySem.W.nsIn K mainGlobals "abs" = some none)
    (z_bool : PySem.W.nsIn K mainGlobals "bool" = some none)
    (z_int : PySem.W.nsIn K mainGlobals "int" = some none)
    (z_isinstance : PySem.W.nsIn K mainGlobals "isinstance" = some none)
    (z_len : PySem.W.nsIn K mainGlobals "len" = some none)
    (z_range : PySem.W.nsIn K mainGlobals "range" = some none)
    (z_tuple : PySem.W.nsIn K mainGlobals "tuple" = some none)
    {t_SIZE : Tok} (g_SIZE : PySem.W.nsIn K mainGlobals "SIZE" = some (some (.int (4294967296) t_SIZE)))
    {t_LEAST : Tok} (g_LEAST : PySem.W.nsIn K mainGlobals "LEAST" = some (some (.int (-2147483648) t_LEAST)))
    : ∃ fd : FuncData, (∀ (s : Shared) (v : Value), BindsTo s fd ⟨[v], []⟩ [("script", v)]) ∧ ∀ base : Heap, K.In base → base.Ns mainGlobals mg → FnOk l.prog w K mg base CX0 5 fa fd ["script"] (spLaw K) := by
  have e := hfa.symm.trans (PySem.W.mg_of X G a_30)
  cases e
  let cs : Cs := ⟨C_WordRing, C_DualRing⟩
  have T : Txt K mg cs := ⟨PySem.W.mg_none_of X G z_abs, PySem.W.mg_none_of X G z_bool, PySem.W.mg_none_of X G z_int, PySem.W.mg_none_of X G z_isinstance, PySem.W.mg_none_of X G z_len, PySem.W.mg_none_of X G z_range, PySem.W.mg_none_of X G z_tuple, ⟨_, PySem.W.mg_of X G g_SIZE⟩, ⟨_, PySem.W.mg_of X G g_LEAST⟩, ⟨pg_WordRing, hd_WordRing, po_WordRing, sa_WordRing⟩, PySem.W.mg_of X G ac_WordRing, ⟨mk_WordRing, ini_WordRing, kc_WordRing⟩, ⟨pg_DualRing, hd_DualRing, po_DualRing, sa_DualRing⟩, PySem.W.mg_of X G ac_DualRing, ⟨mk_DualRing, ini_DualRing, kc_DualRing⟩⟩
  refine ⟨PySem.W.fnOf "law" "law" (defArgs s_law) (defBody s_law) (defScope s_law) .none kV_30 dc_30 pm_30 an_30 cd_30 ct_30, fun s v => .of_eq rfl, fun base _ _ => ?_⟩
  have F_0 := fun_mk (st := s_DualRing_positive) l_0 c_0 k_0
  have B_0 : Binds K _ ["self", "a"] [] := F_0.binds (ps := ["self", "a"]) fun _ _ _ _ _ _ us hl => match us, hl with | [_, _], _ => rfl
  have O_0 := ok_DualRing_positive (P := l.prog) (w := w) (base := base) F_0 T 
  have D_DualRing_positive : MDef l.prog w K mg base 1 C_DualRing "positive" ["self", "a"] (spDPositive K) := ⟨_, _, O_0, B_0, ⟨a_0, i_0, k_0⟩⟩
  have F_1 := fun_mk (st := s_wrap) l_1 c_1 k_1
  have B_1 : Binds K _ ["n"] [] := F_1.binds (ps := ["n"]) fun _ _ _ _ _ _ us hl => match us, hl with | [_], _ => rfl
  have O_1 := ok_wrap (P := l.prog) (w := w) (base := base) F_1 T 
  have D_wrap : Def l.prog w K mg base 1 "wrap" ["n"] (spWrap) := ⟨_, _, O_1, B_1, PySem.W.mg_of X G a_1, k_1⟩
  have F_2 := fun_mk (st := s_shifted) l_2 c_2 k_2
  have B_2 : Binds K _ ["n", "k"] [] := F_2.binds (ps := ["n", "k"]) fun _ _ _ _ _ _ us hl => match us, hl with | [_, _], _ => rfl
  have O_2 := ok_shifted (P := l.prog) (w := w) (base := base) F_2 T 
  have D_shifted : Def l.prog w K mg base 1 "shifted" ["n", "k"] (spShr) := ⟨_, _, O_2, B_2, PySem.W.mg_of X G a_2, k_2⟩
  have F_3 := fun_mk (st := s__law_wrap) l_3 c_3 k_3
  have B_3 : Binds K _ ["n"] [] := F_3.binds (ps := ["n"]) fun _ _ _ _ _ _ us hl => match us, hl with | [_], _ => rfl
  have O_3 := ok__law_wrap (P := l.prog) (w := w) (base := base) F_3 T 
  have D__law_wrap : Def l.prog w K mg base 1 "_law_wrap" ["n"] (spWrap) := ⟨_, _, O_3, B_3, PySem.W.mg_of X G a_3, k_3⟩
  have F_4 := fun_mk (st := s_DualRing_still) l_4 c_4 k_4
  have B_4 : Binds K _ ["self", "word"] [] := F_4.binds (ps := ["self", "word"]) fun _ _ _ _ _ _ us hl => match us, hl with | [_, _], _ => rfl
  have O_4 := ok_DualRing_still (P := l.prog) (w := w) (base := base) F_4 T 
  have D_DualRing_still : MDef l.prog w K mg base 1 C_DualRing "still" ["self", "word"] (spDStill) := ⟨_, _, O_4, B_4, ⟨a_4, i_4, k_4⟩⟩
  have F_5 := fun_mk (st := s_DualRing_one) l_5 c_5 k_5
  have B_5 : Binds K _ ["self"] [] := F_5.binds (ps := ["self"]) fun _ _ _ _ _ _ us hl => match us, hl with | [_], _ => rfl
  have O_5 := ok_DualRing_one (P := l.prog) (w := w) (base := base) F_5 T 
  have D_DualRing_one : MDef l.prog w K mg base 1 C_DualRing "one" ["self"] (spDOne) := ⟨_, _, O_5, B_5, ⟨a_5, i_5, k_5⟩⟩
  have F_6 := fun_mk (st := s_DualRing_zero) l_6 c_6 k_6
  have B_6 : Binds K _ ["self"] [] := F_6.binds (ps := ["self"]) fun _ _ _ _ _ _ us hl => match us, hl with | [_], _ => rfl
  have O_6 := ok_DualRing_zero (P := l.prog) (w := w) (base := base) F_6 T 
  have D_DualRing_zero : MDef l.prog w K mg base 1 C_DualRing "zero" ["self"] (spDZero) := ⟨_, _, O_6, B_6, ⟨a_6, i_6, k_6⟩⟩
  have F_7 := fun_mk (st := s__law_is_integer) l_7 c_7 k_7
  have B_7 : Binds K _ ["told"] [] := F_7.binds (ps := ["told"]) fun _ _ _ _ _ _ us hl => match us, hl with | [_], _ => rfl
  have O_7 := ok__law_is_integer (P := l.prog) (w := w) (base := base) F_7 T 
  have D__law_is_integer : Def l.prog w K mg base 1 "_law_is_integer" ["told"] (spIsInt) := ⟨_, _, O_7, B_7, PySem.W.mg_of X G a_7, k_7⟩
  have F_8 := fun_mk (st := s_WordRing_positive) l_8 c_8 k_8
  have B_8 : Binds K _ ["self", "a"] [] := F_8.binds (ps := ["self", "a"]) fun _ _ _ _ _ _ us hl => match us, hl with | [_, _], _ => rfl
  have O_8 := ok_WordRing_positive (P := l.prog) (w := w) (base := base) F_8 T 
  have D_WordRing_positive : MDef l.prog w K mg base 1 C_WordRing "positive" ["self", "a"] (spPositive) := ⟨_, _, O_8, B_8, ⟨a_8, i_8, k_8⟩⟩
  have F_9 := fun_mk (st := s_WordRing_still) l_9 c_9 k_9
  have B_9 : Binds K _ ["self", "word"] [] := F_9.binds (ps := ["self", "word"]) fun _ _ _ _ _ _ us hl => match us, hl with | [_, _], _ => rfl
  have O_9 := ok_WordRing_still (P := l.prog) (w := w) (base := base) F_9 T 
  have D_WordRing_still : MDef l.prog w K mg base 1 C_WordRing "still" ["self", "word"] (spStill) := ⟨_, _, O_9, B_9, ⟨a_9, i_9, k_9⟩⟩
  have F_10 := fun_mk (st := s_WordRing_one) l_10 c_10 k_10
  have B_10 : Binds K _ ["self"] [] := F_10.binds (ps := ["self"]) fun _ _ _ _ _ _ us hl => match us, hl with | [_], _ => rfl
  have O_10 := ok_WordRing_one (P := l.prog) (w := w) (base := base) F_10 T 
  have D_WordRing_one : MDef l.prog w K mg base 1 C_WordRing "one" ["self"] (spOne) := ⟨_, _, O_10, B_10, ⟨a_10, i_10, k_10⟩⟩
  have F_11 := fun_mk (st := s_WordRing_zero) l_11 c_11 k_11
  have B_11 : Binds K _ ["self"] [] := F_11.binds (ps := ["self"]) fun _ _ _ _ _ _ us hl => match us, hl with | [_], _ => rfl
  have O_11 := ok_WordRing_zero (P := l.prog) (w := w) (base := base) F_11 T 
  have D_WordRing_zero : MDef l.prog w K mg base 1 C_WordRing "zero" ["self"] (spZero) := ⟨_, _, O_11, B_11, ⟨a_11, i_11, k_11⟩⟩
  have F_12 := fun_mk (st := s__law_draw) l_12 c_12 k_12
  have B_12 : Binds K _ ["box", "many"] [] := F_12.binds (ps := ["box", "many"]) fun _ _ _ _ _ _ us hl => match us, hl with | [_, _], _ => rfl
  have O_12 := ok__law_draw (P := l.prog) (w := w) (base := base) F_12 T 
  have D__law_draw : Def l.prog w K mg base 1 "_law_draw" ["box", "many"] (spDraw) := ⟨_, _, O_12, B_12, PySem.W.mg_of X G a_12, k_12⟩
  have F_13 := fun_mk (st := s__law_cell) l_13 c_13 k_13
  have B_13 : Binds K _ ["script", "k"] [] := F_13.binds (ps := ["script", "k"]) fun _ _ _ _ _ _ us hl => match us, hl with | [_, _], _ => rfl
  have O_13 := ok__law_cell (P := l.prog) (w := w) (base := base) F_13 T 
  have D__law_cell : Def l.prog w K mg base 1 "_law_cell" ["script", "k"] (spCell K) := ⟨_, _, O_13, B_13, PySem.W.mg_of X G a_13, k_13⟩
  have F_14 := fun_mk (st := s_divided) l_14 c_14 k_14
  have B_14 : Binds K _ ["n", "k"] [] := F_14.binds (ps := ["n", "k"]) fun _ _ _ _ _ _ us hl => match us, hl with | [_, _], _ => rfl
  have O_14 := ok_divided (P := l.prog) (w := w) (base := base) F_14 T (d_shifted := D_shifted) (d_wrap := D_wrap)
  have D_divided : Def l.prog w K mg base 2 "divided" ["n", "k"] (spDiv) := ⟨_, _, O_14, B_14, PySem.W.mg_of X G a_14, k_14⟩
  have D_divided_words : Def l.prog w K mg base 2 "divided_words" ["n", "k"] (spDiv) := ⟨_, _, O_14, B_14, PySem.W.mg_of X G al_divided_words, k_14⟩
  have F_15 := fun_mk (st := s__law_divided) l_15 c_15 k_15
  have B_15 : Binds K _ ["a", "k"] [] := F_15.binds (ps := ["a", "k"]) fun _ _ _ _ _ _ us hl => match us, hl with | [_, _], _ => rfl
  have O_15 := ok__law_divided (P := l.prog) (w := w) (base := base) F_15 T (d__law_wrap := D__law_wrap)
  have D__law_divided : Def l.prog w K mg base 2 "_law_divided" ["a", "k"] (spLDiv) := ⟨_, _, O_15, B_15, PySem.W.mg_of X G a_15, k_15⟩
  have F_16 := fun_mk (st := s_DualRing_minus) l_16 c_16 k_16
  have B_16 : Binds K _ ["self", "a", "b"] [] := F_16.binds (ps := ["self", "a", "b"]) fun _ _ _ _ _ _ us hl => match us, hl with | [_, _, _], _ => rfl
  have O_16 := ok_DualRing_minus (P := l.prog) (w := w) (base := base) F_16 T (d_wrap := D_wrap)
  have D_DualRing_minus : MDef l.prog w K mg base 2 C_DualRing "minus" ["self", "a", "b"] (spDMinus K) := ⟨_, _, O_16, B_16, ⟨a_16, i_16, k_16⟩⟩
  have F_17 := fun_mk (st := s_DualRing_plus) l_17 c_17 k_17
  have B_17 : Binds K _ ["self", "a", "b"] [] := F_17.binds (ps := ["self", "a", "b"]) fun _ _ _ _ _ _ us hl => match us, hl with | [_, _, _], _ => rfl
  have O_17 := ok_DualRing_plus (P := l.prog) (w := w) (base := base) F_17 T (d_wrap := D_wrap)
  have D_DualRing_plus : MDef l.prog w K mg base 2 C_DualRing "plus" ["self", "a", "b"] (spDPlus K) := ⟨_, _, O_17, B_17, ⟨a_17, i_17, k_17⟩⟩
  have F_18 := fun_mk (st := s_DualRing_times) l_18 c_18 k_18
  have B_18 : Binds K _ ["self", "a", "b"] [] := F_18.binds (ps := ["self", "a", "b"]) fun _ _ _ _ _ _ us hl => match us, hl with | [_, _, _], _ => rfl
  have O_18 := ok_DualRing_times (P := l.prog) (w := w) (base := base) F_18 T (d_wrap := D_wrap)
  have D_DualRing_times : MDef l.prog w K mg base 2 C_DualRing "times" ["self", "a", "b"] (spDTimes K) := ⟨_, _, O_18, B_18, ⟨a_18, i_18, k_18⟩⟩
  have F_19 := fun_mk (st := s__law_times) l_19 c_19 k_19
  have B_19 : Binds K _ ["a", "b"] [] := F_19.binds (ps := ["a", "b"]) fun _ _ _ _ _ _ us hl => match us, hl with | [_, _], _ => rfl
  have O_19 := ok__law_times (P := l.prog) (w := w) (base := base) F_19 T (d__law_wrap := D__law_wrap)
  have D__law_times : Def l.prog w K mg base 2 "_law_times" ["a", "b"] (spLTimes K) := ⟨_, _, O_19, B_19, PySem.W.mg_of X G a_19, k_19⟩
  have F_20 := fun_mk (st := s__law_same_pair) l_20 c_20 k_20
  have B_20 : Binds K _ ["told", "due"] [] := F_20.binds (ps := ["told", "due"]) fun _ _ _ _ _ _ us hl => match us, hl with | [_, _], _ => rfl
  have O_20 := ok__law_same_pair (P := l.prog) (w := w) (base := base) F_20 T (d__law_is_integer := D__law_is_integer)
  have D__law_same_pair : Def l.prog w K mg base 2 "_law_same_pair" ["told", "due"] (spPair) := ⟨_, _, O_20, B_20, PySem.W.mg_of X G a_20, k_20⟩
  have F_21 := fun_mk (st := s_WordRing_times) l_21 c_21 k_21
  have B_21 : Binds K _ ["self", "a", "b"] [] := F_21.binds (ps := ["self", "a", "b"]) fun _ _ _ _ _ _ us hl => match us, hl with | [_, _, _], _ => rfl
  have O_21 := ok_WordRing_times (P := l.prog) (w := w) (base := base) F_21 T (d_wrap := D_wrap)
  have D_WordRing_times : MDef l.prog w K mg base 2 C_WordRing "times" ["self", "a", "b"] (spTimes) := ⟨_, _, O_21, B_21, ⟨a_21, i_21, k_21⟩⟩
  have F_22 := fun_mk (st := s_WordRing_minus) l_22 c_22 k_22
  have B_22 : Binds K _ ["self", "a", "b"] [] := F_22.binds (ps := ["self", "a", "b"]) fun _ _ _ _ _ _ us hl => match us, hl with | [_, _, _], _ => rfl
  have O_22 := ok_WordRing_minus (P := l.prog) (w := w) (base := base) F_22 T (d_wrap := D_wrap)
  have D_WordRing_minus : MDef l.prog w K mg base 2 C_WordRing "minus" ["self", "a", "b"] (spMinus) := ⟨_, _, O_22, B_22, ⟨a_22, i_22, k_22⟩⟩
  have F_23 := fun_mk (st := s_WordRing_plus) l_23 c_23 k_23
  have B_23 : Binds K _ ["self", "a", "b"] [] := F_23.binds (ps := ["self", "a", "b"]) fun _ _ _ _ _ _ us hl => match us, hl with | [_, _, _], _ => rfl
  have O_23 := ok_WordRing_plus (P := l.prog) (w := w) (base := base) F_23 T (d_wrap := D_wrap)
  have D_WordRing_plus : MDef l.prog w K mg base 2 C_WordRing "plus" ["self", "a", "b"] (spPlus) := ⟨_, _, O_23, B_23, ⟨a_23, i_23, k_23⟩⟩
  have F_24 := fun_mk (st := s__law_same_word) l_24 c_24 k_24
  have B_24 : Binds K _ ["told", "due"] [] := F_24.binds (ps := ["told", "due"]) fun _ _ _ _ _ _ us hl => match us, hl with | [_, _], _ => rfl
  have O_24 := ok__law_same_word (P := l.prog) (w := w) (base := base) F_24 T (d__law_is_integer := D__law_is_integer)
  have D__law_same_word : Def l.prog w K mg base 2 "_law_same_word" ["told", "due"] (spWordEq) := ⟨_, _, O_24, B_24, PySem.W.mg_of X G a_24, k_24⟩
  have F_25 := fun_mk (st := s__law_word) l_25 c_25 k_25
  have B_25 : Binds K _ ["box"] [] := F_25.binds (ps := ["box"]) fun _ _ _ _ _ _ us hl => match us, hl with | [_], _ => rfl
  have O_25 := ok__law_word (P := l.prog) (w := w) (base := base) F_25 T (d__law_draw := D__law_draw) (d__law_wrap := D__law_wrap)
  have D__law_word : Def l.prog w K mg base 2 "_law_word" ["box"] (spWord) := ⟨_, _, O_25, B_25, PySem.W.mg_of X G a_25, k_25⟩
  have F_26 := fun_mk (st := s__law_row) l_26 c_26 k_26
  have B_26 : Binds K _ ["script", "first", "last"] [] := F_26.binds (ps := ["script", "first", "last"]) fun _ _ _ _ _ _ us hl => match us, hl with | [_, _, _], _ => rfl
  have O_26 := ok__law_row (P := l.prog) (w := w) (base := base) F_26 T (d__law_cell := D__law_cell)
  have D__law_row : Def l.prog w K mg base 2 "_law_row" ["script", "first", "last"] (spRow K) := ⟨_, _, O_26, B_26, PySem.W.mg_of X G a_26, k_26⟩
  have F_27 := fun_mk (st := s_DualRing_divided) l_27 c_27 k_27
  have B_27 : Binds K _ ["self", "a", "k"] [] := F_27.binds (ps := ["self", "a", "k"]) fun _ _ _ _ _ _ us hl => match us, hl with | [_, _, _], _ => rfl
  have O_27 := ok_DualRing_divided (P := l.prog) (w := w) (base := base) F_27 T (d_divided_words := D_divided_words)
  have D_DualRing_divided : MDef l.prog w K mg base 3 C_DualRing "divided" ["self", "a", "k"] (spDDivided K) := ⟨_, _, O_27, B_27, ⟨a_27, i_27, k_27⟩⟩
  have F_28 := fun_mk (st := s_WordRing_divided) l_28 c_28 k_28
  have B_28 : Binds K _ ["self", "a", "k"] [] := F_28.binds (ps := ["self", "a", "k"]) fun _ _ _ _ _ _ us hl => match us, hl with | [_, _, _], _ => rfl
  have O_28 := ok_WordRing_divided (P := l.prog) (w := w) (base := base) F_28 T (d_divided_words := D_divided_words)
  have D_WordRing_divided : MDef l.prog w K mg base 3 C_WordRing "divided" ["self", "a", "k"] (spDivided) := ⟨_, _, O_28, B_28, ⟨a_28, i_28, k_28⟩⟩
  have F_29 := fun_mk (st := s__law_words_ok) l_29 c_29 k_29
  have B_29 : Binds K _ ["ring", "a", "b", "k"] [] := F_29.binds (ps := ["ring", "a", "b", "k"]) fun _ _ _ _ _ _ us hl => match us, hl with | [_, _, _, _], _ => rfl
  have O_29 := ok__law_words_ok (P := l.prog) (w := w) (base := base) F_29 T (d__law_same_word := D__law_same_word) (d_WordRing_zero := D_WordRing_zero) (d_WordRing_one := D_WordRing_one) (d_WordRing_still := D_WordRing_still) (d__law_wrap := D__law_wrap) (d_WordRing_plus := D_WordRing_plus) (d_WordRing_minus := D_WordRing_minus) (d_WordRing_times := D_WordRing_times) (d__law_divided := D__law_divided) (d_WordRing_divided := D_WordRing_divided) (d_WordRing_positive := D_WordRing_positive)
  have D__law_words_ok : Def l.prog w K mg base 4 "_law_words_ok" ["ring", "a", "b", "k"] (spWordsOk cs) := ⟨_, _, O_29, B_29, PySem.W.mg_of X G a_29, k_29⟩
  exact ok_law (fun_mk (st := s_law) l_30 c_30 k_30) T (d__law_row := D__law_row) (d__law_word := D__law_word) (d__law_draw := D__law_draw) (d__law_words_ok := D__law_words_ok) (d__law_same_pair := D__law_same_pair) (d_DualRing_zero := D_DualRing_zero) (d_DualRing_one := D_DualRing_one) (d_DualRing_still := D_DualRing_still) (d__law_times := D__law_times) (d_DualRing_times := D_DualRing_times) (d__law_wrap := D__law_wrap) (d_DualRing_plus := D_DualRing_plus) (d_DualRing_minus := D_DualRing_minus) (d__law_divided := D__law_divided) (d_DualRing_divided := D_DualRing_divided) (d_DualRing_positive := D_DualRing_positive)
end My
open PySem PySem.W PyProof.Rows
set_option maxHeartbeats 0 in
theorem PySem.Challenge.cw_asifone_k09_rings_holds : PySem.Challenge.rw_asifone_k09_rings.Holds := by
  w_on; o_law; k_head; (case hw => w_witness2)
  k_fill
  refine L2.walk_of (l := PySem.Challenge.rw_asifone_k09_rings) (n := 63) (k := 5) (x := "script") (CX := fun _ => L2.CX0) (sp := fun w => My.spLaw _) rfl (by decide) rfl ⟨rfl, by decide, by decide⟩ (fun w h Y => PySem.W.kIn_of Y) ?F (fun _ _ a ns hl _ hS => ⟨a, ns, rfl, hS, hl, fun _ => rfl⟩) (fun _ _ _ _ _ h => h)
  case F =>
    intro w mg fa h KX G hmg
    refine' My.all_mk KX G hmg ?ac_WordRing ?pg_WordRing ?hd_WordRing ?po_WordRing ?sa_WordRing ?mk_WordRing ?kc_WordRing ?ini_WordRing ?ac_DualRing ?pg_DualRing ?hd_DualRing ?po_DualRing ?sa_DualRing ?mk_DualRing ?kc_DualRing ?ini_DualRing ?a_0 ?i_0 ?l_0 ?c_0 ?k_0 ?a_1 ?l_1 ?c_1 ?k_1 ?a_2 ?l_2 ?c_2 ?k_2 ?a_3 ?l_3 ?c_3 ?k_3 ?a_4 ?i_4 ?l_4 ?c_4 ?k_4 ?a_5 ?i_5 ?l_5 ?c_5 ?k_5 ?a_6 ?i_6 ?l_6 ?c_6 ?k_6 ?a_7 ?l_7 ?c_7 ?k_7 ?a_8 ?i_8 ?l_8 ?c_8 ?k_8 ?a_9 ?i_9 ?l_9 ?c_9 ?k_9 ?a_10 ?i_10 ?l_10 ?c_10 ?k_10 ?a_11 ?i_11 ?l_11 ?c_11 ?k_11 ?a_12 ?l_12 ?c_12 ?k_12 ?a_13 ?l_13 ?c_13 ?k_13 ?a_14 ?l_14 ?c_14 ?k_14 ?a_15 ?l_15 ?c_15 ?k_15 ?a_16 ?i_16 ?l_16 ?c_16 ?k_16 ?a_17 ?i_17 ?l_17 ?c_17 ?k_17 ?a_18 ?i_18 ?l_18 ?c_18 ?k_18 ?a_19 ?l_19 ?c_19 ?k_19 ?a_20 ?l_20 ?c_20 ?k_20 ?a_21 ?i_21 ?l_21 ?c_21 ?k_21 ?a_22 ?i_22 ?l_22 ?c_22 ?k_22 ?a_23 ?i_23 ?l_23 ?c_23 ?k_23 ?a_24 ?l_24 ?c_24 ?k_24 ?a_25 ?l_25 ?c_25 ?k_25 ?a_26 ?l_26 ?c_26 ?k_26 ?a_27 ?i_27 ?l_27 ?c_27 ?k_27 ?a_28 ?i_28 ?l_28 ?c_28 ?k_28 ?a_29 ?l_29 ?c_29 ?k_29 ?a_30 ?l_30 ?c_30 ?k_30 ?al_divided_words ?z_abs ?z_bool ?z_int ?z_isinstance ?z_len ?z_range ?z_tuple ?g_SIZE ?g_LEAST
    (case ac_WordRing => k_is)
    (case pg_WordRing => k_is)
    (case hd_WordRing => k_is)
    (case po_WordRing => k_is)
    (case sa_WordRing => k_is)
    (case mk_WordRing => k_is)
    (case kc_WordRing => k_is)
    (case ini_WordRing => k_is)
    (case ac_DualRing => k_is)
    (case pg_DualRing => k_is)
    (case hd_DualRing => k_is)
    (case po_DualRing => k_is)
    (case sa_DualRing => k_is)
    (case mk_DualRing => k_is)
    (case kc_DualRing => k_is)
    (case ini_DualRing => k_is)
    (case a_0 => k_is)
    (case i_0 => k_is)
    (case l_0 => k_is)
    (case c_0 => k_is)
    (case k_0 => k_is)
    (case a_1 => k_is)
    (case l_1 => k_is)
    (case c_1 => k_is)
    (case k_1 => k_is)
    (case a_2 => k_is)
    (case l_2 => k_is)
    (case c_2 => k_is)
    (case k_2 => k_is)
    (case a_3 => k_is)
    (case l_3 => k_is)
    (case c_3 => k_is)
    (case k_3 => k_is)
    (case a_4 => k_is)
    (case i_4 => k_is)
    (case l_4 => k_is)
    (case c_4 => k_is)
    (case k_4 => k_is)
    (case a_5 => k_is)
    (case i_5 => k_is)
    (case l_5 => k_is)
    (case c_5 => k_is)
    (case k_5 => k_is)
    (case a_6 => k_is)
    (case i_6 => k_is)
    (case l_6 => k_is)
    (case c_6 => k_is)
    (case k_6 => k_is)
    (case a_7 => k_is)
    (case l_7 => k_is)
    (case c_7 => k_is)
    (case k_7 => k_is)
    (case a_8 => k_is)
    (case i_8 => k_is)
    (case l_8 => k_is)
    (case c_8 => k_is)
    (case k_8 => k_is)
    (case a_9 => k_is)
    (case i_9 => k_is)
    (case l_9 => k_is)
    (case c_9 => k_is)
    (case k_9 => k_is)
    (case a_10 => k_is)
    (case i_10 => k_is)
    (case l_10 => k_is)
    (case c_10 => k_is)
    (case k_10 => k_is)
    (case a_11 => k_is)
    (case i_11 => k_is)
    (case l_11 => k_is)
    (case c_11 => k_is)
    (case k_11 => k_is)
    (case a_12 => k_is)
    (case l_12 => k_is)
    (case c_12 => k_is)
    (case k_12 => k_is)
    (case a_13 => k_is)
    (case l_13 => k_is)
    (case c_13 => k_is)
    (case k_13 => k_is)
    (case a_14 => k_is)
    (case l_14 => k_is)
    (case c_14 => k_is)
    (case k_14 => k_is)
    (case a_15 => k_is)
    (case l_15 => k_is)
    (case c_15 => k_is)
    (case k_15 => k_is)
    (case a_16 => k_is)
    (case i_16 => k_is)
    (case l_16 => k_is)
    (case c_16 => k_is)
    (case k_16 => k_is)
    (case a_17 => k_is)
    (case i_17 => k_is)
    (case l_17 => k_is)
    (case c_17 => k_is)
    (case k_17 => k_is)
    (case a_18 => k_is)
    (case i_18 => k_is)
    (case l_18 => k_is)
    (case c_18 => k_is)
    (case k_18 => k_is)
    (case a_19 => k_is)
    (case l_19 => k_is)
    (case c_19 => k_is)
    (case k_19 => k_is)
    (case a_20 => k_is)
    (case l_20 => k_is)
    (case c_20 => k_is)
    (case k_20 => k_is)
    (case a_21 => k_is)
    (case i_21 => k_is)
    (case l_21 => k_is)
    (case c_21 => k_is)
    (case k_21 => k_is)
    (case a_22 => k_is)
    (case i_22 => k_is)
    (case l_22 => k_is)
    (case c_22 => k_is)
    (case k_22 => k_is)
    (case a_23 => k_is)
    (case i_23 => k_is)
    (case l_23 => k_is)
    (case c_23 => k_is)
    (case k_23 => k_is)
    (case a_24 => k_is)
    (case l_24 => k_is)
    (case c_24 => k_is)
    (case k_24 => k_is)
    (case a_25 => k_is)
    (case l_25 => k_is)
    (case c_25 => k_is)
    (case k_25 => k_is)
    (case a_26 => k_is)
    (case l_26 => k_is)
    (case c_26 => k_is)
    (case k_26 => k_is)
    (case a_27 => k_is)
    (case i_27 => k_is)
    (case l_27 => k_is)
    (case c_27 => k_is)
    (case k_27 => k_is)
    (case a_28 => k_is)
    (case i_28 => k_is)
    (case l_28 => k_is)
    (case c_28 => k_is)
    (case k_28 => k_is)
    (case a_29 => k_is)
    (case l_29 => k_is)
    (case c_29 => k_is)
    (case k_29 => k_is)
    (case a_30 => k_is)
    (case l_30 => k_is)
    (case c_30 => k_is)
    (case k_30 => k_is)
    (case al_divided_words => k_is)
    (case z_abs => k_is)
    (case z_bool => k_is)
    (case z_int => k_is)
    (case z_isinstance => k_is)
    (case z_len => k_is)
    (case z_range => k_is)
    (case z_tuple => k_is)
    (case g_SIZE => k_is)
    (case g_LEAST => k_is)
