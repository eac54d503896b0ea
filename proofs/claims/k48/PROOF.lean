import PyProof.Rows.All
import Wide.All
import OpenK.AllK
import Wide.FinOn
import HandS.ForMost
import HandS.IsInst
import HandS.More
import HandS.CallLocal
import HandS.Codes
import HandS.Wide
import HandS.TupLe
import HandS.Walk
import HandS.Defaults
import PySem.Challenge.RW_asifone_k48_parts
set_option Elab.async false
set_option linter.all false
set_option maxRecDepth 100000
set_option maxHeartbeats 4000000


namespace My
open PySem PySem.Spec PyProof.Rows L2
def topS (i : Nat) : Stmt := PySem.Challenge.pw_asifone_k48_parts.main.body.getD i (.Pass ⟨0, 0, 0, 0⟩)
abbrev s_part_begin : Stmt := topS 1
abbrev s_part_of : Stmt := topS 2
abbrev s__law_cell : Stmt := topS 4
abbrev s__law_is_integer : Stmt := topS 5
abbrev s__law_same : Stmt := topS 6
abbrev s_law : Stmt := topS 7
theorem sc_part_begin : FnScope ["n", "m", "k"] ["n", "m", "k"] (defScope s_part_begin) := ⟨rfl, rfl, rfl, by decide +kernel, rfl, by decide +kernel, by decide +kernel⟩
theorem sc_part_of : FnScope ["n", "m", "i"] ["n", "m", "i"] (defScope s_part_of) := ⟨rfl, rfl, rfl, by decide +kernel, rfl, by decide +kernel, by decide +kernel⟩
theorem sc__law_cell : FnScope ["script", "k"] ["script", "k"] (defScope s__law_cell) := ⟨rfl, rfl, rfl, by decide +kernel, rfl, by decide +kernel, by decide +kernel⟩
theorem sc__law_is_integer : FnScope ["told"] ["told"] (defScope s__law_is_integer) := ⟨rfl, rfl, rfl, by decide +kernel, rfl, by decide +kernel, by decide +kernel⟩
theorem sc__law_same : FnScope ["told", "due", "k"] ["told", "due"] (defScope s__law_same) := ⟨rfl, rfl, rfl, by decide +kernel, rfl, by decide +kernel, by decide +kernel⟩
theorem sc_law : FnScope ["script", "turn", "cell", "n", "m", "k", "ends", "i", "told", "j"] ["script"] (defScope s_law) := ⟨rfl, rfl, rfl, by decide +kernel, rfl, by decide +kernel, by decide +kernel⟩
/-! ### steps of a reading: one name looked up, one value seen -/
local macro_rules | `(tactic| walk_at "st") => `(tactic| first
  | refine ⟨_, rfl, ?_⟩
  | refine ⟨_, _, rfl, rfl, ?_⟩
  | refine ⟨rfl, ?_⟩
  | refine ⟨Or.inl ⟨by decide, by decide⟩, ?_⟩
  | refine ⟨Or.inr ⟨by decide, by decide⟩, ?_⟩
  | refine ⟨(by decide : (0 : Int) < _), ?_⟩
  | refine ⟨(by decide : (0 : Int) ≤ _), ?_⟩
  | refine ⟨_, _, (rfl : (_ : List V) = _), ?_⟩
  | refine ⟨_, _, _, (rfl : (_ : List V) = _), ?_⟩
  | refine ⟨⟨by decide, by decide⟩, ?_⟩
  | refine ⟨⟨by decide, by decide, by decide⟩, ?_⟩
  | refine Or.inl ⟨_, rfl, ?_⟩
  | refine Or.inr ⟨_, rfl, ?_⟩)
local macro_rules | `(tactic| walk_at "go") => `(tactic| repeat walk_at "st")


theorem iteD {c A B : Prop} [Decidable c] (hc : c) (h : A) : if decide c = true then A else B := by
  rw [decide_eq_true hc]
  exact iteT h
theorem iteNN {c A B : Prop} [Decidable c] (hc : ¬ c) (h : A) : if (!decide c) = true then A else B := by
  rw [decide_eq_false hc]
  exact iteT h
theorem iteDN {c A B : Prop} [Decidable c] (hc : ¬ c) (h : B) : if decide c = true then A else B := by
  rw [decide_eq_false hc]
  exact iteF h
/-! ### rules with the written part named (a comprehension's element stands over another context) -/
section
variable {X : Cx} {K : PySem.W.Frag}
def rLenK (K : PySem.W.Frag) : List V → Hp → VK → Prop := fun xs H Q => ∃ p ys, xs = [.ref p] ∧ (SqL K H p ys ∨ SqT K H p ys) ∧ Q (.int ys.length) H
theorem pe_fld_at {e : PySem.Expr} {f : Str} {pos : Pos} {ta : TE} (h : X.K = K) (he : PE X e ta) (hb : attributeBase e f X.env (eval e X.env) = eval e X.env) : PE X (.Attribute e f pos) (tFld K ta f) := by subst h; exact pe_fld he hb
theorem len_at (h : X.K = K) : CallR X (.builtin "len") (rLenK K) := by subst h; exact call_len_seq
theorem list_at (h : X.K = K) : CallR X (.type "list") (fun xs H Q => ∃ p ys, xs = [.ref p] ∧ (SqL K H p ys ∨ SqT K H p ys) ∧ ∀ l : Addr, H l = none → Q (.ref l) (upd H l (.lst ys))) := by subst h; exact call_list_of
theorem ixl_at (h : X.K = K) : IxR X (rIxL K) := by subst h; exact ix_list
theorem ixt_at (h : X.K = K) : IxR X (rIxT K) := by subst h; exact ix_tup
end
/-! ### heaps: all is as it was but the object at b -/
def But (b : Addr) (H H' : Hp) : Prop := ∀ c o, c ≠ b → H c = some o → H' c = some o
theorem But.refl (b : Addr) (H : Hp) : But b H H := fun _ _ _ h => h
theorem But.trans {b : Addr} {H H1 H2 : Hp} (x : But b H H1) (y : But b H1 H2) : But b H H2 := fun c o n h => y c o n (x c o n h)
theorem But.of {b : Addr} {H H' : Hp} (e : Same H H') : But b H H' := fun c o _ h => e c o h
theorem same_new {H : Hp} {p : Addr} (h : H p = none) (o : HO) : Same H (upd H p o) := fun b u q => by rw [upd_ne (ne_of_none q h)]; exact q
theorem same_mut {H H' : Hp} {o : Addr} {u : HO} (e : Same H H') (no : H o = none) : Same H (upd H' o u) := fun b x h => by rw [upd_ne (ne_of_none h no)]; exact e _ _ h
theorem map_more {H : Hp} {o : Addr} (rs : List Int) (x : Int) : (upd H o (.lst (rs.map V.int ++ [V.int x]))) o = some (.lst ((rs ++ [x]).map V.int)) := by
  rw [upd_same, List.map_append]
  rfl
theorem small {n : Nat} (h : n ≤ 100000) : n ≤ sizeLine := Nat.le_trans h (by decide)
theorem smaller {n : Nat} (h : n < 100000) : n < sizeLine := Nat.lt_of_lt_of_le h (by decide)

/-! ### the box that numbers are drawn from: a list of a row and a place -/
structure Box (H : Hp) (b r : Addr) (rs : List Int) : Prop where
  ex : ∃ at' : Int, 0 ≤ at' ∧ H b = some (.lst [.ref r, .int at'])
  row : H r = some (.lst (rs.map V.int))
theorem Box.ne {H : Hp} {b r : Addr} {rs : List Int} (B : Box H b r rs) : r ≠ b := fun e => by
  obtain ⟨z, _, h⟩ := B.ex
  have q := B.row
  rw [e, h] at q
  cases rs with
  | nil => cases q
  | cons x t => cases q
theorem Box.far {H : Hp} {b r l : Addr} {rs ns : List Int} (B : Box H b r rs) (h : H l = some (.lst (ns.map V.int))) : l ≠ b := fun e => by
  obtain ⟨z, _, hb⟩ := B.ex
  rw [e, hb] at h
  cases ns with
  | nil => cases h
  | cons x t => cases h
theorem Box.farS {K : PySem.W.Frag} {H H' : Hp} {b r a : Addr} {rs ns : List Int} (B : Box H b r rs) (e : But b H H') (h : SqL K H a (ns.map V.int)) : SqL K H' a (ns.map V.int) := by
  rcases h with (h | ⟨o, h⟩) | h
  · exact .inl (.inl (e _ _ (B.far h) h))
  · refine .inl (.inr ⟨o, e _ _ (fun z => ?_) h⟩)
    obtain ⟨_, _, hb⟩ := B.ex
    rw [z, hb] at h
    cases h
  · exact .inr h
theorem Box.same {H H' : Hp} {b r : Addr} {rs : List Int} (B : Box H b r rs) (e : Same H H') : Box H' b r rs := by
  obtain ⟨z, h0, h⟩ := B.ex
  exact ⟨⟨z, h0, e _ _ h⟩, e _ _ B.row⟩

theorem But.mut {b l : Addr} {H H' : Hp} {o : HO} (e : But b H H') (h : H l = none) : But b H (upd H' l o) := fun c x n hc => by
  rw [upd_ne (ne_of_none hc h)]
  exact e c x n hc
theorem But.mut' {l : Addr} {H H' : Hp} {o : HO} (e : But l H H') (_ : H l = none) : But l H (upd H' l o) := fun c x n hc => by
  rw [upd_ne n]
  exact e c x n hc
theorem Box.mut {b r l : Addr} {H H' : Hp} {rs : List Int} {o : HO} (B : Box H' b r rs) (B0 : Box H b r rs) (h : H l = none) : Box (upd H' l o) b r rs := by
  obtain ⟨z, h0, hb⟩ := B.ex
  obtain ⟨_, _, hb0⟩ := B0.ex
  exact ⟨⟨z, h0, by rw [upd_ne (ne_of_none hb0 h)]; exact hb⟩, by rw [upd_ne (ne_of_none B0.row h)]; exact B.row⟩
theorem map_get {ns : List Int} {i : Nat} {x : V} (h : (ns.map V.int)[i]? = some x) : ∃ n, x = .int n ∧ ns[i]? = some n := by
  rw [List.getElem?_map] at h
  cases e : ns[i]? with
  | none => rw [e] at h; cases h
  | some n => rw [e] at h; exact ⟨n, (Option.some.inj h).symm, rfl⟩
/-! ### lists of ints compared -/
theorem dp_ints {K : PySem.W.Frag} {H : Hp} : ∀ ns : List Int, DpAll K H (ns.map V.int) (ns.map PyData.int)
  | [] => .nil
  | n :: r => .cons (.int n) (dp_ints r)
theorem can_ints : ∀ ns : List Int, PyData.canLayAll0 (ns.map PyData.int) = true
  | [] => rfl
  | n :: r => by
    show (PyData.canLay0 (.int n) && PyData.canLayAll0 (r.map PyData.int)) = true
    rw [can_ints r]
    rfl
theorem shaped_ns (ns : List Int) : SeqAt.shaped (.list (ns.map PyData.int)) = true := PySem.W.shaped_ints ns
theorem eqv_ns (ns : List Int) : PyData.eqv (.list (ns.map PyData.int)) (.list (ns.map PyData.int)) = true := PySem.SeqAt.eqv_refl _ (can_ints ns)
theorem shaped_tup (m n : Int) : SeqAt.shaped (.tuple ([m, n].map PyData.int)) = true := by
  simp [SeqAt.shaped, PyData.canLay0, PyData.canLayAll0, PyData.depth, PyData.depthAll]
theorem eqv_tup (m n : Int) : PyData.eqv (.tuple ([m, n].map PyData.int)) (.tuple ([m, n].map PyData.int)) = true := PySem.SeqAt.eqv_refl _ (can_ints [m, n])
theorem eq_ints {K : PySem.W.Frag} {H : Hp} {p q : Addr} {ns : List Int} {Q : VK} (hp : SqL K H p (ns.map V.int)) (hq : SqL K H q (ns.map V.int)) (k : Q (.bl true) H) : rEqD K (.ref p) (.ref q) H Q :=
  ⟨_, _, .lst hp (dp_ints ns), .lst hq (dp_ints ns), shaped_ns ns, shaped_ns ns, by rw [eqv_ns]; exact k⟩
theorem ne_ints {K : PySem.W.Frag} {H : Hp} {p q : Addr} {ns : List Int} {Q : VK} (hp : SqL K H p (ns.map V.int)) (hq : SqL K H q (ns.map V.int)) (k : Q (.bl false) H) : rNeD K (.ref p) (.ref q) H Q :=
  ⟨_, _, .lst hp (dp_ints ns), .lst hq (dp_ints ns), shaped_ns ns, shaped_ns ns, by rw [eqv_ns]; exact k⟩

theorem eq_pair {K : PySem.W.Frag} {H : Hp} {p q : Addr} {m n : Int} {Q : VK} (hp : SqT K H p [.int m, .int n]) (hq : SqT K H q [.int m, .int n]) (k : Q (.bl true) H) : rEqD K (.ref p) (.ref q) H Q :=
  ⟨_, _, .tup hp (dp_ints [m, n]), .tup hq (dp_ints [m, n]), shaped_tup m n, shaped_tup m n, by rw [eqv_tup]; exact k⟩
theorem ne_pair {K : PySem.W.Frag} {H : Hp} {p q : Addr} {m n : Int} {Q : VK} (hp : SqT K H p [.int m, .int n]) (hq : SqT K H q [.int m, .int n]) (k : Q (.bl false) H) : rNeD K (.ref p) (.ref q) H Q :=
  ⟨_, _, .tup hp (dp_ints [m, n]), .tup hq (dp_ints [m, n]), shaped_tup m n, shaped_tup m n, by rw [eqv_tup]; exact k⟩

/-! ### the numbers of words -/
def wr (n : Int) : Int := (n + 2147483648) % 4294967296 - 2147483648
theorem wr_lo (n : Int) : -2147483648 ≤ wr n := by unfold wr; omega
theorem wr_hi (n : Int) : wr n ≤ 2147483647 := by unfold wr; omega
theorem wr_same {n : Int} (h : -2147483648 ≤ n) (h2 : n ≤ 2147483647) : wr n = n := by unfold wr; omega

/-! ### promises -/
def spCell (K : PySem.W.Frag) : Sp := fun vs H Q _ => ∃ (a : Addr) (ns : List Int) (k : Int), vs = [.ref a, .int k] ∧ SqL K H a (ns.map V.int) ∧ 0 ≤ k ∧ ∀ n : Int, Q (.int n) H
def spRow (K : PySem.W.Frag) : Sp := fun vs H Q _ => ∃ (a : Addr) (ns : List Int) (i j : Int), vs = [.ref a, .int i, .int j] ∧ SqL K H a (ns.map V.int) ∧ 0 ≤ i ∧ i ≤ j ∧ j ≤ 100 ∧
  ∀ (p : Addr) (rs : List Int) (H' : Hp), H p = none → Same H H' → H' p = some (.lst (rs.map V.int)) → Q (.ref p) H'
def spDraw : Sp := fun vs H Q _ => ∃ (b r : Addr) (rs : List Int) (many : Int), vs = [.ref b, .int many] ∧ Box H b r rs ∧ 0 < many ∧
  ∀ (v : Int) (H' : Hp), 0 ≤ v → v < many → Box H' b r rs → But b H H' → Q (.int v) H'
def spWrap : Sp := fun vs H Q _ => ∃ n : Int, vs = [.int n] ∧ Q (.int (wr n)) H
def spWord : Sp := fun vs H Q _ => ∃ (b r : Addr) (rs : List Int), vs = [.ref b] ∧ Box H b r rs ∧
  ∀ (v : Int) (H' : Hp), -2147483648 ≤ v → v ≤ 2147483647 → Box H' b r rs → But b H H' → Q (.int v) H'
def spIsInt : Sp := fun vs H Q _ => ∃ n : Int, vs = [.int n] ∧ Q (.bl true) H
def spLaw (K : PySem.W.Frag) : Sp := fun vs H Q _ => ∃ (a : Addr) (ns : List Int), vs = [.ref a] ∧ SqL K H a (ns.map V.int) ∧ ns.length ≤ 63 ∧ ∀ H', Q (.bl true) H'
/-- a def of the text that keeps a promise, with all that a caller asks -/
structure Def (P : Program) (w : World) (K : PySem.W.Frag) (mg : Str → Option Value) (base : Heap) (k : Nat) (x : Str) (ps : List Str) (sp : Sp) : Prop where
  ex : ∃ (f : Addr) (fd : FuncData), FnOk P w K mg base CX0 k f fd ps sp ∧ Binds K fd ps [] ∧ mg x = some (.ref f) ∧ PySem.W.keepIn K (.ref f) = true
/-- a method of a class of the text; its __init__ -/
structure MDef (P : Program) (w : World) (K : PySem.W.Frag) (mg : Str → Option Value) (base : Heap) (k : Nat) (C : Addr) (m : Str) (ps : List Str) (sp : Sp) : Prop where
  ex : ∃ (f : Addr) (fd : FuncData), FnOk P w K mg base CX0 k f fd ps sp ∧ Binds K fd ps [] ∧ Meth K C m f
structure IDef (P : Program) (w : World) (K : PySem.W.Frag) (mg : Str → Option Value) (base : Heap) (k : Nat) (C : Addr) (ps : List Str) (sp : Sp) : Prop where
  ex : ∃ (f : Addr) (fd : FuncData), FnOk P w K mg base CX0 k f fd ps sp ∧ Binds K fd ps [] ∧ Mk K C f
structure Txt (K : PySem.W.Frag) (mg : Str → Option Value) : Prop where
  z_abs : mg "abs" = none
  z_bool : mg "bool" = none
  z_int : mg "int" = none
  z_isinstance : mg "isinstance" = none
  z_len : mg "len" = none
  z_list : mg "list" = none
  z_range : mg "range" = none
  z_str : mg "str" = none
  z_tuple : mg "tuple" = none

inductive All2 {α β : Type} (R : α → β → Prop) : List α → List β → Prop
  | nil : All2 R [] []
  | cons {a : α} {b : β} {as : List α} {bs : List β} : R a b → All2 R as bs → All2 R (a :: as) (b :: bs)
theorem All2.length {α β : Type} {R : α → β → Prop} {as : List α} {bs : List β} (h : All2 R as bs) : as.length = bs.length := by
  induction h with
  | nil => rfl
  | cons _ _ ih => rw [List.length_cons, List.length_cons, ih]
theorem All2.get {α β : Type} {R : α → β → Prop} {as : List α} {bs : List β} (h : All2 R as bs) : ∀ {i : Nat} {b : β}, bs[i]? = some b → ∃ a, as[i]? = some a ∧ R a b := by
  induction h with
  | nil => intro i b e; cases e
  | cons r _ ih =>
    intro i b e
    cases i with
    | zero => cases e; exact ⟨_, rfl, r⟩
    | succ i => exact ih e
theorem All2.mono {α β : Type} {R S : α → β → Prop} {as : List α} {bs : List β} (f : ∀ a b, R a b → S a b) (h : All2 R as bs) : All2 S as bs := by
  induction h with
  | nil => exact .nil
  | cons r _ ih => exact .cons (f _ _ r) ih
theorem All2.snoc {α β : Type} {R : α → β → Prop} {as : List α} {bs : List β} {a : α} {b : β} (h : All2 R as bs) (r : R a b) : All2 R (as ++ [a]) (bs ++ [b]) := by
  induction h with
  | nil => exact .cons r .nil
  | cons r' _ ih => exact .cons r' ih

/-! ### values in depth; _law_same -/
inductive Dt where
  | i (n : Int)
  | b (x : Bool)
  | s (x : Str)
  | n
  | l (xs : List Dt)
  | t (xs : List Dt)
/-- the value v is d, which has fewer than the given number of layers; all its lists and tuples stand at places in S -/
def DV (S : Addr → Prop) (H : Hp) : Nat → V → Dt → Prop
  | 0, _, _ => False
  | _ + 1, v, .i k => v = .int k
  | _ + 1, v, .b x => v = .bl x
  | _ + 1, v, .s x => v = .str x
  | _ + 1, v, .n => v = .non
  | m + 1, v, .l ds => ∃ a vs, v = .ref a ∧ S a ∧ H a = some (.lst vs) ∧ vs.length ≤ 100000 ∧ All2 (DV S H m) vs ds
  | m + 1, v, .t ds => ∃ a vs, v = .ref a ∧ S a ∧ H a = some (.tup vs) ∧ vs.length ≤ 100000 ∧ All2 (DV S H m) vs ds
def anyA : Addr → Prop := fun _ => True
theorem DV.keep {S S' : Addr → Prop} {H H' : Hp} (e : ∀ a o, S a → H a = some o → S' a ∧ H' a = some o) : ∀ {m : Nat} {v : V} {d : Dt}, DV S H m v d → DV S' H' m v d
  | 0, _, _, h => h.elim
  | _ + 1, _, .i _, h => h
  | _ + 1, _, .b _, h => h
  | _ + 1, _, .s _, h => h
  | _ + 1, _, .n, h => h
  | m + 1, _, .l ds, h => by
    obtain ⟨a, vs, h0, h1, h2, h3, h4⟩ := h
    exact ⟨a, vs, h0, (e _ _ h1 h2).1, (e _ _ h1 h2).2, h3, h4.mono fun _ _ r => r.keep e⟩
  | m + 1, _, .t ds, h => by
    obtain ⟨a, vs, h0, h1, h2, h3, h4⟩ := h
    exact ⟨a, vs, h0, (e _ _ h1 h2).1, (e _ _ h1 h2).2, h3, h4.mono fun _ _ r => r.keep e⟩
theorem DV.same {S : Addr → Prop} {H H' : Hp} (e : Same H H') {m : Nat} {v : V} {d : Dt} (h : DV S H m v d) : DV S H' m v d := h.keep fun a o s x => ⟨s, e a o x⟩
theorem DV.any {S : Addr → Prop} {H : Hp} {m : Nat} {v : V} {d : Dt} (h : DV S H m v d) : DV anyA H m v d := h.keep fun _ _ _ x => ⟨trivial, x⟩
theorem DV.but {b : Addr} {H H' : Hp} (e : But b H H') {m : Nat} {v : V} {d : Dt} (h : DV (· ≠ b) H m v d) : DV (· ≠ b) H' m v d := h.keep fun a o s x => ⟨s, e a o s x⟩
theorem DV.more {S : Addr → Prop} {H : Hp} : ∀ {m : Nat} {v : V} {d : Dt}, DV S H m v d → DV S H (m + 1) v d
  | 0, _, _, h => h.elim
  | _ + 1, _, .i _, h => h
  | _ + 1, _, .b _, h => h
  | _ + 1, _, .s _, h => h
  | _ + 1, _, .n, h => h
  | m + 1, _, .l ds, h => by
    obtain ⟨a, vs, h0, h1, h2, h3, h4⟩ := h
    exact ⟨a, vs, h0, h1, h2, h3, h4.mono fun _ _ r => r.more⟩
  | m + 1, _, .t ds, h => by
    obtain ⟨a, vs, h0, h1, h2, h3, h4⟩ := h
    exact ⟨a, vs, h0, h1, h2, h3, h4.mono fun _ _ r => r.more⟩
theorem DV.ints {S : Addr → Prop} {H : Hp} {m : Nat} : ∀ ns : List Int, All2 (DV S H (m + 1)) (ns.map V.int) (ns.map Dt.i)
  | [] => .nil
  | _ :: r => .cons rfl (DV.ints r)
theorem DV.lst {S : Addr → Prop} {H : Hp} {m : Nat} {a : Addr} {ns : List Int} (s : S a) (h : H a = some (.lst (ns.map V.int))) (l : ns.length ≤ 100000) : DV S H (m + 2) (.ref a) (.l (ns.map Dt.i)) :=
  ⟨a, _, rfl, s, h, by rw [List.length_map]; exact l, DV.ints ns⟩
theorem DV.tup {S : Addr → Prop} {H : Hp} {m : Nat} {a : Addr} {ns : List Int} (s : S a) (h : H a = some (.tup (ns.map V.int))) (l : ns.length ≤ 100000) : DV S H (m + 2) (.ref a) (.t (ns.map Dt.i)) :=
  ⟨a, _, rfl, s, h, by rw [List.length_map]; exact l, DV.ints ns⟩
def spSame (n : Nat) : Sp := fun vs H Q _ => ∃ (u v : V) (d : Dt), vs = [u, v] ∧ DV anyA H n u d ∧ DV anyA H n v d ∧ Q (.bl true) H
theorem ixs_at {X : Cx} {K : PySem.W.Frag} (h : X.K = K) : IxR X (rIx K) := by subst h; exact ix_seq

def spBegin : Sp := fun vs H Q _ => ∃ n m k : Int, vs = [.int n, .int m, .int k] ∧ 0 < m ∧ m < 1000 ∧ 0 ≤ k ∧ k < 1000 ∧ Q (.int (n * k / m)) H
def spPart : Sp := fun vs H Q _ => ∃ n m i : Int, vs = [.int n, .int m, .int i] ∧ 0 < m ∧ m < 1000 ∧ 0 < n ∧ n < 10 ^ 30 ∧ Q (.int ((m * (i + 1) - 1) / n)) H
theorem parts {n m i : Int} (m0 : 0 < m) (n0 : 0 < n) (i0 : 0 ≤ i) (i1 : i < n) : 0 ≤ (m * (i + 1) - 1) / n ∧ (m * (i + 1) - 1) / n < m ∧ n * ((m * (i + 1) - 1) / n) / m ≤ i ∧ i < n * ((m * (i + 1) - 1) / n + 1) / m ∧
    ∀ j : Int, j < (m * (i + 1) - 1) / n → n * (j + 1) / m ≤ i := by
  have a1 : 1 * 1 ≤ m * (i + 1) := Int.mul_le_mul (by omega) (by omega) (by omega) (by omega)
  have a2 : m * (i + 1) ≤ m * n := Int.mul_le_mul_of_nonneg_left (by omega) (by omega)
  have d1 : n * ((m * (i + 1) - 1) / n) ≤ m * (i + 1) - 1 := Int.mul_ediv_self_le (by omega)
  have d2 : m * (i + 1) - 1 < n * ((m * (i + 1) - 1) / n) + n := Int.lt_mul_ediv_self_add n0
  have t0 : 0 ≤ (m * (i + 1) - 1) / n := Int.ediv_nonneg (by omega) (by omega)
  have t1 : (m * (i + 1) - 1) / n < m := Int.ediv_lt_of_lt_mul n0 (by omega)
  generalize (m * (i + 1) - 1) / n = t at *
  have up : ∀ k : Int, k ≤ t → n * k / m ≤ i := fun k hk => by
    have e : n * k ≤ n * t := Int.mul_le_mul_of_nonneg_left hk (by omega)
    have f : n * k / m < i + 1 := Int.ediv_lt_of_lt_mul m0 (by rw [Int.mul_comm (i + 1)]; omega)
    omega
  refine ⟨t0, t1, up t (by omega), ?_, fun j hj => up (j + 1) (by omega)⟩
  have g : i + 1 ≤ n * (t + 1) / m := (Int.le_ediv_iff_mul_le m0).mpr (by
    have e3 : n * (t + 1) = n * t + n := by rw [Int.mul_add, Int.mul_one]
    have e4 : (i + 1) * m = m * (i + 1) := Int.mul_comm _ _
    omega)
  omega
theorem at_map {f : Nat → Int} {n : Nat} {k : Int} (h0 : 0 ≤ k) (h1 : k < n) : atI (((List.range n).map f).map V.int) k = some (.int (f k.toNat)) := by
  have ek : k = ((k.toNat : Nat) : Int) := by omega
  have z : atI (((List.range n).map f).map V.int) ((k.toNat : Nat) : Int) = some (.int (f k.toNat)) := atI_nat (by rw [List.getElem?_map, List.getElem?_map, List.getElem?_range (by omega)]; rfl)
  rwa [← ek] at z
theorem abs0 (c : Int) : 0 ≤ (if c < 0 then -c else c) := by split <;> omega
section
variable {P : Program} {w : World} {K : PySem.W.Frag} {mg : Str → Option Value} {base : Heap} {f : Addr} {fd : FuncData}
theorem ok__law_cell (F : Fun K "_law_cell" "_law_cell" s__law_cell f fd) (T : Txt K mg)  :
    FnOk P w K mg base CX0 1 f fd ["script", "k"] (spCell K) := by
  refine F.ok sc__law_cell (fun vs H Q E h => ?_) (fun cdv A outer s H vs Q E hr h => ?_)
  · obtain ⟨a, ns, k, rfl, hS, h0, q⟩ := h
    rfl
  obtain ⟨a, ns, k, rfl, hS, h0, q⟩ := h
  have hu := hr.units
  refine ⟨_, pss_cons (ps_if (pt_cmpR op_lt (pv 1) (pe_callB (len_at (K := K) rfl) (by rfl) T.z_len PySem.boot_len (pa_cons (pv 0) pa_nil)) (nomark _)) (pss_one (ps_ret (pe_ix (ixl_at (K := K) rfl) (pv 0) (pv 1) (fun _ _ => rfl)))) pss_nil)
 (pss_one (ps_ret pe_int)), ?_⟩
  -- k; len(script); the test
  refine ⟨_, rfl, _, rfl, a, _, rfl, .inl hS, _, _, rfl, rfl, _, rfl, ?_⟩
  refine ite2 (fun c => ?_) (fun c => ?_)
  · have c' : k < (((ns.map V.int).length : Nat) : Int) := of_decide_eq_true c
    rw [List.length_map] at c'
    have hk : k.toNat < ns.length := by omega
    have ek : k = ((k.toNat : Nat) : Int) := by omega
    have z : atI (ns.map V.int) ((k.toNat : Nat) : Int) = some (.int ns[k.toNat]) := atI_nat (by rw [List.getElem?_map, List.getElem?_eq_getElem hk] <;> rfl)
    rw [← ek] at z
    exact ⟨_, rfl, _, rfl, a, _, _, _, rfl, rfl, hS, z, q _⟩
  · exact q 0

theorem ok__law_is_integer (F : Fun K "_law_is_integer" "_law_is_integer" s__law_is_integer f fd) (T : Txt K mg)  :
    FnOk P w K mg base CX0 1 f fd ["told"] (spIsInt) := by
  refine F.ok sc__law_is_integer (fun vs H Q E h => ?_) (fun cdv A outer s H vs Q E hr h => ?_)
  · obtain ⟨n, rfl, q⟩ := h
    rfl
  obtain ⟨n, rfl, q⟩ := h
  have hu := hr.units
  refine ⟨_, pss_one (ps_ret (pe_and (pe_callB call_isi (by rfl) T.z_isinstance (by decide +kernel) (pa_cons (pv 0) (pa_cons (pe_bltn (v := .ty "int") rfl T.z_int PyProof.Rows.boot_int rfl) pa_nil))) (pe_one (pe_not (pe_callB call_isi (by rfl) T.z_isinstance (by decide +kernel) (pa_cons (pv 0) (pa_cons (pe_bltn (v := .ty "bool") rfl T.z_bool PyProof.Rows.boot_bool rfl) pa_nil))))))), ?_⟩
  refine ⟨_, rfl, _, _, _, _, true, rfl, .ty _, .base (.int n), kit_ty (by decide +kernel), _, rfl, iteT ?_⟩
  refine ⟨_, rfl, _, _, _, _, false, rfl, .ty _, .base (.int n), kit_ty (by decide +kernel), _, rfl, q⟩

theorem ok__law_same {rn : Nat} (F : Fun K "_law_same" "_law_same" s__law_same f fd) (T : Txt K mg) (d__law_is_integer : Def P w K mg base 1 "_law_is_integer" ["told"] (spIsInt)) (d__law_same : Def P w K mg base (rn + 1) "_law_same" ["told", "due"] (spSame rn)) :
    FnOk P w K mg base CX0 (rn + 2) f fd ["told", "due"] (spSame (rn + 1)) := by
  obtain ⟨f0, fd0, G__law_is_integer, b__law_is_integer, g__law_is_integer, k__law_is_integer⟩ := d__law_is_integer.ex
  obtain ⟨f1, fd1, G__law_same, b__law_same, g__law_same, k__law_same⟩ := d__law_same.ex
  refine F.ok sc__law_same (fun vs H Q E h => ?_) (fun cdv A outer s H vs Q E hr h => ?_)
  · obtain ⟨u, v, d, rfl, du, dv, q⟩ := h
    rfl
  obtain ⟨u, v, d, rfl, du, dv, q⟩ := h
  have hu := hr.units
  refine ⟨_, pss_cons (ps_if (pt_val (pe_callB call_isi (by rfl) T.z_isinstance (by decide +kernel) (pa_cons (pv 1) (pa_cons (pe_bltn (v := .ty "bool") rfl T.z_bool PyProof.Rows.boot_bool rfl) pa_nil)))) (pss_one (ps_ret (pe_and (pe_callB call_isi (by rfl) T.z_isinstance (by decide +kernel) (pa_cons (pv 0) (pa_cons (pe_bltn (v := .ty "bool") rfl T.z_bool PyProof.Rows.boot_bool rfl) pa_nil))) (pe_one (pe_cmpR op_eq (pv 0) (pv 1) (nomark _)))))) pss_nil)
 (pss_cons (ps_if (pt_val (pe_callB call_isi (by rfl) T.z_isinstance (by decide +kernel) (pa_cons (pv 1) (pa_cons (pe_bltn (v := .ty "int") rfl T.z_int PyProof.Rows.boot_int rfl) pa_nil)))) (pss_one (ps_ret (pe_and (pe_call G__law_is_integer (hr.mono (by omega)) rfl g__law_is_integer k__law_is_integer b__law_is_integer .nil pass0 (pa_cons (pv 0) pa_nil)) (pe_one (pe_cmpR op_eq (pv 0) (pv 1) (nomark _)))))) pss_nil)
 (pss_cons (ps_if (pt_val (pe_callB call_isi (by rfl) T.z_isinstance (by decide +kernel) (pa_cons (pv 1) (pa_cons (pe_bltn (v := .ty "str") rfl T.z_str PyProof.Rows.boot_str rfl) pa_nil)))) (pss_one (ps_ret (pe_and (pe_callB call_isi (by rfl) T.z_isinstance (by decide +kernel) (pa_cons (pv 0) (pa_cons (pe_bltn (v := .ty "str") rfl T.z_str PyProof.Rows.boot_str rfl) pa_nil))) (pe_one (pe_cmpR op_eq (pv 0) (pv 1) (nomark _)))))) pss_nil)
 (pss_cons (ps_if (pt_cmpR op_isN (pv 1) pe_non (nomark _)) (pss_one (ps_ret (pe_cmpR op_isN (pv 0) pe_non (nomark _)))) pss_nil)
 (pss_cons (ps_if (PW.pt (pw_and (pt_val (pe_callB call_isi (by rfl) T.z_isinstance (by decide +kernel) (pa_cons (pv 1) (pa_cons (pe_bltn (v := .ty "tuple") rfl T.z_tuple PyProof.Rows.boot_tuple rfl) pa_nil)))) (pw_and1 (pt_not (pt_val (pe_callB call_isi (by rfl) T.z_isinstance (by decide +kernel) (pa_cons (pv 0) (pa_cons (pe_bltn (v := .ty "tuple") rfl T.z_tuple PyProof.Rows.boot_tuple rfl) pa_nil)))))))) (pss_one (ps_ret pe_bl)) pss_nil)
 (pss_cons (ps_if (PW.pt (pw_and (pt_val (pe_callB call_isi (by rfl) T.z_isinstance (by decide +kernel) (pa_cons (pv 1) (pa_cons (pe_bltn (v := .ty "list") rfl T.z_list PyProof.Rows.boot_list rfl) pa_nil)))) (pw_and1 (pt_not (pt_val (pe_callB call_isi (by rfl) T.z_isinstance (by decide +kernel) (pa_cons (pv 0) (pa_cons (pe_bltn (v := .ty "list") rfl T.z_list PyProof.Rows.boot_list rfl) pa_nil)))))))) (pss_one (ps_ret pe_bl)) pss_nil)
 (pss_cons (ps_if (pt_cmpR op_ne (pe_callB (len_at (K := K) rfl) (by rfl) T.z_len PySem.boot_len (pa_cons (pv 0) pa_nil)) (pe_callB (len_at (K := K) rfl) (by rfl) T.z_len PySem.boot_len (pa_cons (pv 1) pa_nil)) (nomark _)) (pss_one (ps_ret pe_bl)) pss_nil)
 (pss_cons (ps_for PassesOwn.never rfl (pi_range1 rfl T.z_range (pa_cons (pe_callB (len_at (K := K) rfl) (by rfl) T.z_len PySem.boot_len (pa_cons (pv 1) pa_nil)) pa_nil)) (pg_name (i := 2) sc__law_same.nd rfl (.inl rfl)) (pss_one (ps_if (pt_not (pt_val (pe_call G__law_same hr rfl g__law_same k__law_same b__law_same .nil pass0 (pa_cons (pe_ix (ixs_at (K := K) rfl) (pv 0) (pv 2) (fun _ _ => rfl)) (pa_cons (pe_ix (ixs_at (K := K) rfl) (pv 1) (pv 2) (fun _ _ => rfl)) pa_nil))))) (pss_one (ps_ret pe_bl)) pss_nil)))
 (pss_one (ps_ret pe_bl))))))))), ?_⟩
  cases d with
  | i k =>
    cases du
    cases dv
    refine ⟨_, rfl, _, _, _, _, false, rfl, .ty _, .base (.int _), kit_ty (by decide +kernel), _, rfl, iteF ?_⟩
    refine ⟨_, rfl, _, _, _, _, true, rfl, .ty _, .base (.int _), kit_ty (by decide +kernel), _, rfl, iteT ?_⟩
    refine ⟨_, rfl, k, rfl, _, rfl, iteT ?_⟩
    exact ⟨_, rfl, _, rfl, rfl, by rw [decide_eq_true rfl]; exact q⟩
  | b x =>
    cases du
    cases dv
    refine ⟨_, rfl, _, _, _, _, true, rfl, .ty _, .base (.bl _), kit_ty (by decide +kernel), _, rfl, iteT ?_⟩
    refine ⟨_, rfl, _, _, _, _, true, rfl, .ty _, .base (.bl _), kit_ty (by decide +kernel), _, rfl, iteT ?_⟩
    exact ⟨_, rfl, _, rfl, by cases x <;> rfl, by rw [decide_eq_true rfl]; exact q⟩
  | s x =>
    cases du
    cases dv
    refine ⟨_, rfl, _, _, _, _, false, rfl, .ty _, .base (.str _), kit_ty (by decide +kernel), _, rfl, iteF ?_⟩
    refine ⟨_, rfl, _, _, _, _, false, rfl, .ty _, .base (.str _), kit_ty (by decide +kernel), _, rfl, iteF ?_⟩
    refine ⟨_, rfl, _, _, _, _, true, rfl, .ty _, .base (.str _), kit_ty (by decide +kernel), _, rfl, iteT ?_⟩
    refine ⟨_, rfl, _, _, _, _, true, rfl, .ty _, .base (.str _), kit_ty (by decide +kernel), _, rfl, iteT ?_⟩
    exact ⟨_, rfl, _, rfl, rfl, by rw [decide_eq_true rfl]; exact q⟩
  | n =>
    cases du
    cases dv
    refine ⟨_, rfl, _, _, _, _, false, rfl, .ty _, .base .non, kit_ty (by decide +kernel), _, rfl, iteF ?_⟩
    refine ⟨_, rfl, _, _, _, _, false, rfl, .ty _, .base .non, kit_ty (by decide +kernel), _, rfl, iteF ?_⟩
    refine ⟨_, rfl, _, _, _, _, false, rfl, .ty _, .base .non, kit_ty (by decide +kernel), _, rfl, iteF ?_⟩
    refine ⟨_, rfl, rfl, _, rfl, iteT ?_⟩
    exact ⟨_, rfl, rfl, q⟩
  | l ds =>
    obtain ⟨a, us, rfl, _, ha, la, as⟩ := du
    obtain ⟨c, vs, rfl, _, hc, lc, cs'⟩ := dv
    refine ⟨_, rfl, _, _, _, _, false, rfl, .ty _, .base (.lst hc), kit_ty (by decide +kernel), _, rfl, iteF ?_⟩
    refine ⟨_, rfl, _, _, _, _, false, rfl, .ty _, .base (.lst hc), kit_ty (by decide +kernel), _, rfl, iteF ?_⟩
    refine ⟨_, rfl, _, _, _, _, false, rfl, .ty _, .base (.lst hc), kit_ty (by decide +kernel), _, rfl, iteF ?_⟩
    refine ⟨_, rfl, rfl, _, rfl, iteF ?_⟩
    refine ⟨_, rfl, _, _, _, _, false, rfl, .ty _, .base (.lst hc), kit_ty (by decide +kernel), _, rfl, iteF ?_⟩
    refine ⟨_, rfl, _, _, _, _, true, rfl, .ty _, .base (.lst hc), kit_ty (by decide +kernel), _, rfl, iteT ?_⟩
    refine ⟨_, rfl, _, _, _, _, true, rfl, .ty _, .base (.lst ha), kit_ty (by decide +kernel), _, rfl, iteF ?_⟩
    have lu := as.length
    have lv := cs'.length
    refine ⟨_, rfl, a, _, rfl, .inl (SqL.of ha), _, rfl, c, _, rfl, .inl (SqL.of hc), rfl, _, rfl, ?_⟩
    refine iteNS (show V.int ((us.length : Nat) : Int) = V.int ((vs.length : Nat) : Int) by rw [lu, lv]) ?_
    refine ⟨_, rfl, c, _, rfl, .inl (SqL.of hc), ((vs.length : Nat) : Int), rfl, by omega, by omega, ?_⟩
    rw [Int.toNat_natCast]
    refine for_range (fun (t : Nat) σ H' => ∃ (y2 : Option V), σ = [some (.ref a), some (.ref c), y2] ∧ H' = H) ⟨none, rfl, rfl⟩ (fun t σ H' ht hP => ?_) (fun σ H' hP => ?_)
    · obtain ⟨y2, rfl, rfl⟩ := hP
      have ht : t < ds.length := by omega
      have ed : ds[t]? = some ds[t] := List.getElem?_eq_getElem ht
      obtain ⟨x, ex, dx⟩ := as.get ed
      obtain ⟨y, ey, dy⟩ := cs'.get ed
      have ax : atI us (0 + (t : Int)) = some x := by rw [Int.zero_add]; exact atI_nat ex
      have ay : atI vs (0 + (t : Int)) = some y := by rw [Int.zero_add]; exact atI_nat ey
      refine ⟨_, rfl, _, rfl, .inl ⟨a, _, _, _, rfl, rfl, SqL.of ha, ax, _, rfl, _, rfl, .inl ⟨c, _, _, _, rfl, rfl, SqL.of hc, ay, x, y, ds[t], rfl, dx, dy, _, rfl, ?_⟩⟩⟩
      exact iteF ⟨_, rfl, rfl⟩
    · obtain ⟨y2, rfl, rfl⟩ := hP
      exact q
  | t ds =>
    obtain ⟨a, us, rfl, _, ha, la, as⟩ := du
    obtain ⟨c, vs, rfl, _, hc, lc, cs'⟩ := dv
    refine ⟨_, rfl, _, _, _, _, false, rfl, .ty _, .base (.tup hc), kit_ty (by decide +kernel), _, rfl, iteF ?_⟩
    refine ⟨_, rfl, _, _, _, _, false, rfl, .ty _, .base (.tup hc), kit_ty (by decide +kernel), _, rfl, iteF ?_⟩
    refine ⟨_, rfl, _, _, _, _, false, rfl, .ty _, .base (.tup hc), kit_ty (by decide +kernel), _, rfl, iteF ?_⟩
    refine ⟨_, rfl, rfl, _, rfl, iteF ?_⟩
    refine ⟨_, rfl, _, _, _, _, true, rfl, .ty _, .base (.tup hc), kit_ty (by decide +kernel), _, rfl, iteT ?_⟩
    refine ⟨_, rfl, _, _, _, _, true, rfl, .ty _, .base (.tup ha), kit_ty (by decide +kernel), _, rfl, iteF ?_⟩
    refine ⟨_, rfl, _, _, _, _, false, rfl, .ty _, .base (.tup hc), kit_ty (by decide +kernel), _, rfl, iteF ?_⟩
    have lu := as.length
    have lv := cs'.length
    refine ⟨_, rfl, a, _, rfl, .inr (SqT.of ha), _, rfl, c, _, rfl, .inr (SqT.of hc), rfl, _, rfl, ?_⟩
    refine iteNS (show V.int ((us.length : Nat) : Int) = V.int ((vs.length : Nat) : Int) by rw [lu, lv]) ?_
    refine ⟨_, rfl, c, _, rfl, .inr (SqT.of hc), ((vs.length : Nat) : Int), rfl, by omega, by omega, ?_⟩
    rw [Int.toNat_natCast]
    refine for_range (fun (t : Nat) σ H' => ∃ (y2 : Option V), σ = [some (.ref a), some (.ref c), y2] ∧ H' = H) ⟨none, rfl, rfl⟩ (fun t σ H' ht hP => ?_) (fun σ H' hP => ?_)
    · obtain ⟨y2, rfl, rfl⟩ := hP
      have ht : t < ds.length := by omega
      have ed : ds[t]? = some ds[t] := List.getElem?_eq_getElem ht
      obtain ⟨x, ex, dx⟩ := as.get ed
      obtain ⟨y, ey, dy⟩ := cs'.get ed
      have ax : atI us (0 + (t : Int)) = some x := by rw [Int.zero_add]; exact atI_nat ex
      have ay : atI vs (0 + (t : Int)) = some y := by rw [Int.zero_add]; exact atI_nat ey
      refine ⟨_, rfl, _, rfl, .inr (.inl ⟨a, _, _, _, rfl, rfl, SqT.of ha, ax, _, rfl, _, rfl, .inr (.inl ⟨c, _, _, _, rfl, rfl, SqT.of hc, ay, x, y, ds[t], rfl, dx, dy, _, rfl, ?_⟩)⟩)⟩
      exact iteF ⟨_, rfl, rfl⟩
    · obtain ⟨y2, rfl, rfl⟩ := hP
      exact q
theorem rec__law_same (F : Fun K "_law_same" "_law_same" s__law_same f fd) (T : Txt K mg) (d__law_is_integer : Def P w K mg base 1 "_law_is_integer" ["told"] (spIsInt)) (hb : Binds K fd ["told", "due"] []) (hm : mg "_law_same" = some (.ref f)) : ∀ n : Nat, FnOk P w K mg base CX0 (n + 1) f fd ["told", "due"] (spSame n)
  | 0 => ⟨fun vs H Q E h => by obtain ⟨u, v, d, _, h, _⟩ := h; exact h.elim, fun A outer s H args us vs Q E _ _ _ _ h => by obtain ⟨u, v, d, _, h, _⟩ := h; exact h.elim⟩
  | n + 1 => ok__law_same F T (d__law_is_integer := d__law_is_integer) (d__law_same := ⟨_, _, rec__law_same F T d__law_is_integer hb hm n, hb, hm, F.kp⟩)

theorem ok_part_begin (F : Fun K "part_begin" "part_begin" s_part_begin f fd) (T : Txt K mg)  :
    FnOk P w K mg base CX0 1 f fd ["n", "m", "k"] (spBegin) := by
  refine F.ok sc_part_begin (fun vs H Q E h => ?_) (fun cdv A outer s H vs Q E hr h => ?_)
  · obtain ⟨n, m, k, rfl, m0, m1, k0, k1, q⟩ := h
    rfl
  obtain ⟨n, m, k, rfl, m0, m1, k0, k1, q⟩ := h
  have hu := hr.units
  refine ⟨_, pss_one (ps_ret (pe_op op_fdiv (pe_op op_mul (pv 0) (pv 2)) (pv 1))), ?_⟩
  walk_at "go"
  refine ⟨.inr ⟨by omega, by omega⟩, ?_⟩
  walk_at "go"
  exact ⟨⟨m0, by omega⟩, q⟩
theorem ok_part_of (F : Fun K "part_of" "part_of" s_part_of f fd) (T : Txt K mg)  :
    FnOk P w K mg base CX0 1 f fd ["n", "m", "i"] (spPart) := by
  refine F.ok sc_part_of (fun vs H Q E h => ?_) (fun cdv A outer s H vs Q E hr h => ?_)
  · obtain ⟨n, m, i, rfl, m0, m1, n0, n1, q⟩ := h
    rfl
  obtain ⟨n, m, i, rfl, m0, m1, n0, n1, q⟩ := h
  have hu := hr.units
  refine ⟨_, pss_one (ps_ret (pe_op op_fdivW (pe_op op_sub (pe_op op_mul (pv 1) (pe_op op_add (pv 2) pe_int)) pe_int) (pv 0))), ?_⟩
  walk_at "go"
  refine ⟨.inl ⟨by omega, by omega⟩, ?_⟩
  walk_at "go"
  exact ⟨wide_div (b := 110) n0 (by omega) (by decide) (by decide), q⟩
theorem ok_law (F : Fun K "law" "law" s_law f fd) (T : Txt K mg) (d__law_cell : Def P w K mg base 1 "_law_cell" ["script", "k"] (spCell K)) (d_part_begin : Def P w K mg base 1 "part_begin" ["n", "m", "k"] (spBegin)) (d__law_same : Def P w K mg base 8 "_law_same" ["told", "due"] (spSame 7)) (d_part_of : Def P w K mg base 1 "part_of" ["n", "m", "i"] (spPart)) (d__law_is_integer : Def P w K mg base 1 "_law_is_integer" ["told"] (spIsInt)) :
    FnOk P w K mg base CX0 9 f fd ["script"] (spLaw K) := by
  obtain ⟨f0, fd0, G__law_cell, b__law_cell, g__law_cell, k__law_cell⟩ := d__law_cell.ex
  obtain ⟨f1, fd1, G_part_begin, b_part_begin, g_part_begin, k_part_begin⟩ := d_part_begin.ex
  obtain ⟨f2, fd2, G__law_same, b__law_same, g__law_same, k__law_same⟩ := d__law_same.ex
  obtain ⟨f3, fd3, G_part_of, b_part_of, g_part_of, k_part_of⟩ := d_part_of.ex
  obtain ⟨f4, fd4, G__law_is_integer, b__law_is_integer, g__law_is_integer, k__law_is_integer⟩ := d__law_is_integer.ex
  refine F.ok sc_law (fun vs H Q E h => ?_) (fun cdv A outer s H vs Q E hr h => ?_)
  · obtain ⟨a, ns, rfl, hS, h63, q⟩ := h
    rfl
  obtain ⟨a, ns, rfl, hS, h63, q⟩ := h
  have hu := hr.units
  refine ⟨_, pss_cons (ps_for PassesOwn.never rfl (pi_range1 rfl T.z_range (pa_cons pe_int pa_nil)) (pg_name (i := 1) sc_law.nd rfl (.inl rfl)) (pss_cons (ps_set (i := 2) sc_law.nd rfl (.inl rfl) (pe_callB call_abs (by rfl) T.z_abs (by decide +kernel) (pa_cons (pe_call G__law_cell (hr.mono (by decide)) rfl g__law_cell k__law_cell b__law_cell .nil pass0 (pa_cons (pv 0) (pa_cons (pe_op op_mul pe_int (pv 1)) pa_nil))) pa_nil)))
 (pss_cons (ps_set (i := 3) sc_law.nd rfl (.inr rfl) (pe_op op_mod (pe_callTy call_int1 (by rfl) T.z_int PyProof.Rows.boot_int (pa_cons (pv 2) pa_nil)) pe_int))
 (pss_cons (ps_if (pt_cmpR op_eq (pe_op op_mod (pe_callTy call_int1 (by rfl) T.z_int PyProof.Rows.boot_int (pa_cons (pe_op op_fdiv (pv 2) pe_int) pa_nil)) pe_int) pe_int (nomark _)) (pss_one (ps_set (i := 3) sc_law.nd rfl (.inr rfl) (pe_op op_mod (pe_callTy call_int1 (by rfl) T.z_int PyProof.Rows.boot_int (pa_cons (pv 2) pa_nil)) (pe_op op_pow pe_int pe_int)))) pss_nil)
 (pss_cons (ps_set (i := 4) sc_law.nd rfl (.inr rfl) (pe_op op_add pe_int (pe_op op_mod (pe_callTy call_int1 (by rfl) T.z_int PyProof.Rows.boot_int (pa_cons (pe_callB call_abs (by rfl) T.z_abs (by decide +kernel) (pa_cons (pe_call G__law_cell (hr.mono (by decide)) rfl g__law_cell k__law_cell b__law_cell .nil pass0 (pa_cons (pv 0) (pa_cons (pe_op op_add (pe_op op_mul pe_int (pv 1)) pe_int) pa_nil))) pa_nil)) pa_nil)) pe_int)))
 (pss_cons (ps_set (i := 6) sc_law.nd rfl (.inr rfl) (pe_lc (own := [("k", 5)]) (g := gName 5) (tt := tYes)  rfl sc_law.nd (pi_range1 rfl T.z_range (pa_cons (pe_op op_add (pv 4) pe_int) pa_nil)) (blkOk_by (N := ["script", "turn", "cell", "n", "m", "k", "ends", "i", "told", "j"]) (sc := defScope s_law) (by decide +kernel)) (fun _ _ _ _ _ => (pg_name (i := 5) sc_law.nd rfl (.inl rfl))) (fun _ _ _ _ _ => pts_nil) (fun _ _ _ _ _ => (pe_call G_part_begin (hr.mono (by decide)) rfl g_part_begin k_part_begin b_part_begin .nil pass0 (pa_cons (pv 3) (pa_cons (pv 4) (pa_cons (pv 5) pa_nil)))))))
 (pss_cons (ps_if (pt_not (pt_val (pe_call G__law_same hr rfl g__law_same k__law_same b__law_same .nil pass0 (pa_cons (pv 6) (pa_cons (pe_lc (own := [("k", 5)]) (g := gName 5) (tt := tYes)  rfl sc_law.nd (pi_range1 rfl T.z_range (pa_cons (pe_op op_add (pv 4) pe_int) pa_nil)) (blkOk_by (N := ["script", "turn", "cell", "n", "m", "k", "ends", "i", "told", "j"]) (sc := defScope s_law) (by decide +kernel)) (fun _ _ _ _ _ => (pg_name (i := 5) sc_law.nd rfl (.inl rfl))) (fun _ _ _ _ _ => pts_nil) (fun _ _ _ _ _ => (pe_op op_fdiv (pe_op op_mul (pv 3) (pv 5)) (pv 4)))) pa_nil))))) (pss_one (ps_ret pe_bl)) pss_nil)
 (pss_one (ps_for PassesOwn.never rfl (pi_range1 rfl T.z_range (pa_cons pe_int pa_nil)) (pg_name (i := 5) sc_law.nd rfl (.inl rfl)) (pss_one (ps_if (pt_cmpR op_gt (pv 3) pe_int (nomark _)) (pss_cons (ps_set (i := 7) sc_law.nd rfl (.inr rfl) (pe_op op_mod (pe_callTy call_int1 (by rfl) T.z_int PyProof.Rows.boot_int (pa_cons (pe_op op_add (pe_op op_add (pe_op op_mul (pe_callB call_abs (by rfl) T.z_abs (by decide +kernel) (pa_cons (pe_call G__law_cell (hr.mono (by decide)) rfl g__law_cell k__law_cell b__law_cell .nil pass0 (pa_cons (pv 0) (pa_cons (pe_op op_add (pe_op op_mul pe_int (pv 1)) pe_int) pa_nil))) pa_nil)) (pe_op op_add (pv 5) pe_int)) (pe_op op_mul (pv 5) (pe_op op_fdiv (pv 2) pe_int))) (pv 5)) pa_nil)) (pv 3)))
 (pss_cons (ps_set (i := 8) sc_law.nd rfl (.inl rfl) (pe_call G_part_of (hr.mono (by decide)) rfl g_part_of k_part_of b_part_of .nil pass0 (pa_cons (pv 3) (pa_cons (pv 4) (pa_cons (pv 7) pa_nil)))))
 (pss_cons (ps_if (PW.pt (pw_or (pt_not (pt_val (pe_call G__law_is_integer (hr.mono (by decide)) rfl g__law_is_integer k__law_is_integer b__law_is_integer .nil pass0 (pa_cons (pv 8) pa_nil)))) (pw_or (pt_cmpR op_lt (pv 8) pe_int (nomark _)) (pw_or1 (pt_cmpR op_ge (pv 8) (pv 4) (nomark _)))))) (pss_one (ps_ret pe_bl)) pss_nil)
 (pss_cons (ps_if (PW.pt (pw_or (pt_cmpR op_lt (pv 7) (pe_ix (ixl_at (K := K) rfl) (pv 6) (pv 8) (fun _ _ => rfl)) (nomark _)) (pw_or (pt_cmpR op_ge (pv 7) (pe_ix (ixl_at (K := K) rfl) (pv 6) (pe_op op_add (pv 8) pe_int) (fun _ _ => rfl)) (nomark _)) (pw_or1 (PW.pt (pw_and (pt_cmpR op_gt (pv 8) pe_int (nomark _)) (pw_and1 (pt_cmpR op_gt (pe_ix (ixl_at (K := K) rfl) (pv 6) (pv 8) (fun _ _ => rfl)) (pv 7) (nomark _))))))))) (pss_one (ps_ret pe_bl)) pss_nil)
 (pss_one (ps_if (pt_cmpR op_gt (pe_callB (len_at (K := K) rfl) (by rfl) T.z_len PySem.boot_len (pa_cons (pe_lc (own := [("j", 9)]) (g := gName 9)  rfl sc_law.nd (pi_range1 rfl T.z_range (pa_cons (pv 8) pa_nil)) (blkOk_by (N := ["script", "turn", "cell", "n", "m", "k", "ends", "i", "told", "j"]) (sc := defScope s_law) (by decide +kernel)) (fun _ _ _ _ _ => (pg_name (i := 9) sc_law.nd rfl (.inl rfl))) (fun _ _ _ _ _ => pts_one (pt_cmpR op_gt (pe_ix (ixl_at (K := K) rfl) (pv 6) (pe_op op_add (pv 9) pe_int) (fun _ _ => rfl)) (pv 7) (nomark _))) (fun _ _ _ _ _ => (pv 9))) pa_nil)) pe_int (nomark _)) (pss_one (ps_ret pe_bl)) pss_nil)))))) pss_nil)))))))))))
 (pss_one (ps_ret pe_bl)), ?_⟩
  walk_at "go"
  refine ⟨by decide, by decide, ?_⟩
  refine for_range (fun (t : Nat) σ H' => ∃ (y1 y2 y3 y4 y5 y6 y7 y8 y9 : Option V), σ = [some (.ref a), y1, y2, y3, y4, y5, y6, y7, y8, y9] ∧ Same H H') ⟨none, none, none, none, none, none, none, none, none, rfl, .refl H⟩ (fun t σ H' ht hP => ?_) (fun σ H' hP => ?_)
  · obtain ⟨y1, y2, y3, y4, y5, y6, y7, y8, y9, rfl, sm⟩ := hP
    walk_at "go"
    refine ⟨a, ns, _, rfl, sm.seq hS, by omega, fun c0 => ?_⟩
    refine ⟨c0, rfl, ?_⟩
    have cell0 := abs0 c0
    generalize (if c0 < 0 then -c0 else c0) = cell at *
    walk_at "go"
    refine ite2 (fun c => ?ca) (fun c => ?cb)
    case' ca =>
      refine ⟨_, rfl, .inl ⟨_, rfl, _, _, rfl, rfl, ⟨by decide, by decide, by decide⟩, _, _, rfl, rfl, (by decide : (0 : Int) < 10 ^ (30 : Int).toNat), ?_⟩⟩
      have hn : 0 ≤ cell % 10 ^ (30 : Int).toNat ∧ cell % 10 ^ (30 : Int).toNat < 10 ^ 30 := ⟨Int.emod_nonneg _ (by decide), Int.emod_lt_of_pos _ (by decide)⟩
      dsimp only
      generalize cell % 10 ^ (30 : Int).toNat = n at *
    case' cb =>
      have hn : 0 ≤ cell % 701 ∧ cell % 701 < 10 ^ 30 := by omega
      dsimp only
      generalize cell % 701 = n at *
    all_goals
      refine ⟨_, rfl, _, rfl, _, _, rfl, rfl, .inl ⟨by decide, by decide⟩, _, _, rfl, rfl, a, ns, _, rfl, sm.seq hS, by omega, fun c1 => ?_⟩
      refine ⟨c1, rfl, ?_⟩
      have hc1 := abs0 c1
      dsimp only
      generalize (if c1 < 0 then -c1 else c1) = c2 at *
      refine .inl ⟨_, rfl, _, _, rfl, rfl, (by decide : (0 : Int) < 12), _, _, rfl, rfl, ?_⟩
      have hm : 0 < 1 + c2 % 12 ∧ 1 + c2 % 12 < 1000 := by omega
      dsimp only
      generalize 1 + c2 % 12 = m at *
      -- ends
      refine ⟨_, rfl, _, _, rfl, rfl, m + 1, rfl, by omega, by omega, fun D nD => ?_⟩
      refine lc_range (fun (t : Nat) H2 => Same H' H2 ∧ H2 D = some (.lst (((List.range t).map fun k => n * (k : Nat) / m).map V.int))) ⟨same_new nD _, upd_same⟩ (fun k H2 hk hP => ?_) (fun H2 hP => ?_)
      · obtain ⟨e2, hD⟩ := hP
        refine ⟨rfl, _, rfl, _, rfl, _, rfl, n, m, _, rfl, hm.1, hm.2, by omega, by omega, ?_⟩
        refine ⟨_, hD, smaller (by rw [List.length_map, List.length_map, List.length_range]; omega), same_mut e2 nD, ?_⟩
        rw [upd_same, List.range_succ, List.map_append, List.map_append]
        simp only [Int.zero_add]
        rfl
      · obtain ⟨e2, hD⟩ := hP
        refine ⟨_, rfl, _, rfl, _, _, rfl, rfl, m + 1, rfl, by omega, by omega, fun D2 nD2 => ?_⟩
        refine lc_range (fun (t : Nat) H3 => Same H2 H3 ∧ H3 D2 = some (.lst (((List.range t).map fun k => n * (k : Nat) / m).map V.int))) ⟨same_new nD2 _, upd_same⟩ (fun k H3 hk hP => ?_) (fun H3 hP => ?_)
        · obtain ⟨e3, hD2⟩ := hP
          refine ⟨rfl, _, rfl, _, rfl, _, _, rfl, rfl, .inr ⟨by omega, by omega⟩, _, rfl, _, _, rfl, rfl, ⟨hm.1, by omega⟩, ?_⟩
          refine ⟨_, hD2, smaller (by rw [List.length_map, List.length_map, List.length_range]; omega), same_mut e3 nD2, ?_⟩
          rw [upd_same, List.range_succ, List.map_append, List.map_append]
          simp only [Int.zero_add]
          rfl
        obtain ⟨e3, hD2⟩ := hP
        have hD3 := e3 _ _ hD
        have len3 : ((List.range (m + 1).toNat).map fun k => n * ((k : Nat) : Int) / m).length ≤ 100000 := by rw [List.length_map, List.length_range]; omega
        refine ⟨_, _, _, rfl, DV.lst (S := anyA) trivial hD3 len3, DV.lst (S := anyA) trivial hD2 len3, _, rfl, iteF ?_⟩
        refine ⟨8, rfl, by decide, by decide, ?_⟩
        have s3 := sm.trans (e2.trans e3)
        refine for_range (fun (k : Nat) σ H4 => ∃ (y5 y7 y8 y9 : Option V), σ = [some (.ref a), some (.int (0 + (t : Int))), some (.int cell), some (.int n), some (.int m), y5, some (.ref D), y7, y8, y9] ∧ Same H3 H4) ⟨_, _, _, _, rfl, .refl _⟩ (fun k σ H4 hk hP => ?_) (fun σ H4 hP => ?_)
        · obtain ⟨y5, y7, y8, y9, rfl, e4⟩ := hP
          refine ⟨_, rfl, _, _, rfl, rfl, _, rfl, ?_⟩
          refine ite2 (fun c => ?_) (fun c => ?_)
          · have n0 : 0 < n := of_decide_eq_true c
            refine ⟨_, rfl, _, rfl, _, _, rfl, rfl, .inl ⟨by decide, by decide⟩, _, _, rfl, rfl, a, ns, _, rfl, (s3.trans e4).seq hS, by omega, fun c3 => ?_⟩
            refine ⟨c3, rfl, ?_⟩
            dsimp only
            generalize (if c3 < 0 then -c3 else c3) = c4 at *
            refine ⟨_, rfl, _, _, rfl, rfl, _, _, rfl, rfl, .inr ⟨by omega, by omega⟩, _, rfl, _, rfl, _, _, rfl, rfl, ⟨by decide, by decide⟩, _, _, rfl, rfl, .inl ⟨by omega, by omega⟩, _, _, rfl, rfl, _, rfl, _, _, rfl, rfl, .inl ⟨_, rfl, _, rfl, _, _, rfl, rfl, n0, ?_⟩⟩
            have hi0 := Int.emod_nonneg (c4 * (0 + (k : Int) + 1) + (0 + (k : Int)) * (cell / 7) + (0 + (k : Int))) (show n ≠ 0 by omega)
            have hi1 := Int.emod_lt_of_pos (c4 * (0 + (k : Int) + 1) + (0 + (k : Int)) * (cell / 7) + (0 + (k : Int))) n0
            dsimp only
            generalize (c4 * (0 + (k : Int) + 1) + (0 + (k : Int)) * (cell / 7) + (0 + (k : Int))) % n = i at *
            refine ⟨_, rfl, _, rfl, _, rfl, n, m, i, rfl, hm.1, hm.2, n0, hn.2, ?_⟩
            obtain ⟨p0, p1, p2, p3, p4⟩ := parts hm.1 n0 hi0 hi1
            dsimp only
            generalize (m * (i + 1) - 1) / n = told at *
            refine ⟨_, rfl, told, rfl, _, rfl, iteF ?_⟩
            refine ⟨_, rfl, _, _, rfl, rfl, _, rfl, iteDN (by omega) ?_⟩
            refine ⟨_, rfl, _, rfl, _, _, rfl, rfl, _, rfl, iteDN (by omega) ?_⟩
            have hD4 := e4 _ _ hD3
            have at_ : ∀ j : Int, 0 ≤ j → j ≤ m → atI ((((List.range (m + 1).toNat).map fun k => n * ((k : Nat) : Int) / m)).map V.int) j = some (.int (n * j / m)) := fun j j0 j1 => by
              have z := at_map (f := fun k => n * ((k : Nat) : Int) / m) (n := (m + 1).toNat) j0 (by omega)
              have e : ((j.toNat : Nat) : Int) = j := by omega
              rw [e] at z
              exact z
            have q1 := at_ told p0 (by omega)
            have q2 := at_ (told + 1) (by omega) (by omega)
            refine ⟨_, rfl, _, rfl, _, rfl, D, _, _, _, rfl, rfl, SqL.of hD4, q1, _, _, rfl, rfl, _, rfl, iteDN (by omega) ?_⟩
            refine ⟨_, rfl, _, rfl, _, rfl, _, _, rfl, rfl, D, _, _, _, rfl, rfl, SqL.of hD4, q2, _, _, rfl, rfl, _, rfl, iteDN (by omega) ?_⟩
            refine ⟨_, rfl, _, _, rfl, rfl, _, rfl, ?_⟩
            refine ite2 (fun _ => ?_) (fun _ => ?_)
            all_goals first | refine ⟨_, rfl, _, rfl, D, _, _, _, rfl, rfl, SqL.of hD4, q1, _, rfl, _, _, rfl, rfl, _, rfl, iteDN (by omega) ?_⟩ | refine iteF ?_
            all_goals
              refine ⟨_, rfl, told, rfl, by omega, by omega, fun D5 nD5 => ?_⟩
              refine lc_range (fun (t : Nat) H5 => Same H4 H5 ∧ H5 D5 = some (.lst [])) ⟨same_new nD5 _, upd_same⟩ (fun j H5 hj hP => ?_) (fun H5 hP => ?_)
              · obtain ⟨e5, hD5⟩ := hP
                have q3 := at_ (0 + (j : Int) + 1) (by omega) (by omega)
                have q4 := p4 (0 + (j : Int)) (by omega)
                exact ⟨rfl, _, rfl, _, rfl, _, _, rfl, rfl, D, _, _, _, rfl, rfl, SqL.of (e5 _ _ hD4), q3, _, rfl, _, _, rfl, rfl, _, rfl, iteDN (by omega) ⟨e5, hD5⟩⟩
              · obtain ⟨e5, hD5⟩ := hP
                refine ⟨D5, _, rfl, .inl (SqL.of hD5), _, _, rfl, rfl, _, rfl, iteDN (by decide) ?_⟩
                exact ⟨_, _, _, _, rfl, e4.trans e5⟩
          · exact ⟨_, _, _, _, rfl, e4⟩
        · obtain ⟨y5, y7, y8, y9, rfl, e4⟩ := hP
          exact ⟨_, _, _, _, _, _, _, _, _, rfl, s3.trans e4⟩
  · obtain ⟨y1, y2, y3, y4, y5, y6, y7, y8, y9, rfl, sm⟩ := hP
    exact q _
end
theorem all_mk {l : PySem.W.OpenLaw} {w : World} {K : PySem.W.Frag} {h : Heap} {mg : Str → Option Value} {fa : Addr} (X : K.In h) (G : h.Ns mainGlobals mg) (hfa : mg "law" = some (.ref fa))
    {f_0 : Addr} {od_0 an_0 : Option Addr} {sl_0 : Array (Option Value)} {oc_0 kV_0 dc_0 pm_0 cd_0 ct_0 : Value}
    (a_0 : PySem.W.nsIn K mainGlobals "_law_is_integer" = some (some (.ref f_0)))
    (l_0 : K.lookup f_0 = some ⟨oc_0, od_0, .func (PySem.W.fnOf "_law_is_integer" "_law_is_integer" (defArgs s__law_is_integer) (defBody s__law_is_integer) (defScope s__law_is_integer) .none kV_0 dc_0 pm_0 an_0 cd_0 ct_0), sl_0⟩) (c_0 : PySem.W.codeIn K cd_0 "_law_is_integer" = true) (k_0 : PySem.W.keepIn K (.ref f_0) = true)
    {f_1 : Addr} {od_1 an_1 : Option Addr} {sl_1 : Array (Option Value)} {oc_1 kV_1 dc_1 pm_1 cd_1 ct_1 : Value}
    (a_1 : PySem.W.nsIn K mainGlobals "part_of" = some (some (.ref f_1)))
    (l_1 : K.lookup f_1 = some ⟨oc_1, od_1, .func (PySem.W.fnOf "part_of" "part_of" (defArgs s_part_of) (defBody s_part_of) (defScope s_part_of) .none kV_1 dc_1 pm_1 an_1 cd_1 ct_1), sl_1⟩) (c_1 : PySem.W.codeIn K cd_1 "part_of" = true) (k_1 : PySem.W.keepIn K (.ref f_1) = true)
    {f_2 : Addr} {od_2 an_2 : Option Addr} {sl_2 : Array (Option Value)} {oc_2 kV_2 dc_2 pm_2 cd_2 ct_2 : Value}
    (a_2 : PySem.W.nsIn K mainGlobals "part_begin" = some (some (.ref f_2)))
    (l_2 : K.lookup f_2 = some ⟨oc_2, od_2, .func (PySem.W.fnOf "part_begin" "part_begin" (defArgs s_part_begin) (defBody s_part_begin) (defScope s_part_begin) .none kV_2 dc_2 pm_2 an_2 cd_2 ct_2), sl_2⟩) (c_2 : PySem.W.codeIn K cd_2 "part_begin" = true) (k_2 : PySem.W.keepIn K (.ref f_2) = true)
    {f_3 : Addr} {od_3 an_3 : Option Addr} {sl_3 : Array (Option Value)} {oc_3 kV_3 dc_3 pm_3 cd_3 ct_3 : Value}
    (a_3 : PySem.W.nsIn K mainGlobals "_law_cell" = some (some (.ref f_3)))
    (l_3 : K.lookup f_3 = some ⟨oc_3, od_3, .func (PySem.W.fnOf "_law_cell" "_law_cell" (defArgs s__law_cell) (defBody s__law_cell) (defScope s__law_cell) .none kV_3 dc_3 pm_3 an_3 cd_3 ct_3), sl_3⟩) (c_3 : PySem.W.codeIn K cd_3 "_law_cell" = true) (k_3 : PySem.W.keepIn K (.ref f_3) = true)
    {f_4 : Addr} {od_4 an_4 : Option Addr} {sl_4 : Array (Option Value)} {oc_4 kV_4 dc_4 pm_4 cd_4 ct_4 : Value}
    (a_4 : PySem.W.nsIn K mainGlobals "_law_same" = some (some (.ref f_4)))
    (l_4 : K.lookup f_4 = some ⟨oc_4, od_4, .func (PySem.W.fnOf "_law_same" "_law_same" (defArgs s__law_same) (defBody s__law_same) (defScope s__law_same) .none kV_4 dc_4 pm_4 an_4 cd_4 ct_4), sl_4⟩) (c_4 : PySem.W.codeIn K cd_4 "_law_same" = true) (k_4 : PySem.W.keepIn K (.ref f_4) = true)
    {f_5 : Addr} {od_5 an_5 : Option Addr} {sl_5 : Array (Option Value)} {oc_5 kV_5 dc_5 pm_5 cd_5 ct_5 : Value}
    (a_5 : PySem.W.nsIn K mainGlobals "law" = some (some (.ref f_5)))
    (l_5 : K.lookup f_5 = some ⟨oc_5, od_5, .func (PySem.W.fnOf "law" "law" (defArgs s_law) (defBody s_law) (defScope s_law) .none kV_5 dc_5 pm_5 an_5 cd_5 ct_5), sl_5⟩) (c_5 : PySem.W.codeIn K cd_5 "law" = true) (k_5 : PySem.W.keepIn K (.ref f_5) = true)
    (z_abs : PySem.W.nsIn K mainGlobals "abs" = some none)
    (z_bool : PySem.W.nsIn K mainGlobals "bool" = some none)
    (z_int : PySem.W.nsIn K mainGlobals "int" = some none)
    (z_isinstance : PySem.W.nsIn K mainGlobals "isinstance" = some none)
    (z_len : PySem.W.nsIn K mainGlobals "len" = some none)
    (z_list : PySem.W.nsIn K mainGlobals "list" = some none)
    (z_range : PySem.W.nsIn K mainGlobals "range" = some none)
    (z_str : PySem.W.nsIn K mainGlobals "str" = some none)
    (z_tuple : PySem.W.nsIn K mainGlobals "tuple" = some none)
    : ∃ fd : FuncData, (∀ (s : Shared) (v : Value), BindsTo s fd ⟨[v], []⟩ [("script", v)]) ∧ ∀ base : Heap, K.In base → base.Ns mainGlobals mg → FnOk l.prog w K mg base CX0 9 fa fd ["script"] (spLaw K) := by
  have e := hfa.symm.trans (PySem.W.mg_of X G a_5)
  cases e
  have T : Txt K mg := ⟨PySem.W.mg_none_of X G z_abs, PySem.W.mg_none_of X G z_bool, PySem.W.mg_none_of X G z_int, PySem.W.mg_none_of X G z_isinstance, PySem.W.mg_none_of X G z_len, PySem.W.mg_none_of X G z_list, PySem.W.mg_none_of X G z_range, PySem.W.mg_none_of X G z_str, PySem.W.mg_none_of X G z_tuple⟩
  refine ⟨PySem.W.fnOf "law" "law" (defArgs s_law) (defBody s_law) (defScope s_law) .none kV_5 dc_5 pm_5 an_5 cd_5 ct_5, fun s v => .of_eq rfl, fun base _ _ => ?_⟩
  have F_0 := fun_mk (st := s__law_is_integer) l_0 c_0 k_0
  have B_0 : Binds K _ ["told"] [] := F_0.binds (ps := ["told"]) fun _ _ _ _ _ _ us hl => match us, hl with | [_], _ => rfl
  have O_0 := ok__law_is_integer (P := l.prog) (w := w) (base := base) F_0 T 
  have D__law_is_integer : Def l.prog w K mg base 1 "_law_is_integer" ["told"] (spIsInt) := ⟨_, _, O_0, B_0, PySem.W.mg_of X G a_0, k_0⟩
  have F_1 := fun_mk (st := s_part_of) l_1 c_1 k_1
  have B_1 : Binds K _ ["n", "m", "i"] [] := F_1.binds (ps := ["n", "m", "i"]) fun _ _ _ _ _ _ us hl => match us, hl with | [_, _, _], _ => rfl
  have O_1 := ok_part_of (P := l.prog) (w := w) (base := base) F_1 T 
  have D_part_of : Def l.prog w K mg base 1 "part_of" ["n", "m", "i"] (spPart) := ⟨_, _, O_1, B_1, PySem.W.mg_of X G a_1, k_1⟩
  have F_2 := fun_mk (st := s_part_begin) l_2 c_2 k_2
  have B_2 : Binds K _ ["n", "m", "k"] [] := F_2.binds (ps := ["n", "m", "k"]) fun _ _ _ _ _ _ us hl => match us, hl with | [_, _, _], _ => rfl
  have O_2 := ok_part_begin (P := l.prog) (w := w) (base := base) F_2 T 
  have D_part_begin : Def l.prog w K mg base 1 "part_begin" ["n", "m", "k"] (spBegin) := ⟨_, _, O_2, B_2, PySem.W.mg_of X G a_2, k_2⟩
  have F_3 := fun_mk (st := s__law_cell) l_3 c_3 k_3
  have B_3 : Binds K _ ["script", "k"] [] := F_3.binds (ps := ["script", "k"]) fun _ _ _ _ _ _ us hl => match us, hl with | [_, _], _ => rfl
  have O_3 := ok__law_cell (P := l.prog) (w := w) (base := base) F_3 T 
  have D__law_cell : Def l.prog w K mg base 1 "_law_cell" ["script", "k"] (spCell K) := ⟨_, _, O_3, B_3, PySem.W.mg_of X G a_3, k_3⟩
  have F_4 := fun_mk (st := s__law_same) l_4 c_4 k_4
  have B_4 : Binds K _ ["told", "due"] [] := F_4.binds (ps := ["told", "due"]) fun _ _ _ _ _ _ us hl => match us, hl with | [_, _], _ => rfl
  have O_4 := rec__law_same (P := l.prog) (w := w) (base := base) F_4 T (d__law_is_integer := D__law_is_integer) (hb := B_4) (hm := PySem.W.mg_of X G a_4) 7
  have D__law_same : Def l.prog w K mg base 8 "_law_same" ["told", "due"] (spSame 7) := ⟨_, _, O_4, B_4, PySem.W.mg_of X G a_4, k_4⟩
  exact ok_law (fun_mk (st := s_law) l_5 c_5 k_5) T (d__law_cell := D__law_cell) (d_part_begin := D_part_begin) (d__law_same := D__law_same) (d_part_of := D_part_of) (d__law_is_integer := D__law_is_integer)
end My
open PySem PySem.W PyProof.Rows
set_option maxHeartbeats 0 in
theorem PySem.Challenge.cw_asifone_k48_parts_holds : PySem.Challenge.rw_asifone_k48_parts.Holds := by
  w_on; o_law; k_head; (case hw => w_witness2)
  k_fill
  refine L2.walk_of (l := PySem.Challenge.rw_asifone_k48_parts) (n := 63) (k := 9) (x := "script") (CX := fun _ => L2.CX0) (sp := fun w => My.spLaw _) rfl (by decide) rfl ⟨rfl, by decide, by decide⟩ (fun w h Y => PySem.W.kIn_of Y) ?F (fun _ _ a ns hl _ hS => ⟨a, ns, rfl, hS, hl, fun _ => rfl⟩) (fun _ _ _ _ _ h => h)
  case F =>
    intro w mg fa h KX G hmg
    refine' My.all_mk KX G hmg ?a_0 ?l_0 ?c_0 ?k_0 ?a_1 ?l_1 ?c_1 ?k_1 ?a_2 ?l_2 ?c_2 ?k_2 ?a_3 ?l_3 ?c_3 ?k_3 ?a_4 ?l_4 ?c_4 ?k_4 ?a_5 ?l_5 ?c_5 ?k_5 ?z_abs ?z_bool ?z_int ?z_isinstance ?z_len ?z_list ?z_range ?z_str ?z_tuple
    (case a_0 => k_is)
    (case l_0 => k_is)
    (case c_0 => k_is)
    (case k_0 => k_is)
    (case a_1 => k_is)
    (case l_1 => k_is)
    (case c_1 => k_is)
    (case k_1 => k_is)
    (case a_2 => k_is)
    (case l_2 => k_is)
    (case c_2 => k_is)
    (case k_2 => k_is)
    (case a_3 => k_is)
    (case l_3 => k_is)
    (case c_3 => k_is)
    (case k_3 => k_is)
    (case a_4 => k_is)
    (case l_4 => k_is)
    (case c_4 => k_is)
    (case k_4 => k_is)
    (case a_5 => k_is)
    (case l_5 => k_is)
    (case c_5 => k_is)
    (case k_5 => k_is)
    (case z_abs => k_is)
    (case z_bool => k_is)
    (case z_int => k_is)
    (case z_isinstance => k_is)
    (case z_len => k_is)
    (case z_list => k_is)
    (case z_range => k_is)
    (case z_str => k_is)
    (case z_tuple => k_is)
