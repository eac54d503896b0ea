import PyProof.Rows.All
import Wide.All
import OpenK.AllK
import Wide.FinOn
import HandS.ForMost
import HandS.IsInst
import HandS.More
import HandS.Deep
import HandS.DictTup
import HandS.Flow
import HandS.SortKw
import HandS.IterVal
import HandS.OwnEq
import KE.KOwnIter
import KE.DatumOrd
import HandS.CallLocal
import HandS.Codes
import HandS.Wide
import HandS.TupLe
import HandS.TupAny
import HandS.Star
import HandS.Walk
import HandS.Defaults
import KE.KStateDown
import KE.LtData
import KE.KDictZip
import HandS.NoneIn
import HandS.Head0
import HandS.Head1
import HandS.Head2
import HandS.HeadEnd
import HandS.HeadHook1
import HandS.HeadHook2
import HandS.HeadHook3
import PySem.Challenge.RW_asifone_k66_traces_of_names
set_option Elab.async false
set_option linter.all false
set_option maxRecDepth 100000
set_option maxHeartbeats 4000000














namespace My
open PySem PySem.Spec PyProof.Rows L2
def topS (i : Nat) : Stmt := PySem.Challenge.pw_asifone_k66_traces_of_names.main.body.getD i (.Pass ⟨0, 0, 0, 0⟩)
abbrev s__wall : Stmt := topS 0
abbrev s_names_of : Stmt := topS 2
abbrev s_narrowed : Stmt := topS 3
abbrev s_Plan___init__ : Stmt := inClass (topS 5) 0
abbrev s_Plan___iter__ : Stmt := inClass (topS 5) 1
abbrev s_Plan_acts_of : Stmt := inClass (topS 5) 2
abbrev s_trace : Stmt := topS 6
abbrev s__law_cell : Stmt := topS 8
abbrev s__law_row : Stmt := topS 9
abbrev s__law_draw : Stmt := topS 10
abbrev s__law_wrap : Stmt := topS 11
abbrev s__law_word : Stmt := topS 12
abbrev s__law_is_integer : Stmt := topS 13
abbrev s__law_fill : Stmt := topS 14
abbrev s__law_try : Stmt := topS 15
abbrev s__law_length : Stmt := topS 16
abbrev s__law_small_net : Stmt := topS 17
abbrev s__law_job : Stmt := topS 18
abbrev s__law_same : Stmt := topS 19
abbrev s__law_cells : Stmt := topS 20
abbrev s__law_pool : Stmt := topS 21
abbrev s__law_some : Stmt := topS 22
abbrev s__law_drawn_act : Stmt := topS 23
abbrev s__law_due_trace : Stmt := topS 24
abbrev s_law : Stmt := topS 25
theorem sc__wall : FnScope ["k"] ["k"] (defScope s__wall) := ⟨rfl, rfl, rfl, by decide +kernel, rfl, by decide +kernel, by decide +kernel⟩
theorem sc_names_of : FnScope ["act", "name", "_"] ["act"] (defScope s_names_of) := ⟨rfl, rfl, rfl, by decide +kernel, rfl, by decide +kernel, by decide +kernel⟩
theorem sc_narrowed : FnScope ["act", "name", "entry", "one"] ["act", "name"] (defScope s_narrowed) := ⟨rfl, rfl, rfl, by decide +kernel, rfl, by decide +kernel, by decide +kernel⟩
theorem sc_Plan___init__ : FnScope ["self", "acts", "ranks"] ["self", "acts", "ranks"] (defScope s_Plan___init__) := ⟨rfl, rfl, rfl, by decide +kernel, rfl, by decide +kernel, by decide +kernel⟩
theorem sc_Plan___iter__ : FnScope ["self"] ["self"] (defScope s_Plan___iter__) := ⟨rfl, rfl, rfl, by decide +kernel, rfl, by decide +kernel, by decide +kernel⟩
theorem sc_Plan_acts_of : FnScope ["self", "rank"] ["self", "rank"] (defScope s_Plan_acts_of) := ⟨rfl, rfl, rfl, by decide +kernel, rfl, by decide +kernel, by decide +kernel⟩
theorem sc_trace : FnScope ["plan", "name", "at", "rank", "act"] ["plan", "name"] (defScope s_trace) := ⟨rfl, rfl, rfl, by decide +kernel, rfl, by decide +kernel, by decide +kernel⟩
theorem sc__law_cell : FnScope ["script", "k"] ["script", "k"] (defScope s__law_cell) := ⟨rfl, rfl, rfl, by decide +kernel, rfl, by decide +kernel, by decide +kernel⟩
theorem sc__law_row : FnScope ["script", "first", "last", "row", "k", "cell", "turn"] ["script", "first", "last"] (defScope s__law_row) := ⟨rfl, rfl, rfl, by decide +kernel, rfl, by decide +kernel, by decide +kernel⟩
theorem sc__law_draw : FnScope ["box", "many", "at"] ["box", "many"] (defScope s__law_draw) := ⟨rfl, rfl, rfl, by decide +kernel, rfl, by decide +kernel, by decide +kernel⟩
theorem sc__law_wrap : FnScope ["n"] ["n"] (defScope s__law_wrap) := ⟨rfl, rfl, rfl, by decide +kernel, rfl, by decide +kernel, by decide +kernel⟩
theorem sc__law_word : FnScope ["box", "kind", "n", "turn"] ["box"] (defScope s__law_word) := ⟨rfl, rfl, rfl, by decide +kernel, rfl, by decide +kernel, by decide +kernel⟩
theorem sc__law_is_integer : FnScope ["told"] ["told"] (defScope s__law_is_integer) := ⟨rfl, rfl, rfl, by decide +kernel, rfl, by decide +kernel, by decide +kernel⟩
theorem sc__law_fill : FnScope ["box"] ["box"] (defScope s__law_fill) := ⟨rfl, rfl, rfl, by decide +kernel, rfl, by decide +kernel, by decide +kernel⟩
theorem sc__law_try : FnScope ["box", "net", "kinds", "kind", "a", "b", "k", "p"] ["box", "net"] (defScope s__law_try) := ⟨rfl, rfl, rfl, by decide +kernel, rfl, by decide +kernel, by decide +kernel⟩
theorem sc__law_length : FnScope ["net", "node", "kind", "length", "row", "other", "even"] ["net", "node"] (defScope s__law_length) := ⟨rfl, rfl, rfl, by decide +kernel, rfl, by decide +kernel, by decide +kernel⟩
theorem sc__law_small_net : FnScope ["box", "most", "side", "net", "k", "done", "turn", "node", "length"] ["box", "most"] (defScope s__law_small_net) := ⟨rfl, rfl, rfl, by decide +kernel, rfl, by decide +kernel, by decide +kernel⟩
theorem sc__law_job : FnScope ["box", "most", "net", "data", "k", "inputs", "rates", "j"] ["box", "most"] (defScope s__law_job) := ⟨rfl, rfl, rfl, by decide +kernel, rfl, by decide +kernel, by decide +kernel⟩
theorem sc__law_same : FnScope ["told", "due", "k"] ["told", "due"] (defScope s__law_same) := ⟨rfl, rfl, rfl, by decide +kernel, rfl, by decide +kernel, by decide +kernel⟩
theorem sc__law_cells : FnScope ["job", "out", "p", "i", "j"] ["job"] (defScope s__law_cells) := ⟨rfl, rfl, rfl, by decide +kernel, rfl, by decide +kernel, by decide +kernel⟩
theorem sc__law_pool : FnScope ["job", "out", "n", "cell"] ["job"] (defScope s__law_pool) := ⟨rfl, rfl, rfl, by decide +kernel, rfl, by decide +kernel, by decide +kernel⟩
theorem sc__law_some : FnScope ["box", "names", "most", "out", "k", "name"] ["box", "names", "most"] (defScope s__law_some) := ⟨rfl, rfl, rfl, by decide +kernel, rfl, by decide +kernel, by decide +kernel⟩
theorem sc__law_drawn_act : FnScope ["box", "pool", "kind", "names", "name"] ["box", "pool"] (defScope s__law_drawn_act) := ⟨rfl, rfl, rfl, by decide +kernel, rfl, by decide +kernel, by decide +kernel⟩
theorem sc__law_due_trace : FnScope ["acts", "name", "out", "k", "act", "mine", "entry", "one"] ["acts", "name"] (defScope s__law_due_trace) := ⟨rfl, rfl, rfl, by decide +kernel, rfl, by decide +kernel, by decide +kernel⟩
theorem sc_law : FnScope ["script", "box", "job", "pool", "ranks", "acts", "k", "plan", "name"] ["script"] (defScope s_law) := ⟨rfl, rfl, rfl, by decide +kernel, rfl, by decide +kernel, by decide +kernel⟩
/-! ### the head by a Hook: what the end is told of the top's heap -/
def tupA (K : PySem.W.Frag) (a : Addr) (vs : List V) : Bool := match K.lookup a with
  | some ⟨.type c, _, .seq its _, _⟩ => decide (c = "tuple") && (decide (its.size ≤ sizeLine) && He.relAll vs its.toList)
  | _ => false
theorem tupA_ok {K : PySem.W.Frag} {a : Addr} {vs : List V} (h : tupA K a vs = true) : ∃ (o : Obj) (its : Array Value) (n : Nat), K.lookup a = some o ∧ o.cls = .type "tuple" ∧ o.data = .seq its n ∧ its.size ≤ sizeLine ∧ Vals vs its.toList := by
  unfold tupA at h
  cases q : K.lookup a with
  | none => rw [q] at h; cases h
  | some o =>
    obtain ⟨oc, od, dt, osl⟩ := o
    rw [q] at h
    cases oc with
    | type c =>
      cases dt with
      | seq its n =>
        obtain ⟨h1, h2⟩ := He.ba (show (decide (c = "tuple") && (decide (its.size ≤ sizeLine) && He.relAll vs its.toList)) = true from h)
        obtain ⟨h3, h4⟩ := He.ba h2
        exact ⟨_, its, n, rfl, congrArg Value.type (of_decide_eq_true h1), rfl, of_decide_eq_true h3, He.relAll_ok h4⟩
      | _ => cases h
    | _ => cases dt <;> cases h
/-- the object that a table holds at a key -/
def entA (K : PySem.W.Frag) (a : Addr) (k : Str) : Addr := match PySem.W.nsIn K a k with
  | some (some (.ref b)) => b
  | _ => 0
/-- the objects that a tuple of the top holds -/
def tupRefs (K : PySem.W.Frag) (a : Addr) : List Addr := match K.lookup a with
  | some ⟨_, _, .seq its _, _⟩ => its.toList.map fun v => match v with
    | .ref b => b
    | _ => 0
  | _ => []
def tupsA (K : PySem.W.Frag) : List Addr → List (List V) → Bool
  | [], [] => true
  | a :: as, vs :: vss => tupA K a vs && tupsA K as vss
  | _, _ => false
theorem tupsA_ok {K : PySem.W.Frag} : ∀ {as : List Addr} {vss : List (List V)}, tupsA K as vss = true → as.length = vss.length ∧ ∀ (i : Nat) (a : Addr) (vs : List V), as[i]? = some a → vss[i]? = some vs → tupA K a vs = true
  | [], [], _ => ⟨rfl, fun _ _ _ h _ => by cases h⟩
  | [], _ :: _, h => by cases h
  | _ :: _, [], h => by cases h
  | a :: as, vs :: vss, h => by
    obtain ⟨h1, h2⟩ := He.ba (show (tupA K a vs && tupsA K as vss) = true from h)
    obtain ⟨l, f⟩ := tupsA_ok h2
    refine ⟨by rw [List.length_cons, List.length_cons, l], fun i b us hb hu => ?_⟩
    cases i with
    | zero => cases hb; cases hu; exact h1
    | succ i => exact f i b us hb hu
inductive Fx where
  | entf (t k x : Str) | enti (t k : Str) (i : Int) | entt (t k : Str) (vs : List V) | tup (t : Str) (vs : List V) | bare (x : Str) | als (x y : Str) | noent (t k : Str) | tupt (t : Str) (vss : List (List V))
def Fx.ok (K : PySem.W.Frag) : Fx → Bool
  | .entf t k x => He.eqO (PySem.W.nsIn K (He.ga K t) k) (some (some (.ref (He.ga K x))))
  | .enti t k i => (match PySem.W.nsIn K (He.ga K t) k with
    | some (some (.int j _)) => decide (j = i)
    | _ => false)
  | .entt t k vs => He.eqO (PySem.W.nsIn K (He.ga K t) k) (some (some (.ref (entA K (He.ga K t) k)))) && tupA K (entA K (He.ga K t) k) vs
  | .tup t vs => tupA K (He.ga K t) vs
  | .bare x => PySem.W.makesIn K (He.ga K x) && (He.eqO (PySem.W.findIn K (.ref (He.ga K x)) "__init__") (some (some (.builtin "object.__init__"))) && PySem.W.keepIn K (.ref (He.ga K x)))
  | .als x y => He.eqO (PySem.W.nsIn K mainGlobals x) (some (some (.ref (He.ga K y))))
  | .noent t k => He.eqO (PySem.W.nsIn K (He.ga K t) k) (some none)
  | .tupt t vss => tupA K (He.ga K t) ((tupRefs K (He.ga K t)).map V.ref) && tupsA K (tupRefs K (He.ga K t)) vss
section
variable {K : PySem.W.Frag}
theorem fx_entf {t k x : Str} (c : (Fx.entf t k x).ok K = true) : PySem.W.nsIn K (He.ga K t) k = some (some (.ref (He.ga K x))) := He.eqO_ok c
theorem fx_noent {t k : Str} (c : (Fx.noent t k).ok K = true) : PySem.W.nsIn K (He.ga K t) k = some none := He.eqO_ok c
theorem tupt_ok {t : Str} {vss : List (List V)} (c : (Fx.tupt t vss).ok K = true) : ∃ as : List Addr, (∃ (o : Obj) (its : Array Value) (n : Nat), K.lookup (He.ga K t) = some o ∧ o.cls = .type "tuple" ∧ o.data = .seq its n ∧ its.size ≤ sizeLine ∧ Vals (as.map V.ref) its.toList) ∧ as.length = vss.length ∧ ∀ (i : Nat) (a : Addr) (vs : List V), as[i]? = some a → vss[i]? = some vs → ∃ (o : Obj) (its : Array Value) (n : Nat), K.lookup a = some o ∧ o.cls = .type "tuple" ∧ o.data = .seq its n ∧ its.size ≤ sizeLine ∧ Vals vs its.toList := by
  obtain ⟨c1, c2⟩ := He.ba c
  obtain ⟨l, f⟩ := tupsA_ok c2
  exact ⟨_, tupA_ok c1, l, fun i a vs h1 h2 => tupA_ok (f i a vs h1 h2)⟩
theorem fx_als {x y : Str} (c : (Fx.als x y).ok K = true) : PySem.W.nsIn K mainGlobals x = some (some (.ref (He.ga K y))) := He.eqO_ok c
theorem fx_enti {t k : Str} {i : Int} (c : (Fx.enti t k i).ok K = true) : ∃ tk, PySem.W.nsIn K (He.ga K t) k = some (some (.int i tk)) := by
  have c2 : (match PySem.W.nsIn K (He.ga K t) k with
    | some (some (.int j _)) => decide (j = i)
    | _ => false) = true := c
  cases e : PySem.W.nsIn K (He.ga K t) k with
  | none => rw [e] at c2; cases c2
  | some o =>
    rw [e] at c2
    cases o with
    | none => cases c2
    | some v =>
      cases v with
      | int j tk =>
        have ej : j = i := of_decide_eq_true c2
        rw [ej]
        exact ⟨tk, rfl⟩
      | _ => cases c2
theorem fx_entt {t k : Str} {vs : List V} (c : (Fx.entt t k vs).ok K = true) : ∃ a, PySem.W.nsIn K (He.ga K t) k = some (some (.ref a)) ∧ ∃ (o : Obj) (its : Array Value) (n : Nat), K.lookup a = some o ∧ o.cls = .type "tuple" ∧ o.data = .seq its n ∧ its.size ≤ sizeLine ∧ Vals vs its.toList := by
  obtain ⟨c1, c2⟩ := He.ba c
  exact ⟨_, He.eqO_ok c1, tupA_ok c2⟩
theorem fx_bare {x : Str} (c : (Fx.bare x).ok K = true) : PySem.W.makesIn K (He.ga K x) = true ∧ PySem.W.findIn K (.ref (He.ga K x)) "__init__" = some (some (.builtin "object.__init__")) ∧ PySem.W.keepIn K (.ref (He.ga K x)) = true := by
  obtain ⟨c1, c2⟩ := He.ba c
  obtain ⟨c3, c4⟩ := He.ba c2
  exact ⟨c1, He.eqO_ok c3, c4⟩
theorem fx_meth {x m : Str} (c : (He.Fa.meth x m).ok K = true) : PySem.W.findIn K (.ref (He.ga K x)) m = some (some (.ref (He.ma K (He.ga K x) m))) ∧ PySem.W.isFn K (.ref (He.ma K (He.ga K x) m)) = true ∧ PySem.W.keepIn K (.ref (He.ma K (He.ga K x) m)) = true := by
  obtain ⟨c1, c⟩ := He.ba c
  obtain ⟨c2, c3⟩ := He.ba c
  exact ⟨He.eqO_ok c1, c2, c3⟩
theorem fx_mkr {x : Str} (c : (He.Fa.mkr x).ok K = true) : PySem.W.makesIn K (He.ga K x) = true ∧ PySem.W.findIn K (.ref (He.ga K x)) "__init__" = some (some (.ref (He.ma K (He.ga K x) "__init__"))) ∧ PySem.W.isFn K (.ref (He.ma K (He.ga K x) "__init__")) = true ∧ PySem.W.keepIn K (.ref (He.ga K x)) = true := by
  obtain ⟨c1, c⟩ := He.ba c
  obtain ⟨c2, c⟩ := He.ba c
  obtain ⟨c3, c4⟩ := He.ba c
  exact ⟨c1, He.eqO_ok c2, c3, c4⟩
end
/-- what the end looks at: the top's names, what defs and classes hold of it -/
def refsF (o : Obj) : List Addr := match o.data with
  | .func fd => He.refV fd.code
  | .cls cd => cd.ns :: cd.mro.flatMap He.refV
  | .dict es _ => es.toList.flatMap fun e => He.refV e.val
  | .seq its _ => its.toList.flatMap He.refV
  | _ => []
def layF (g : Addr → Option Obj) (as : List Addr) : List Addr := as.flatMap fun a => match g a with
  | some o => refsF o
  | none => []
def frAs {α : Type} : List Addr → (List Addr → α) → α
  | [], k => k []
  | a :: r, k => HandSHeadRun.frNat a fun a => frAs r fun r => k (a :: r)
theorem frAs_eq {α : Type} : ∀ (l : List Addr) (k : List Addr → α), frAs l k = k l
  | [], _ => rfl
  | a :: r, k => by
    unfold frAs
    rw [HandSHeadRun.frNat_eq]
    exact frAs_eq r _
def asF {α : Type} (g : Addr → Option Obj) : Nat → List Addr → List Addr → (List Addr → α) → α
  | 0, acc, last, k => k (acc ++ last)
  | n + 1, acc, last, k => frAs (layF g last) fun l => asF g n (acc ++ last) l k
def allF (g : Addr → Option Obj) : Nat → List Addr → List Addr → List Addr
  | 0, acc, last => acc ++ last
  | n + 1, acc, last => allF g n (acc ++ last) (layF g last)
theorem asF_eq {α : Type} (g : Addr → Option Obj) : ∀ (n : Nat) (acc last : List Addr) (k : List Addr → α), asF g n acc last k = k (allF g n acc last)
  | 0, _, _, _ => rfl
  | n + 1, acc, last, k => by
    unfold asF allF
    rw [frAs_eq]
    exact asF_eq g n _ _ _
abbrev AlM : Type := (Bool × List He.FnV) × List (Option (List (Option (Str × Int))))
def obsM (fa : List He.Fa) (fx : List Fx) (fn : List He.FnD) (ts : List He.Tab) (K : PySem.W.Frag) : AlM := (((fa.all fun f => f.ok K) && ((fx.all fun f => f.ok K) && fn.all fun d => (He.Fa.code d.at_ d.qual).ok K), fn.map fun d => He.fnObs K d.at_), ts.map fun t => He.dicW K (t.1 K))
def valM (fn : List He.FnD) (ts : List He.Tab) (w : World) : AlM := ((true, fn.map He.FnD.val), ts.map fun t => some (He.keysIn w.params t.2))
def SaysM (fa : List He.Fa) (fx : List Fx) (fn : List He.FnD) (ts : List He.Tab) (w : World) (K : PySem.W.Frag) : Prop := obsM fa fx fn ts K = valM fn ts w
def obsMG (n : Nat) (fa : List He.Fa) (fx : List Fx) (fn : List He.FnD) (ts : List He.Tab) (g : Addr → Option Obj) : AlM := asF g n [] [mainGlobals] fun as => obsM fa fx fn ts (He.frG g as)
def hookM (n : Nat) (fa : List He.Fa) (fx : List Fx) (fn : List He.FnD) (ts : List He.Tab) : PySem.W.Hook where
  α := AlM
  obs := fun s => obsMG n fa fx fn ts s.heap.get?
  val := fun w => valM fn ts w
  says := fun w h => ∃ K : PySem.W.Frag, K.In h ∧ SaysM fa fx fn ts w K
  of := fun _ _ e => ⟨_, He.frG_in, by unfold obsMG at e; rw [asF_eq] at e; exact e⟩
  keeps := fun _ _ _ ⟨K, hK, c⟩ k => ⟨K, PySem.W.Frag.In.keeps hK k, c⟩
theorem obsMG_eq {n : Nat} {fa : List He.Fa} {fx : List Fx} {fn : List He.FnD} {ts : List He.Tab} {g : Addr → Option Obj} {s : Shared} (h : ∀ a, g a = s.heap.get? a) : obsMG n fa fx fn ts g = (hookM n fa fx fn ts).obs s := by
  have e : g = s.heap.get? := funext h
  rw [e] <;> rfl
section
variable {fa : List He.Fa} {fx : List Fx} {fn : List He.FnD} {ts : List He.Tab} {w : World} {K : PySem.W.Frag}
theorem SaysM.all (c : SaysM fa fx fn ts w K) : (fa.all fun f => f.ok K) = true ∧ (fx.all fun f => f.ok K) = true ∧ (fn.all fun d => (He.Fa.code d.at_ d.qual).ok K) = true := by
  have c1 := He.ba (show ((fa.all fun f => f.ok K) && ((fx.all fun f => f.ok K) && fn.all fun d => (He.Fa.code d.at_ d.qual).ok K)) = true from congrArg (fun z : AlM => z.1.1) c)
  have c2 := He.ba c1.2
  exact ⟨c1.1, c2.1, c2.2⟩
theorem SaysM.fa_ (c : SaysM fa fx fn ts w K) : ∀ f ∈ fa, f.ok K = true := List.all_eq_true.mp c.all.1
theorem SaysM.fx_ (c : SaysM fa fx fn ts w K) : ∀ f ∈ fx, f.ok K = true := List.all_eq_true.mp c.all.2.1
theorem map_all {α β : Type} {f g : α → β} : ∀ {l : List α}, l.map f = l.map g → ∀ x ∈ l, f x = g x
  | [], _, _, h => by cases h
  | a :: r, e, x, h => by
    rw [List.map_cons, List.map_cons] at e
    injection e with e1 e2
    rcases List.mem_cons.mp h with rfl | h
    · exact e1
    · exact map_all e2 x h
theorem SaysM.fn_ (c : SaysM fa fx fn ts w K) : ∀ d ∈ fn,
    ∃ oc od osl kV doc pm an cdv ct, K.lookup (He.fAd K d.at_) = some ⟨oc, od, .func (PySem.W.fnOf d.name d.qual d.params d.body d.scope .none kV doc pm an cdv ct), osl⟩ ∧ PySem.W.codeIn K cdv d.qual = true := fun d hd => by
  have e : fn.map (fun d => He.fnObs K d.at_) = fn.map He.FnD.val := congrArg (fun z : AlM => z.1.2) c
  exact He.fn_ok (map_all e d hd) (List.all_eq_true.mp c.all.2.2 d hd)
theorem mem_at {α : Type} {l : List α} {x : α} (i : Nat) (h : l[i]? = some x) : x ∈ l := List.mem_of_getElem? h
theorem SaysM.tab (c : SaysM fa fx fn ts w K) (i : Nat) {t : He.Tab} (h : ts[i]? = some t := by rfl) : ∃ es n, KDict K w (t.1 K) es n := by
  have e : ts.map (fun t => He.dicW K (t.1 K)) = ts.map fun t => some (He.keysIn w.params t.2) := congrArg (fun z : AlM => z.2) c
  have e2 : (ts.map fun t => He.dicW K (t.1 K))[i]? = (ts.map fun t => some (He.keysIn w.params t.2))[i]? := by rw [e]
  rw [List.getElem?_map, List.getElem?_map, h] at e2
  exact He.dicW_ok (Option.some.inj e2)
end

def h_loose0 : List Str := ["_wall", "names_of", "narrowed", "trace", "_law_cell", "_law_row", "_law_draw", "_law_wrap", "_law_word", "_law_is_integer", "_law_fill", "_law_try", "_law_length", "_law_small_net", "_law_job", "_law_same", "_law_cells", "_law_pool", "_law_some", "_law_drawn_act", "_law_due_trace", "Plan"]
def h_loose : List Str := h_loose0
def h_fa0 : List He.Fa := [.free "abs",
  .free "bool",
  .free "enumerate",
  .free "int",
  .free "isinstance",
  .free "iter",
  .free "len",
  .free "list",
  .free "range",
  .free "str",
  .free "tuple",
  .cls "Plan",
  .glo "Plan",
  .mkr "Plan",
  .noat "Plan" "acts",
  .noat "Plan" "ranks",
  .glo "law",
  .keep "narrowed",
  .keep "names_of",
  .keep "_law_due_trace",
  .keep "_law_is_integer",
  .meth "Plan" "__init__",
  .keep "_law_draw",
  .keep "_law_cells",
  .keep "_law_wrap",
  .keep "_law_length",
  .keep "_law_cell",
  .keep "_law_some",
  .keep "_law_pool",
  .keep "_law_word"]
def h_fa1 : List He.Fa := [.keep "_law_row",
  .meth "Plan" "__iter__",
  .keep "_law_drawn_act",
  .keep "_law_try",
  .keep "_law_fill",
  .keep "trace",
  .keep "_law_small_net",
  .keep "_law_job",
  .keep "_law_same",
  .keep "law",
  .glo "narrowed",
  .glo "names_of",
  .glo "_law_due_trace",
  .glo "_law_is_integer",
  .glo "_law_draw",
  .glo "_law_cells",
  .glo "_law_wrap",
  .glo "_law_length",
  .glo "_law_cell",
  .glo "_law_some",
  .glo "_law_pool",
  .glo "_law_word",
  .glo "_law_row",
  .glo "_law_drawn_act",
  .glo "_law_try",
  .glo "_law_fill",
  .glo "trace",
  .glo "_law_small_net",
  .glo "_law_job",
  .glo "_law_same"]
def h_fa : List He.Fa := h_fa0 ++ h_fa1
def h_fx0 : List Fx := []
def h_fx : List Fx := h_fx0
def h_fn0 : List He.FnD := [⟨("narrowed", none), "narrowed", "narrowed", defArgs s_narrowed, defBody s_narrowed, defScope s_narrowed⟩,
  ⟨("names_of", none), "names_of", "names_of", defArgs s_names_of, defBody s_names_of, defScope s_names_of⟩,
  ⟨("_law_due_trace", none), "_law_due_trace", "_law_due_trace", defArgs s__law_due_trace, defBody s__law_due_trace, defScope s__law_due_trace⟩,
  ⟨("_law_is_integer", none), "_law_is_integer", "_law_is_integer", defArgs s__law_is_integer, defBody s__law_is_integer, defScope s__law_is_integer⟩,
  ⟨("Plan", some "__init__"), "__init__", "Plan.__init__", defArgs s_Plan___init__, defBody s_Plan___init__, defScope s_Plan___init__⟩,
  ⟨("_law_draw", none), "_law_draw", "_law_draw", defArgs s__law_draw, defBody s__law_draw, defScope s__law_draw⟩,
  ⟨("_law_cells", none), "_law_cells", "_law_cells", defArgs s__law_cells, defBody s__law_cells, defScope s__law_cells⟩,
  ⟨("_law_wrap", none), "_law_wrap", "_law_wrap", defArgs s__law_wrap, defBody s__law_wrap, defScope s__law_wrap⟩,
  ⟨("_law_length", none), "_law_length", "_law_length", defArgs s__law_length, defBody s__law_length, defScope s__law_length⟩,
  ⟨("_law_cell", none), "_law_cell", "_law_cell", defArgs s__law_cell, defBody s__law_cell, defScope s__law_cell⟩,
  ⟨("_law_some", none), "_law_some", "_law_some", defArgs s__law_some, defBody s__law_some, defScope s__law_some⟩,
  ⟨("_law_pool", none), "_law_pool", "_law_pool", defArgs s__law_pool, defBody s__law_pool, defScope s__law_pool⟩,
  ⟨("_law_word", none), "_law_word", "_law_word", defArgs s__law_word, defBody s__law_word, defScope s__law_word⟩,
  ⟨("_law_row", none), "_law_row", "_law_row", defArgs s__law_row, defBody s__law_row, defScope s__law_row⟩,
  ⟨("Plan", some "__iter__"), "__iter__", "Plan.__iter__", defArgs s_Plan___iter__, defBody s_Plan___iter__, defScope s_Plan___iter__⟩,
  ⟨("_law_drawn_act", none), "_law_drawn_act", "_law_drawn_act", defArgs s__law_drawn_act, defBody s__law_drawn_act, defScope s__law_drawn_act⟩,
  ⟨("_law_try", none), "_law_try", "_law_try", defArgs s__law_try, defBody s__law_try, defScope s__law_try⟩,
  ⟨("_law_fill", none), "_law_fill", "_law_fill", defArgs s__law_fill, defBody s__law_fill, defScope s__law_fill⟩,
  ⟨("trace", none), "trace", "trace", defArgs s_trace, defBody s_trace, defScope s_trace⟩,
  ⟨("_law_small_net", none), "_law_small_net", "_law_small_net", defArgs s__law_small_net, defBody s__law_small_net, defScope s__law_small_net⟩,
  ⟨("_law_job", none), "_law_job", "_law_job", defArgs s__law_job, defBody s__law_job, defScope s__law_job⟩,
  ⟨("_law_same", none), "_law_same", "_law_same", defArgs s__law_same, defBody s__law_same, defScope s__law_same⟩,
  ⟨("law", none), "law", "law", defArgs s_law, defBody s_law, defScope s_law⟩]
def h_fn : List He.FnD := h_fn0
def h_ts0 : List He.Tab := []
def h_ts : List He.Tab := h_ts0
abbrev h_R : PySem.W.OpenRow := PySem.W.OpenLaw.row PySem.Challenge.rw_asifone_k66_traces_of_names
abbrev h_k : PySem.W.Hook := hookM 4 h_fa h_fx h_fn h_ts
def h_ob (s : PySem.W.SharedT) : AlM := obsMG 4 h_fa h_fx h_fn h_ts (HandSHeadRun.getT s)
theorem h_ob_eq (s : PySem.W.SharedT) : h_ob s = h_k.obs s.abs := obsMG_eq (HandSHeadRun.getT_eq s)
set_option maxHeartbeats 0 in
theorem h_run_false (w : World) : HandSHeadRun.RunEq h_R (PySem.W.view h_R.prog [25]) h_k h_ob 30000 h_loose (w.withFollow "special-get-raises" false) := by
  intro os
  kernel_rfl
set_option maxHeartbeats 0 in
theorem h_run_true (w : World) : HandSHeadRun.RunEq h_R (PySem.W.view h_R.prog [25]) h_k h_ob 30000 h_loose (w.withFollow "special-get-raises" true) := by
  intro os
  kernel_rfl
theorem h_run (w : World) : HandSHeadRun.RunEq h_R (PySem.W.view h_R.prog [25]) h_k h_ob 30000 h_loose w := PySem.W.byRow2 "special-get-raises" (P := fun w => HandSHeadRun.RunEq h_R (PySem.W.view h_R.prog [25]) h_k h_ob 30000 h_loose w) h_run_false h_run_true w
/-! ### steps of a reading: one name looked up, one value seen -/
local macro_rules | `(tactic| walk_at "st") => `(tactic| first
  | refine ⟨_, rfl, ?_⟩
  | refine ⟨_, _, rfl, rfl, ?_⟩
  | refine ⟨rfl, ?_⟩
  | refine ⟨Or.inl ⟨by decide, by decide⟩, ?_⟩
  | refine ⟨Or.inr ⟨by decide, by decide⟩, ?_⟩
  | refine ⟨(by decide : (0 : Int) < _), ?_⟩
  | refine ⟨(by decide : (0 : Int) ≤ _), ?_⟩
  | refine ⟨_, _, (rfl : (_ : List V) = _), ?_⟩
  | refine ⟨_, _, _, (rfl : (_ : List V) = _), ?_⟩
  | refine ⟨⟨by decide, by decide⟩, ?_⟩
  | refine ⟨⟨by decide, by decide, by decide⟩, ?_⟩
  | refine Or.inl ⟨_, rfl, ?_⟩
  | refine Or.inr ⟨_, rfl, ?_⟩)
local macro_rules | `(tactic| walk_at "go") => `(tactic| repeat walk_at "st")


theorem iteD {c A B : Prop} [Decidable c] (hc : c) (h : A) : if decide c = true then A else B := by
  rw [decide_eq_true hc]
  exact iteT h
theorem iteNN {c A B : Prop} [Decidable c] (hc : ¬ c) (h : A) : if (!decide c) = true then A else B := by
  rw [decide_eq_false hc]
  exact iteT h
theorem iteDN {c A B : Prop} [Decidable c] (hc : ¬ c) (h : B) : if decide c = true then A else B := by
  rw [decide_eq_false hc]
  exact iteF h
/-! ### rules with the written part named (a comprehension's element stands over another context) -/
section
variable {X : Cx} {K : PySem.W.Frag}
def rLenK (K : PySem.W.Frag) : List V → Hp → VK → Prop := fun xs H Q => ∃ p ys, xs = [.ref p] ∧ (SqL K H p ys ∨ SqT K H p ys) ∧ Q (.int ys.length) H
theorem pe_fld_at {e : PySem.Expr} {f : Str} {pos : Pos} {ta : TE} (h : X.K = K) (he : PE X e ta) (hb : attributeBase e f X.env (eval e X.env) = eval e X.env) : PE X (.Attribute e f pos) (tFld K ta f) := by subst h; exact pe_fld he hb
theorem len_at (h : X.K = K) : CallR X (.builtin "len") (rLenK K) := by subst h; exact call_len_seq
theorem list_at (h : X.K = K) : CallR X (.type "list") (fun xs H Q => ∃ p ys, xs = [.ref p] ∧ (SqL K H p ys ∨ SqT K H p ys) ∧ ∀ l : Addr, H l = none → Q (.ref l) (upd H l (.lst ys))) := by subst h; exact call_list_of
theorem pil_at {l tg : PySem.Expr} {tl : TE} (h : X.K = K) (hl : PE X l tl) : PI X tg l (iList K tl) := by subst h; exact pi_list hl
theorem pit_at {l tg : PySem.Expr} {tl : TE} (h : X.K = K) (hl : PE X l tl) : PI X tg l (iTup K tl) := by subst h; exact pi_tup hl
theorem catT_at (h : X.K = K) : OpR X (binaryOp .Add) (rCatT K) := by subst h; exact op_catT
theorem slt_at (h : X.K = K) : SlR X (rSlT K) := by subst h; exact sl_tup
theorem sla_at (h : X.K = K) : SlR X (rSlA K) := by subst h; exact sl_tupA
theorem sll_at (h : X.K = K) : SlR X (rSlL K) := by subst h; exact sl_list
theorem all_at (h : X.K = K) (hc : X.calm = true := by rfl) : CallR X (.builtin "all") (rAll K) := by subst h; exact cr_all hc
theorem any_at (h : X.K = K) (hc : X.calm = true := by rfl) : CallR X (.builtin "any") (rAny K) := by subst h; exact cr_any hc
theorem sum_at (h : X.K = K) (hc : X.calm = true := by rfl) : CallR X (.builtin "sum") (rSum K) := by subst h; exact cr_sum hc
theorem max_at (h : X.K = K) (hc : X.calm = true := by rfl) : CallR X (.builtin "max") (rMax K) := by subst h; exact cr_max hc
theorem ixl_at (h : X.K = K) : IxR X (rIxL K) := by subst h; exact ix_list
theorem ixt_at (h : X.K = K) : IxR X (rIxT K) := by subst h; exact ix_tup
end
/-! ### heaps: all is as it was but the object at b -/
def But (b : Addr) (H H' : Hp) : Prop := ∀ c o, c ≠ b → H c = some o → H' c = some o
theorem But.refl (b : Addr) (H : Hp) : But b H H := fun _ _ _ h => h
theorem But.trans {b : Addr} {H H1 H2 : Hp} (x : But b H H1) (y : But b H1 H2) : But b H H2 := fun c o n h => y c o n (x c o n h)
theorem But.of {b : Addr} {H H' : Hp} (e : Same H H') : But b H H' := fun c o _ h => e c o h
theorem same_new {H : Hp} {p : Addr} (h : H p = none) (o : HO) : Same H (upd H p o) := fun b u q => by rw [upd_ne (ne_of_none q h)]; exact q
theorem new_facts {H H' : Hp} {p : Addr} {o : HO} (e : upd H p o = H') (np : H p = none) : Same H H' ∧ H' p = some o := by
  subst e
  exact ⟨same_new np o, upd_same⟩
theorem same_mut {H H' : Hp} {o : Addr} {u : HO} (e : Same H H') (no : H o = none) : Same H (upd H' o u) := fun b x h => by rw [upd_ne (ne_of_none h no)]; exact e _ _ h
theorem map_more {H : Hp} {o : Addr} (rs : List Int) (x : Int) : (upd H o (.lst (rs.map V.int ++ [V.int x]))) o = some (.lst ((rs ++ [x]).map V.int)) := by
  rw [upd_same, List.map_append]
  rfl
theorem small {n : Nat} (h : n ≤ 100000) : n ≤ sizeLine := Nat.le_trans h (by decide)
theorem smaller {n : Nat} (h : n < 100000) : n < sizeLine := Nat.lt_of_lt_of_le h (by decide)

/-! ### the box that numbers are drawn from: a list of a row and a place -/
structure Box (H : Hp) (b r : Addr) (rs : List Int) : Prop where
  ex : ∃ at' : Int, 0 ≤ at' ∧ H b = some (.lst [.ref r, .int at'])
  row : H r = some (.lst (rs.map V.int))
theorem Box.ne {H : Hp} {b r : Addr} {rs : List Int} (B : Box H b r rs) : r ≠ b := fun e => by
  obtain ⟨z, _, h⟩ := B.ex
  have q := B.row
  rw [e, h] at q
  cases rs with
  | nil => cases q
  | cons x t => cases q
theorem Box.far {H : Hp} {b r l : Addr} {rs ns : List Int} (B : Box H b r rs) (h : H l = some (.lst (ns.map V.int))) : l ≠ b := fun e => by
  obtain ⟨z, _, hb⟩ := B.ex
  rw [e, hb] at h
  cases ns with
  | nil => cases h
  | cons x t => cases h
theorem Box.farS {K : PySem.W.Frag} {H H' : Hp} {b r a : Addr} {rs ns : List Int} (B : Box H b r rs) (e : But b H H') (h : SqL K H a (ns.map V.int)) : SqL K H' a (ns.map V.int) := by
  rcases h with (h | ⟨o, h⟩) | h
  · exact .inl (.inl (e _ _ (B.far h) h))
  · refine .inl (.inr ⟨o, e _ _ (fun z => ?_) h⟩)
    obtain ⟨_, _, hb⟩ := B.ex
    rw [z, hb] at h
    cases h
  · exact .inr h
theorem Box.same {H H' : Hp} {b r : Addr} {rs : List Int} (B : Box H b r rs) (e : Same H H') : Box H' b r rs := by
  obtain ⟨z, h0, h⟩ := B.ex
  exact ⟨⟨z, h0, e _ _ h⟩, e _ _ B.row⟩

theorem But.mut {b l : Addr} {H H' : Hp} {o : HO} (e : But b H H') (h : H l = none) : But b H (upd H' l o) := fun c x n hc => by
  rw [upd_ne (ne_of_none hc h)]
  exact e c x n hc
theorem But.mut' {l : Addr} {H H' : Hp} {o : HO} (e : But l H H') (_ : H l = none) : But l H (upd H' l o) := fun c x n hc => by
  rw [upd_ne n]
  exact e c x n hc
theorem Box.mut {b r l : Addr} {H H' : Hp} {rs : List Int} {o : HO} (B : Box H' b r rs) (B0 : Box H b r rs) (h : H l = none) : Box (upd H' l o) b r rs := by
  obtain ⟨z, h0, hb⟩ := B.ex
  obtain ⟨_, _, hb0⟩ := B0.ex
  exact ⟨⟨z, h0, by rw [upd_ne (ne_of_none hb0 h)]; exact hb⟩, by rw [upd_ne (ne_of_none B0.row h)]; exact B.row⟩
theorem map_get {ns : List Int} {i : Nat} {x : V} (h : (ns.map V.int)[i]? = some x) : ∃ n, x = .int n ∧ ns[i]? = some n := by
  rw [List.getElem?_map] at h
  cases e : ns[i]? with
  | none => rw [e] at h; cases h
  | some n => rw [e] at h; exact ⟨n, (Option.some.inj h).symm, rfl⟩
theorem flat_ints (xs : List Int) : (xs.map V.int).all flatV = true := by
  rw [List.all_map, List.all_eq_true]
  intro x _
  rfl
/-! ### lists of ints compared -/
theorem dp_ints {K : PySem.W.Frag} {H : Hp} : ∀ ns : List Int, DpAll K H (ns.map V.int) (ns.map PyData.int)
  | [] => .nil
  | n :: r => .cons (.int n) (dp_ints r)
theorem can_ints : ∀ ns : List Int, PyData.canLayAll0 (ns.map PyData.int) = true
  | [] => rfl
  | n :: r => by
    show (PyData.canLay0 (.int n) && PyData.canLayAll0 (r.map PyData.int)) = true
    rw [can_ints r]
    rfl
theorem shaped_ns (ns : List Int) : SeqAt.shaped (.list (ns.map PyData.int)) = true := PySem.W.shaped_ints ns
theorem eqv_ns (ns : List Int) : PyData.eqv (.list (ns.map PyData.int)) (.list (ns.map PyData.int)) = true := PySem.SeqAt.eqv_refl _ (can_ints ns)
theorem shaped_tup (m n : Int) : SeqAt.shaped (.tuple ([m, n].map PyData.int)) = true := by
  simp [SeqAt.shaped, PyData.canLay0, PyData.canLayAll0, PyData.depth, PyData.depthAll]
theorem eqv_tup (m n : Int) : PyData.eqv (.tuple ([m, n].map PyData.int)) (.tuple ([m, n].map PyData.int)) = true := PySem.SeqAt.eqv_refl _ (can_ints [m, n])
theorem eq_ints {K : PySem.W.Frag} {H : Hp} {p q : Addr} {ns : List Int} {Q : VK} (hp : SqL K H p (ns.map V.int)) (hq : SqL K H q (ns.map V.int)) (k : Q (.bl true) H) : rEqD K (.ref p) (.ref q) H Q :=
  ⟨_, _, .lst hp (dp_ints ns), .lst hq (dp_ints ns), shaped_ns ns, shaped_ns ns, by rw [eqv_ns]; exact k⟩
theorem ne_ints {K : PySem.W.Frag} {H : Hp} {p q : Addr} {ns : List Int} {Q : VK} (hp : SqL K H p (ns.map V.int)) (hq : SqL K H q (ns.map V.int)) (k : Q (.bl false) H) : rNeD K (.ref p) (.ref q) H Q :=
  ⟨_, _, .lst hp (dp_ints ns), .lst hq (dp_ints ns), shaped_ns ns, shaped_ns ns, by rw [eqv_ns]; exact k⟩

theorem eq_pair {K : PySem.W.Frag} {H : Hp} {p q : Addr} {m n : Int} {Q : VK} (hp : SqT K H p [.int m, .int n]) (hq : SqT K H q [.int m, .int n]) (k : Q (.bl true) H) : rEqD K (.ref p) (.ref q) H Q :=
  ⟨_, _, .tup hp (dp_ints [m, n]), .tup hq (dp_ints [m, n]), shaped_tup m n, shaped_tup m n, by rw [eqv_tup]; exact k⟩
theorem ne_pair {K : PySem.W.Frag} {H : Hp} {p q : Addr} {m n : Int} {Q : VK} (hp : SqT K H p [.int m, .int n]) (hq : SqT K H q [.int m, .int n]) (k : Q (.bl false) H) : rNeD K (.ref p) (.ref q) H Q :=
  ⟨_, _, .tup hp (dp_ints [m, n]), .tup hq (dp_ints [m, n]), shaped_tup m n, shaped_tup m n, by rw [eqv_tup]; exact k⟩

/-! ### the numbers of words -/
def wr (n : Int) : Int := (n + 2147483648) % 4294967296 - 2147483648
theorem wr_lo (n : Int) : -2147483648 ≤ wr n := by unfold wr; omega
theorem wr_hi (n : Int) : wr n ≤ 2147483647 := by unfold wr; omega
theorem wr_same {n : Int} (h : -2147483648 ≤ n) (h2 : n ≤ 2147483647) : wr n = n := by unfold wr; omega

/-! ### promises -/
def spCell (K : PySem.W.Frag) : Sp := fun vs H Q _ => ∃ (a : Addr) (ns : List Int) (k : Int), vs = [.ref a, .int k] ∧ SqL K H a (ns.map V.int) ∧ 0 ≤ k ∧ ∀ n : Int, Q (.int n) H
def spRow (K : PySem.W.Frag) : Sp := fun vs H Q _ => ∃ (a : Addr) (ns : List Int) (i j : Int), vs = [.ref a, .int i, .int j] ∧ SqL K H a (ns.map V.int) ∧ 0 ≤ i ∧ i ≤ j ∧ j ≤ 100 ∧
  ∀ (p : Addr) (rs : List Int) (H' : Hp), H p = none → Same H H' → H' p = some (.lst (rs.map V.int)) → Q (.ref p) H'
def spDraw : Sp := fun vs H Q _ => ∃ (b r : Addr) (rs : List Int) (many : Int), vs = [.ref b, .int many] ∧ Box H b r rs ∧ 0 < many ∧
  ∀ (v : Int) (H' : Hp), 0 ≤ v → v < many → Box H' b r rs → But b H H' → Q (.int v) H'
def spWrap : Sp := fun vs H Q _ => ∃ n : Int, vs = [.int n] ∧ Q (.int (wr n)) H
def spWord : Sp := fun vs H Q _ => ∃ (b r : Addr) (rs : List Int), vs = [.ref b] ∧ Box H b r rs ∧
  ∀ (v : Int) (H' : Hp), -2147483648 ≤ v → v ≤ 2147483647 → Box H' b r rs → But b H H' → Q (.int v) H'
def spIsInt : Sp := fun vs H Q _ => ∃ n : Int, vs = [.int n] ∧ Q (.bl true) H
def spLaw (K : PySem.W.Frag) : Sp := fun vs H Q _ => ∃ (a : Addr) (ns : List Int), vs = [.ref a] ∧ SqL K H a (ns.map V.int) ∧ ns.length ≤ 63 ∧ ∀ H', Q (.bl true) H'
/-- a def of the text that keeps a promise, with all that a caller asks -/
structure Def (P : Program) (w : World) (K : PySem.W.Frag) (mg : Str → Option Value) (base : Heap) (k : Nat) (x : Str) (ps : List Str) (sp : Sp) : Prop where
  ex : ∃ (f : Addr) (fd : FuncData), FnOk P w K mg base CX0 k f fd ps sp ∧ Binds K fd ps [] ∧ mg x = some (.ref f) ∧ PySem.W.keepIn K (.ref f) = true
/-- a method of a class of the text; its __init__ -/
structure MDef (P : Program) (w : World) (K : PySem.W.Frag) (mg : Str → Option Value) (base : Heap) (k : Nat) (C : Addr) (m : Str) (ps : List Str) (sp : Sp) : Prop where
  ex : ∃ (f : Addr) (fd : FuncData), FnOk P w K mg base CX0 k f fd ps sp ∧ Binds K fd ps [] ∧ Meth K C m f
structure IDef (P : Program) (w : World) (K : PySem.W.Frag) (mg : Str → Option Value) (base : Heap) (k : Nat) (C : Addr) (ps : List Str) (sp : Sp) : Prop where
  ex : ∃ (f : Addr) (fd : FuncData), FnOk P w K mg base CX0 k f fd ps sp ∧ Binds K fd ps [] ∧ Mk K C f
structure Cs where
  Plan : Addr
  Parameter : Addr
  Net : Addr
  Job : Addr
structure Txt (K : PySem.W.Frag) (mg : Str → Option Value) (cs : Cs) : Prop where
  z_abs : mg "abs" = none
  z_bool : mg "bool" = none
  z_enumerate : mg "enumerate" = none
  z_int : mg "int" = none
  z_isinstance : mg "isinstance" = none
  z_iter : mg "iter" = none
  z_len : mg "len" = none
  z_list : mg "list" = none
  z_range : mg "range" = none
  z_str : mg "str" = none
  z_tuple : mg "tuple" = none
  C_Plan : Cls K cs.Plan
  c_Plan : mg "Plan" = some (.ref cs.Plan)
  mk_Plan : PySem.W.makesIn K cs.Plan = true ∧ PySem.W.keepIn K (.ref cs.Plan) = true
  na_Plan_acts : NoAttr K cs.Plan "acts"
  na_Plan_ranks : NoAttr K cs.Plan "ranks"

/-! ### a call of a local name that holds one of several defs: the reading says which -/
def tCallD (P : Program) (w : World) (K : PySem.W.Frag) (mg : Str → Option Value) (base : Heap) (k i : Nat) (t : TA) : TE := fun σ H Q => ∃ f sp, σ[i]? = some (some (.ref f)) ∧ Held P w K mg base k f sp ∧ t σ H fun vs H1 => sp vs H1 Q (fun _ _ _ => False)
section
variable {X : Cx} {k i : Nat} {x : Str} {p pos : Pos} {e : PySem.Expr} {es : List PySem.Expr} {t : TA}
theorem pe_callD (hr : Room k X.A) (hN : X.N[i]? = some x) (hv : Vis X.env.scope x) (ha : PA X (e :: es) t)
    (hdb : (x == ("__debug__" : Str)) = false := by decide) (hcd : (x == ("__classdict__" : Str)) = false := by decide)
    (he : starEach (e :: es) X.env = (false, eval e X.env) :: starEach es X.env := by rfl) (hpl : (backTo pos (starEach es X.env)).any (·.1) = false := by rfl) :
    PE X (.Call (.Name x p) (e :: es) [] pos) (tCallD X.prog X.w X.K X.mg X.base k i t) := by
  refine ⟨fun pins s σ H Q I h => ?_⟩
  obtain ⟨f, sp, hs, hS, ht⟩ := h
  obtain ⟨fd, ps, F, hk, hb⟩ := hS.ex
  refine (pe_callL (i := i) (f := f) (sp := sp) (dvs := []) (E := fun _ _ _ => False) F hr hN hv hk hb .nil (fun _ _ _ _ _ _ _ z => z.elim) ha hdb hcd he hpl).run pins s σ H Q I ⟨hs, ?_⟩
  have e0 : (fun (vs : List V) (H1 : Hp) => sp (vs ++ []) H1 Q (fun _ _ _ => False)) = fun vs H1 => sp vs H1 Q (fun _ _ _ => False) := by
    funext vs H1
    rw [List.append_nil]
  show t σ H (fun vs H1 => sp (vs ++ []) H1 Q (fun _ _ _ => False))
  rw [e0]
  exact ht
end

/-! ### nodes, what they require and how long they are: the mathematics -/
inductive Nd where
  | input | target
  | lin (p a : Int) | bias (p a : Int) | embed (p lo n : Int)
  | mat (k a b : Int) | matT (k a b : Int) | lower (c a : Int)
  | add (a b : Int) | sub (a b : Int) | mul (a b : Int)
  | scale (w a : Int) | shift (k a : Int) | relu (a : Int) | drop (m a : Int) | sum (a : Int)
  | join (a b : Int) | take (lo n a : Int)
def Nd.kind : Nd → Str
  | .input => "input" | .target => "target" | .lin .. => "lin" | .bias .. => "bias" | .embed .. => "embed" | .mat .. => "mat" | .matT .. => "matT" | .lower .. => "lower"
  | .add .. => "add" | .sub .. => "sub" | .mul .. => "mul" | .scale .. => "scale" | .shift .. => "shift" | .relu .. => "relu" | .drop .. => "drop" | .sum .. => "sum" | .join .. => "join" | .take .. => "take"
def Nd.nums : Nd → List Int
  | .input => [] | .target => [] | .lin p a => [p, a] | .bias p a => [p, a] | .embed p lo n => [p, lo, n] | .mat k a b => [k, a, b] | .matT k a b => [k, a, b] | .lower c a => [c, a]
  | .add a b => [a, b] | .sub a b => [a, b] | .mul a b => [a, b] | .scale w a => [w, a] | .shift k a => [k, a] | .relu a => [a] | .drop m a => [m, a] | .sum a => [a] | .join a b => [a, b] | .take lo n a => [lo, n, a]
/-- the node as a tuple -/
def Nd.enc (d : Nd) : List V := .str d.kind :: d.nums.map V.int
/-- its operands, and where they stand -/
def Nd.ops : Nd → List Int
  | .input => [] | .target => [] | .lin _ a => [a] | .bias _ a => [a] | .embed .. => [] | .mat _ a b => [a, b] | .matT _ a b => [a, b] | .lower _ a => [a]
  | .add a b => [a, b] | .sub a b => [a, b] | .mul a b => [a, b] | .scale _ a => [a] | .shift _ a => [a] | .relu a => [a] | .drop _ a => [a] | .sum a => [a] | .join a b => [a, b] | .take _ _ a => [a]
def Nd.places : Nd → List Int
  | .input => [] | .target => [] | .lin .. => [2] | .bias .. => [2] | .embed .. => [] | .mat .. => [2, 3] | .matT .. => [2, 3] | .lower .. => [2]
  | .add .. => [1, 2] | .sub .. => [1, 2] | .mul .. => [1, 2] | .scale .. => [2] | .shift .. => [2] | .relu .. => [1] | .drop .. => [2] | .sum .. => [1] | .join .. => [1, 2] | .take .. => [3]
theorem Nd.place_op (d : Nd) : ∀ (i : Nat) (z : Int), d.places[i]? = some z → ∃ o, d.ops[i]? = some o ∧ atI d.enc z = some (.int o) := by
  intro i z h
  cases d <;> rcases i with _ | _ | i <;> first | (cases h; done) | (injection h with h; subst h; exact ⟨_, rfl, rfl⟩) | (exfalso; simp [Nd.places] at h)
theorem Nd.len_ops (d : Nd) : d.ops.length = d.places.length := by cases d <;> rfl
/-- its parameter -/
def Nd.par : Nd → Option Int
  | .lin p _ => some p | .bias p _ => some p | .embed p .. => some p
  | _ => none
def inR (i : Int) (n : Nat) : Prop := 0 ≤ i ∧ i < (n : Int)
instance (i : Int) (n : Nat) : Decidable (inR i n) := by unfold inR; infer_instance
/-- names of operands and of the parameter that exist -/
def parIn (o : Option Int) (np : Nat) : Prop := match o with
  | none => True
  | some p => inR p np
instance (o : Option Int) (np : Nat) : Decidable (parIn o np) := by unfold parIn; cases o <;> infer_instance
def Nd.fits (d : Nd) (np nk : Nat) : Prop := parIn d.par np ∧ ∀ o ∈ d.ops, inR o nk
instance (d : Nd) (np nk : Nat) : Decidable (d.fits np nk) := by unfold Nd.fits; infer_instance
def lget (ls : List Int) (a : Int) : Int := ls.getD a.toNat 0
def pget (ps : List (Int × Int)) (p : Int) : Int × Int := ps.getD p.toNat (0, 0)
def mult (n c : Int) : Prop := 0 < c ∧ n % c = 0
instance (n c : Int) : Decidable (mult n c) := by unfold mult; infer_instance
def inside (lo n l : Int) : Prop := 1 ≤ n ∧ 0 ≤ lo ∧ lo + n ≤ l
instance (lo n l : Int) : Decidable (inside lo n l) := by unfold inside; infer_instance
def Nd.len (ni nt : Int) (ps : List (Int × Int)) (ls : List Int) : Nd → Option Int
  | .input => some ni
  | .target => some nt
  | .lin p a => if mult (lget ls a) (pget ps p).1 then some (lget ls a / (pget ps p).1 * (pget ps p).2) else none
  | .bias p a => if (pget ps p).1 = 1 ∧ mult (lget ls a) (pget ps p).2 then some (lget ls a) else none
  | .embed p lo n => if inside lo n ni then some (n * (pget ps p).2) else none
  | .mat k a b => if mult (lget ls a) k ∧ mult (lget ls b) k then some (lget ls a / k * (lget ls b / k)) else none
  | .matT k a b => if mult (lget ls a) k ∧ mult (lget ls b) k then some (lget ls a / k * (lget ls b / k)) else none
  | .lower c a => if mult (lget ls a) c then some (lget ls a) else none
  | .add a b => if lget ls a = lget ls b then some (lget ls a) else none
  | .sub a b => if lget ls a = lget ls b then some (lget ls a) else none
  | .mul a b => if lget ls a = lget ls b then some (lget ls a) else none
  | .scale w a => if -2147483648 ≤ w ∧ w ≤ 2147483647 then some (lget ls a) else none
  | .shift k a => if 0 ≤ k ∧ k ≤ 31 then some (lget ls a) else none
  | .relu a => some (lget ls a)
  | .drop m a => if 2 ≤ m ∧ m ≤ 4294967295 then some (lget ls a) else none
  | .sum _ => some 1
  | .join a b => some (lget ls a + lget ls b)
  | .take lo n a => if inside lo n (lget ls a) then some n else none
def optV : Option Int → V
  | none => .non
  | some n => .int n
def spIsIntO : Sp := fun vs H Q _ => ∃ x : Option Int, vs = [optV x] ∧ Q (.bl x.isSome) H

def Nd.lenOf (ni nt : Int) (ps : List (Int × Int)) (ls : List Int) (d : Nd) : Option Int := if d.fits ps.length ls.length then d.len ni nt ps ls else none

/-! ### objects of the text that hold networks -/
inductive All2 {α β : Type} (R : α → β → Prop) : List α → List β → Prop
  | nil : All2 R [] []
  | cons {a : α} {b : β} {as : List α} {bs : List β} : R a b → All2 R as bs → All2 R (a :: as) (b :: bs)
theorem All2.length {α β : Type} {R : α → β → Prop} {as : List α} {bs : List β} (h : All2 R as bs) : as.length = bs.length := by
  induction h with
  | nil => rfl
  | cons _ _ ih => rw [List.length_cons, List.length_cons, ih]
theorem All2.get {α β : Type} {R : α → β → Prop} {as : List α} {bs : List β} (h : All2 R as bs) : ∀ {i : Nat} {b : β}, bs[i]? = some b → ∃ a, as[i]? = some a ∧ R a b := by
  induction h with
  | nil => intro i b e; cases e
  | cons r _ ih =>
    intro i b e
    cases i with
    | zero => cases e; exact ⟨_, rfl, r⟩
    | succ i => exact ih e
theorem All2.mono {α β : Type} {R S : α → β → Prop} {as : List α} {bs : List β} (f : ∀ a b, R a b → S a b) (h : All2 R as bs) : All2 S as bs := by
  induction h with
  | nil => exact .nil
  | cons r _ ih => exact .cons (f _ _ r) ih
theorem All2.snoc {α β : Type} {R : α → β → Prop} {as : List α} {bs : List β} {a : α} {b : β} (h : All2 R as bs) (r : R a b) : All2 R (as ++ [a]) (bs ++ [b]) := by
  induction h with
  | nil => exact .cons r .nil
  | cons r' _ ih => exact .cons r' ih

/-- a Parameter of these sides -/
def ParV (cs : Cs) (H : Hp) (a : Addr) (rc : Int × Int) : Prop := ∃ dx fs, H a = some (.ins cs.Parameter dx fs) ∧ fs.lookup ("rows" : Str) = some (.int rc.1) ∧ fs.lookup ("cols" : Str) = some (.int rc.2)
/-- a Net with these lengths of samples and these parameters -/
structure NetV (cs : Cs) (H : Hp) (q : Addr) (ni nt : Int) (ps : List (Int × Int)) : Prop where
  ex : ∃ dx fs P pr, H q = some (.ins cs.Net dx fs) ∧ fs.lookup ("inputs" : Str) = some (.int ni) ∧ fs.lookup ("targets" : Str) = some (.int nt) ∧ fs.lookup ("parameters" : Str) = some (.ref P) ∧
    H P = some (.lst (pr.map V.ref)) ∧ All2 (ParV cs H) pr ps
theorem ParV.same {cs : Cs} {H H' : Hp} {a : Addr} {rc : Int × Int} (e : Same H H') (h : ParV cs H a rc) : ParV cs H' a rc := by
  obtain ⟨dx, fs, h1, h2⟩ := h
  exact ⟨dx, fs, e _ _ h1, h2⟩
theorem NetV.same {cs : Cs} {H H' : Hp} {q : Addr} {ni nt : Int} {ps : List (Int × Int)} (e : Same H H') (h : NetV cs H q ni nt ps) : NetV cs H' q ni nt ps := by
  obtain ⟨dx, fs, P, pr, h1, h2, h3, h4, h5, h6⟩ := h.ex
  exact ⟨dx, fs, P, pr, e _ _ h1, h2, h3, h4, e _ _ h5, h6.mono fun _ _ r => r.same e⟩
/-- an item of a list of ints at an index that is in it -/
theorem at_ints {ls : List Int} {a : Int} (h : inR a ls.length) : atI (ls.map V.int) a = some (.int (lget ls a)) := by
  obtain ⟨h0, h1⟩ := h
  have hk : a.toNat < ls.length := by omega
  have ek : a = ((a.toNat : Nat) : Int) := by omega
  have z : atI (ls.map V.int) ((a.toNat : Nat) : Int) = some (.int ls[a.toNat]) := atI_nat (by rw [List.getElem?_map, List.getElem?_eq_getElem hk] <;> rfl)
  rw [← ek] at z
  rw [z]
  unfold lget
  rw [List.getD_eq_getElem?_getD, List.getElem?_eq_getElem hk]
  rfl
theorem at_pars {cs : Cs} {H : Hp} {pr : List Addr} {ps : List (Int × Int)} {p : Int} (h : All2 (ParV cs H) pr ps) (hp : inR p ps.length) : ∃ a, atI (pr.map V.ref) p = some (.ref a) ∧ ParV cs H a (pget ps p) := by
  obtain ⟨h0, h1⟩ := hp
  have hk : p.toNat < ps.length := by omega
  have ek : p = ((p.toNat : Nat) : Int) := by omega
  have g : ps[p.toNat]? = some (pget ps p) := by
    unfold pget
    rw [List.getD_eq_getElem?_getD, List.getElem?_eq_getElem hk]
    rfl
  obtain ⟨a, ea, r⟩ := h.get g
  refine ⟨a, ?_, r⟩
  have z : atI (pr.map V.ref) ((p.toNat : Nat) : Int) = some (.ref a) := atI_nat (by rw [List.getElem?_map, ea] <;> rfl)
  rwa [← ek] at z
def sides (pms : List (Int × Int × Str × Int)) : List (Int × Int) := pms.map fun m => (m.1, m.2.1)
theorem sides_len (pms : List (Int × Int × Str × Int)) : (sides pms).length = pms.length := List.length_map _
theorem sides_app (a b : List (Int × Int × Str × Int)) : sides (a ++ b) = sides a ++ sides b := List.map_append
/-- promises -/
def spMult : Sp := fun vs H Q _ => ∃ n c : Int, vs = [.int n, .int c] ∧ Q (.bl (decide (mult n c))) H
def spInside : Sp := fun vs H Q _ => ∃ lo n l : Int, vs = [.int lo, .int n, .int l] ∧ Q (.bl (decide (inside lo n l))) H
def spIsWord : Sp := fun vs H Q _ => ∃ n : Int, vs = [.int n] ∧ Q (.bl (decide (-2147483648 ≤ n ∧ n ≤ 2147483647))) H
def Nd.tame : Nd → Prop
  | .mat k _ _ => k < 1000000
  | .matT k _ _ => k < 1000000
  | _ => True
/-- far more than any length -/
@[irreducible] def capE : Nat := 8192
theorem capE_eq : capE = 8192 := by unfold capE; rfl
@[irreducible] def cap : Nat := 2 ^ capE
theorem cap_eq : cap = 2 ^ capE := by unfold cap; rfl
theorem cap_of {i : Int} {b : Nat} (h : i.natAbs < 2 ^ b) (hb : b ≤ 8192) : i.natAbs < cap := by
  rw [cap_eq]
  exact Nat.lt_of_lt_of_le h (Nat.pow_le_pow_right (by decide) (by rw [capE_eq]; exact hb))
theorem cap_small {i : Int} (h0 : -1000000 ≤ i) (h1 : i ≤ 1000000) : i.natAbs < cap := cap_of (b := 20) (Nat.lt_of_le_of_lt (show i.natAbs ≤ 1000000 by omega) (by decide)) (by decide)
theorem cap_mul {i j : Int} (hi : i.natAbs < cap) (hj : j.natAbs < cap) : L2.CMulW i j := by
  rw [cap_eq] at hi hj
  exact wide_mul hi hj (by rw [capE_eq]; decide) (by rw [capE_eq]; decide) (by rw [capE_eq]; decide)
structure Tame (ps : List (Int × Int)) (ls : List Int) : Prop where
  par : ∀ rc ∈ ps, 0 ≤ rc.1 ∧ rc.1 < 1000 ∧ 0 ≤ rc.2 ∧ rc.2 < 1000
  len : ∀ l ∈ ls, 0 ≤ l ∧ l.natAbs < cap
theorem lget_mem {ls : List Int} {a : Int} (h : inR a ls.length) : lget ls a ∈ ls := by
  obtain ⟨h0, h1⟩ := h
  have hk : a.toNat < ls.length := by omega
  unfold lget
  rw [List.getD_eq_getElem?_getD, List.getElem?_eq_getElem hk]
  exact List.getElem_mem hk
theorem pget_mem {ps : List (Int × Int)} {p : Int} (h : inR p ps.length) : pget ps p ∈ ps := by
  obtain ⟨h0, h1⟩ := h
  have hk : p.toNat < ps.length := by omega
  unfold pget
  rw [List.getD_eq_getElem?_getD, List.getElem?_eq_getElem hk]
  exact List.getElem_mem hk
theorem ediv_bd {l k : Int} (h0 : 0 ≤ l) (h1 : l.natAbs < cap) (hk : 0 < k) : 0 ≤ l / k ∧ (l / k).natAbs < cap := by
  have a := Int.ediv_nonneg h0 (Int.le_of_lt hk)
  have b := Int.ediv_le_self k h0
  exact ⟨a, by omega⟩
def spRule (K : PySem.W.Frag) (cs : Cs) (fam : Nd → Prop) : Sp := fun vs H Q _ => ∃ (q l a : Addr) (ni nt : Int) (ps : List (Int × Int)) (ls : List Int) (d : Nd), vs = [.ref q, .ref l, .ref a] ∧ fam d ∧ NetV cs H q ni nt ps ∧ SqL K H l (ls.map V.int) ∧ SqT K H a d.enc ∧
  d.fits ps.length ls.length ∧ Tame ps ls ∧ d.tame ∧ Q (optV (d.len ni nt ps ls)) H
def spNames (K : PySem.W.Frag) (cs : Cs) : Sp := fun vs H Q _ => ∃ (q l a : Addr) (ni nt : Int) (ps : List (Int × Int)) (ls : List Int) (d : Nd), vs = [.ref q, .ref l, .ref a] ∧ NetV cs H q ni nt ps ∧ SqL K H l (ls.map V.int) ∧ SqT K H a d.enc ∧
  ∀ H', Same H H' → Q (.bl (decide (d.fits ps.length ls.length))) H'
def spLength (K : PySem.W.Frag) (cs : Cs) : Sp := fun vs H Q _ => ∃ (q l a : Addr) (ni nt : Int) (ps : List (Int × Int)) (ls : List Int) (d : Nd), vs = [.ref q, .ref l, .ref a] ∧ NetV cs H q ni nt ps ∧ SqL K H l (ls.map V.int) ∧ SqT K H a d.enc ∧ Tame ps ls ∧ d.tame ∧
  ∀ H', Same H H' → Q (optV (d.lenOf ni nt ps ls)) H'
theorem Same.seqT {K : PySem.W.Frag} {H H' : Hp} {a : Addr} {xs : List V} (e : Same H H') (h : SqT K H a xs) : SqT K H' a xs := by
  rcases h with (h | ⟨o, h⟩) | h
  · exact .inl (.inl (e _ _ h))
  · exact .inl (.inr ⟨o, e _ _ h⟩)
  · exact .inr h

theorem all_dec {α : Type} (p : α → Prop) [DecidablePred p] : ∀ xs : List α, (xs.all fun x => decide (p x)) = decide (∀ x ∈ xs, p x)
  | [] => by simp
  | x :: r => by
    rw [List.all_cons, all_dec p r]
    simp [List.forall_mem_cons]
theorem But.seqL {K : PySem.W.Frag} {D : Addr} {H H' : Hp} {a : Addr} {xs : List V} (e : But D H H') (n : H D = none) (h : SqL K H a xs) : SqL K H' a xs := by
  rcases h with (h | ⟨o, h⟩) | h
  · exact .inl (.inl (e _ _ (ne_of_none h n) h))
  · exact .inl (.inr ⟨o, e _ _ (ne_of_none h n) h⟩)
  · exact .inr h
theorem But.seqT {K : PySem.W.Frag} {D : Addr} {H H' : Hp} {a : Addr} {xs : List V} (e : But D H H') (n : H D = none) (h : SqT K H a xs) : SqT K H' a xs := by
  rcases h with (h | ⟨o, h⟩) | h
  · exact .inl (.inl (e _ _ (ne_of_none h n) h))
  · exact .inl (.inr ⟨o, e _ _ (ne_of_none h n) h⟩)
  · exact .inr h
theorem But.same {D : Addr} {H H' : Hp} (e : But D H H') (n : H D = none) : Same H H' := fun c o h => e c o (ne_of_none h n) h
/-- the lengths up to the first node that has none -/
def lensFrom (ni nt : Int) (ps : List (Int × Int)) : List Int → List Nd → List Int
  | ks, [] => ks
  | ks, d :: r => match d.lenOf ni nt ps ks with
    | none => ks
    | some n => lensFrom ni nt ps (ks ++ [n]) r
theorem lensFrom_pre (ni nt : Int) (ps : List (Int × Int)) : ∀ (nds : List Nd) (ks : List Int), ∃ r, lensFrom ni nt ps ks nds = ks ++ r
  | [], ks => ⟨[], (List.append_nil ks).symm⟩
  | d :: t, ks => by
    unfold lensFrom
    cases d.lenOf ni nt ps ks with
    | none => exact ⟨[], (List.append_nil ks).symm⟩
    | some n =>
      obtain ⟨r, e⟩ := lensFrom_pre ni nt ps t (ks ++ [n])
      exact ⟨[n] ++ r, by show lensFrom ni nt ps (ks ++ [n]) t = _; rw [e, List.append_assoc]⟩
theorem lensFrom_len (ni nt : Int) (ps : List (Int × Int)) : ∀ (nds : List Nd) (ks : List Int), (lensFrom ni nt ps ks nds).length ≤ ks.length + nds.length
  | [], ks => Nat.le_refl _
  | d :: t, ks => by
    unfold lensFrom
    cases d.lenOf ni nt ps ks with
    | none => exact Nat.le_add_right _ _
    | some n =>
      have e := lensFrom_len ni nt ps t (ks ++ [n])
      rw [List.length_append, List.length_singleton] at e
      show (lensFrom ni nt ps (ks ++ [n]) t).length ≤ _
      rw [List.length_cons]
      omega
def NdV (K : PySem.W.Frag) (H : Hp) (a : Addr) (d : Nd) : Prop := SqT K H a d.enc
structure NetN (K : PySem.W.Frag) (cs : Cs) (H : Hp) (q : Addr) (nds : List Nd) : Prop where
  ex : ∃ dx fs N nr, H q = some (.ins cs.Net dx fs) ∧ fs.lookup ("nodes" : Str) = some (.ref N) ∧ H N = some (.lst (nr.map V.ref)) ∧ All2 (NdV K H) nr nds
structure NetL (cs : Cs) (H : Hp) (q : Addr) (ls : List Int) : Prop where
  ex : ∃ dx fs L, H q = some (.ins cs.Net dx fs) ∧ fs.lookup ("lengths" : Str) = some (.ref L) ∧ H L = some (.lst (ls.map V.int))
theorem NetN.same {K : PySem.W.Frag} {cs : Cs} {H H' : Hp} {q : Addr} {nds : List Nd} (e : Same H H') (h : NetN K cs H q nds) : NetN K cs H' q nds := by
  obtain ⟨dx, fs, N, nr, h1, h2, h3, h4⟩ := h.ex
  exact ⟨dx, fs, N, nr, e _ _ h1, h2, e _ _ h3, h4.mono fun _ _ r => Same.seqT e r⟩
theorem NetL.same {cs : Cs} {H H' : Hp} {q : Addr} {ls : List Int} (e : Same H H') (h : NetL cs H q ls) : NetL cs H' q ls := by
  obtain ⟨dx, fs, L, h1, h2, h3⟩ := h.ex
  exact ⟨dx, fs, L, e _ _ h1, h2, e _ _ h3⟩
/-- all numbers of a network within what the machine's products bear -/
structure NetOk (ni nt : Int) (ps : List (Int × Int)) (nds : List Nd) : Prop where
  par : ∀ rc ∈ ps, 0 ≤ rc.1 ∧ rc.1 < 1000 ∧ 0 ≤ rc.2 ∧ rc.2 < 1000
  len : ∀ l ∈ lensFrom ni nt ps [] nds, 0 ≤ l ∧ l.natAbs < cap
  nod : ∀ d ∈ nds, d.tame
  few : nds.length ≤ 1000
def spLengths (K : PySem.W.Frag) (cs : Cs) : Sp := fun vs H Q _ => ∃ (q : Addr) (ni nt : Int) (ps : List (Int × Int)) (nds : List Nd), vs = [.ref q] ∧ NetV cs H q ni nt ps ∧ NetN K cs H q nds ∧ NetOk ni nt ps nds ∧
  ∀ (p : Addr) (H' : Hp), H p = none → Same H H' → H' p = some (.lst ((lensFrom ni nt ps [] nds).map V.int)) → Q (.ref p) H'
def spParInit (cs : Cs) : Sp := fun vs H Q _ => ∃ (x dx : Addr) (r c : Int) (fill : V), vs = [.ref x, .int r, .int c, fill] ∧ H x = some (.ins cs.Parameter dx []) ∧
  ∀ H' fs, But x H H' → H' x = some (.ins cs.Parameter dx fs) → fs.lookup ("rows" : Str) = some (.int r) → fs.lookup ("cols" : Str) = some (.int c) → fs.lookup ("fill" : Str) = some fill → Q .non H'
/-- a Parameter with its fill -/
def ParP (cs : Cs) (H : Hp) (a : Addr) (m : Int × Int × Str × Int) : Prop := ∃ dx fs f, H a = some (.ins cs.Parameter dx fs) ∧ fs.lookup ("rows" : Str) = some (.int m.1) ∧ fs.lookup ("cols" : Str) = some (.int m.2.1) ∧ fs.lookup ("fill" : Str) = some (.ref f) ∧ H f = some (.tup [.str m.2.2.1, .int m.2.2.2])
theorem ParP.v {cs : Cs} {H : Hp} {a : Addr} {m : Int × Int × Str × Int} (h : ParP cs H a m) : ParV cs H a (m.1, m.2.1) := by
  obtain ⟨dx, fs, f, h1, h2, h3, _⟩ := h
  exact ⟨dx, fs, h1, h2, h3⟩
theorem ParP.same {cs : Cs} {H H' : Hp} {a : Addr} {m : Int × Int × Str × Int} (e : Same H H') (h : ParP cs H a m) : ParP cs H' a m := by
  obtain ⟨dx, fs, f, h1, h2, h3, h4, h5⟩ := h
  exact ⟨dx, fs, f, e _ _ h1, h2, h3, h4, e _ _ h5⟩
theorem ParP.but {cs : Cs} {x C dx : Addr} {H H' : Hp} {a : Addr} {m : Int × Int × Str × Int} (e : But x H H') (hx : H x = some (.ins C dx [])) (h : ParP cs H a m) : ParP cs H' a m := by
  obtain ⟨dy, fs, f, h1, h2, h3, h4, h5⟩ := h
  refine ⟨dy, fs, f, e _ _ (fun z => ?_) h1, h2, h3, h4, e _ _ (fun z => ?_) h5⟩
  · rw [z, hx] at h1
    cases h1
    cases h2
  · rw [z, hx] at h5
    cases h5
theorem all_sides {cs : Cs} {H : Hp} {pr : List Addr} {pms : List (Int × Int × Str × Int)} (h : All2 (ParP cs H) pr pms) : All2 (ParV cs H) pr (sides pms) := by
  induction h with
  | nil => exact .nil
  | cons r _ ih => exact .cons r.v ih
structure NetF (K : PySem.W.Frag) (cs : Cs) (H : Hp) (q : Addr) (ni nt : Int) (pms : List (Int × Int × Str × Int)) (nds : List Nd) : Prop where
  ex : ∃ dx fs PP NN pr nr, H q = some (.ins cs.Net dx fs) ∧ fs.lookup ("inputs" : Str) = some (.int ni) ∧ fs.lookup ("targets" : Str) = some (.int nt) ∧ fs.lookup ("parameters" : Str) = some (.ref PP) ∧ fs.lookup ("nodes" : Str) = some (.ref NN) ∧
    H PP = some (.lst (pr.map V.ref)) ∧ All2 (ParP cs H) pr pms ∧ H NN = some (.lst (nr.map V.ref)) ∧ All2 (NdV K H) nr nds
theorem NetF.v {K : PySem.W.Frag} {cs : Cs} {H : Hp} {q : Addr} {ni nt : Int} {pms : List (Int × Int × Str × Int)} {nds : List Nd} (h : NetF K cs H q ni nt pms nds) : NetV cs H q ni nt (sides pms) := by
  obtain ⟨dx, fs, PP, NN, pr, nr, h1, h2, h3, h4, h5, h6, h7, h8, h9⟩ := h.ex
  exact ⟨dx, fs, PP, pr, h1, h2, h3, h4, h6, all_sides h7⟩
theorem NetF.n {K : PySem.W.Frag} {cs : Cs} {H : Hp} {q : Addr} {ni nt : Int} {pms : List (Int × Int × Str × Int)} {nds : List Nd} (h : NetF K cs H q ni nt pms nds) : NetN K cs H q nds := by
  obtain ⟨dx, fs, PP, NN, pr, nr, h1, h2, h3, h4, h5, h6, h7, h8, h9⟩ := h.ex
  exact ⟨dx, fs, NN, nr, h1, h5, h8, h9⟩
theorem NetF.same {K : PySem.W.Frag} {cs : Cs} {H H' : Hp} {q : Addr} {ni nt : Int} {pms : List (Int × Int × Str × Int)} {nds : List Nd} (e : Same H H') (h : NetF K cs H q ni nt pms nds) : NetF K cs H' q ni nt pms nds := by
  obtain ⟨dx, fs, PP, NN, pr, nr, h1, h2, h3, h4, h5, h6, h7, h8, h9⟩ := h.ex
  exact ⟨dx, fs, PP, NN, pr, nr, e _ _ h1, h2, h3, h4, h5, e _ _ h6, h7.mono fun _ _ r => r.same e, e _ _ h8, h9.mono fun _ _ r => Same.seqT e r⟩
def spNetInit (K : PySem.W.Frag) (cs : Cs) : Sp := fun vs H Q _ => ∃ (x dx PP NN : Addr) (ni nt : Int) (pms : List (Int × Int × Str × Int)) (nds : List Nd) (pr nr : List Addr), vs = [.ref x, .int ni, .int nt, .ref PP, .ref NN] ∧ H x = some (.ins cs.Net dx []) ∧
  SqL K H PP (pr.map V.ref) ∧ All2 (ParP cs H) pr pms ∧ SqL K H NN (nr.map V.ref) ∧ All2 (NdV K H) nr nds ∧ NetOk ni nt (sides pms) nds ∧
  ∀ H', But x H H' → NetF K cs H' x ni nt pms nds → NetL cs H' x (lensFrom ni nt (sides pms) [] nds) → Q .non H'
theorem put_le {f : Str} {v : V} {fs : List (Str × V)} {n : Nat} (h : fs.length ≤ n) : (putF f v fs).length ≤ n + 1 := by
  have := length_putF f v fs
  omega
theorem put_lt {fs : List (Str × V)} {n : Nat} (h : fs.length ≤ n) (hn : n < 1000 := by decide) : fs.length < 1000 := Nat.lt_of_le_of_lt h hn
theorem put_no : ([] : List (Str × V)).length ≤ 0 := Nat.le_refl 0
theorem But.seqI {K : PySem.W.Frag} {x a C dx : Addr} {fs : List (Str × V)} {H H' : Hp} {xs : List V} (e : But x H H') (hx : H x = some (.ins C dx fs)) (h : SqL K H a xs) : SqL K H' a xs := by
  rcases h with (h | ⟨o, h⟩) | h
  · exact .inl (.inl (e _ _ (ne_of h hx (by intro z; cases z)) h))
  · exact .inl (.inr ⟨o, e _ _ (ne_of h hx (by intro z; cases z)) h⟩)
  · exact .inr h
theorem But.seqTI {K : PySem.W.Frag} {x a C dx : Addr} {fs : List (Str × V)} {H H' : Hp} {xs : List V} (e : But x H H') (hx : H x = some (.ins C dx fs)) (h : SqT K H a xs) : SqT K H' a xs := by
  rcases h with (h | ⟨o, h⟩) | h
  · exact .inl (.inl (e _ _ (ne_of h hx (by intro z; cases z)) h))
  · exact .inl (.inr ⟨o, e _ _ (ne_of h hx (by intro z; cases z)) h⟩)
  · exact .inr h
theorem ParV.but {cs : Cs} {x C dx : Addr} {H H' : Hp} {a : Addr} {rc : Int × Int} (e : But x H H') (hx : H x = some (.ins C dx [])) (h : ParV cs H a rc) : ParV cs H' a rc := by
  obtain ⟨dy, fs, h1, h2, h3⟩ := h
  refine ⟨dy, fs, e _ _ (fun z => ?_) h1, h2, h3⟩
  rw [z, hx] at h1
  cases h1
  cases h2

/-! ### the laws' generator of networks: the state -/
def PmV (H : Hp) (a : Addr) (m : Int × Int × Str × Int) : Prop := ∃ f, H a = some (.tup [.int m.1, .int m.2.1, .ref f]) ∧ H f = some (.tup [.str m.2.2.1, .int m.2.2.2])
def NdT (H : Hp) (a : Addr) (d : Nd) : Prop := H a = some (.tup d.enc)
def PmOk (m : Int × Int × Str × Int) : Prop := 1 ≤ m.1 ∧ m.1 ≤ 6 ∧ 1 ≤ m.2.1 ∧ m.2.1 ≤ 6 ∧ ((m.2.2.1 = "same" ∧ -2147483648 ≤ m.2.2.2 ∧ m.2.2.2 ≤ 2147483647) ∨ (m.2.2.1 = "mixed" ∧ 0 ≤ m.2.2.2 ∧ m.2.2.2 ≤ 31))
/-- all is as it was but what stands at these -/
def Exc (S : List Addr) (H H' : Hp) : Prop := ∀ c o, c ∉ S → H c = some o → H' c = some o
theorem Exc.refl (S : List Addr) (H : Hp) : Exc S H H := fun _ _ _ h => h
theorem Exc.trans {S : List Addr} {H H1 H2 : Hp} (x : Exc S H H1) (y : Exc S H1 H2) : Exc S H H2 := fun c o n h => y c o n (x c o n h)
theorem Exc.of {S : List Addr} {H H' : Hp} (e : Same H H') : Exc S H H' := fun c o _ h => e c o h
theorem Exc.but {S : List Addr} {b : Addr} {H H' : Hp} (e : But b H H') (h : b ∈ S) : Exc S H H' := fun c o n hc => e c o (fun z => n (z ▸ h)) hc
theorem Exc.wide {S S' : List Addr} {H H' : Hp} (e : Exc S H H') (h : ∀ x ∈ S, x ∈ S') : Exc S' H H' := fun c o n hc => e c o (fun z => n (h _ z)) hc
theorem Exc.mut {S : List Addr} {l : Addr} {H H' : Hp} {o : HO} (e : Exc S H H') (h : l ∈ S) : Exc S H (upd H' l o) := fun c x n hc => by
  rw [upd_ne (show c ≠ l from fun z => n (by rw [z]; exact h))]
  exact e c x n hc
structure Dis (b r n PL NL LL : Addr) : Prop where
  bn : b ≠ n
  bp : b ≠ PL
  bd : b ≠ NL
  bl : b ≠ LL
  rp : r ≠ PL
  rd : r ≠ NL
  rl : r ≠ LL
  np : n ≠ PL
  nd : n ≠ NL
  nl : n ≠ LL
  pd : PL ≠ NL
  pl : PL ≠ LL
  dl : NL ≠ LL
structure G (H : Hp) (b r : Addr) (rs : List Int) (n PL NL LL : Addr) (ni nt : Int) (pms : List (Int × Int × Str × Int)) (nds : List Nd) (ls : List Int) : Prop where
  box : Box H b r rs
  net : H n = some (.lst [.int ni, .int nt, .ref PL, .ref NL, .ref LL])
  par : ∃ pr, H PL = some (.lst (pr.map V.ref)) ∧ All2 (PmV H) pr pms
  nod : ∃ nr, H NL = some (.lst (nr.map V.ref)) ∧ All2 (NdT H) nr nds
  len : H LL = some (.lst (ls.map V.int))
  dis : Dis b r n PL NL LL
theorem PmV.exc {S : List Addr} {H H' : Hp} {a : Addr} {m : Int × Int × Str × Int} (e : Exc S H H') (hS : ∀ c ∈ S, ∃ xs, H c = some (.lst xs)) (h : PmV H a m) : PmV H' a m := by
  obtain ⟨f, h1, h2⟩ := h
  refine ⟨f, e _ _ (fun z => ?_) h1, e _ _ (fun z => ?_) h2⟩
  · obtain ⟨xs, y⟩ := hS _ z
    rw [h1] at y
    cases y
  · obtain ⟨xs, y⟩ := hS _ z
    rw [h2] at y
    cases y
theorem NdT.exc {S : List Addr} {H H' : Hp} {a : Addr} {d : Nd} (e : Exc S H H') (hS : ∀ c ∈ S, ∃ xs, H c = some (.lst xs)) (h : NdT H a d) : NdT H' a d := by
  refine e _ _ (fun z => ?_) h
  obtain ⟨xs, y⟩ := hS _ z
  rw [show H a = _ from h] at y
  cases y
section
variable {H H' : Hp} {b r : Addr} {rs : List Int} {n PL NL LL : Addr} {ni nt : Int} {pms : List (Int × Int × Str × Int)} {nds : List Nd} {ls : List Int}
theorem G.blst (g : G H b r rs n PL NL LL ni nt pms nds ls) : ∃ xs, H b = some (.lst xs) := by
  obtain ⟨z, _, h⟩ := g.box.ex
  exact ⟨_, h⟩
/-- behind a draw -/
theorem G.but (g : G H b r rs n PL NL LL ni nt pms nds ls) (B : Box H' b r rs) (e : But b H H') : G H' b r rs n PL NL LL ni nt pms nds ls := by
  have hS : ∀ c ∈ [b], ∃ xs, H c = some (.lst xs) := fun c hc => by
    rw [List.mem_singleton] at hc
    subst hc
    exact g.blst
  have x : Exc [b] H H' := .but e (.head _)
  obtain ⟨pr, p1, p2⟩ := g.par
  obtain ⟨nr, n1, n2⟩ := g.nod
  exact ⟨B, e _ _ g.dis.bn.symm g.net, ⟨pr, e _ _ g.dis.bp.symm p1, p2.mono fun _ _ q => q.exc x hS⟩, ⟨nr, e _ _ g.dis.bd.symm n1, n2.mono fun _ _ q => NdT.exc x hS q⟩, e _ _ g.dis.bl.symm g.len, g.dis⟩
theorem G.same (g : G H b r rs n PL NL LL ni nt pms nds ls) (e : Same H H') : G H' b r rs n PL NL LL ni nt pms nds ls := by
  obtain ⟨pr, p1, p2⟩ := g.par
  obtain ⟨nr, n1, n2⟩ := g.nod
  have x : Exc [] H H' := .of e
  have hS : ∀ c ∈ ([] : List Addr), ∃ xs, H c = some (.lst xs) := fun c hc => by cases hc
  exact ⟨g.box.same e, e _ _ g.net, ⟨pr, e _ _ p1, p2.mono fun _ _ q => q.exc x hS⟩, ⟨nr, e _ _ n1, n2.mono fun _ _ q => NdT.exc x hS q⟩, e _ _ g.len, g.dis⟩
end
section
variable {H H' : Hp} {b r : Addr} {rs : List Int} {n PL NL LL : Addr} {ni nt : Int} {pms : List (Int × Int × Str × Int)} {nds : List Nd} {ls : List Int}
theorem Box.off {o : HO} {l : Addr} (B : Box H b r rs) (hb : b ≠ l) (hr : r ≠ l) : Box (upd H l o) b r rs := by
  obtain ⟨z, h0, h⟩ := B.ex
  exact ⟨⟨z, h0, by rw [upd_ne hb]; exact h⟩, by rw [upd_ne hr]; exact B.row⟩
theorem exc_one (l : Addr) (o : HO) : Exc [l] H (upd H l o) := fun c x nm h => by
  rw [upd_ne (show c ≠ l from fun z => nm (by rw [z]; exact .head _))]
  exact h
theorem one_lst {l : Addr} {xs : List V} (h : H l = some (.lst xs)) : ∀ c ∈ [l], ∃ ys, H c = some (.lst ys) := fun c hc => by
  rw [List.mem_singleton] at hc
  subst hc
  exact ⟨_, h⟩
/-- one more parameter -/
theorem G.addPm (g : G H b r rs n PL NL LL ni nt pms nds ls) {pr : List Addr} {a : Addr} {m : Int × Int × Str × Int} (p1 : H PL = some (.lst (pr.map V.ref))) (p2 : All2 (PmV H) pr pms) (hm : PmV H a m) :
    G (upd H PL (.lst (pr.map V.ref ++ [.ref a]))) b r rs n PL NL LL ni nt (pms ++ [m]) nds ls := by
  have x := exc_one (H := H) PL (.lst (pr.map V.ref ++ [.ref a]))
  have hS := one_lst p1
  obtain ⟨nr, n1, n2⟩ := g.nod
  refine ⟨g.box.off g.dis.bp g.dis.rp, by rw [upd_ne g.dis.np]; exact g.net, ⟨pr ++ [a], by rw [upd_same, List.map_append]; rfl, (p2.mono fun _ _ q => q.exc x hS).snoc (hm.exc x hS)⟩, ⟨nr, by rw [upd_ne g.dis.pd.symm]; exact n1, n2.mono fun _ _ q => NdT.exc x hS q⟩, by rw [upd_ne g.dis.pl.symm]; exact g.len, g.dis⟩
end
/-! what is good: a node behind nodes of known lengths, a network -/
def Good (ni nt : Int) (pms : List (Int × Int × Str × Int)) (ls : List Int) (d : Nd) (len : Int) : Prop := d.lenOf ni nt (sides pms) ls = some len ∧ 1 ≤ len ∧ len ≤ 12 ∧ d.tame
structure Built (ni nt : Int) (pms : List (Int × Int × Str × Int)) (nds : List Nd) (ls : List Int) : Prop where
  ni1 : 1 ≤ ni
  ni3 : ni ≤ 3
  nt1 : 1 ≤ nt
  nt2 : nt ≤ 2
  pok : ∀ m ∈ pms, PmOk m
  few : pms.length ≤ 4
  len : lensFrom ni nt (sides pms) [] nds = ls
  all : ls.length = nds.length
  bnd : ∀ l ∈ ls, 1 ≤ l ∧ l ≤ 12
  tam : ∀ d ∈ nds, d.tame
theorem pget_app {ps more : List (Int × Int)} {p : Int} (h : inR p ps.length) : pget (ps ++ more) p = pget ps p := by
  obtain ⟨h0, h1⟩ := h
  unfold pget
  rw [List.getD_eq_getElem?_getD, List.getD_eq_getElem?_getD, List.getElem?_append_left (by omega)]
theorem parIn_app {o : Option Int} {np m : Nat} (h : parIn o np) : parIn o (np + m) := by
  cases o with
  | none => exact True.intro
  | some p => exact ⟨h.1, by have := h.2; omega⟩
theorem len_app (ni nt : Int) (ps more : List (Int × Int)) (ls : List Int) (d : Nd) (h : parIn d.par ps.length) : d.len ni nt (ps ++ more) ls = d.len ni nt ps ls := by
  cases d with
  | lin p a => simp only [Nd.len]; rw [pget_app h]
  | bias p a => simp only [Nd.len]; rw [pget_app h]
  | embed p lo n => simp only [Nd.len]; rw [pget_app h]
  | _ => rfl
theorem lenOf_app {ni nt : Int} {ps more : List (Int × Int)} {ls : List Int} {d : Nd} {n : Int} (h : d.lenOf ni nt ps ls = some n) : d.lenOf ni nt (ps ++ more) ls = some n := by
  unfold Nd.lenOf at h ⊢
  by_cases hf : d.fits ps.length ls.length
  · rw [if_pos hf] at h
    rw [if_pos ⟨by rw [List.length_append]; exact parIn_app hf.1, hf.2⟩, len_app ni nt ps more ls d hf.1]
    exact h
  · rw [if_neg hf] at h
    cases h
theorem lensFrom_app {ni nt : Int} {ps more : List (Int × Int)} : ∀ (nds : List Nd) (ks : List Int), (lensFrom ni nt ps ks nds).length = ks.length + nds.length → lensFrom ni nt (ps ++ more) ks nds = lensFrom ni nt ps ks nds
  | [], ks, _ => rfl
  | d :: t, ks, h => by
    unfold lensFrom at h ⊢
    cases e : d.lenOf ni nt ps ks with
    | none =>
      rw [e] at h
      rw [List.length_cons] at h
      exact absurd h (by show ¬ ks.length = _; omega)
    | some n =>
      rw [e] at h
      rw [lenOf_app e]
      refine lensFrom_app t (ks ++ [n]) ?_
      rw [show (match some n with | none => ks | some n => lensFrom ni nt ps (ks ++ [n]) t) = lensFrom ni nt ps (ks ++ [n]) t from rfl] at h
      rw [h, List.length_append, List.length_singleton, List.length_cons]
      omega
theorem lensFrom_snoc {ni nt : Int} {ps : List (Int × Int)} {d : Nd} {n : Int} : ∀ (nds : List Nd) (ks : List Int), (lensFrom ni nt ps ks nds).length = ks.length + nds.length → d.lenOf ni nt ps (lensFrom ni nt ps ks nds) = some n →
    lensFrom ni nt ps ks (nds ++ [d]) = lensFrom ni nt ps ks nds ++ [n]
  | [], ks, _, e => by
    show (match d.lenOf ni nt ps ks with | none => ks | some n => lensFrom ni nt ps (ks ++ [n]) []) = _
    rw [show d.lenOf ni nt ps ks = some n from e]
    rfl
  | c :: t, ks, h, e => by
    rw [List.cons_append]
    unfold lensFrom at h e ⊢
    cases z : c.lenOf ni nt ps ks with
    | none =>
      rw [z, List.length_cons] at h
      exact absurd h (by show ¬ ks.length = _; omega)
    | some m =>
      rw [z] at h e
      refine lensFrom_snoc t (ks ++ [m]) ?_ e
      rw [show (match some m with | none => ks | some n => lensFrom ni nt ps (ks ++ [n]) t) = lensFrom ni nt ps (ks ++ [m]) t from rfl] at h
      rw [h, List.length_append, List.length_singleton, List.length_cons]
      omega
theorem Built.grow {ni nt : Int} {pms : List (Int × Int × Str × Int)} {nds : List Nd} {ls : List Int} {m : Int × Int × Str × Int} (u : Built ni nt pms nds ls) (hm : PmOk m) (h4 : pms.length < 4) : Built ni nt (pms ++ [m]) nds ls := by
  refine ⟨u.ni1, u.ni3, u.nt1, u.nt2, fun x hx => ?_, by rw [List.length_append, List.length_singleton]; omega, ?_, u.all, u.bnd, u.tam⟩
  · rcases List.mem_append.mp hx with z | z
    · exact u.pok x z
    · rw [List.mem_singleton] at z
      rw [z]
      exact hm
  · rw [sides_app, lensFrom_app nds [] (by rw [u.len, u.all]; simp)]
    exact u.len
theorem Built.snoc {ni nt : Int} {pms : List (Int × Int × Str × Int)} {nds : List Nd} {ls : List Int} {d : Nd} {len : Int} (u : Built ni nt pms nds ls) (g : Good ni nt pms ls d len) : Built ni nt pms (nds ++ [d]) (ls ++ [len]) := by
  refine ⟨u.ni1, u.ni3, u.nt1, u.nt2, u.pok, u.few, ?_, by rw [List.length_append, List.length_append, u.all]; rfl, fun x hx => ?_, fun x hx => ?_⟩
  · rw [lensFrom_snoc nds [] (by rw [u.len, u.all]; simp) (by rw [u.len]; exact g.1), u.len]
  · rcases List.mem_append.mp hx with z | z
    · exact u.bnd x z
    · rw [List.mem_singleton] at z
      rw [z]
      exact ⟨g.2.1, g.2.2.1⟩
  · rcases List.mem_append.mp hx with z | z
    · exact u.tam x z
    · rw [List.mem_singleton] at z
      rw [z]
      exact g.2.2.2
/-! promises -/
def spDivisors : Sp := fun vs H Q _ => ∃ n most : Int, vs = [.int n, .int most] ∧ 1 ≤ most ∧ most ≤ 12 ∧
  ∀ (p : Addr) (ds : List Int) (H' : Hp), H p = none → Same H H' → H' p = some (.lst (ds.map V.int)) → (∀ d ∈ ds, 1 ≤ d ∧ d ≤ most ∧ n % d = 0) → 0 < ds.length → Q (.ref p) H'
def spParam : Sp := fun vs H Q _ => ∃ (b r : Addr) (rs : List Int) (n PL NL LL : Addr) (ni nt : Int) (pms : List (Int × Int × Str × Int)) (nds : List Nd) (ls : List Int) (rows cols : Int), vs = [.ref b, .ref n, .int rows, .int cols] ∧
  G H b r rs n PL NL LL ni nt pms nds ls ∧ Built ni nt pms nds ls ∧ 1 ≤ rows ∧ rows ≤ 6 ∧ 1 ≤ cols ∧ cols ≤ 6 ∧
  ∀ (p : Int) (more : List (Int × Int × Str × Int)) (H' : Hp), G H' b r rs n PL NL LL ni nt (pms ++ more) nds ls → Built ni nt (pms ++ more) nds ls → Exc [b, PL] H H' →
    (p < 0 ∨ (inR p (pms ++ more).length ∧ pget (sides (pms ++ more)) p = (rows, cols))) → Q (.int p) H'
/-- what a maker of nodes hands back: None, or a pair of a node and its length -/
def Found (H : Hp) (ni nt : Int) (pms : List (Int × Int × Str × Int)) (ls : List Int) (v : V) : Prop := ∃ (t a : Addr) (d : Nd) (len : Int), v = .ref t ∧ H t = some (.tup [.ref a, .int len]) ∧ H a = some (.tup d.enc) ∧ Good ni nt pms ls d len
def spMake (extra : List Int → List V → Prop) : Sp := fun vs H Q _ => ∃ (b r : Addr) (rs : List Int) (n PL NL LL : Addr) (ni nt : Int) (pms : List (Int × Int × Str × Int)) (nds : List Nd) (ls : List Int) (us : List V), vs = .ref b :: .ref n :: us ∧ extra ls us ∧
  G H b r rs n PL NL LL ni nt pms nds ls ∧ Built ni nt pms nds ls ∧ ls.length ≤ 1000 ∧
  ∀ (v : V) (more : List (Int × Int × Str × Int)) (H' : Hp), G H' b r rs n PL NL LL ni nt (pms ++ more) nds ls → Built ni nt (pms ++ more) nds ls → Exc [b, PL] H H' → (v = .non ∨ Found H' ni nt (pms ++ more) ls v) → Q v H'
theorem G.at {H : Hp} {b r : Addr} {rs : List Int} {n PL NL LL : Addr} {ni nt : Int} {pms : List (Int × Int × Str × Int)} {nds : List Nd} {ls : List Int} {p : Int} (g : G H b r rs n PL NL LL ni nt pms nds ls) (hp : inR p pms.length) :
    ∃ (pr : List Addr) (a f : Addr) (m : Int × Int × Str × Int), H PL = some (.lst (pr.map V.ref)) ∧ atI (pr.map V.ref) p = some (.ref a) ∧ H a = some (.tup [.int (pget (sides pms) p).1, .int (pget (sides pms) p).2, .ref f]) ∧ H f = some (.tup [.str m.2.2.1, .int m.2.2.2]) ∧ pms[p.toNat]? = some m := by
  obtain ⟨pr, p1, p2⟩ := g.par
  obtain ⟨h0, h1⟩ := hp
  have hk : p.toNat < pms.length := by omega
  have ek : p = ((p.toNat : Nat) : Int) := by omega
  have em : pms[p.toNat]? = some pms[p.toNat] := List.getElem?_eq_getElem hk
  obtain ⟨a, ea, f, m1, m2⟩ := p2.get em
  have eg : pget (sides pms) p = (pms[p.toNat].1, pms[p.toNat].2.1) := by
    unfold pget sides
    rw [List.getD_eq_getElem?_getD, List.getElem?_map, em]
    rfl
  refine ⟨pr, a, f, pms[p.toNat], p1, ?_, by rw [eg]; exact m1, m2, em⟩
  have z : atI (pr.map V.ref) ((p.toNat : Nat) : Int) = some (.ref a) := atI_nat (by rw [List.getElem?_map, ea] <;> rfl)
  rwa [← ek] at z
theorem good_of {ni nt : Int} {pms : List (Int × Int × Str × Int)} {ls : List Int} {d : Nd} {len : Int} (hp : parIn d.par pms.length) (ho : ∀ o ∈ d.ops, inR o ls.length) (hl : d.len ni nt (sides pms) ls = some len) (h1 : 1 ≤ len) (h2 : len ≤ 12) (ht : d.tame) : Good ni nt pms ls d len :=
  ⟨by unfold Nd.lenOf; rw [if_pos ⟨by rw [sides_len]; exact hp, ho⟩]; exact hl, h1, h2, ht⟩
def allKinds : List Str := ["input", "target", "lin", "bias", "embed", "mat", "matT", "lower", "add", "sub", "mul", "scale", "shift", "relu", "drop", "sum", "join", "take"]
def spNode (K : PySem.W.Frag) : Sp := fun vs H Q _ => ∃ (b r : Addr) (rs : List Int) (n PL NL LL : Addr) (ni nt : Int) (pms : List (Int × Int × Str × Int)) (nds : List Nd) (ls : List Int) (ks : Addr) (kl : List Str), vs = [.ref b, .ref n, .ref ks] ∧
  SqL K H ks (kl.map V.str) ∧ (∀ k ∈ kl, k ∈ allKinds) ∧ 0 < kl.length ∧ G H b r rs n PL NL LL ni nt pms nds ls ∧ Built ni nt pms nds ls ∧ ls.length ≤ 1000 ∧
  ∀ (v : V) (more : List (Int × Int × Str × Int)) (H' : Hp), G H' b r rs n PL NL LL ni nt (pms ++ more) nds ls → Built ni nt (pms ++ more) nds ls → Exc [b, PL] H H' → Found H' ni nt (pms ++ more) ls v → Q v H'
theorem at_strs {kl : List Str} {i : Int} (h : inR i kl.length) : ∃ k, k ∈ kl ∧ atI (kl.map V.str) i = some (.str k) := by
  obtain ⟨h0, h1⟩ := h
  have hk : i.toNat < kl.length := by omega
  have ek : i = ((i.toNat : Nat) : Int) := by omega
  refine ⟨kl[i.toNat], List.getElem_mem hk, ?_⟩
  have z : atI (kl.map V.str) ((i.toNat : Nat) : Int) = some (.str kl[i.toNat]) := atI_nat (by rw [List.getElem?_map, List.getElem?_eq_getElem hk] <;> rfl)
  rwa [← ek] at z
section
variable {H H' : Hp} {b r : Addr} {rs : List Int} {n PL NL LL : Addr} {ni nt : Int} {pms : List (Int × Int × Str × Int)} {nds : List Nd} {ls : List Int}
theorem G.addNd (g : G H b r rs n PL NL LL ni nt pms nds ls) {nr : List Addr} {a : Addr} {d : Nd} (n1 : H NL = some (.lst (nr.map V.ref))) (n2 : All2 (NdT H) nr nds) (hd : NdT H a d) :
    G (upd H NL (.lst (nr.map V.ref ++ [.ref a]))) b r rs n PL NL LL ni nt pms (nds ++ [d]) ls := by
  have x := exc_one (H := H) NL (.lst (nr.map V.ref ++ [.ref a]))
  have hS := one_lst n1
  obtain ⟨pr, p1, p2⟩ := g.par
  exact ⟨g.box.off g.dis.bd g.dis.rd, by rw [upd_ne g.dis.nd]; exact g.net, ⟨pr, by rw [upd_ne g.dis.pd]; exact p1, p2.mono fun _ _ q => q.exc x hS⟩, ⟨nr ++ [a], by rw [upd_same, List.map_append]; rfl, (n2.mono fun _ _ q => NdT.exc x hS q).snoc (NdT.exc x hS hd)⟩,
    by rw [upd_ne g.dis.dl.symm]; exact g.len, g.dis⟩
theorem G.addLen (g : G H b r rs n PL NL LL ni nt pms nds ls) (z : Int) : G (upd H LL (.lst (ls.map V.int ++ [.int z]))) b r rs n PL NL LL ni nt pms nds (ls ++ [z]) := by
  have x := exc_one (H := H) LL (.lst (ls.map V.int ++ [.int z]))
  have hS := one_lst g.len
  obtain ⟨pr, p1, p2⟩ := g.par
  obtain ⟨nr, n1, n2⟩ := g.nod
  exact ⟨g.box.off g.dis.bl g.dis.rl, by rw [upd_ne g.dis.nl]; exact g.net, ⟨pr, by rw [upd_ne g.dis.pl]; exact p1, p2.mono fun _ _ q => q.exc x hS⟩, ⟨nr, by rw [upd_ne g.dis.dl]; exact n1, n2.mono fun _ _ q => NdT.exc x hS q⟩, map_more _ _, g.dis⟩
theorem Exc.fresh {H1 H2 : Hp} {S : List Addr} (x : Exc [b] H H1) (y : Exc S H1 H2) (h : ∀ c ∈ S, c = b ∨ H c = none) : Exc [b] H H2 := fun c o nc hc => by
  refine y c o (fun z => ?_) (x c o nc hc)
  rcases h c z with e | e
  · exact nc (by rw [e]; exact .head _)
  · rw [hc] at e; cases e
theorem Box.strs {K : PySem.W.Frag} {ks : Addr} {kl : List Str} (B : Box H b r rs) (h : SqL K H ks (kl.map V.str)) (hn : 0 < kl.length) (e : Exc [b] H H') : SqL K H' ks (kl.map V.str) := by
  obtain ⟨z0, _, hb⟩ := B.ex
  rcases h with (h | ⟨o, h⟩) | h
  · refine .inl (.inl (e _ _ (fun z => ?_) h))
    rw [List.mem_singleton] at z
    rw [z, hb] at h
    cases kl with
    | nil => cases hn
    | cons k t => cases h
  · refine .inl (.inr ⟨o, e _ _ (fun z => ?_) h⟩)
    rw [List.mem_singleton] at z
    rw [z, hb] at h
    cases h
  · exact .inr h
end
def spNet (K : PySem.W.Frag) : Sp := fun vs H Q _ => ∃ (b r : Addr) (rs : List Int) (ks : Addr) (kl : List Str) (most : Int), vs = [.ref b, .ref ks, .int most] ∧ Box H b r rs ∧ SqL K H ks (kl.map V.str) ∧ (∀ k ∈ kl, k ∈ allKinds) ∧ 0 < kl.length ∧ 1 ≤ most ∧ most ≤ 100 ∧
  ∀ (n PL NL LL : Addr) (ni nt : Int) (pms : List (Int × Int × Str × Int)) (nds : List Nd) (ls : List Int) (H' : Hp), G H' b r rs n PL NL LL ni nt pms nds ls → Built ni nt pms nds ls → (∃ l0, ls = l0 ++ [1]) → (nds.length : Int) ≤ most + 1 → Exc [b] H H' → H n = none → H PL = none → H NL = none → H LL = none → Q (.ref n) H'

section
variable {P : Program} {w : World} {K : PySem.W.Frag} {mg : Str → Option Value} {cs : Cs} {base : Heap} {f : Addr} {fd : FuncData}
theorem ok__law_cell (F : Fun K "_law_cell" "_law_cell" s__law_cell f fd) (T : Txt K mg cs)  :
    FnOk P w K mg base CX0 1 f fd ["script", "k"] (spCell K) := by
  refine F.ok sc__law_cell (fun vs H Q E h => ?_) (fun cdv A outer s H vs Q E hr h => ?_)
  · obtain ⟨a, ns, k, rfl, hS, h0, q⟩ := h
    rfl
  obtain ⟨a, ns, k, rfl, hS, h0, q⟩ := h
  have hu := hr.units
  refine ⟨_, pss_cons (ps_if (pt_cmpR op_lt (pv 1) (pe_callB (len_at (K := K) rfl) (by rfl) T.z_len PySem.boot_len (pa_cons (pv 0) pa_nil)) (nomark _)) (pss_one (ps_ret (pe_ix (ixl_at (K := K) rfl) (pv 0) (pv 1) (fun _ _ => rfl)))) pss_nil)
 (pss_one (ps_ret pe_int)), ?_⟩
  -- k; len(script); the test
  refine ⟨_, rfl, _, rfl, a, _, rfl, .inl hS, _, _, rfl, rfl, _, rfl, ?_⟩
  refine ite2 (fun c => ?_) (fun c => ?_)
  · have c' : k < (((ns.map V.int).length : Nat) : Int) := of_decide_eq_true c
    rw [List.length_map] at c'
    have hk : k.toNat < ns.length := by omega
    have ek : k = ((k.toNat : Nat) : Int) := by omega
    have z : atI (ns.map V.int) ((k.toNat : Nat) : Int) = some (.int ns[k.toNat]) := atI_nat (by rw [List.getElem?_map, List.getElem?_eq_getElem hk] <;> rfl)
    rw [← ek] at z
    exact ⟨_, rfl, _, rfl, a, _, _, _, rfl, rfl, hS, z, q _⟩
  · exact q 0

theorem ok__law_row (F : Fun K "_law_row" "_law_row" s__law_row f fd) (T : Txt K mg cs) (d__law_cell : Def P w K mg base 1 "_law_cell" ["script", "k"] (spCell K)) :
    FnOk P w K mg base CX0 2 f fd ["script", "first", "last"] (spRow K) := by
  obtain ⟨f0, fd0, G__law_cell, b__law_cell, g__law_cell, k__law_cell⟩ := d__law_cell.ex
  refine F.ok sc__law_row (fun vs H Q E h => ?_) (fun cdv A outer s H vs Q E hr h => ?_)
  · obtain ⟨a, ns, i, j, rfl, hS, h0, h1, h2, q⟩ := h
    rfl
  obtain ⟨a, ns, i, j, rfl, hS, h0, h1, h2, q⟩ := h
  have hu := hr.units
  refine ⟨_, pss_cons (ps_set (i := 3) sc__law_row.nd rfl (.inl rfl) (pe_lst pa_nil))
 (pss_cons (ps_for PassesOwn.never rfl (pi_range2 rfl T.z_range (pa_cons (pv 1) (pa_cons (pv 2) pa_nil))) (pg_name (i := 4) sc__law_row.nd rfl (.inl rfl)) (pss_cons (ps_set (i := 5) sc__law_row.nd rfl (.inl rfl) (pe_call G__law_cell hr rfl g__law_cell k__law_cell b__law_cell .nil pass0 (pa_cons (pv 0) (pa_cons (pv 4) pa_nil))))
 (pss_cons (ps_set (i := 5) sc__law_row.nd rfl (.inl rfl) (pe_op op_add (pe_callB call_abs (by rfl) T.z_abs (by decide +kernel) (pa_cons (pe_op op_mul pe_int (pv 5)) pa_nil)) (pe_callTy call_int1 (by rfl) T.z_int PyProof.Rows.boot_int (pa_cons (pe_cmpR op_lt (pv 5) pe_int (nomark _)) pa_nil))))
 (pss_one (ps_if (pt_cmpR op_gt (pv 5) (pe_op op_pow pe_int pe_int) (nomark _)) (pss_one (ps_for PassesOwn.never rfl (pi_range1 rfl T.z_range (pa_cons pe_int pa_nil)) (pg_name (i := 6) sc__law_row.nd rfl (.inl rfl)) (pss_one (ps_if (pt_cmpR op_gt (pv 5) pe_int (nomark _)) (pss_cons (ps_expr (pe_bm PySem.F.plainAttrs_list PySem.F.slot_list_append PySem.F.type_list_append mt_append (pv 3) (pa_cons (pe_op op_mod (pe_callTy call_int1 (by rfl) T.z_int PyProof.Rows.boot_int (pa_cons (pv 5) pa_nil)) pe_int) pa_nil)))
 (pss_one (ps_set (i := 5) sc__law_row.nd rfl (.inl rfl) (pe_op op_fdiv (pv 5) pe_int)))) pss_nil)))) (pss_one (ps_for PassesOwn.never rfl (pi_range1 rfl T.z_range (pa_cons pe_int pa_nil)) (pg_name (i := 6) sc__law_row.nd rfl (.inl rfl)) (pss_cons (ps_set (i := 5) sc__law_row.nd rfl (.inl rfl) (pe_op op_mod (pe_callTy call_int1 (by rfl) T.z_int PyProof.Rows.boot_int (pa_cons (pe_op op_add (pe_op op_add (pe_op op_mul (pv 5) pe_int) (pe_op op_mul pe_int (pe_op op_add (pv 4) (pv 6)))) pe_int) pa_nil)) pe_int))
 (pss_one (ps_expr (pe_bm PySem.F.plainAttrs_list PySem.F.slot_list_append PySem.F.type_list_append mt_append (pv 3) (pa_cons (pe_op op_mod (pe_callTy call_int1 (by rfl) T.z_int PyProof.Rows.boot_int (pa_cons (pe_op op_fdiv (pv 5) pe_int) pa_nil)) pe_int) pa_nil))))))))))))
 (pss_one (ps_ret (pv 3)))), ?_⟩
  -- row = []
  refine ⟨Nat.zero_le _, fun o no => ?_⟩
  -- for k in range(first, last)
  refine ⟨_, rfl, _, rfl, i, j, rfl, ⟨by omega, by omega, by omega, by omega⟩, ?_⟩
  refine for_range (fun (t : Nat) σ H' => ∃ (y4 y5 y6 : Option V) (rs : List Int), σ = [some (.ref a), some (.int i), some (.int j), some (.ref o), y4, y5, y6] ∧ Same H H' ∧ H' o = some (.lst (rs.map V.int)) ∧ rs.length ≤ 60 * t)
    ⟨none, none, none, [], rfl, same_new no _, upd_same, Nat.zero_le _⟩ (fun t σ H' ht hP => ?_) (fun σ H' hP => ?_)
  · obtain ⟨y4, y5, y6, rs, rfl, sm, ho, hl⟩ := hP
    -- cell = _law_cell(script, k)
    refine ⟨_, rfl, _, rfl, a, ns, i + t, rfl, sm.seq hS, by omega, fun n => ?_⟩
    -- cell = abs(2 * cell) + int(cell < 0)
    walk_at "go"
    refine ite2 (fun c => ?_) (fun c => ?_)
    · -- 60 turns
      refine ⟨60, rfl, by decide, by decide, ?_⟩
      refine for_range (fun (u : Nat) σ H' => ∃ (y6 : Option V) (m : Int) (rs' : List Int), σ = [some (.ref a), some (.int i), some (.int j), some (.ref o), some (.int (i + t)), some (.int m), y6] ∧ Same H H' ∧ H' o = some (.lst (rs'.map V.int)) ∧ rs'.length ≤ 60 * t + u)
        ⟨y6, _, rs, rfl, sm, ho, by omega⟩ (fun u σ H' hu hP => ?_) (fun σ H' hP => ?_)
      · obtain ⟨y6, m, rs', rfl, sm, ho, hl⟩ := hP
        walk_at "go"
        refine ite2 (fun c => ?_) (fun c => ?_)
        · refine ⟨_, rfl, .inl ⟨rfl, _, .inl (.inl ho)⟩, ?_⟩
          walk_at "go"
          refine ⟨o, _, _, rfl, rfl, ho, smaller (by rw [List.length_map]; omega), ?_⟩
          walk_at "go"
          exact ⟨_, _, _, rfl, same_mut sm no, map_more _ _, by rw [List.length_append, List.length_singleton]; omega⟩
        · exact ⟨_, m, rs', rfl, sm, ho, by omega⟩
      · obtain ⟨y6, m, rs', rfl, sm, ho, hl⟩ := hP
        exact ⟨_, _, _, rs', rfl, sm, ho, by omega⟩
    · -- 10 turns
      refine ⟨10, rfl, by decide, by decide, ?_⟩
      refine for_range (fun (u : Nat) σ H' => ∃ (y6 : Option V) (m : Int) (rs' : List Int), σ = [some (.ref a), some (.int i), some (.int j), some (.ref o), some (.int (i + t)), some (.int m), y6] ∧ Same H H' ∧ H' o = some (.lst (rs'.map V.int)) ∧ rs'.length ≤ 60 * t + u)
        ⟨y6, _, rs, rfl, sm, ho, by omega⟩ (fun u σ H' hu hP => ?_) (fun σ H' hP => ?_)
      · obtain ⟨y6, m, rs', rfl, sm, ho, hl⟩ := hP
        walk_at "go"
        refine ⟨.inl ⟨rfl, _, .inl (.inl ho)⟩, ?_⟩
        walk_at "go"
        refine ⟨o, _, _, rfl, rfl, ho, smaller (by rw [List.length_map]; omega), ?_⟩
        exact ⟨_, _, _, rfl, same_mut sm no, map_more _ _, by rw [List.length_append, List.length_singleton]; omega⟩
      · obtain ⟨y6, m, rs', rfl, sm, ho, hl⟩ := hP
        exact ⟨_, _, _, rs', rfl, sm, ho, by omega⟩
  · obtain ⟨y4, y5, y6, rs, rfl, sm, ho, hl⟩ := hP
    exact ⟨_, rfl, q o rs H' no sm ho⟩
theorem ok__law_draw (F : Fun K "_law_draw" "_law_draw" s__law_draw f fd) (T : Txt K mg cs)  :
    FnOk P w K mg base CX0 1 f fd ["box", "many"] (spDraw) := by
  refine F.ok sc__law_draw (fun vs H Q E h => ?_) (fun cdv A outer s H vs Q E hr h => ?_)
  · obtain ⟨b, r, rs, many, rfl, B, hm, q⟩ := h
    rfl
  obtain ⟨b, r, rs, many, rfl, B, hm, q⟩ := h
  have hu := hr.units
  refine ⟨_, pss_cons (ps_set (i := 2) sc__law_draw.nd rfl (.inl rfl) (pe_ix (ixl_at (K := K) rfl) (pv 0) pe_int (fun _ _ => rfl)))
 (pss_cons (ps_asg (pe_op op_add (pv 2) pe_int) (pg_sub (pv 0) pe_int set_list))
 (pss_cons (ps_if (pt_cmpR op_lt (pv 2) (pe_callB (len_at (K := K) rfl) (by rfl) T.z_len PySem.boot_len (pa_cons (pe_ix (ixl_at (K := K) rfl) (pv 0) pe_int (fun _ _ => rfl)) pa_nil)) (nomark _)) (pss_one (ps_ret (pe_op op_mod (pe_callTy call_int1 (by rfl) T.z_int PyProof.Rows.boot_int (pa_cons (pe_ix (ixl_at (K := K) rfl) (pe_ix (ixl_at (K := K) rfl) (pv 0) pe_int (fun _ _ => rfl)) (pv 2) (fun _ _ => rfl)) pa_nil)) (pv 1)))) pss_nil)
 (pss_one (ps_ret (pe_op op_mod (pe_callTy call_int1 (by rfl) T.z_int PyProof.Rows.boot_int (pa_cons (pe_op op_add (pe_op op_mul (pv 2) pe_int) pe_int) pa_nil)) (pv 1)))))), ?_⟩
  obtain ⟨z, hz, hb⟩ := B.ex
  have hr' := B.row
  -- at = box[1]
  refine ⟨_, rfl, b, _, _, _, rfl, rfl, SqL.of hb, rfl, ?_⟩
  -- box[1] = at + 1
  walk_at "go"
  refine ⟨b, _, _, 1, rfl, rfl, hb, rfl, ?_⟩
  have e : (upd H b (.lst ([V.ref r, V.int z].set 1 (.int (z + 1))))) b = some (.lst [.ref r, .int (z + 1)]) := upd_same
  have er : (upd H b (.lst ([V.ref r, V.int z].set 1 (.int (z + 1))))) r = some (.lst (rs.map V.int)) := by rw [upd_ne B.ne]; exact hr'
  have B' : Box (upd H b (.lst ([V.ref r, V.int z].set 1 (.int (z + 1))))) b r rs := ⟨⟨z + 1, by omega, e⟩, er⟩
  have bt : But b H (upd H b (.lst ([V.ref r, V.int z].set 1 (.int (z + 1))))) := fun c o n h => by rw [upd_ne n]; exact h
  generalize (upd H b (.lst ([V.ref r, V.int z].set 1 (.int (z + 1))))) = H1 at *
  -- if at < len(box[0])
  refine ⟨_, rfl, _, rfl, b, _, _, _, rfl, rfl, SqL.of e, rfl, r, _, rfl, .inl (SqL.of er), _, _, rfl, rfl, _, rfl, ?_⟩
  refine ite2 (fun c => ?_) (fun c => ?_)
  · have c' : z < (((rs.map V.int).length : Nat) : Int) := of_decide_eq_true c
    rw [List.length_map] at c'
    have hk : z.toNat < rs.length := by omega
    have ek : z = ((z.toNat : Nat) : Int) := by omega
    have y : atI (rs.map V.int) ((z.toNat : Nat) : Int) = some (.int rs[z.toNat]) := atI_nat (by rw [List.getElem?_map, List.getElem?_eq_getElem hk] <;> rfl)
    rw [← ek] at y
    refine ⟨_, rfl, b, _, _, _, rfl, rfl, SqL.of e, rfl, _, rfl, r, _, _, _, rfl, rfl, SqL.of er, y, .inl ⟨_, rfl, _, rfl, _, _, rfl, rfl, hm, ?_⟩⟩
    exact q _ _ (Int.emod_nonneg _ (by omega)) (Int.emod_lt_of_pos _ hm) B' bt
  · refine ⟨_, rfl, _, _, rfl, rfl, .inr ⟨by decide, by decide⟩, _, _, rfl, rfl, .inl ⟨_, rfl, _, rfl, _, _, rfl, rfl, hm, ?_⟩⟩
    exact q _ _ (Int.emod_nonneg _ (by omega)) (Int.emod_lt_of_pos _ hm) B' bt
theorem ok__law_wrap (F : Fun K "_law_wrap" "_law_wrap" s__law_wrap f fd) (T : Txt K mg cs)  :
    FnOk P w K mg base CX0 1 f fd ["n"] (spWrap) := by
  refine F.ok sc__law_wrap (fun vs H Q E h => ?_) (fun cdv A outer s H vs Q E hr h => ?_)
  · obtain ⟨n, rfl, q⟩ := h
    rfl
  obtain ⟨n, rfl, q⟩ := h
  have hu := hr.units
  refine ⟨_, pss_one (ps_ret (pe_op op_sub (pe_op op_mod (pe_callTy call_int1 (by rfl) T.z_int PyProof.Rows.boot_int (pa_cons (pe_op op_add (pv 0) pe_int) pa_nil)) pe_int) pe_int)), ?_⟩
  walk_at "go"
  exact q

theorem ok__law_is_integer (F : Fun K "_law_is_integer" "_law_is_integer" s__law_is_integer f fd) (T : Txt K mg cs)  :
    FnOk P w K mg base CX0 1 f fd ["told"] (spIsInt) := by
  refine F.ok sc__law_is_integer (fun vs H Q E h => ?_) (fun cdv A outer s H vs Q E hr h => ?_)
  · obtain ⟨n, rfl, q⟩ := h
    rfl
  obtain ⟨n, rfl, q⟩ := h
  have hu := hr.units
  refine ⟨_, pss_one (ps_ret (pe_and (pe_callB call_isi (by rfl) T.z_isinstance (by decide +kernel) (pa_cons (pv 0) (pa_cons (pe_bltn (v := .ty "int") rfl T.z_int PyProof.Rows.boot_int rfl) pa_nil))) (pe_one (pe_not (pe_callB call_isi (by rfl) T.z_isinstance (by decide +kernel) (pa_cons (pv 0) (pa_cons (pe_bltn (v := .ty "bool") rfl T.z_bool PyProof.Rows.boot_bool rfl) pa_nil))))))), ?_⟩
  refine ⟨_, rfl, _, _, _, _, true, rfl, .ty _, .base (.int n), kit_ty (by decide +kernel), _, rfl, iteT ?_⟩
  refine ⟨_, rfl, _, _, _, _, false, rfl, .ty _, .base (.int n), kit_ty (by decide +kernel), _, rfl, q⟩

theorem ok__law_word (F : Fun K "_law_word" "_law_word" s__law_word f fd) (T : Txt K mg cs) (d__law_draw : Def P w K mg base 1 "_law_draw" ["box", "many"] (spDraw)) (d__law_wrap : Def P w K mg base 1 "_law_wrap" ["n"] (spWrap)) :
    FnOk P w K mg base CX0 2 f fd ["box"] (spWord) := by
  obtain ⟨f0, fd0, G__law_draw, b__law_draw, g__law_draw, k__law_draw⟩ := d__law_draw.ex
  obtain ⟨f1, fd1, G__law_wrap, b__law_wrap, g__law_wrap, k__law_wrap⟩ := d__law_wrap.ex
  refine F.ok sc__law_word (fun vs H Q E h => ?_) (fun cdv A outer s H vs Q E hr h => ?_)
  · obtain ⟨b, r, rs, rfl, B, q⟩ := h
    rfl
  obtain ⟨b, r, rs, rfl, B, q⟩ := h
  have hu := hr.units
  refine ⟨_, pss_cons (ps_set (i := 1) sc__law_word.nd rfl (.inl rfl) (pe_call G__law_draw hr rfl g__law_draw k__law_draw b__law_draw .nil pass0 (pa_cons (pv 0) (pa_cons pe_int pa_nil))))
 (pss_cons (ps_if (pt_cmpR op_lt (pv 1) pe_int (nomark _)) (pss_one (ps_ret (pe_op op_sub (pe_call G__law_draw hr rfl g__law_draw k__law_draw b__law_draw .nil pass0 (pa_cons (pv 0) (pa_cons pe_int pa_nil))) pe_int))) pss_nil)
 (pss_cons (ps_if (pt_cmpR op_eq (pv 1) pe_int (nomark _)) (pss_one (ps_ret (pe_op op_sub pe_int (pe_call G__law_draw hr rfl g__law_draw k__law_draw b__law_draw .nil pass0 (pa_cons (pv 0) (pa_cons pe_int pa_nil)))))) pss_nil)
 (pss_cons (ps_if (pt_cmpR op_eq (pv 1) pe_int (nomark _)) (pss_one (ps_ret (pe_op op_sub (pe_call G__law_draw hr rfl g__law_draw k__law_draw b__law_draw .nil pass0 (pa_cons (pv 0) (pa_cons pe_int pa_nil))) pe_int))) pss_nil)
 (pss_cons (ps_if (pt_cmpR op_eq (pv 1) pe_int (nomark _)) (pss_one (ps_ret (pe_op op_mul pe_int (pe_op op_sub (pe_call G__law_draw hr rfl g__law_draw k__law_draw b__law_draw .nil pass0 (pa_cons (pv 0) (pa_cons pe_int pa_nil))) pe_int)))) pss_nil)
 (pss_cons (ps_set (i := 2) sc__law_word.nd rfl (.inl rfl) pe_int)
 (pss_cons (ps_for PassesOwn.never rfl (pi_range1 rfl T.z_range (pa_cons pe_int pa_nil)) (pg_name (i := 3) sc__law_word.nd rfl (.inl rfl)) (pss_one (ps_set (i := 2) sc__law_word.nd rfl (.inl rfl) (pe_op op_add (pe_op op_mul (pv 2) pe_int) (pe_call G__law_draw hr rfl g__law_draw k__law_draw b__law_draw .nil pass0 (pa_cons (pv 0) (pa_cons pe_int pa_nil)))))))
 (pss_one (ps_ret (pe_call G__law_wrap hr rfl g__law_wrap k__law_wrap b__law_wrap .nil pass0 (pa_cons (pv 2) pa_nil)))))))))), ?_⟩
  refine ⟨_, rfl, b, r, rs, 7, rfl, B, by decide, fun kind H1 k0 k1 B1 e1 => ?_⟩
  walk_at "go"
  refine ite2 (fun _ => ?_) (fun _ => ?_)
  · refine ⟨_, rfl, b, r, rs, 7, rfl, B1, by decide, fun v H2 v0 v1 B2 e2 => ?_⟩
    walk_at "go"
    exact q _ _ (by omega) (by omega) B2 (e1.trans e2)
  walk_at "go"
  refine ite2 (fun _ => ?_) (fun _ => ?_)
  · refine ⟨_, rfl, b, r, rs, 3, rfl, B1, by decide, fun v H2 v0 v1 B2 e2 => ?_⟩
    walk_at "go"
    exact q _ _ (by omega) (by omega) B2 (e1.trans e2)
  walk_at "go"
  refine ite2 (fun _ => ?_) (fun _ => ?_)
  · refine ⟨_, rfl, b, r, rs, 3, rfl, B1, by decide, fun v H2 v0 v1 B2 e2 => ?_⟩
    walk_at "go"
    exact q _ _ (by omega) (by omega) B2 (e1.trans e2)
  walk_at "go"
  refine ite2 (fun _ => ?_) (fun _ => ?_)
  · refine ⟨_, rfl, b, r, rs, 7, rfl, B1, by decide, fun v H2 v0 v1 B2 e2 => ?_⟩
    walk_at "go"
    exact q _ _ (by omega) (by omega) B2 (e1.trans e2)
  -- n = 0; four turns
  walk_at "go"
  refine ⟨by decide, by decide, ?_⟩
  refine for_range (fun (t : Nat) σ H' => ∃ (y3 : Option V) (n : Int), σ = [some (.ref b), some (.int kind), some (.int n), y3] ∧ Box H' b r rs ∧ But b H1 H') ⟨none, 0, rfl, B1, But.refl b H1⟩ (fun t σ H' ht hP => ?_) (fun σ H' hP => ?_)
  · obtain ⟨y3, n, rfl, B2, e2⟩ := hP
    walk_at "go"
    refine ⟨b, r, rs, 840, rfl, B2, by decide, fun v H3 v0 v1 B3 e3 => ?_⟩
    walk_at "go"
    exact ⟨_, _, rfl, B3, e2.trans e3⟩
  · obtain ⟨y3, n, rfl, B2, e2⟩ := hP
    refine ⟨_, rfl, n, rfl, ?_⟩
    exact q _ _ (wr_lo n) (wr_hi n) B2 (e1.trans e2)
end


/-! ### comprehensions within comprehensions -/
def noE : PySem.Expr := .Name "x" ⟨0, 0, 0, 0⟩
def stE : Stmt → PySem.Expr
  | .Return (some e) _ => e
  | .Assign _ e .. => e
  | .Expr e .. => e
  | .For _ e .. => e
  | .If e .. => e
  | .While e .. => e
  | _ => noE
def stB (i : Nat) : Stmt → Stmt
  | .For _ _ b .. => b.getD i (.Pass ⟨0, 0, 0, 0⟩)
  | .If _ b .. => b.getD i (.Pass ⟨0, 0, 0, 0⟩)
  | .While _ b .. => b.getD i (.Pass ⟨0, 0, 0, 0⟩)
  | s => s
def stO (i : Nat) : Stmt → Stmt
  | .For _ _ _ b .. => b.getD i (.Pass ⟨0, 0, 0, 0⟩)
  | .If _ _ b .. => b.getD i (.Pass ⟨0, 0, 0, 0⟩)
  | .While _ _ b .. => b.getD i (.Pass ⟨0, 0, 0, 0⟩)
  | s => s
def ceA (i : Nat) : PySem.Expr → PySem.Expr
  | .Call _ as .. => as.getD i noE
  | .BoolOp _ as .. => as.getD i noE
  | .List as .. => as.getD i noE
  | .Tuple as .. => as.getD i noE
  | .Compare _ _ as .. => as.getD i noE
  | _ => noE
def ceF : PySem.Expr → PySem.Expr
  | .Call (.Attribute e ..) .. => e
  | _ => noE
def ceL : PySem.Expr → PySem.Expr
  | .BinOp a .. => a
  | .UnaryOp _ a .. => a
  | .Compare a .. => a
  | _ => noE
def ceR : PySem.Expr → PySem.Expr
  | .BinOp _ _ b .. => b
  | _ => noE
def lcElt : PySem.Expr → PySem.Expr
  | .ListComp e _ _ _ => e
  | _ => noE
def lcSc : PySem.Expr → Scope
  | .ListComp _ _ sc _ => sc
  | _ => defScope (.Pass ⟨0, 0, 0, 0⟩)
/-- a comprehension's scope where it stands: what the def's cells hold is held there too -/
def rl (scope encl : Scope) : Scope :=
  { scope with names := scope.names.map fun (n, k) => if (k == .free && encl.kind == .function && encl.names.lookup n == some .cell) then (n, .cell) else (n, k) }
theorem pg_tup_at {X : Cx} {K : PySem.W.Frag} {es : List PySem.Expr} {k : Nat} {t : TGs} {n : Nat} {pos : Pos} (h : X.K = K) (hc : X.calm = true) (hp : PGs X es t)
    (hn : (assignEach es X.env).length = n) (hst : (assignEach es X.env).findIdx? (·.1) = none) : PG X (.Tuple es k pos) (gTup K n t) := by
  subst h
  exact pg_tup hc hp hn hst

/-! ### the law's own rule of lengths -/
def nmsT : List Str → TA
  | [] => tNil
  | k :: r => tCons (tC (.str k)) (nmsT r)
theorem nmsT_run : ∀ (ks : List Str) (σ : L2.St) (H : Hp) (Q : List V → Hp → Prop), Q (ks.map V.str) H → nmsT ks σ H Q
  | [], _, _, _, q => q
  | k :: r, σ, H, Q, q => nmsT_run r σ H (fun xs H2 => Q (.str k :: xs) H2) q
theorem flat_strs : ∀ ks : List Str, (ks.map V.str).all flatV = true
  | [] => rfl
  | k :: r => flat_strs r
theorem in_strs {k : Str} : ∀ {ks : List Str}, inV (.str k) (ks.map V.str) = decide (k ∈ ks)
  | [] => by simp [inV]
  | x :: r => by
    have e := in_strs (k := k) (ks := r)
    unfold inV at e ⊢
    rw [List.map_cons, List.any_cons, e]
    have h : eqV (.str x) (.str k) = decide (k = x) := by
      show (x == k) = _
      by_cases z : k = x
      · subst z; simp
      · rw [decide_eq_false z]; exact beq_eq_false_iff_ne.mpr (Ne.symm z)
    rw [h]
    by_cases z : k = x <;> by_cases y : k ∈ r <;> simp [z, y]
/-- if A in (a tuple of names) -/
theorem if_in {K' : PySem.W.Frag} {k : Str} (ks : List Str) {A : TE} {t u : TS} {D : Ends} {σ : L2.St} {H : Hp}
    (hA : ∀ Q : VK, Q (.str k) H → A σ H Q) (hn : ks.length ≤ sizeLine)
    (y : k ∈ ks → ∀ H', Same H H' → t D σ H') (n : k ∉ ks → ∀ H', Same H H' → u D σ H') :
    tIfS (tTest (tOp (rIn K' false) A (tTup (nmsT ks)))) t u D σ H := by
  refine hA _ ?_
  refine nmsT_run ks _ _ _ ⟨by rw [List.length_map]; exact hn, fun p np => ?_⟩
  refine ⟨p, _, rfl, .inr (SqT.of upd_same), rfl, flat_strs ks, ?_⟩
  refine ⟨_, rfl, ?_⟩
  show if inV (.str k) (ks.map V.str) = true then _ else _
  rw [in_strs]
  by_cases h : k ∈ ks
  · exact iteD h (y h _ (same_new np _))
  · exact iteDN h (n h _ (same_new np _))
/-- if A == a name -/
theorem if_is {k : Str} (x : Str) {A : TE} {t u : TS} {D : Ends} {σ : L2.St} {H : Hp}
    (hA : ∀ Q : VK, Q (.str k) H → A σ H Q) (y : k = x → t D σ H) (n : k ≠ x → u D σ H) :
    tIfS (tTest (tOp rEq A (tC (.str x)))) t u D σ H := by
  refine hA _ ?_
  refine ⟨rfl, _, rfl, ?_⟩
  by_cases h : k = x
  · exact iteD (congrArg V.str h) (y h)
  · exact iteDN (fun z => h (V.str.inj z)) (n h)
theorem Same.none {H H' : Hp} {p : Addr} (e : Same H H') (n : H' p = none) : H p = none := by
  cases h : H p with
  | none => rfl
  | some o => rw [e _ _ h] at n; cases n

theorem none_of {H H' : Hp} {p : Addr} (e : Same H H') (n : H' p = none) : H p = none := by
  cases h : H p with
  | none => rfl
  | some o => rw [e _ _ h] at n; cases n

/-! ### values in depth; _law_same -/
inductive Dt where
  | i (n : Int)
  | b (x : Bool)
  | s (x : Str)
  | n
  | l (xs : List Dt)
  | t (xs : List Dt)
/-- the value v is d, which has fewer than the given number of layers; all its lists and tuples stand at places in S -/
def DV (S : Addr → Prop) (H : Hp) : Nat → V → Dt → Prop
  | 0, _, _ => False
  | _ + 1, v, .i k => v = .int k
  | _ + 1, v, .b x => v = .bl x
  | _ + 1, v, .s x => v = .str x
  | _ + 1, v, .n => v = .non
  | m + 1, v, .l ds => ∃ a vs, v = .ref a ∧ S a ∧ H a = some (.lst vs) ∧ vs.length ≤ 100000 ∧ All2 (DV S H m) vs ds
  | m + 1, v, .t ds => ∃ a vs, v = .ref a ∧ S a ∧ H a = some (.tup vs) ∧ vs.length ≤ 100000 ∧ All2 (DV S H m) vs ds
def anyA : Addr → Prop := fun _ => True
theorem DV.keep {S S' : Addr → Prop} {H H' : Hp} (e : ∀ a o, S a → H a = some o → S' a ∧ H' a = some o) : ∀ {m : Nat} {v : V} {d : Dt}, DV S H m v d → DV S' H' m v d
  | 0, _, _, h => h.elim
  | _ + 1, _, .i _, h => h
  | _ + 1, _, .b _, h => h
  | _ + 1, _, .s _, h => h
  | _ + 1, _, .n, h => h
  | m + 1, _, .l ds, h => by
    obtain ⟨a, vs, h0, h1, h2, h3, h4⟩ := h
    exact ⟨a, vs, h0, (e _ _ h1 h2).1, (e _ _ h1 h2).2, h3, h4.mono fun _ _ r => r.keep e⟩
  | m + 1, _, .t ds, h => by
    obtain ⟨a, vs, h0, h1, h2, h3, h4⟩ := h
    exact ⟨a, vs, h0, (e _ _ h1 h2).1, (e _ _ h1 h2).2, h3, h4.mono fun _ _ r => r.keep e⟩
theorem DV.same {S : Addr → Prop} {H H' : Hp} (e : Same H H') {m : Nat} {v : V} {d : Dt} (h : DV S H m v d) : DV S H' m v d := h.keep fun a o s x => ⟨s, e a o x⟩
theorem DV.any {S : Addr → Prop} {H : Hp} {m : Nat} {v : V} {d : Dt} (h : DV S H m v d) : DV anyA H m v d := h.keep fun _ _ _ x => ⟨trivial, x⟩
theorem DV.but {b : Addr} {H H' : Hp} (e : But b H H') {m : Nat} {v : V} {d : Dt} (h : DV (· ≠ b) H m v d) : DV (· ≠ b) H' m v d := h.keep fun a o s x => ⟨s, e a o s x⟩
theorem DV.more {S : Addr → Prop} {H : Hp} : ∀ {m : Nat} {v : V} {d : Dt}, DV S H m v d → DV S H (m + 1) v d
  | 0, _, _, h => h.elim
  | _ + 1, _, .i _, h => h
  | _ + 1, _, .b _, h => h
  | _ + 1, _, .s _, h => h
  | _ + 1, _, .n, h => h
  | m + 1, _, .l ds, h => by
    obtain ⟨a, vs, h0, h1, h2, h3, h4⟩ := h
    exact ⟨a, vs, h0, h1, h2, h3, h4.mono fun _ _ r => r.more⟩
  | m + 1, _, .t ds, h => by
    obtain ⟨a, vs, h0, h1, h2, h3, h4⟩ := h
    exact ⟨a, vs, h0, h1, h2, h3, h4.mono fun _ _ r => r.more⟩
theorem DV.ints {S : Addr → Prop} {H : Hp} {m : Nat} : ∀ ns : List Int, All2 (DV S H (m + 1)) (ns.map V.int) (ns.map Dt.i)
  | [] => .nil
  | _ :: r => .cons rfl (DV.ints r)
theorem DV.lst {S : Addr → Prop} {H : Hp} {m : Nat} {a : Addr} {ns : List Int} (s : S a) (h : H a = some (.lst (ns.map V.int))) (l : ns.length ≤ 100000) : DV S H (m + 2) (.ref a) (.l (ns.map Dt.i)) :=
  ⟨a, _, rfl, s, h, by rw [List.length_map]; exact l, DV.ints ns⟩
theorem DV.tup {S : Addr → Prop} {H : Hp} {m : Nat} {a : Addr} {ns : List Int} (s : S a) (h : H a = some (.tup (ns.map V.int))) (l : ns.length ≤ 100000) : DV S H (m + 2) (.ref a) (.t (ns.map Dt.i)) :=
  ⟨a, _, rfl, s, h, by rw [List.length_map]; exact l, DV.ints ns⟩
def spSame (n : Nat) : Sp := fun vs H Q _ => ∃ (u v : V) (d : Dt), vs = [u, v] ∧ DV anyA H n u d ∧ DV anyA H n v d ∧ Q (.bl true) H
theorem ixs_at {X : Cx} {K : PySem.W.Frag} (h : X.K = K) : IxR X (rIx K) := by subst h; exact ix_seq

/-! ### jobs -/
def rateD (p : Int × Int) : Dt := .t [.i p.1, .i p.2]
def sampD (p : List Int × List Int) : Dt := .t [.l (p.1.map Dt.i), .l (p.2.map Dt.i)]
def isW (n : Int) : Prop := -2147483648 ≤ n ∧ n ≤ 2147483647

def Off (b D : Addr) : Addr → Prop := fun a => a ≠ b ∧ a ≠ D
theorem DV.ints_eq {S : Addr → Prop} {H : Hp} {m : Nat} : ∀ {vs : List V} {ns : List Int}, All2 (DV S H (m + 1)) vs (ns.map Dt.i) → vs = ns.map V.int
  | [], [], _ => rfl
  | _ :: _, n :: r, .cons h t => by
    have h : _ = V.int n := h
    rw [h, DV.ints_eq t]
    rfl
theorem DV.rate {S : Addr → Prop} {H : Hp} {m : Nat} {v : V} {p : Int × Int} (h : DV S H (m + 2) v (rateD p)) : ∃ t, v = .ref t ∧ S t ∧ H t = some (.tup [.int p.1, .int p.2]) := by
  obtain ⟨t, vs, h0, h1, h2, _, h4⟩ := h
  have e := DV.ints_eq (ns := [p.1, p.2]) h4
  subst e
  exact ⟨t, h0, h1, h2⟩
theorem DV.samp {S : Addr → Prop} {H : Hp} {m : Nat} {v : V} {p : List Int × List Int} (h : DV S H (m + 3) v (sampD p)) : ∃ t g w, v = .ref t ∧ S t ∧ S g ∧ S w ∧ H t = some (.tup [.ref g, .ref w]) ∧ H g = some (.lst (p.1.map V.int)) ∧ H w = some (.lst (p.2.map V.int)) ∧ p.1.length ≤ 100000 ∧ p.2.length ≤ 100000 := by
  obtain ⟨t, vs, h0, h1, h2, _, h4⟩ := h
  cases h4 with
  | cons a h4 =>
    cases h4 with
    | cons c h4 =>
      cases h4
      obtain ⟨g, us, rfl, g1, g2, g3, g4⟩ := a
      obtain ⟨w, ws, rfl, w1, w2, w3, w4⟩ := c
      have e := DV.ints_eq g4
      subst e
      have e := DV.ints_eq w4
      subst e
      rw [List.length_map] at g3 w3
      exact ⟨t, g, w, h0, h1, g1, w1, h2, g2, w2, g3, w3⟩
theorem samp_dv {S : Addr → Prop} {H : Hp} {m : Nat} {t g w : Addr} {p : List Int × List Int} (s1 : S t) (s2 : S g) (s3 : S w) (h1 : H t = some (.tup [.ref g, .ref w])) (h2 : H g = some (.lst (p.1.map V.int))) (h3 : H w = some (.lst (p.2.map V.int))) (l1 : p.1.length ≤ 100000) (l2 : p.2.length ≤ 100000) :
    DV S H (m + 3) (.ref t) (sampD p) := ⟨t, _, rfl, s1, h1, (by show 2 ≤ 100000; decide), .cons (DV.lst s2 h2 l1) (.cons (DV.lst s3 h3 l2) .nil)⟩
/-- one more item of a list that is being made -/
theorem DV.grow {b D : Addr} {H H1 : Hp} {vs : List V} {ds : List Dt} {v : V} {d : Dt} {m : Nat} (e : ∀ c o, Off b D c → H c = some o → H1 c = some o) (h : All2 (DV (Off b D) H m) vs ds) (hv : DV (Off b D) H1 m v d) (o : HO) : All2 (DV (Off b D) (upd H1 D o) m) (vs ++ [v]) (ds ++ [d]) := by
  have k : ∀ c x, Off b D c → H1 c = some x → Off b D c ∧ (upd H1 D o) c = some x := fun c x s h => ⟨s, by rw [upd_ne s.2]; exact h⟩
  exact (h.mono fun _ _ r => (r.keep fun c x s h => ⟨s, e c x s h⟩).keep k).snoc (hv.keep k)
structure JobOk (ni nt : Int) (seed batch factor point : Int) (rates : List (Int × Int)) (data : List (List Int × List Int)) : Prop where
  sd : isW seed
  b1 : 1 ≤ batch
  b3 : batch ≤ 3
  fa : isW factor
  p0 : 0 ≤ point
  p1 : point ≤ 31
  rl : rates.length ≤ 4
  ro : ∀ p ∈ rates, 0 ≤ p.1 ∧ p.1 ≤ 4294967295 ∧ isW p.2
  d1 : 1 ≤ data.length
  d5 : data.length ≤ 5
  dd : ∀ p ∈ data, (p.1.length : Int) = ni ∧ (p.2.length : Int) = nt ∧ (∀ x ∈ p.1, isW x) ∧ ∀ x ∈ p.2, isW x
/-- the law's list of a job -/
structure JobG (H : Hp) (b r : Addr) (rs : List Int) (jb RL DL n PL NL LL : Addr) (ni nt : Int) (pms : List (Int × Int × Str × Int)) (nds : List Nd) (ls : List Int) (seed batch factor point : Int) (rates : List (Int × Int)) (data : List (List Int × List Int)) : Prop where
  g : G H b r rs n PL NL LL ni nt pms nds ls
  nb : jb ≠ b
  jl : H jb = some (.lst [.ref n, .int seed, .int batch, .int factor, .int point, .ref RL, .ref DL])
  rt : DV (· ≠ b) H 3 (.ref RL) (.l (rates.map rateD))
  dt : DV (· ≠ b) H 4 (.ref DL) (.l (data.map sampD))
section
variable {H H' : Hp} {b r : Addr} {rs : List Int} {jb RL DL n PL NL LL : Addr} {ni nt : Int} {pms : List (Int × Int × Str × Int)} {nds : List Nd} {ls : List Int} {seed batch factor point : Int} {rates : List (Int × Int)} {data : List (List Int × List Int)}
theorem JobG.but (j : JobG H b r rs jb RL DL n PL NL LL ni nt pms nds ls seed batch factor point rates data) (B : Box H' b r rs) (e : But b H H') : JobG H' b r rs jb RL DL n PL NL LL ni nt pms nds ls seed batch factor point rates data :=
  ⟨j.g.but B e, j.nb, e _ _ j.nb j.jl, j.rt.but e, j.dt.but e⟩
theorem JobG.same (j : JobG H b r rs jb RL DL n PL NL LL ni nt pms nds ls seed batch factor point rates data) (e : Same H H') : JobG H' b r rs jb RL DL n PL NL LL ni nt pms nds ls seed batch factor point rates data :=
  ⟨j.g.same e, j.nb, e _ _ j.jl, j.rt.same e, j.dt.same e⟩
end
def spSample : Sp := fun vs H Q _ => ∃ (b r n : Addr) (rs : List Int) (ni nt : Int) (x y z : V), vs = [.ref b, .ref n] ∧ Box H b r rs ∧ n ≠ b ∧ H n = some (.lst [.int ni, .int nt, x, y, z]) ∧ 0 ≤ ni ∧ ni ≤ 100 ∧ 0 ≤ nt ∧ nt ≤ 100 ∧
  ∀ (v : V) (p : List Int × List Int) (H' : Hp), Box H' b r rs → But b H H' → DV (fun a => H a = none) H' 3 v (sampD p) → (p.1.length : Int) = ni → (p.2.length : Int) = nt → (∀ x ∈ p.1, isW x) → (∀ x ∈ p.2, isW x) → Q v H'
def spJob (K : PySem.W.Frag) : Sp := fun vs H Q _ => ∃ (b r : Addr) (rs : List Int) (ks : Addr) (kl : List Str) (most : Int), vs = [.ref b, .ref ks, .int most] ∧ Box H b r rs ∧ SqL K H ks (kl.map V.str) ∧ (∀ k ∈ kl, k ∈ allKinds) ∧ 0 < kl.length ∧ 1 ≤ most ∧ most ≤ 100 ∧
  ∀ (jb RL DL n PL NL LL : Addr) (ni nt : Int) (pms : List (Int × Int × Str × Int)) (nds : List Nd) (ls : List Int) (seed batch factor point : Int) (rates : List (Int × Int)) (data : List (List Int × List Int)) (H' : Hp),
    JobG H' b r rs jb RL DL n PL NL LL ni nt pms nds ls seed batch factor point rates data → Built ni nt pms nds ls → (∃ l0, ls = l0 ++ [1]) → (nds.length : Int) ≤ most + 1 → JobOk ni nt seed batch factor point rates data → But b H H' → Q (.ref jb) H'

theorem fresh_but {b c : Addr} {o : HO} {H H1 : Hp} (e : But b H H1) (hb : H1 b = some o) (hc : H1 c = none) : H c = none := by
  cases z : H c with
  | none => rfl
  | some u =>
    by_cases h : c = b
    · rw [h, hb] at hc; cases hc
    · rw [e _ _ h z] at hc; cases hc
theorem Box.lst {H : Hp} {b r : Addr} {rs : List Int} (B : Box H b r rs) : ∃ xs, H b = some (.lst xs) := by
  obtain ⟨z, _, h⟩ := B.ex
  exact ⟨_, h⟩
theorem all_snoc {xs : List Int} {v : Int} (h : ∀ x ∈ xs, isW x) (hv : isW v) : ∀ x ∈ xs ++ [v], isW x := fun x hx => by
  rcases List.mem_append.mp hx with z | z
  · exact h x z
  · rw [List.mem_singleton.mp z]; exact hv

/-! ### the laws' small jobs: their generator -/
def FillOk (kd : Str) (w : Int) : Prop := (kd = "same" ∧ -2147483648 ≤ w ∧ w ≤ 2147483647) ∨ (kd = "mixed" ∧ 0 ≤ w ∧ w ≤ 31)
def spFill : Sp := fun vs H Q _ => ∃ (b r : Addr) (rs : List Int), vs = [.ref b] ∧ Box H b r rs ∧ ∀ (f : Addr) (kd : Str) (w : Int) (H' : Hp), Box H' b r rs → But b H H' → H f = none → H' f = some (.tup [.str kd, .int w]) → FillOk kd w → Q (.ref f) H'
def Nd.nice : Nd → Prop
  | .scale w _ => -2147483648 ≤ w ∧ w ≤ 2147483647
  | .shift k _ => 0 ≤ k ∧ k ≤ 31
  | .drop m _ => 2 ≤ m ∧ m ≤ 4294967295
  | .lower c _ => 1 ≤ c ∧ c ≤ 3
  | .mat k _ _ => 1 ≤ k ∧ k ≤ 3
  | .matT k _ _ => 1 ≤ k ∧ k ≤ 3
  | .embed _ lo n => 0 ≤ lo ∧ 1 ≤ n ∧ n ≤ 3
  | .take lo n _ => 0 ≤ lo ∧ 1 ≤ n ∧ n ≤ 3
  | _ => True
theorem Nd.nice_tame {d : Nd} (h : d.nice) : d.tame := by
  cases d <;> first | exact True.intro | (show _ < _; have := h.2; omega)
def spTry : Sp := fun vs H Q _ => ∃ (b r : Addr) (rs : List Int) (n PL NL LL : Addr) (ni nt : Int) (pms : List (Int × Int × Str × Int)) (nds : List Nd) (ls : List Int), vs = [.ref b, .ref n] ∧ G H b r rs n PL NL LL ni nt pms nds ls ∧ Built ni nt pms nds ls ∧ 1 ≤ nds.length ∧ nds.length ≤ 1000 ∧ 1 ≤ pms.length ∧
  ∀ (t : Addr) (d : Nd) (H' : Hp), G H' b r rs n PL NL LL ni nt pms nds ls → But b H H' → H' t = some (.tup d.enc) → d.fits pms.length ls.length → d.nice → Q (.ref t) H'
def spLLen : Sp := fun vs H Q _ => ∃ (b r : Addr) (rs : List Int) (n PL NL LL a : Addr) (ni nt : Int) (pms : List (Int × Int × Str × Int)) (nds : List Nd) (ls : List Int) (d : Nd), vs = [.ref n, .ref a] ∧ G H b r rs n PL NL LL ni nt pms nds ls ∧ Built ni nt pms nds ls ∧ H a = some (.tup d.enc) ∧ d.fits pms.length ls.length ∧ d.nice ∧
  ∀ (l : Int) (H' : Hp), Same H H' → (1 ≤ l → d.len ni nt (sides pms) ls = some l) → Q (.int l) H'
theorem flag {x : Int} {c : Prop} [Decidable c] {o : Option Int} (h : c → o = some x) : 1 ≤ x * (if decide c = true then 1 else 0) → o = some (x * (if decide c = true then 1 else 0)) := by
  by_cases z : c
  · rw [if_pos (decide_eq_true z), Int.mul_one]; exact fun _ => h z
  · rw [if_neg (by rw [decide_eq_false z]; decide), Int.mul_zero]; omega
theorem flagF {x : Int} {o : Option Int} : 1 ≤ x * (if false = true then 1 else 0) → o = some (x * (if false = true then 1 else 0)) := by
  rw [if_neg (by decide), Int.mul_zero]; omega
theorem bd64 {x : Int} (h0 : 0 ≤ x) (h1 : x ≤ 1000000) : -(2 ^ 64) < x ∧ x < 2 ^ 64 := ⟨by omega, by omega⟩
theorem flag64 (k : Bool) : -(2 ^ 64) < (if k = true then (1 : Int) else 0) ∧ (if k = true then (1 : Int) else 0) < 2 ^ 64 := by cases k <;> decide
def spSNet : Sp := fun vs H Q _ => ∃ (b r : Addr) (rs : List Int) (most : Int), vs = [.ref b, .int most] ∧ Box H b r rs ∧ 0 ≤ most ∧ most ≤ 100 ∧
  ∀ (n PL NL LL : Addr) (ni nt : Int) (pms : List (Int × Int × Str × Int)) (nds : List Nd) (ls : List Int) (H' : Hp), G H' b r rs n PL NL LL ni nt pms nds ls → Built ni nt pms nds ls → (∃ l0, ls = l0 ++ [1]) → (nds.length : Int) ≤ most + 2 → 1 ≤ pms.length ∧ pms.length ≤ 3 ∧ (∀ m ∈ pms, m.1 ≤ 3 ∧ m.2.1 ≤ 3) → (∃ r, nds = .input :: r) → Exc [b] H H' → H n = none → H PL = none → H NL = none → H LL = none → Q (.ref n) H'
/-- 0 < x <= 12 -/
theorem chain01 {x : Int} {H : Hp} {Q : VK} {σ : L2.St} (q : Q (.bl (decide (1 ≤ x ∧ x ≤ 12))) H) :
    rI0 (fun i j => .bl (decide (i < j))) (.int 0) (.int x) H fun z H3 => ∃ k, z = .bl k ∧ (if k = true then tC (.int 12) σ H3 fun w' H4 => rI0 (fun i j => .bl (decide (i ≤ j))) (.int x) w' H4 Q else Q (.bl false) H3) := by
  refine ⟨_, _, rfl, rfl, _, rfl, ?_⟩
  by_cases h : 0 < x
  · refine iteD h ?_
    refine ⟨_, _, rfl, rfl, ?_⟩
    have e : decide (1 ≤ x ∧ x ≤ 12) = decide (x ≤ 12) := decide_eq_decide.mpr ⟨fun z => z.2, fun z => ⟨by omega, z⟩⟩
    rw [e] at q
    exact q
  · refine iteDN h ?_
    have e : decide (1 ≤ x ∧ x ≤ 12) = false := decide_eq_false fun z => h (by omega)
    rw [e] at q
    exact q
theorem Nd.nice.tame' {d : Nd} (h : d.nice) : d.tame := Nd.nice_tame h
structure Small (most : Int) (pms : List (Int × Int × Str × Int)) (nds : List Nd) (rates : List (Int × Int)) (data : List (List Int × List Int)) : Prop where
  p1 : 1 ≤ pms.length
  p3 : pms.length ≤ 3
  sd : ∀ m ∈ pms, m.1 ≤ 3 ∧ m.2.1 ≤ 3
  few : (nds.length : Int) ≤ most + 2
  inp : ∃ r, nds = .input :: r
  rt : rates.length ≤ 2
  dt : data.length ≤ 4
def spSJob : Sp := fun vs H Q _ => ∃ (b r : Addr) (rs : List Int) (most : Int), vs = [.ref b, .int most] ∧ Box H b r rs ∧ 0 ≤ most ∧ most ≤ 100 ∧
  ∀ (jb RL DL n PL NL LL : Addr) (ni nt : Int) (pms : List (Int × Int × Str × Int)) (nds : List Nd) (ls : List Int) (seed batch factor point : Int) (rates : List (Int × Int)) (data : List (List Int × List Int)) (H' : Hp),
    JobG H' b r rs jb RL DL n PL NL LL ni nt pms nds ls seed batch factor point rates data → Built ni nt pms nds ls → Small most pms nds rates data → (∃ l0, ls = l0 ++ [1]) → JobOk ni nt seed batch factor point rates data → But b H H' → Q (.ref jb) H'

section
variable {P : Program} {w : World} {K : PySem.W.Frag} {mg : Str → Option Value} {cs : Cs} {base : Heap} {f : Addr} {fd : FuncData}
theorem ok__law_fill (F : Fun K "_law_fill" "_law_fill" s__law_fill f fd) (T : Txt K mg cs) (d__law_draw : Def P w K mg base 1 "_law_draw" ["box", "many"] (spDraw)) (d__law_word : Def P w K mg base 2 "_law_word" ["box"] (spWord)) :
    FnOk P w K mg base CX0 3 f fd ["box"] (spFill) := by
  obtain ⟨f0, fd0, G__law_draw, b__law_draw, g__law_draw, k__law_draw⟩ := d__law_draw.ex
  obtain ⟨f1, fd1, G__law_word, b__law_word, g__law_word, k__law_word⟩ := d__law_word.ex
  refine F.ok sc__law_fill (fun vs H Q E h => ?_) (fun cdv A outer s H vs Q E hr h => ?_)
  · obtain ⟨b, r, rs, rfl, B, q⟩ := h
    rfl
  obtain ⟨b, r, rs, rfl, B, q⟩ := h
  have hu := hr.units
  refine ⟨_, pss_cons (ps_if (pt_cmpR op_eq (pe_call G__law_draw (hr.mono (by decide)) rfl g__law_draw k__law_draw b__law_draw .nil pass0 (pa_cons (pv 0) (pa_cons pe_int pa_nil))) pe_int (nomark _)) (pss_one (ps_ret (pe_tup (pa_cons pe_str (pa_cons (pe_call G__law_word hr rfl g__law_word k__law_word b__law_word .nil pass0 (pa_cons (pv 0) pa_nil)) pa_nil))))) pss_nil)
 (pss_one (ps_ret (pe_tup (pa_cons pe_str (pa_cons (pe_ix (ixl_at (K := K) rfl) (pe_lst (pa_cons pe_int (pa_cons pe_int (pa_cons pe_int (pa_cons pe_int (pa_cons pe_int pa_nil)))))) (pe_call G__law_draw (hr.mono (by decide)) rfl g__law_draw k__law_draw b__law_draw .nil pass0 (pa_cons (pv 0) (pa_cons pe_int pa_nil))) (fun _ _ => rfl)) pa_nil))))), ?_⟩
  refine ⟨_, rfl, b, r, rs, 2, rfl, B, by decide, fun v H1 v0 v1 B1 e1 => ⟨rfl, _, rfl, ?_⟩⟩
  refine ite2 (fun c => ?_) (fun c => ?_)
  · refine ⟨_, rfl, b, r, rs, rfl, B1, fun w H2 w0 w1 B2 e2 => ⟨by show 2 ≤ sizeLine; decide, fun f nf => ?_⟩⟩
    generalize eqH : upd H2 f _ = H3
    obtain ⟨s3, h3⟩ := new_facts eqH nf
    obtain ⟨bx, hb⟩ := B2.lst
    exact q f "same" w H3 (B2.same s3) ((e1.trans e2).trans (.of s3)) (fresh_but (e1.trans e2) hb nf) h3 (.inl ⟨rfl, w0, w1⟩)
  · refine ⟨by show 5 ≤ sizeLine; decide, fun l nl => ?_⟩
    generalize eqH : upd H1 l _ = H2
    obtain ⟨s2, h2⟩ := new_facts eqH nl
    obtain ⟨bx, hb⟩ := B1.lst
    refine ⟨_, rfl, b, r, rs, 5, rfl, B1.same s2, by decide, fun i H3 i0 i5 B3 e3 => ?_⟩
    have hi : inR i ([0, 8, 16, 28, 31] : List Int).length := ⟨i0, by show i < 5; omega⟩
    have hm := lget_mem hi
    have hs : 0 ≤ lget [0, 8, 16, 28, 31] i ∧ lget [0, 8, 16, 28, 31] i ≤ 31 := by
      generalize lget [0, 8, 16, 28, 31] i = z at *
      simp at hm
      omega
    have lb : l ≠ b := (ne_of_none hb nl).symm
    refine ⟨l, _, _, _, rfl, rfl, SqL.of (e3 _ _ lb h2), at_ints hi, by show 2 ≤ sizeLine; decide, fun f nf => ?_⟩
    generalize lget [0, 8, 16, 28, 31] i = w at *
    generalize eqH : upd H3 f _ = H4
    obtain ⟨s4, h4⟩ := new_facts eqH nf
    obtain ⟨bx3, hb3⟩ := B3.lst
    have e13 := (e1.trans (.of s2)).trans e3
    exact q f "mixed" w H4 (B3.same s4) (e13.trans (.of s4)) (fresh_but e13 hb3 nf) h4 (.inr ⟨rfl, hs⟩)
theorem ok__law_try (F : Fun K "_law_try" "_law_try" s__law_try f fd) (T : Txt K mg cs) (d__law_draw : Def P w K mg base 1 "_law_draw" ["box", "many"] (spDraw)) (d__law_word : Def P w K mg base 2 "_law_word" ["box"] (spWord)) :
    FnOk P w K mg base CX0 3 f fd ["box", "net"] (spTry) := by
  obtain ⟨f0, fd0, G__law_draw, b__law_draw, g__law_draw, k__law_draw⟩ := d__law_draw.ex
  obtain ⟨f1, fd1, G__law_word, b__law_word, g__law_word, k__law_word⟩ := d__law_word.ex
  refine F.ok sc__law_try (fun vs H Q E h => ?_) (fun cdv A outer s H vs Q E hr h => ?_)
  · obtain ⟨b, r, rs, n, PL, NL, LL, ni, nt, pms, nds, ls, rfl, g, u, n1k, n9k, p1k, q⟩ := h
    rfl
  obtain ⟨b, r, rs, n, PL, NL, LL, ni, nt, pms, nds, ls, rfl, g, u, n1k, n9k, p1k, q⟩ := h
  have hu := hr.units
  refine ⟨_, pss_cons (ps_set (i := 2) sc__law_try.nd rfl (.inl rfl) (pe_lst (pa_cons pe_str (pa_cons pe_str (pa_cons pe_str (pa_cons pe_str (pa_cons pe_str (pa_cons pe_str (pa_cons pe_str (pa_cons pe_str (pa_cons pe_str (pa_cons pe_str (pa_cons pe_str (pa_cons pe_str (pa_cons pe_str (pa_cons pe_str (pa_cons pe_str (pa_cons pe_str (pa_cons pe_str (pa_cons pe_str (pa_cons pe_str (pa_cons pe_str (pa_cons pe_str pa_nil)))))))))))))))))))))))
 (pss_cons (ps_set (i := 3) sc__law_try.nd rfl (.inl rfl) (pe_ix (ixl_at (K := K) rfl) (pv 2) (pe_call G__law_draw (hr.mono (by decide)) rfl g__law_draw k__law_draw b__law_draw .nil pass0 (pa_cons (pv 0) (pa_cons (pe_callB (len_at (K := K) rfl) (by rfl) T.z_len PySem.boot_len (pa_cons (pv 2) pa_nil)) pa_nil))) (fun _ _ => rfl)))
 (pss_cons (ps_set (i := 4) sc__law_try.nd rfl (.inl rfl) (pe_op op_sub (pe_op op_sub (pe_callB (len_at (K := K) rfl) (by rfl) T.z_len PySem.boot_len (pa_cons (pe_ix (ixl_at (K := K) rfl) (pv 1) pe_int (fun _ _ => rfl)) pa_nil)) pe_int) (pe_callTy call_int1 (by rfl) T.z_int PyProof.Rows.boot_int (pa_cons (pe_op op_mul (pe_call G__law_draw (hr.mono (by decide)) rfl g__law_draw k__law_draw b__law_draw .nil pass0 (pa_cons (pv 0) (pa_cons (pe_callB (len_at (K := K) rfl) (by rfl) T.z_len PySem.boot_len (pa_cons (pe_ix (ixl_at (K := K) rfl) (pv 1) pe_int (fun _ _ => rfl)) pa_nil)) pa_nil))) (pe_call G__law_draw (hr.mono (by decide)) rfl g__law_draw k__law_draw b__law_draw .nil pass0 (pa_cons (pv 0) (pa_cons pe_int pa_nil)))) pa_nil))))
 (pss_cons (ps_set (i := 5) sc__law_try.nd rfl (.inl rfl) (pe_call G__law_draw (hr.mono (by decide)) rfl g__law_draw k__law_draw b__law_draw .nil pass0 (pa_cons (pv 0) (pa_cons (pe_callB (len_at (K := K) rfl) (by rfl) T.z_len PySem.boot_len (pa_cons (pe_ix (ixl_at (K := K) rfl) (pv 1) pe_int (fun _ _ => rfl)) pa_nil)) pa_nil))))
 (pss_cons (ps_set (i := 6) sc__law_try.nd rfl (.inl rfl) (pe_op op_add pe_int (pe_call G__law_draw (hr.mono (by decide)) rfl g__law_draw k__law_draw b__law_draw .nil pass0 (pa_cons (pv 0) (pa_cons pe_int pa_nil)))))
 (pss_cons (ps_set (i := 7) sc__law_try.nd rfl (.inl rfl) (pe_call G__law_draw (hr.mono (by decide)) rfl g__law_draw k__law_draw b__law_draw .nil pass0 (pa_cons (pv 0) (pa_cons (pe_callB (len_at (K := K) rfl) (by rfl) T.z_len PySem.boot_len (pa_cons (pe_ix (ixl_at (K := K) rfl) (pv 1) pe_int (fun _ _ => rfl)) pa_nil)) pa_nil))))
 (pss_cons (ps_if (pt_cmpR op_in_seq (pv 3) (pe_tup (pa_cons pe_str (pa_cons pe_str pa_nil))) (by with_unfolding_all rfl)) (pss_one (ps_ret (pe_tup (pa_cons (pv 3) (pa_cons (pv 7) (pa_cons (pv 4) pa_nil)))))) pss_nil)
 (pss_cons (ps_if (pt_cmpR op_eq (pv 3) pe_str (nomark _)) (pss_one (ps_ret (pe_tup (pa_cons (pv 3) (pa_cons (pv 7) (pa_cons (pe_call G__law_draw (hr.mono (by decide)) rfl g__law_draw k__law_draw b__law_draw .nil pass0 (pa_cons (pv 0) (pa_cons (pe_ix (ixl_at (K := K) rfl) (pv 1) pe_int (fun _ _ => rfl)) pa_nil))) (pa_cons (pv 6) pa_nil))))))) pss_nil)
 (pss_cons (ps_if (pt_cmpR op_in_seq (pv 3) (pe_tup (pa_cons pe_str (pa_cons pe_str pa_nil))) (by with_unfolding_all rfl)) (pss_one (ps_ret (pe_tup (pa_cons (pv 3) (pa_cons (pv 6) (pa_cons (pv 4) (pa_cons (pv 5) pa_nil))))))) pss_nil)
 (pss_cons (ps_if (pt_cmpR op_eq (pv 3) pe_str (nomark _)) (pss_one (ps_ret (pe_tup (pa_cons (pv 3) (pa_cons (pv 6) (pa_cons (pv 4) pa_nil)))))) pss_nil)
 (pss_cons (ps_if (pt_cmpR op_in_seq (pv 3) (pe_tup (pa_cons pe_str (pa_cons pe_str (pa_cons pe_str (pa_cons pe_str pa_nil))))) (by with_unfolding_all rfl)) (pss_one (ps_ret (pe_tup (pa_cons (pv 3) (pa_cons (pv 4) (pa_cons (pv 5) pa_nil)))))) pss_nil)
 (pss_cons (ps_if (pt_cmpR op_eq (pv 3) pe_str (nomark _)) (pss_one (ps_ret (pe_tup (pa_cons (pv 3) (pa_cons (pe_call G__law_word hr rfl g__law_word k__law_word b__law_word .nil pass0 (pa_cons (pv 0) pa_nil)) (pa_cons (pv 4) pa_nil)))))) pss_nil)
 (pss_cons (ps_if (pt_cmpR op_eq (pv 3) pe_str (nomark _)) (pss_one (ps_ret (pe_tup (pa_cons (pv 3) (pa_cons (pe_ix (ixl_at (K := K) rfl) (pe_lst (pa_cons pe_int (pa_cons pe_int (pa_cons pe_int (pa_cons pe_int (pa_cons pe_int (pa_cons pe_int pa_nil))))))) (pe_call G__law_draw (hr.mono (by decide)) rfl g__law_draw k__law_draw b__law_draw .nil pass0 (pa_cons (pv 0) (pa_cons pe_int pa_nil))) (fun _ _ => rfl)) (pa_cons (pv 4) pa_nil)))))) pss_nil)
 (pss_cons (ps_if (pt_cmpR op_eq (pv 3) pe_str (nomark _)) (pss_one (ps_ret (pe_tup (pa_cons (pv 3) (pa_cons (pe_op op_add pe_int (pe_call G__law_draw (hr.mono (by decide)) rfl g__law_draw k__law_draw b__law_draw .nil pass0 (pa_cons (pv 0) (pa_cons pe_int pa_nil)))) (pa_cons (pv 4) pa_nil)))))) pss_nil)
 (pss_cons (ps_if (pt_cmpR op_in_seq (pv 3) (pe_tup (pa_cons pe_str (pa_cons pe_str pa_nil))) (by with_unfolding_all rfl)) (pss_one (ps_ret (pe_tup (pa_cons (pv 3) (pa_cons (pv 4) pa_nil))))) pss_nil)
 (pss_cons (ps_if (pt_cmpR op_eq (pv 3) pe_str (nomark _)) (pss_one (ps_ret (pe_tup (pa_cons (pv 3) (pa_cons (pe_call G__law_draw (hr.mono (by decide)) rfl g__law_draw k__law_draw b__law_draw .nil pass0 (pa_cons (pv 0) (pa_cons (pe_ix (ixl_at (K := K) rfl) (pe_ix (ixl_at (K := K) rfl) (pv 1) pe_int (fun _ _ => rfl)) (pv 4) (fun _ _ => rfl)) pa_nil))) (pa_cons (pv 6) (pa_cons (pv 4) pa_nil))))))) pss_nil)
 (pss_one (ps_ret (pe_tup (pa_cons (pv 3) pa_nil))))))))))))))))))), ?_⟩
  have ul := u.all
  obtain ⟨nr, n01, n02⟩ := g.nod
  have lnr : (((nr.map V.ref).length : Nat) : Int) = (nds.length : Int) := by rw [List.length_map, n02.length]
  refine ⟨by show 21 ≤ sizeLine; decide, fun kn nk => ?_⟩
  generalize eqH : upd H kn _ = H0
  obtain ⟨s0, hk⟩ := new_facts eqH nk
  clear eqH
  have hk : H0 kn = some (.lst ((["lin", "lin", "lin", "bias", "embed", "mat", "matT", "lower", "add", "sub", "mul", "mul", "scale", "shift", "relu", "drop", "sum", "join", "take", "target", "input"] : List Str).map V.str)) := hk
  have kall : ∀ k ∈ (["lin", "lin", "lin", "bias", "embed", "mat", "matT", "lower", "add", "sub", "mul", "mul", "scale", "shift", "relu", "drop", "sum", "join", "take", "target", "input"] : List Str), k ∈ allKinds := by decide
  have klen : (["lin", "lin", "lin", "bias", "embed", "mat", "matT", "lower", "add", "sub", "mul", "mul", "scale", "shift", "relu", "drop", "sum", "join", "take", "target", "input"] : List Str).length = 21 := rfl
  generalize (["lin", "lin", "lin", "bias", "embed", "mat", "matT", "lower", "add", "sub", "mul", "mul", "scale", "shift", "relu", "drop", "sum", "join", "take", "target", "input"] : List Str) = kl at *
  have g0 := g.same s0
  obtain ⟨bx0, hb0⟩ := g.blst
  have nbk : kn ≠ b := (ne_of_none hb0 nk).symm
  refine ⟨_, rfl, _, rfl, _, rfl, kn, _, rfl, .inl (SqL.of hk), b, r, rs, _, rfl, g0.box, (by rw [List.length_map, klen]; decide), fun v0 H1 v00 v01 B1 e1 => ?_⟩
  rw [List.length_map] at v01
  have g1 := g0.but B1 e1
  obtain ⟨kd, hkd, ekd⟩ := at_strs (kl := kl) ⟨v00, v01⟩
  have hkd := kall kd hkd
  refine ⟨kn, _, _, _, rfl, rfl, SqL.of (e1 _ _ nbk hk), ekd, ?_⟩
  have nl1 := g1.nod
  obtain ⟨nr1, n11, n12⟩ := g1.nod
  have l1 : (((nr1.map V.ref).length : Nat) : Int) = (nds.length : Int) := by rw [List.length_map, n12.length]
  refine ⟨_, rfl, n, _, _, _, rfl, rfl, SqL.of g1.net, rfl, NL, _, rfl, .inl (SqL.of n11), _, _, rfl, rfl, _, rfl, _, rfl, n, _, _, _, rfl, rfl, SqL.of g1.net, rfl, NL, _, rfl, .inl (SqL.of n11), b, r, rs, _, rfl, g1.box, (by omega), fun va H2 a0 a1 B2 e2 => ?_⟩
  have g2 := g1.but B2 e2
  refine ⟨_, rfl, b, r, rs, 2, rfl, B2, by decide, fun vz H3 z0 z1 B3 e3 => ?_⟩
  have g3 := g2.but B3 e3
  refine ⟨_, _, rfl, rfl, .inr ⟨by omega, by omega⟩, .inl ⟨_, rfl, _, _, rfl, rfl, ?_⟩⟩
  rw [l1] at a1 ⊢
  have ha : 0 ≤ (nds.length : Int) - 1 - va * vz ∧ (nds.length : Int) - 1 - va * vz < (nds.length : Int) := by
    rcases (show vz = 0 ∨ vz = 1 by omega) with rfl | rfl
    · rw [Int.mul_zero]; omega
    · rw [Int.mul_one]; omega
  dsimp only
  generalize (nds.length : Int) - 1 - va * vz = oa at *
  obtain ⟨nr3, n31, n32⟩ := g3.nod
  have l3 : (((nr3.map V.ref).length : Nat) : Int) = (nds.length : Int) := by rw [List.length_map, n32.length]
  refine ⟨_, rfl, _, rfl, n, _, _, _, rfl, rfl, SqL.of g3.net, rfl, NL, _, rfl, .inl (SqL.of n31), b, r, rs, _, rfl, g3.box, (by omega), fun ob H4 b0 b1 B4 e4 => ?_⟩
  have g4 := g3.but B4 e4
  rw [l3] at b1
  refine ⟨_, rfl, b, r, rs, 3, rfl, B4, by decide, fun vk H5 k0 k1 B5 e5 => ⟨_, _, rfl, rfl, ?_⟩⟩
  have g5 := g4.but B5 e5
  dsimp only
  obtain ⟨k, hkk⟩ : ∃ k, k = 1 + vk := ⟨_, rfl⟩
  rw [← hkk]
  obtain ⟨pr5, p51, p52⟩ := g5.par
  have lp : (((pr5.map V.ref).length : Nat) : Int) = (pms.length : Int) := by rw [List.length_map, p52.length]
  refine ⟨_, rfl, _, rfl, n, _, _, _, rfl, rfl, SqL.of g5.net, rfl, PL, _, rfl, .inl (SqL.of p51), b, r, rs, _, rfl, g5.box, (by omega), fun p H6 p0 p1 B6 e6 => ?_⟩
  rw [lp] at p1
  have g6 := g5.but B6 e6
  have b6 : But b H H6 := ((((((But.of s0).trans e1).trans e2).trans e3).trans e4).trans e5).trans e6
  clear n11 n12 n31 n32 p51 p52 nl1
  have ra : inR oa ls.length := ⟨ha.1, by omega⟩
  have rb : inR ob ls.length := ⟨b0, by omega⟩
  have rp : inR p pms.length := ⟨p0, p1⟩
  have k13 : 1 ≤ k ∧ k ≤ 3 := by omega
  have i0 : ∀ {H' : Hp} (Q' : VK), Q' (.str kd) H' → tVar 3 [some (.ref b), some (.ref n), some (.ref kn), some (.str kd), some (.int oa), some (.int ob), some (.int k), some (.int p)] H' Q' := fun Q' q' => ⟨_, rfl, q'⟩
  have fin : ∀ (H' : Hp) (t : Addr) (d : Nd) (xs : List V), But b H H' → G H' b r rs n PL NL LL ni nt pms nds ls → H' t = none → xs = d.enc → d.fits pms.length ls.length → d.nice → Q (.ref t) (upd H' t (.tup xs)) := fun H' t d xs e g' nt ex w z => q t d _ (g'.same (same_new nt _)) (e.trans (.of (same_new nt _))) (by rw [← ex]; exact upd_same) w z
  have o1 : ∀ x ∈ [oa], inR x ls.length := fun x hx => by rw [List.mem_singleton.mp hx]; exact ra
  have o2 : ∀ x ∈ [oa, ob], inR x ls.length := fun x hx => by
    rcases List.mem_cons.mp hx with h | h
    · rw [h]; exact ra
    · rw [List.mem_singleton.mp h]; exact rb
  have o0 : ∀ x ∈ ([] : List Int), inR x ls.length := fun x hx => by cases hx
  refine if_in ["lin", "bias"] i0 (by decide) (fun h H7 t7 => ?_) (fun n7 H7 t7 => ?_)
  · have sc := t7
    have gc := g6.same sc
    have bc := b6.trans (.of sc)
    simp only [List.mem_cons, List.not_mem_nil, or_false] at h
    rcases h with rfl | rfl
    · exact ⟨_, rfl, _, rfl, _, rfl, by show 3 ≤ sizeLine; decide, fun t nt => fin _ _ (.lin p oa) _ bc gc nt rfl ⟨rp, o1⟩ True.intro⟩
    · exact ⟨_, rfl, _, rfl, _, rfl, by show 3 ≤ sizeLine; decide, fun t nt => fin _ _ (.bias p oa) _ bc gc nt rfl ⟨rp, o1⟩ True.intro⟩
  have s7 := t7
  refine if_is "embed" i0 (fun h => ?_) (fun m8 => ?_)
  · subst h
    have gc := g6.same s7
    have bc := b6.trans (.of s7)
    refine ⟨_, rfl, _, rfl, _, rfl, _, rfl, n, _, _, _, rfl, rfl, SqL.of gc.net, rfl, b, r, rs, _, rfl, gc.box, (by have := u.ni1; omega), fun w H' w0 w1 Bw ew => ?_⟩
    exact ⟨_, rfl, by show 4 ≤ sizeLine; decide, fun t nt => fin _ _ (.embed p w k) _ (bc.trans ew) (gc.but Bw ew) nt rfl ⟨rp, o0⟩ ⟨w0, k13⟩⟩
  refine if_in ["mat", "matT"] i0 (by decide) (fun h H9 t9 => ?_) (fun n9 H9 t9 => ?_)
  · have sc := s7.trans t9
    have gc := g6.same sc
    have bc := b6.trans (.of sc)
    simp only [List.mem_cons, List.not_mem_nil, or_false] at h
    rcases h with rfl | rfl
    · exact ⟨_, rfl, _, rfl, _, rfl, _, rfl, by show 4 ≤ sizeLine; decide, fun t nt => fin _ _ (.mat k oa ob) _ bc gc nt rfl ⟨True.intro, o2⟩ k13⟩
    · exact ⟨_, rfl, _, rfl, _, rfl, _, rfl, by show 4 ≤ sizeLine; decide, fun t nt => fin _ _ (.matT k oa ob) _ bc gc nt rfl ⟨True.intro, o2⟩ k13⟩
  have s9 := s7.trans t9
  refine if_is "lower" i0 (fun h => ?_) (fun m10 => ?_)
  · subst h
    have gc := g6.same s9
    have bc := b6.trans (.of s9)
    exact ⟨_, rfl, _, rfl, _, rfl, by show 3 ≤ sizeLine; decide, fun t nt => fin _ _ (.lower k oa) _ bc gc nt rfl ⟨True.intro, o1⟩ k13⟩
  refine if_in ["add", "sub", "mul", "join"] i0 (by decide) (fun h H11 t11 => ?_) (fun n11 H11 t11 => ?_)
  · have sc := s9.trans t11
    have gc := g6.same sc
    have bc := b6.trans (.of sc)
    simp only [List.mem_cons, List.not_mem_nil, or_false] at h
    rcases h with rfl | rfl | rfl | rfl
    · exact ⟨_, rfl, _, rfl, _, rfl, by show 3 ≤ sizeLine; decide, fun t nt => fin _ _ (.add oa ob) _ bc gc nt rfl ⟨True.intro, o2⟩ True.intro⟩
    · exact ⟨_, rfl, _, rfl, _, rfl, by show 3 ≤ sizeLine; decide, fun t nt => fin _ _ (.sub oa ob) _ bc gc nt rfl ⟨True.intro, o2⟩ True.intro⟩
    · exact ⟨_, rfl, _, rfl, _, rfl, by show 3 ≤ sizeLine; decide, fun t nt => fin _ _ (.mul oa ob) _ bc gc nt rfl ⟨True.intro, o2⟩ True.intro⟩
    · exact ⟨_, rfl, _, rfl, _, rfl, by show 3 ≤ sizeLine; decide, fun t nt => fin _ _ (.join oa ob) _ bc gc nt rfl ⟨True.intro, o2⟩ True.intro⟩
  have s11 := s9.trans t11
  refine if_is "scale" i0 (fun h => ?_) (fun m12 => ?_)
  · subst h
    have gc := g6.same s11
    have bc := b6.trans (.of s11)
    refine ⟨_, rfl, _, rfl, b, r, rs, rfl, gc.box, fun w H' w0 w1 Bw ew => ?_⟩
    exact ⟨_, rfl, by show 3 ≤ sizeLine; decide, fun t nt => fin _ _ (.scale w oa) _ (bc.trans ew) (gc.but Bw ew) nt rfl ⟨True.intro, o1⟩ ⟨w0, w1⟩⟩
  refine if_is "shift" i0 (fun h => ?_) (fun m13 => ?_)
  · subst h
    have gc := g6.same s11
    have bc := b6.trans (.of s11)
    refine ⟨_, rfl, by show 6 ≤ sizeLine; decide, fun l nl => ?_⟩
    obtain ⟨bxc, hbc⟩ := gc.blst
    have lb : l ≠ b := (ne_of_none hbc nl).symm
    have sl := same_new nl (.lst (([0, 1, 2, 5, 16, 31] : List Int).map V.int))
    refine ⟨_, rfl, b, r, rs, 6, rfl, (gc.same sl).box, by decide, fun i H' i0' i6 Bw ew => ?_⟩
    have hi : inR i ([0, 1, 2, 5, 16, 31] : List Int).length := ⟨i0', by show i < 6; omega⟩
    have hm := lget_mem hi
    have hs : 0 ≤ lget [0, 1, 2, 5, 16, 31] i ∧ lget [0, 1, 2, 5, 16, 31] i ≤ 31 := by
      generalize lget [0, 1, 2, 5, 16, 31] i = z at *
      simp at hm
      omega
    refine ⟨l, _, _, _, rfl, rfl, SqL.of (ew _ _ lb upd_same), at_ints hi, _, rfl, by show 3 ≤ sizeLine; decide, fun t nt => ?_⟩
    exact fin _ _ (.shift (lget [0, 1, 2, 5, 16, 31] i) oa) _ ((bc.trans (.of sl)).trans ew) ((gc.same sl).but Bw ew) nt rfl ⟨True.intro, o1⟩ hs
  refine if_is "drop" i0 (fun h => ?_) (fun m14 => ?_)
  · subst h
    have gc := g6.same s11
    have bc := b6.trans (.of s11)
    refine ⟨_, rfl, _, rfl, b, r, rs, 3, rfl, gc.box, by decide, fun w H' w0 w1 Bw ew => ?_⟩
    exact ⟨_, _, rfl, rfl, _, rfl, by show 3 ≤ sizeLine; decide, fun t nt => fin _ _ (.drop (2 + w) oa) _ (bc.trans ew) (gc.but Bw ew) nt rfl ⟨True.intro, o1⟩ ⟨by omega, by omega⟩⟩
  refine if_in ["relu", "sum"] i0 (by decide) (fun h H15 t15 => ?_) (fun n15 H15 t15 => ?_)
  · have sc := s11.trans t15
    have gc := g6.same sc
    have bc := b6.trans (.of sc)
    simp only [List.mem_cons, List.not_mem_nil, or_false] at h
    rcases h with rfl | rfl
    · exact ⟨_, rfl, _, rfl, by show 2 ≤ sizeLine; decide, fun t nt => fin _ _ (.relu oa) _ bc gc nt rfl ⟨True.intro, o1⟩ True.intro⟩
    · exact ⟨_, rfl, _, rfl, by show 2 ≤ sizeLine; decide, fun t nt => fin _ _ (.sum oa) _ bc gc nt rfl ⟨True.intro, o1⟩ True.intro⟩
  have s15 := s11.trans t15
  refine if_is "take" i0 (fun h => ?_) (fun m16 => ?_)
  · subst h
    have gc := g6.same s15
    have bc := b6.trans (.of s15)
    refine ⟨_, rfl, _, rfl, _, rfl, n, _, _, _, rfl, rfl, SqL.of gc.net, rfl, _, rfl, LL, _, _, _, rfl, rfl, SqL.of gc.len, at_ints ra, b, r, rs, _, rfl, gc.box, (by have := u.bnd _ (lget_mem ra); omega), fun w H' w0 w1 Bw ew => ?_⟩
    exact ⟨_, rfl, _, rfl, by show 4 ≤ sizeLine; decide, fun t nt => fin _ _ (.take w k oa) _ (bc.trans ew) (gc.but Bw ew) nt rfl ⟨True.intro, o1⟩ ⟨w0, k13⟩⟩
  have gc := g6.same s15
  have bc := b6.trans (.of s15)
  have hl : kd = "target" ∨ kd = "input" := by
    simp only [allKinds, List.mem_cons, List.not_mem_nil, or_false] at hkd
    (rcases hkd with h | h | h | h | h | h | h | h | h | h | h | h | h | h | h | h | h | h) <;> first
      | exact .inl h
      | exact .inr h
      | exact absurd h m8
      | exact absurd h m10
      | exact absurd h m12
      | exact absurd h m13
      | exact absurd h m14
      | exact absurd h m16
      | (exfalso; subst h; first | exact n7 (by decide) | exact n9 (by decide) | exact n11 (by decide) | exact n15 (by decide))
  rcases hl with rfl | rfl
  · exact ⟨_, rfl, by show 1 ≤ sizeLine; decide, fun t nt => fin _ _ .target _ bc gc nt rfl ⟨True.intro, o0⟩ True.intro⟩
  · exact ⟨_, rfl, by show 1 ≤ sizeLine; decide, fun t nt => fin _ _ .input _ bc gc nt rfl ⟨True.intro, o0⟩ True.intro⟩

end

section
variable {P : Program} {w : World} {K : PySem.W.Frag} {mg : Str → Option Value} {cs : Cs} {base : Heap} {f : Addr} {fd : FuncData}
theorem ok__law_length (F : Fun K "_law_length" "_law_length" s__law_length f fd) (T : Txt K mg cs)  :
    FnOk P w K mg base CX0 1 f fd ["net", "node"] (spLLen) := by
  refine F.ok sc__law_length (fun vs H Q E h => ?_) (fun cdv A outer s H vs Q E hr h => ?_)
  · obtain ⟨b, r, rs, n, PL, NL, LL, a, ni, nt, pms, nds, ls, d, rfl, g0, u, ht0, fit, nc, q⟩ := h
    rfl
  obtain ⟨b, r, rs, n, PL, NL, LL, a, ni, nt, pms, nds, ls, d, rfl, g0, u, ht0, fit, nc, q⟩ := h
  have hu := hr.units
  refine ⟨_, pss_cons (ps_set (i := 2) sc__law_length.nd rfl (.inl rfl) (pe_ix (ixt_at (K := K) rfl) (pv 1) pe_int (fun _ _ => rfl)))
 (pss_cons (ps_if (pt_cmpR op_in_seq (pv 2) (pe_tup (pa_cons pe_str (pa_cons pe_str pa_nil))) (by with_unfolding_all rfl)) (pss_one (ps_ret (pe_ix (ixl_at (K := K) rfl) (pv 0) (pe_callTy call_int1 (by rfl) T.z_int PyProof.Rows.boot_int (pa_cons (pe_cmpR op_eq (pv 2) pe_str (nomark _)) pa_nil)) (fun _ _ => rfl)))) pss_nil)
 (pss_cons (ps_if (pt_cmpR op_eq (pv 2) pe_str (nomark _)) (pss_one (ps_ret (pe_op op_mul (pe_op op_mul (pe_ix (ixt_at (K := K) rfl) (pv 1) pe_int (fun _ _ => rfl)) (pe_ix (ixt_at (K := K) rfl) (pe_ix (ixl_at (K := K) rfl) (pe_ix (ixl_at (K := K) rfl) (pv 0) pe_int (fun _ _ => rfl)) (pe_ix (ixt_at (K := K) rfl) (pv 1) pe_int (fun _ _ => rfl)) (fun _ _ => rfl)) pe_int (fun _ _ => rfl))) (pe_callTy call_int1 (by rfl) T.z_int PyProof.Rows.boot_int (pa_cons (pe_cmpR op_le (pe_op op_add (pe_ix (ixt_at (K := K) rfl) (pv 1) pe_int (fun _ _ => rfl)) (pe_ix (ixt_at (K := K) rfl) (pv 1) pe_int (fun _ _ => rfl))) (pe_ix (ixl_at (K := K) rfl) (pv 0) pe_int (fun _ _ => rfl)) (nomark _)) pa_nil))))) pss_nil)
 (pss_cons (ps_if (pt_cmpR op_in_seq (pv 2) (pe_tup (pa_cons pe_str (pa_cons pe_str pa_nil))) (by with_unfolding_all rfl)) (pss_cons (ps_if (pt_cmpR op_eq (pv 2) pe_str (nomark _)) (pss_one (ps_ret pe_int)) pss_nil)
 (pss_one (ps_ret (pe_ix (ixl_at (K := K) rfl) (pe_ix (ixl_at (K := K) rfl) (pv 0) pe_int (fun _ _ => rfl)) (pe_ix (ixt_at (K := K) rfl) (pv 1) pe_int (fun _ _ => rfl)) (fun _ _ => rfl))))) pss_nil)
 (pss_cons (ps_if (pt_cmpR op_in_seq (pv 2) (pe_tup (pa_cons pe_str (pa_cons pe_str (pa_cons pe_str pa_nil)))) (by with_unfolding_all rfl)) (pss_one (ps_ret (pe_op op_mul (pe_ix (ixl_at (K := K) rfl) (pe_ix (ixl_at (K := K) rfl) (pv 0) pe_int (fun _ _ => rfl)) (pe_ix (ixt_at (K := K) rfl) (pv 1) pe_int (fun _ _ => rfl)) (fun _ _ => rfl)) (pe_callTy call_int1 (by rfl) T.z_int PyProof.Rows.boot_int (pa_cons (pe_cmpR op_eq (pe_ix (ixl_at (K := K) rfl) (pe_ix (ixl_at (K := K) rfl) (pv 0) pe_int (fun _ _ => rfl)) (pe_ix (ixt_at (K := K) rfl) (pv 1) pe_int (fun _ _ => rfl)) (fun _ _ => rfl)) (pe_ix (ixl_at (K := K) rfl) (pe_ix (ixl_at (K := K) rfl) (pv 0) pe_int (fun _ _ => rfl)) (pe_ix (ixt_at (K := K) rfl) (pv 1) pe_int (fun _ _ => rfl)) (fun _ _ => rfl)) (nomark _)) pa_nil))))) pss_nil)
 (pss_cons (ps_if (pt_cmpR op_eq (pv 2) pe_str (nomark _)) (pss_one (ps_ret (pe_op op_add (pe_ix (ixl_at (K := K) rfl) (pe_ix (ixl_at (K := K) rfl) (pv 0) pe_int (fun _ _ => rfl)) (pe_ix (ixt_at (K := K) rfl) (pv 1) pe_int (fun _ _ => rfl)) (fun _ _ => rfl)) (pe_ix (ixl_at (K := K) rfl) (pe_ix (ixl_at (K := K) rfl) (pv 0) pe_int (fun _ _ => rfl)) (pe_ix (ixt_at (K := K) rfl) (pv 1) pe_int (fun _ _ => rfl)) (fun _ _ => rfl))))) pss_nil)
 (pss_cons (ps_if (pt_cmpR op_eq (pv 2) pe_str (nomark _)) (pss_one (ps_ret (pe_op op_mul (pe_ix (ixt_at (K := K) rfl) (pv 1) pe_int (fun _ _ => rfl)) (pe_callTy call_int1 (by rfl) T.z_int PyProof.Rows.boot_int (pa_cons (pe_cmpR op_le (pe_op op_add (pe_ix (ixt_at (K := K) rfl) (pv 1) pe_int (fun _ _ => rfl)) (pe_ix (ixt_at (K := K) rfl) (pv 1) pe_int (fun _ _ => rfl))) (pe_ix (ixl_at (K := K) rfl) (pe_ix (ixl_at (K := K) rfl) (pv 0) pe_int (fun _ _ => rfl)) (pe_ix (ixt_at (K := K) rfl) (pv 1) pe_int (fun _ _ => rfl)) (fun _ _ => rfl)) (nomark _)) pa_nil))))) pss_nil)
 (pss_cons (ps_set (i := 3) sc__law_length.nd rfl (.inl rfl) (pe_ix (ixl_at (K := K) rfl) (pe_ix (ixl_at (K := K) rfl) (pv 0) pe_int (fun _ _ => rfl)) (pe_ix (ixt_at (K := K) rfl) (pv 1) pe_int (fun _ _ => rfl)) (fun _ _ => rfl)))
 (pss_cons (ps_if (pt_cmpR op_eq (pv 2) pe_str (nomark _)) (pss_cons (ps_set (i := 4) sc__law_length.nd rfl (.inl rfl) (pe_ix (ixl_at (K := K) rfl) (pe_ix (ixl_at (K := K) rfl) (pv 0) pe_int (fun _ _ => rfl)) (pe_ix (ixt_at (K := K) rfl) (pv 1) pe_int (fun _ _ => rfl)) (fun _ _ => rfl)))
 (pss_one (ps_ret (pe_op op_mul (pe_op op_mul (pe_op op_fdiv (pv 3) (pe_ix (ixt_at (K := K) rfl) (pv 4) pe_int (fun _ _ => rfl))) (pe_ix (ixt_at (K := K) rfl) (pv 4) pe_int (fun _ _ => rfl))) (pe_callTy call_int1 (by rfl) T.z_int PyProof.Rows.boot_int (pa_cons (pe_cmpR op_eq (pe_op op_mod (pe_callTy call_int1 (by rfl) T.z_int PyProof.Rows.boot_int (pa_cons (pv 3) pa_nil)) (pe_ix (ixt_at (K := K) rfl) (pv 4) pe_int (fun _ _ => rfl))) pe_int (nomark _)) pa_nil)))))) pss_nil)
 (pss_cons (ps_if (pt_cmpR op_eq (pv 2) pe_str (nomark _)) (pss_cons (ps_set (i := 4) sc__law_length.nd rfl (.inl rfl) (pe_ix (ixl_at (K := K) rfl) (pe_ix (ixl_at (K := K) rfl) (pv 0) pe_int (fun _ _ => rfl)) (pe_ix (ixt_at (K := K) rfl) (pv 1) pe_int (fun _ _ => rfl)) (fun _ _ => rfl)))
 (pss_one (ps_ret (pe_op op_mul (pv 3) (pe_callTy call_int1 (by rfl) T.z_int PyProof.Rows.boot_int (pa_cons (pe_and (pe_cmpR op_eq (pe_ix (ixt_at (K := K) rfl) (pv 4) pe_int (fun _ _ => rfl)) pe_int (nomark _)) (pe_one (pe_cmpR op_eq (pe_op op_mod (pe_callTy call_int1 (by rfl) T.z_int PyProof.Rows.boot_int (pa_cons (pv 3) pa_nil)) (pe_ix (ixt_at (K := K) rfl) (pv 4) pe_int (fun _ _ => rfl))) pe_int (nomark _)))) pa_nil)))))) pss_nil)
 (pss_cons (ps_if (pt_cmpR op_in_seq (pv 2) (pe_tup (pa_cons pe_str (pa_cons pe_str pa_nil))) (by with_unfolding_all rfl)) (pss_cons (ps_set (i := 5) sc__law_length.nd rfl (.inl rfl) (pe_ix (ixl_at (K := K) rfl) (pe_ix (ixl_at (K := K) rfl) (pv 0) pe_int (fun _ _ => rfl)) (pe_ix (ixt_at (K := K) rfl) (pv 1) pe_int (fun _ _ => rfl)) (fun _ _ => rfl)))
 (pss_cons (ps_set (i := 6) sc__law_length.nd rfl (.inl rfl) (pe_and (pe_cmpR op_eq (pe_op op_mod (pe_callTy call_int1 (by rfl) T.z_int PyProof.Rows.boot_int (pa_cons (pv 3) pa_nil)) (pe_ix (ixt_at (K := K) rfl) (pv 1) pe_int (fun _ _ => rfl))) pe_int (nomark _)) (pe_one (pe_cmpR op_eq (pe_op op_mod (pe_callTy call_int1 (by rfl) T.z_int PyProof.Rows.boot_int (pa_cons (pv 5) pa_nil)) (pe_ix (ixt_at (K := K) rfl) (pv 1) pe_int (fun _ _ => rfl))) pe_int (nomark _)))))
 (pss_one (ps_ret (pe_op op_mul (pe_op op_mul (pe_op op_fdiv (pv 3) (pe_ix (ixt_at (K := K) rfl) (pv 1) pe_int (fun _ _ => rfl))) (pe_op op_fdiv (pv 5) (pe_ix (ixt_at (K := K) rfl) (pv 1) pe_int (fun _ _ => rfl)))) (pe_callTy call_int1 (by rfl) T.z_int PyProof.Rows.boot_int (pa_cons (pv 6) pa_nil))))))) pss_nil)
 (pss_cons (ps_if (pt_cmpR op_eq (pv 2) pe_str (nomark _)) (pss_one (ps_ret (pe_op op_mul (pv 3) (pe_callTy call_int1 (by rfl) T.z_int PyProof.Rows.boot_int (pa_cons (pe_cmpR op_eq (pe_op op_mod (pe_callTy call_int1 (by rfl) T.z_int PyProof.Rows.boot_int (pa_cons (pv 3) pa_nil)) (pe_ix (ixt_at (K := K) rfl) (pv 1) pe_int (fun _ _ => rfl))) pe_int (nomark _)) pa_nil))))) pss_nil)
 (pss_one (ps_ret (pv 3)))))))))))))), ?_⟩
  have ul := u.all
  have k0 : atI d.enc 0 = some (.str d.kind) := atI_nat (show d.enc[(0 : Nat)]? = some (.str d.kind) from rfl)
  refine ⟨_, rfl, a, _, _, _, rfl, rfl, SqT.of ht0, k0, ?_⟩
  have i0 : ∀ {o4 o5 o6 o7 : Option V} {H' : Hp} (Q' : VK), Q' (.str d.kind) H' → tVar 2 [some (.ref n), some (.ref a), some (.str d.kind), o4, o5, o6, o7] H' Q' := fun Q' q' => ⟨_, rfl, q'⟩
  have bnd : ∀ {o : Int}, inR o ls.length → 1 ≤ lget ls o ∧ lget ls o ≤ 12 := fun h => u.bnd _ (lget_mem h)
  have par : ∀ {p : Int}, inR p pms.length → ∃ m ∈ pms, pget (sides pms) p = (m.1, m.2.1) ∧ PmOk m := fun {p} h => by
    obtain ⟨pr, pa, pf, m, _, _, _, _, em⟩ := g0.at h
    refine ⟨m, List.mem_of_getElem? em, ?_, u.pok m (List.mem_of_getElem? em)⟩
    unfold pget sides
    rw [List.getD_eq_getElem?_getD, List.getElem?_map, em]
    rfl
  refine if_in ["input", "target"] i0 (by decide) (fun h H1 t1 => ?_) (fun n1 H1 t1 => ?_)
  · have sc := t1
    have g := g0.same sc
    have ht := sc _ _ ht0
    rcases (show (d = .input) ∨ (d = .target) from by
      cases d <;> first | exact (.inl rfl) | exact (.inr rfl) | (exfalso; revert h; dsimp only [Nd.kind]; decide)) with rfl | rfl
    · refine ⟨_, rfl, _, rfl, rfl, .inr ⟨_, rfl, n, _, _, _, rfl, rfl, SqL.of g.net, rfl, q _ _ sc fun _ => rfl⟩⟩
    · refine ⟨_, rfl, _, rfl, rfl, .inr ⟨_, rfl, n, _, _, _, rfl, rfl, SqL.of g.net, rfl, q _ _ sc fun _ => rfl⟩⟩
  have s1 := t1
  refine if_is "embed" i0 (fun h => ?_) (fun m2 => ?_)
  · have sc := s1
    have g := g0.same sc
    have ht := sc _ _ ht0
    obtain ⟨p, lo, m, rfl⟩ : ∃ p lo m, d = .embed p lo m := by cases d <;> first | exact ⟨_, _, _, rfl⟩ | (exfalso; revert h; dsimp only [Nd.kind]; decide)
    obtain ⟨pr, pa, pf, mm, p1, ep, h4, h5, em⟩ := g.at fit.1
    obtain ⟨_, _, e1, ok⟩ := par fit.1
    have c1 : (pget (sides pms) p).2 ≤ 6 ∧ 1 ≤ (pget (sides pms) p).2 := by rw [e1]; exact ⟨ok.2.2.2.1, ok.2.2.1⟩
    refine ⟨_, rfl, a, _, _, _, rfl, rfl, SqT.of ht, rfl, _, rfl, n, _, _, _, rfl, rfl, SqL.of g.net, rfl, _, rfl, a, _, _, _, rfl, rfl, SqT.of ht, rfl, PL, _, _, _, rfl, rfl, SqL.of p1, ep, pa, _, _, _, rfl, rfl, SqT.of h4, rfl, _, _, rfl, rfl, .inl ⟨by have := nc.2.1; omega, by have := nc.2.2; omega⟩, _, rfl, a, _, _, _, rfl, rfl, SqT.of ht, rfl, _, rfl, a, _, _, _, rfl, rfl, SqT.of ht, rfl, _, _, rfl, rfl, _, rfl, n, _, _, _, rfl, rfl, SqL.of g.net, rfl, _, _, rfl, rfl, .inr ⟨_, rfl, _, _, rfl, rfl, .inr (flag64 _), ?_⟩⟩
    exact q _ _ sc (flag fun z => if_pos ⟨nc.2.1, nc.1, z⟩)
  have s2 := s1
  refine if_in ["relu", "sum"] i0 (by decide) (fun h H3 t3 => ?_) (fun n3 H3 t3 => ?_)
  · have sc := s2.trans t3
    have g := g0.same sc
    have ht := sc _ _ ht0
    rcases (show (∃ x, d = .relu x) ∨ (∃ x, d = .sum x) from by
      cases d <;> first | exact (.inl ⟨_, rfl⟩) | exact (.inr ⟨_, rfl⟩) | (exfalso; revert h; dsimp only [Nd.kind]; decide)) with ⟨x, rfl⟩ | ⟨x, rfl⟩
    · refine if_is "sum" i0 (fun h => ?_) (fun _ => ?_)
      · exfalso; revert h; dsimp only [Nd.kind]; decide
      exact ⟨_, rfl, n, _, _, _, rfl, rfl, SqL.of g.net, rfl, _, rfl, a, _, _, _, rfl, rfl, SqT.of ht, rfl, LL, _, _, _, rfl, rfl, SqL.of g.len, at_ints (fit.2 x (.head _)), q _ _ sc fun _ => rfl⟩
    · refine if_is "sum" i0 (fun _ => ?_) (fun h => ?_)
      · exact q _ _ sc fun _ => rfl
      exfalso; revert h; dsimp only [Nd.kind]; decide
  have s3 := s2.trans t3
  refine if_in ["add", "sub", "mul"] i0 (by decide) (fun h H4 t4 => ?_) (fun n4 H4 t4 => ?_)
  · have sc := s3.trans t4
    have g := g0.same sc
    have ht := sc _ _ ht0
    rcases (show (∃ x y, d = .add x y) ∨ (∃ x y, d = .sub x y) ∨ (∃ x y, d = .mul x y) from by
      cases d <;> first | exact (.inl ⟨_, _, rfl⟩) | exact (.inr (.inl ⟨_, _, rfl⟩)) | exact (.inr (.inr ⟨_, _, rfl⟩)) | (exfalso; revert h; dsimp only [Nd.kind]; decide)) with ⟨x, y, rfl⟩ | ⟨x, y, rfl⟩ | ⟨x, y, rfl⟩
    · have rx := fit.2 x (.head _)
      have ry := fit.2 y (.tail _ (.head _))
      refine ⟨_, rfl, n, _, _, _, rfl, rfl, SqL.of g.net, rfl, _, rfl, a, _, _, _, rfl, rfl, SqT.of ht, rfl, LL, _, _, _, rfl, rfl, SqL.of g.len, at_ints rx, _, rfl, n, _, _, _, rfl, rfl, SqL.of g.net, rfl, _, rfl, a, _, _, _, rfl, rfl, SqT.of ht, rfl, LL, _, _, _, rfl, rfl, SqL.of g.len, at_ints rx, _, rfl, n, _, _, _, rfl, rfl, SqL.of g.net, rfl, _, rfl, a, _, _, _, rfl, rfl, SqT.of ht, rfl, LL, _, _, _, rfl, rfl, SqL.of g.len, at_ints ry, rfl, .inr ⟨_, rfl, _, _, rfl, rfl, .inr (flag64 _), ?_⟩⟩
      exact q _ _ sc (flag fun z => if_pos (V.int.inj z))
    · have rx := fit.2 x (.head _)
      have ry := fit.2 y (.tail _ (.head _))
      refine ⟨_, rfl, n, _, _, _, rfl, rfl, SqL.of g.net, rfl, _, rfl, a, _, _, _, rfl, rfl, SqT.of ht, rfl, LL, _, _, _, rfl, rfl, SqL.of g.len, at_ints rx, _, rfl, n, _, _, _, rfl, rfl, SqL.of g.net, rfl, _, rfl, a, _, _, _, rfl, rfl, SqT.of ht, rfl, LL, _, _, _, rfl, rfl, SqL.of g.len, at_ints rx, _, rfl, n, _, _, _, rfl, rfl, SqL.of g.net, rfl, _, rfl, a, _, _, _, rfl, rfl, SqT.of ht, rfl, LL, _, _, _, rfl, rfl, SqL.of g.len, at_ints ry, rfl, .inr ⟨_, rfl, _, _, rfl, rfl, .inr (flag64 _), ?_⟩⟩
      exact q _ _ sc (flag fun z => if_pos (V.int.inj z))
    · have rx := fit.2 x (.head _)
      have ry := fit.2 y (.tail _ (.head _))
      refine ⟨_, rfl, n, _, _, _, rfl, rfl, SqL.of g.net, rfl, _, rfl, a, _, _, _, rfl, rfl, SqT.of ht, rfl, LL, _, _, _, rfl, rfl, SqL.of g.len, at_ints rx, _, rfl, n, _, _, _, rfl, rfl, SqL.of g.net, rfl, _, rfl, a, _, _, _, rfl, rfl, SqT.of ht, rfl, LL, _, _, _, rfl, rfl, SqL.of g.len, at_ints rx, _, rfl, n, _, _, _, rfl, rfl, SqL.of g.net, rfl, _, rfl, a, _, _, _, rfl, rfl, SqT.of ht, rfl, LL, _, _, _, rfl, rfl, SqL.of g.len, at_ints ry, rfl, .inr ⟨_, rfl, _, _, rfl, rfl, .inr (flag64 _), ?_⟩⟩
      exact q _ _ sc (flag fun z => if_pos (V.int.inj z))
  have s4 := s3.trans t4
  refine if_is "join" i0 (fun h => ?_) (fun m5 => ?_)
  · have sc := s4
    have g := g0.same sc
    have ht := sc _ _ ht0
    obtain ⟨x, y, rfl⟩ : ∃ x y, d = .join x y := by cases d <;> first | exact ⟨_, _, rfl⟩ | (exfalso; revert h; dsimp only [Nd.kind]; decide)
    exact ⟨_, rfl, n, _, _, _, rfl, rfl, SqL.of g.net, rfl, _, rfl, a, _, _, _, rfl, rfl, SqT.of ht, rfl, LL, _, _, _, rfl, rfl, SqL.of g.len, at_ints (fit.2 x (.head _)), _, rfl, n, _, _, _, rfl, rfl, SqL.of g.net, rfl, _, rfl, a, _, _, _, rfl, rfl, SqT.of ht, rfl, LL, _, _, _, rfl, rfl, SqL.of g.len, at_ints (fit.2 y (.tail _ (.head _))), _, _, rfl, rfl, q _ _ sc fun _ => rfl⟩
  have s5 := s4
  refine if_is "take" i0 (fun h => ?_) (fun m6 => ?_)
  · have sc := s5
    have g := g0.same sc
    have ht := sc _ _ ht0
    obtain ⟨lo, m, x, rfl⟩ : ∃ lo m x, d = .take lo m x := by cases d <;> first | exact ⟨_, _, _, rfl⟩ | (exfalso; revert h; dsimp only [Nd.kind]; decide)
    refine ⟨_, rfl, a, _, _, _, rfl, rfl, SqT.of ht, rfl, _, rfl, a, _, _, _, rfl, rfl, SqT.of ht, rfl, _, rfl, a, _, _, _, rfl, rfl, SqT.of ht, rfl, _, _, rfl, rfl, _, rfl, n, _, _, _, rfl, rfl, SqL.of g.net, rfl, _, rfl, a, _, _, _, rfl, rfl, SqT.of ht, rfl, LL, _, _, _, rfl, rfl, SqL.of g.len, at_ints (fit.2 x (.head _)), _, _, rfl, rfl, .inr ⟨_, rfl, _, _, rfl, rfl, .inr (flag64 _), ?_⟩⟩
    exact q _ _ sc (flag fun z => if_pos ⟨nc.2.1, nc.1, z⟩)
  have s6 := s5
  obtain ⟨x, hx, ha2⟩ : ∃ x, x ∈ d.ops ∧ atI d.enc 2 = some (.int x) := by
    cases d <;> first | exact ⟨_, .head _, rfl⟩ | (exfalso; first | exact m2 rfl | exact m5 rfl | exact m6 rfl | (revert n1; dsimp only [Nd.kind]; decide) | (revert n3; dsimp only [Nd.kind]; decide) | (revert n4; dsimp only [Nd.kind]; decide))
  have rx := fit.2 x hx
  have hb := bnd rx
  have g := g0.same s6
  have ht := s6 _ _ ht0
  refine ⟨_, rfl, n, _, _, _, rfl, rfl, SqL.of g.net, rfl, _, rfl, a, _, _, _, rfl, rfl, SqT.of ht, ha2, LL, _, _, _, rfl, rfl, SqL.of g.len, at_ints rx, ?_⟩
  refine if_is "lin" i0 (fun h => ?_) (fun m7 => ?_)
  · have sc := s6
    have g := g0.same sc
    have ht := sc _ _ ht0
    obtain ⟨p, y, rfl⟩ : ∃ p y, d = .lin p y := by cases d <;> first | exact ⟨_, _, rfl⟩ | (exfalso; revert h; dsimp only [Nd.kind]; decide)
    obtain ⟨pr, pa, pf, mm, p1, ep, h4, h5, em⟩ := g.at fit.1
    obtain ⟨_, _, e1, ok⟩ := par fit.1
    have c1 : 1 ≤ (pget (sides pms) p).1 ∧ (pget (sides pms) p).1 ≤ 6 ∧ 1 ≤ (pget (sides pms) p).2 ∧ (pget (sides pms) p).2 ≤ 6 := by rw [e1]; exact ⟨ok.1, ok.2.1, ok.2.2.1, ok.2.2.2.1⟩
    obtain rfl : y = x := V.int.inj (Option.some.inj ha2)
    refine ⟨_, rfl, n, _, _, _, rfl, rfl, SqL.of g.net, rfl, _, rfl, a, _, _, _, rfl, rfl, SqT.of ht, rfl, PL, _, _, _, rfl, rfl, SqL.of p1, ep, ?_⟩
    have db : 0 ≤ lget ls y / (pget (sides pms) p).1 ∧ lget ls y / (pget (sides pms) p).1 ≤ 12 := ⟨Int.ediv_nonneg (by omega) (by omega), Int.le_trans (Int.ediv_le_self _ (by omega)) hb.2⟩
    refine ⟨_, rfl, _, rfl, pa, _, _, _, rfl, rfl, SqT.of h4, rfl, _, _, rfl, rfl, ⟨by omega, by omega⟩, _, rfl, pa, _, _, _, rfl, rfl, SqT.of h4, rfl, _, _, rfl, rfl, .inl ⟨by omega, by omega⟩, _, rfl, .inl ⟨_, rfl, _, rfl, pa, _, _, _, rfl, rfl, SqT.of h4, rfl, _, _, rfl, rfl, by show (0 : Int) < (pget (sides pms) p).1; omega, rfl, .inr ⟨_, rfl, _, _, rfl, rfl, .inr (flag64 _), ?_⟩⟩⟩
    exact q _ _ sc (flag fun z => if_pos ⟨by omega, V.int.inj z⟩)
  have s7 := s6
  refine if_is "bias" i0 (fun h => ?_) (fun m8 => ?_)
  · have sc := s7
    have g := g0.same sc
    have ht := sc _ _ ht0
    obtain ⟨p, y, rfl⟩ : ∃ p y, d = .bias p y := by cases d <;> first | exact ⟨_, _, rfl⟩ | (exfalso; revert h; dsimp only [Nd.kind]; decide)
    obtain ⟨pr, pa, pf, mm, p1, ep, h4, h5, em⟩ := g.at fit.1
    obtain ⟨_, _, e1, ok⟩ := par fit.1
    have c1 : 1 ≤ (pget (sides pms) p).1 ∧ (pget (sides pms) p).1 ≤ 6 ∧ 1 ≤ (pget (sides pms) p).2 ∧ (pget (sides pms) p).2 ≤ 6 := by rw [e1]; exact ⟨ok.1, ok.2.1, ok.2.2.1, ok.2.2.2.1⟩
    obtain rfl : y = x := V.int.inj (Option.some.inj ha2)
    refine ⟨_, rfl, n, _, _, _, rfl, rfl, SqL.of g.net, rfl, _, rfl, a, _, _, _, rfl, rfl, SqT.of ht, rfl, PL, _, _, _, rfl, rfl, SqL.of p1, ep, ?_⟩
    refine ⟨_, rfl, _, rfl, pa, _, _, _, rfl, rfl, SqT.of h4, rfl, rfl, _, rfl, ?_⟩
    by_cases c : (pget (sides pms) p).1 = 1
    · refine iteD (congrArg V.int c) ?_
      refine ⟨_, rfl, .inl ⟨_, rfl, _, rfl, pa, _, _, _, rfl, rfl, SqT.of h4, rfl, _, _, rfl, rfl, by show (0 : Int) < (pget (sides pms) p).2; omega, rfl, .inr ⟨_, rfl, _, _, rfl, rfl, .inr (flag64 _), ?_⟩⟩⟩
      exact q _ _ sc (flag fun z => if_pos ⟨c, by omega, V.int.inj z⟩)
    · refine iteDN (fun z => c (V.int.inj z)) ?_
      exact .inr ⟨false, rfl, _, _, rfl, rfl, .inr (flag64 _), q _ _ sc flagF⟩
  have s8 := s7
  refine if_in ["mat", "matT"] i0 (by decide) (fun h H9 t9 => ?_) (fun n9 H9 t9 => ?_)
  · have sc := s8.trans t9
    have g := g0.same sc
    have ht := sc _ _ ht0
    rcases (show (∃ c y z0, d = .mat c y z0) ∨ (∃ c y z0, d = .matT c y z0) from by
      cases d <;> first | exact (.inl ⟨_, _, _, rfl⟩) | exact (.inr ⟨_, _, _, rfl⟩) | (exfalso; revert h; dsimp only [Nd.kind]; decide)) with ⟨c, y, z0, rfl⟩ | ⟨c, y, z0, rfl⟩
    · obtain rfl : y = x := V.int.inj (Option.some.inj ha2)
      have rz := fit.2 z0 (.tail _ (.head _))
      have hb2 := bnd rz
      refine ⟨_, rfl, n, _, _, _, rfl, rfl, SqL.of g.net, rfl, _, rfl, a, _, _, _, rfl, rfl, SqT.of ht, rfl, LL, _, _, _, rfl, rfl, SqL.of g.len, at_ints rz, ?_⟩
      have kp : 0 < c := by have := nc.1; omega
      have d1 : 0 ≤ lget ls y / c ∧ lget ls y / c ≤ 12 := ⟨Int.ediv_nonneg (by omega) (by omega), Int.le_trans (Int.ediv_le_self _ (by omega)) hb.2⟩
      have d2 : 0 ≤ lget ls z0 / c ∧ lget ls z0 / c ≤ 12 := ⟨Int.ediv_nonneg (by omega) (by omega), Int.le_trans (Int.ediv_le_self _ (by omega)) hb2.2⟩
      refine ⟨_, rfl, .inl ⟨_, rfl, _, rfl, a, _, _, _, rfl, rfl, SqT.of ht, rfl, _, _, rfl, rfl, kp, rfl, _, rfl, ?_⟩⟩
      by_cases c1 : lget ls y % c = 0
      · refine iteD (congrArg V.int c1) ?_
        refine ⟨_, rfl, .inl ⟨_, rfl, _, rfl, a, _, _, _, rfl, rfl, SqT.of ht, rfl, _, _, rfl, rfl, kp, rfl, ?_⟩⟩
        refine ⟨_, rfl, _, rfl, a, _, _, _, rfl, rfl, SqT.of ht, rfl, _, _, rfl, rfl, ⟨kp, by have := nc.2; omega⟩, _, rfl, _, rfl, a, _, _, _, rfl, rfl, SqT.of ht, rfl, _, _, rfl, rfl, ⟨kp, by have := nc.2; omega⟩, _, _, rfl, rfl, .inl ⟨by omega, by omega⟩, _, rfl, .inr ⟨_, rfl, _, _, rfl, rfl, .inr (flag64 _), ?_⟩⟩
        exact q _ _ sc (flag fun z => if_pos ⟨⟨kp, c1⟩, kp, V.int.inj z⟩)
      · refine iteDN (fun z => c1 (V.int.inj z)) ?_
        refine ⟨_, rfl, _, rfl, a, _, _, _, rfl, rfl, SqT.of ht, rfl, _, _, rfl, rfl, ⟨kp, by have := nc.2; omega⟩, _, rfl, _, rfl, a, _, _, _, rfl, rfl, SqT.of ht, rfl, _, _, rfl, rfl, ⟨kp, by have := nc.2; omega⟩, _, _, rfl, rfl, .inl ⟨by omega, by omega⟩, _, rfl, .inr ⟨false, rfl, _, _, rfl, rfl, .inr (flag64 _), q _ _ sc flagF⟩⟩
    · obtain rfl : y = x := V.int.inj (Option.some.inj ha2)
      have rz := fit.2 z0 (.tail _ (.head _))
      have hb2 := bnd rz
      refine ⟨_, rfl, n, _, _, _, rfl, rfl, SqL.of g.net, rfl, _, rfl, a, _, _, _, rfl, rfl, SqT.of ht, rfl, LL, _, _, _, rfl, rfl, SqL.of g.len, at_ints rz, ?_⟩
      have kp : 0 < c := by have := nc.1; omega
      have d1 : 0 ≤ lget ls y / c ∧ lget ls y / c ≤ 12 := ⟨Int.ediv_nonneg (by omega) (by omega), Int.le_trans (Int.ediv_le_self _ (by omega)) hb.2⟩
      have d2 : 0 ≤ lget ls z0 / c ∧ lget ls z0 / c ≤ 12 := ⟨Int.ediv_nonneg (by omega) (by omega), Int.le_trans (Int.ediv_le_self _ (by omega)) hb2.2⟩
      refine ⟨_, rfl, .inl ⟨_, rfl, _, rfl, a, _, _, _, rfl, rfl, SqT.of ht, rfl, _, _, rfl, rfl, kp, rfl, _, rfl, ?_⟩⟩
      by_cases c1 : lget ls y % c = 0
      · refine iteD (congrArg V.int c1) ?_
        refine ⟨_, rfl, .inl ⟨_, rfl, _, rfl, a, _, _, _, rfl, rfl, SqT.of ht, rfl, _, _, rfl, rfl, kp, rfl, ?_⟩⟩
        refine ⟨_, rfl, _, rfl, a, _, _, _, rfl, rfl, SqT.of ht, rfl, _, _, rfl, rfl, ⟨kp, by have := nc.2; omega⟩, _, rfl, _, rfl, a, _, _, _, rfl, rfl, SqT.of ht, rfl, _, _, rfl, rfl, ⟨kp, by have := nc.2; omega⟩, _, _, rfl, rfl, .inl ⟨by omega, by omega⟩, _, rfl, .inr ⟨_, rfl, _, _, rfl, rfl, .inr (flag64 _), ?_⟩⟩
        exact q _ _ sc (flag fun z => if_pos ⟨⟨kp, c1⟩, kp, V.int.inj z⟩)
      · refine iteDN (fun z => c1 (V.int.inj z)) ?_
        refine ⟨_, rfl, _, rfl, a, _, _, _, rfl, rfl, SqT.of ht, rfl, _, _, rfl, rfl, ⟨kp, by have := nc.2; omega⟩, _, rfl, _, rfl, a, _, _, _, rfl, rfl, SqT.of ht, rfl, _, _, rfl, rfl, ⟨kp, by have := nc.2; omega⟩, _, _, rfl, rfl, .inl ⟨by omega, by omega⟩, _, rfl, .inr ⟨false, rfl, _, _, rfl, rfl, .inr (flag64 _), q _ _ sc flagF⟩⟩
  have s9 := s8.trans t9
  refine if_is "lower" i0 (fun h => ?_) (fun m10 => ?_)
  · have sc := s9
    have g := g0.same sc
    have ht := sc _ _ ht0
    obtain ⟨c, y, rfl⟩ : ∃ c y, d = .lower c y := by cases d <;> first | exact ⟨_, _, rfl⟩ | (exfalso; revert h; dsimp only [Nd.kind]; decide)
    obtain rfl : y = x := V.int.inj (Option.some.inj ha2)
    have kp : 0 < c := by have := nc.1; omega
    refine ⟨_, rfl, _, rfl, .inl ⟨_, rfl, _, rfl, a, _, _, _, rfl, rfl, SqT.of ht, rfl, _, _, rfl, rfl, kp, rfl, .inr ⟨_, rfl, _, _, rfl, rfl, .inr (flag64 _), ?_⟩⟩⟩
    exact q _ _ sc (flag fun z => if_pos ⟨kp, V.int.inj z⟩)
  have s10 := s9
  refine ⟨_, rfl, q _ _ s10 fun _ => ?_⟩
  cases d <;> first
    | (exfalso; first | exact m2 rfl | exact m5 rfl | exact m6 rfl | exact m7 rfl | exact m8 rfl | exact m10 rfl | (revert n1; dsimp only [Nd.kind]; decide) | (revert n3; dsimp only [Nd.kind]; decide) | (revert n4; dsimp only [Nd.kind]; decide) | (revert n9; dsimp only [Nd.kind]; decide))
    | (obtain rfl := V.int.inj (Option.some.inj ha2); exact if_pos nc)

end

section
variable {P : Program} {w : World} {K : PySem.W.Frag} {mg : Str → Option Value} {cs : Cs} {base : Heap} {f : Addr} {fd : FuncData}
theorem ok__law_small_net (F : Fun K "_law_small_net" "_law_small_net" s__law_small_net f fd) (T : Txt K mg cs) (d__law_draw : Def P w K mg base 1 "_law_draw" ["box", "many"] (spDraw)) (d__law_fill : Def P w K mg base 3 "_law_fill" ["box"] (spFill)) (d__law_try : Def P w K mg base 3 "_law_try" ["box", "net"] (spTry)) (d__law_length : Def P w K mg base 1 "_law_length" ["net", "node"] (spLLen)) :
    FnOk P w K mg base CX0 4 f fd ["box", "most"] (spSNet) := by
  obtain ⟨f0, fd0, G__law_draw, b__law_draw, g__law_draw, k__law_draw⟩ := d__law_draw.ex
  obtain ⟨f1, fd1, G__law_fill, b__law_fill, g__law_fill, k__law_fill⟩ := d__law_fill.ex
  obtain ⟨f2, fd2, G__law_try, b__law_try, g__law_try, k__law_try⟩ := d__law_try.ex
  obtain ⟨f3, fd3, G__law_length, b__law_length, g__law_length, k__law_length⟩ := d__law_length.ex
  refine F.ok sc__law_small_net (fun vs H Q E h => ?_) (fun cdv A outer s H vs Q E hr h => ?_)
  · obtain ⟨b, r, rs, most, rfl, B, mo0, mo9, q⟩ := h
    rfl
  obtain ⟨b, r, rs, most, rfl, B, mo0, mo9, q⟩ := h
  have hu := hr.units
  refine ⟨_, pss_cons (ps_set (i := 2) sc__law_small_net.nd rfl (.inl rfl) (pe_op op_add pe_int (pe_callTy call_int1 (by rfl) T.z_int PyProof.Rows.boot_int (pa_cons (pe_cmpR op_gt (pv 1) pe_int (nomark _)) pa_nil))))
 (pss_cons (ps_set (i := 3) sc__law_small_net.nd rfl (.inl rfl) (pe_lst (pa_cons (pe_op op_add pe_int (pe_call G__law_draw (hr.mono (by decide)) rfl g__law_draw k__law_draw b__law_draw .nil pass0 (pa_cons (pv 0) (pa_cons pe_int pa_nil)))) (pa_cons (pe_op op_add pe_int (pe_call G__law_draw (hr.mono (by decide)) rfl g__law_draw k__law_draw b__law_draw .nil pass0 (pa_cons (pv 0) (pa_cons pe_int pa_nil)))) (pa_cons (pe_lst pa_nil) (pa_cons (pe_lst pa_nil) (pa_cons (pe_lst pa_nil) pa_nil)))))))
 (pss_cons (ps_for PassesOwn.never rfl (pi_range1 rfl T.z_range (pa_cons (pe_op op_add pe_int (pe_call G__law_draw (hr.mono (by decide)) rfl g__law_draw k__law_draw b__law_draw .nil pass0 (pa_cons (pv 0) (pa_cons (pv 2) pa_nil)))) pa_nil)) (pg_name (i := 4) sc__law_small_net.nd rfl (.inl rfl)) (pss_one (ps_expr (pe_bm PySem.F.plainAttrs_list PySem.F.slot_list_append PySem.F.type_list_append mt_append (pe_ix (ixl_at (K := K) rfl) (pv 3) pe_int (fun _ _ => rfl)) (pa_cons (pe_tup (pa_cons (pe_op op_add pe_int (pe_call G__law_draw (hr.mono (by decide)) rfl g__law_draw k__law_draw b__law_draw .nil pass0 (pa_cons (pv 0) (pa_cons (pv 2) pa_nil)))) (pa_cons (pe_op op_add pe_int (pe_call G__law_draw (hr.mono (by decide)) rfl g__law_draw k__law_draw b__law_draw .nil pass0 (pa_cons (pv 0) (pa_cons (pv 2) pa_nil)))) (pa_cons (pe_call G__law_fill hr rfl g__law_fill k__law_fill b__law_fill .nil pass0 (pa_cons (pv 0) pa_nil)) pa_nil)))) pa_nil)))))
 (pss_cons (ps_expr (pe_bm PySem.F.plainAttrs_list PySem.F.slot_list_append PySem.F.type_list_append mt_append (pe_ix (ixl_at (K := K) rfl) (pv 3) pe_int (fun _ _ => rfl)) (pa_cons (pe_tup (pa_cons pe_str pa_nil)) pa_nil)))
 (pss_cons (ps_expr (pe_bm PySem.F.plainAttrs_list PySem.F.slot_list_append PySem.F.type_list_append mt_append (pe_ix (ixl_at (K := K) rfl) (pv 3) pe_int (fun _ _ => rfl)) (pa_cons (pe_ix (ixl_at (K := K) rfl) (pv 3) pe_int (fun _ _ => rfl)) pa_nil)))
 (pss_cons (ps_for PassesOwn.never rfl (pi_range1 rfl T.z_range (pa_cons (pe_call G__law_draw (hr.mono (by decide)) rfl g__law_draw k__law_draw b__law_draw .nil pass0 (pa_cons (pv 0) (pa_cons (pe_op op_add (pv 1) pe_int) pa_nil))) pa_nil)) (pg_name (i := 4) sc__law_small_net.nd rfl (.inl rfl)) (pss_cons (ps_set (i := 5) sc__law_small_net.nd rfl (.inl rfl) pe_bl)
 (pss_one (ps_for PassesOwn.never rfl (pi_range1 rfl T.z_range (pa_cons pe_int pa_nil)) (pg_name (i := 6) sc__law_small_net.nd rfl (.inl rfl)) (pss_cons (ps_set (i := 7) sc__law_small_net.nd rfl (.inl rfl) (pe_call G__law_try hr rfl g__law_try k__law_try b__law_try .nil pass0 (pa_cons (pv 0) (pa_cons (pv 3) pa_nil))))
 (pss_cons (ps_set (i := 8) sc__law_small_net.nd rfl (.inl rfl) (pe_call G__law_length (hr.mono (by decide)) rfl g__law_length k__law_length b__law_length .nil pass0 (pa_cons (pv 3) (pa_cons (pv 7) pa_nil))))
 (pss_one (ps_if (PW.pt (pw_and (pt_not (pt_val (pv 5))) (pw_and1 (pt_chain op_lt op_le pe_int (pv 8) pe_int)))) (pss_cons (ps_expr (pe_bm PySem.F.plainAttrs_list PySem.F.slot_list_append PySem.F.type_list_append mt_append (pe_ix (ixl_at (K := K) rfl) (pv 3) pe_int (fun _ _ => rfl)) (pa_cons (pv 7) pa_nil)))
 (pss_cons (ps_expr (pe_bm PySem.F.plainAttrs_list PySem.F.slot_list_append PySem.F.type_list_append mt_append (pe_ix (ixl_at (K := K) rfl) (pv 3) pe_int (fun _ _ => rfl)) (pa_cons (pv 8) pa_nil)))
 (pss_one (ps_set (i := 5) sc__law_small_net.nd rfl (.inl rfl) pe_bl)))) pss_nil))))))))
 (pss_cons (ps_if (pt_cmpR op_ne (pe_ix (ixl_at (K := K) rfl) (pe_ix (ixl_at (K := K) rfl) (pv 3) pe_int (fun _ _ => rfl)) (pe_un un_neg pe_int) (fun _ _ => rfl)) pe_int (nomark _)) (pss_cons (ps_expr (pe_bm PySem.F.plainAttrs_list PySem.F.slot_list_append PySem.F.type_list_append mt_append (pe_ix (ixl_at (K := K) rfl) (pv 3) pe_int (fun _ _ => rfl)) (pa_cons (pe_tup (pa_cons pe_str (pa_cons (pe_op op_sub (pe_callB (len_at (K := K) rfl) (by rfl) T.z_len PySem.boot_len (pa_cons (pe_ix (ixl_at (K := K) rfl) (pv 3) pe_int (fun _ _ => rfl)) pa_nil)) pe_int) pa_nil))) pa_nil)))
 (pss_one (ps_expr (pe_bm PySem.F.plainAttrs_list PySem.F.slot_list_append PySem.F.type_list_append mt_append (pe_ix (ixl_at (K := K) rfl) (pv 3) pe_int (fun _ _ => rfl)) (pa_cons pe_int pa_nil))))) pss_nil)
 (pss_one (ps_ret (pv 3))))))))), ?_⟩
  refine ⟨_, rfl, _, _, rfl, rfl, .inr ⟨_, rfl, _, _, rfl, rfl, ?_⟩⟩
  have hsd : (2 : Int) ≤ 2 + (if decide (3 < most) = true then 1 else 0) ∧ 2 + (if decide (3 < most) = true then 1 else 0) ≤ (3 : Int) := by split <;> omega
  dsimp only
  generalize (2 : Int) + (if decide (3 < most) = true then 1 else 0) = side at *
  refine ⟨_, rfl, b, r, rs, 3, rfl, B, by decide, fun v1 H1 v10 v11 B1 e1 => ?_⟩
  refine ⟨_, _, rfl, rfl, _, rfl, b, r, rs, 2, rfl, B1, by decide, fun v2 H2 v20 v21 B2 e2 => ?_⟩
  refine ⟨_, _, rfl, rfl, Nat.zero_le _, fun PL nP => ⟨Nat.zero_le _, fun NL nN => ⟨Nat.zero_le _, fun LL nL => ⟨by show 5 ≤ sizeLine; decide, fun n nn => ?_⟩⟩⟩⟩
  have x2 : Exc [b] H H2 := .but (e1.trans e2) (.head _)
  have new : ∀ c, H2 c = none → H c = none := fun c h => by
    cases z : H c with
    | none => rfl
    | some o =>
      by_cases hcb : c = b
      · obtain ⟨_, _, hb⟩ := B2.ex
        rw [hcb, hb] at h
        cases h
      · rw [x2 c o (fun w => hcb (List.mem_singleton.mp w)) z] at h
        cases h
  obtain ⟨zb, zb0, hb2⟩ := B2.ex
  have hP : PL ≠ NL := ne_of_none upd_same nN
  have nN2 : H2 NL = none := by rw [upd_ne hP.symm] at nN; exact nN
  have hN : NL ≠ LL := ne_of_none upd_same nL
  have hP2 : PL ≠ LL := ne_of_none (show (upd (upd H2 PL (.lst [])) NL (.lst [])) PL = some (.lst []) by rw [upd_ne hP]; exact upd_same) nL
  have nL2 : H2 LL = none := by rw [upd_ne hN.symm, upd_ne hP2.symm] at nL; exact nL
  have hL : LL ≠ n := ne_of_none upd_same nn
  have hN2 : NL ≠ n := ne_of_none (show (upd (upd (upd H2 PL (.lst [])) NL (.lst [])) LL (.lst [])) NL = some (.lst []) by rw [upd_ne hN]; exact upd_same) nn
  have hP3 : PL ≠ n := ne_of_none (show (upd (upd (upd H2 PL (.lst [])) NL (.lst [])) LL (.lst [])) PL = some (.lst []) by rw [upd_ne hP2, upd_ne hP]; exact upd_same) nn
  have nn2 : H2 n = none := by rw [upd_ne hL.symm, upd_ne hN2.symm, upd_ne hP3.symm] at nn; exact nn
  have bP : b ≠ PL := ne_of_none hb2 nP
  have bN : b ≠ NL := ne_of_none hb2 nN2
  have bL : b ≠ LL := ne_of_none hb2 nL2
  have bn : b ≠ n := ne_of_none hb2 nn2
  have rP : r ≠ PL := ne_of_none B2.row nP
  have rN : r ≠ NL := ne_of_none B2.row nN2
  have rL : r ≠ LL := ne_of_none B2.row nL2
  have s1 := same_new nP (.lst [])
  have s2 := same_new nN (.lst [])
  have s3 := same_new nL (.lst [])
  have s4 := same_new nn (.lst [.int (1 + v1), .int (1 + v2), .ref PL, .ref NL, .ref LL])
  have g0 : G (upd (upd (upd (upd H2 PL (.lst [])) NL (.lst [])) LL (.lst [])) n (.lst [.int (1 + v1), .int (1 + v2), .ref PL, .ref NL, .ref LL])) b r rs n PL NL LL (1 + v1) (1 + v2) [] [] [] :=
    ⟨B2.same (((s1.trans s2).trans s3).trans s4), upd_same, ⟨[], s4 _ _ (s3 _ _ (s2 _ _ upd_same)), .nil⟩, ⟨[], s4 _ _ (s3 _ _ upd_same), .nil⟩, s4 _ _ upd_same, ⟨bn, bP, bN, bL, rP, rN, rL, hP3.symm, hN2.symm, hL.symm, hP, hP2, hN⟩⟩
  have x0 : Exc [b] H (upd (upd (upd (upd H2 PL (.lst [])) NL (.lst [])) LL (.lst [])) n (.lst [.int (1 + v1), .int (1 + v2), .ref PL, .ref NL, .ref LL])) := x2.trans (.of (((s1.trans s2).trans s3).trans s4))
  generalize upd (upd (upd (upd H2 PL (.lst [])) NL (.lst [])) LL (.lst [])) n (.lst [.int (1 + v1), .int (1 + v2), .ref PL, .ref NL, .ref LL]) = H3 at *
  have u0 : Built (1 + v1) (1 + v2) [] [] [] := ⟨by omega, by omega, by omega, by omega, (fun m h => by cases h), Nat.zero_le _, rfl, rfl, (fun l h => by cases h), (fun d h => by cases h)⟩
  have inb : ∀ {H5 : Hp} {c : Addr} {o : HO}, Exc [b] H H5 → H c = none → Exc [b] H (upd H5 c o) := fun x h => x.fresh (exc_one _ _) fun c hc => by rw [List.mem_singleton.mp hc]; exact .inr h
  -- the parameters
  refine ⟨_, rfl, _, rfl, b, r, rs, side, rfl, g0.box, by omega, fun w1 H4 w10 w11 B4 e4 => ?_⟩
  refine ⟨_, _, rfl, rfl, 1 + w1, rfl, by omega, by omega, ?_⟩
  refine for_range (fun (t : Nat) σ H' => ∃ (y4 : Option V) (pms : List (Int × Int × Str × Int)), σ = [some (.ref b), some (.int most), some (.int side), some (.ref n), y4, none, none, none, none] ∧ G H' b r rs n PL NL LL (1 + v1) (1 + v2) pms [] [] ∧ Built (1 + v1) (1 + v2) pms [] [] ∧ pms.length = t ∧ (∀ m ∈ pms, m.1 ≤ 3 ∧ m.2.1 ≤ 3) ∧ Exc [b] H H')
    ⟨none, [], rfl, g0.but B4 e4, u0, rfl, (fun m h => by cases h), x0.trans (.but e4 (.head _))⟩ (fun t σ H' ht hP => ?_) (fun σ H' hP => ?_)
  · obtain ⟨y4, pms, rfl, g, u, hl, sd3, x⟩ := hP
    obtain ⟨pr, p1, p2⟩ := g.par
    refine ⟨_, rfl, n, _, _, _, rfl, rfl, SqL.of g.net, rfl, .inl ⟨rfl, _, .inl (.inl p1)⟩, ?_⟩
    refine ⟨_, rfl, _, rfl, b, r, rs, side, rfl, g.box, by omega, fun ro H5 ro0 ro1 B5 e5 => ⟨_, _, rfl, rfl, ?_⟩⟩
    refine ⟨_, rfl, _, rfl, b, r, rs, side, rfl, B5, by omega, fun co H6 co0 co1 B6 e6 => ⟨_, _, rfl, rfl, ?_⟩⟩
    refine ⟨_, rfl, b, r, rs, rfl, B6, fun f kd w H7 B7 e7 nf hf fo => ?_⟩
    have g7 := ((g.but B5 e5).but B6 e6).but B7 e7
    refine ⟨by show 3 ≤ sizeLine; decide, fun pt npt => ?_⟩
    generalize eqH : upd H7 pt _ = H8
    obtain ⟨s8, h8⟩ := new_facts eqH npt
    have g8 := g7.same s8
    obtain ⟨pr8, p81, p82⟩ := g8.par
    have epr : H8 PL = some (.lst (pr.map V.ref)) := s8 _ _ (e7 _ _ g.dis.bp.symm (e6 _ _ g.dis.bp.symm (e5 _ _ g.dis.bp.symm p1)))
    have epr2 : pr8 = pr := by
      rw [p81] at epr
      exact (List.map_inj_right (f := V.ref) fun a b h => V.ref.inj h).mp (HO.lst.inj (Option.some.inj epr))
    subst epr2
    refine ⟨PL, _, _, rfl, rfl, p81, smaller (by rw [List.length_map, p82.length]; omega), ?_⟩
    have pok : PmOk (1 + ro, 1 + co, kd, w) := ⟨by show 1 ≤ 1 + ro; omega, by show 1 + ro ≤ 6; omega, by show 1 ≤ 1 + co; omega, by show 1 + co ≤ 6; omega, fo⟩
    refine ⟨_, _, rfl, g8.addPm p81 p82 ⟨f, h8, s8 _ _ hf⟩, u.grow pok (by omega), by rw [List.length_append, hl]; rfl, fun m hm => ?_, inb (((x.trans (.but e5 (.head _))).trans (.but e6 (.head _))).trans (.but e7 (.head _)) |>.trans (.of s8)) (new _ nP)⟩
    rcases List.mem_append.mp hm with h | h
    · exact sd3 m h
    · rw [List.mem_singleton.mp h]; exact ⟨by show 1 + ro ≤ 3; omega, by show 1 + co ≤ 3; omega⟩
  obtain ⟨y4, pms, rfl, g, u, hl, sd3, x⟩ := hP
  have lpm : 1 ≤ pms.length ∧ pms.length ≤ 3 := by omega
  -- the input
  obtain ⟨nr, n1, n2⟩ := g.nod
  refine ⟨_, rfl, n, _, _, _, rfl, rfl, SqL.of g.net, rfl, .inl ⟨rfl, _, .inl (.inl n1)⟩, by show 1 ≤ sizeLine; decide, fun it nit => ?_⟩
  generalize eqH : upd H' it _ = H5
  obtain ⟨s5, h5⟩ := new_facts eqH nit
  clear eqH
  have g5 := g.same s5
  have n15 := s5 _ _ n1
  refine ⟨NL, _, _, rfl, rfl, n15, smaller (by rw [List.length_map, n2.length]; decide), ?_⟩
  have g6 := g5.addNd n15 (n2.mono fun _ _ w => NdT.exc (Exc.of (S := []) s5) (fun c hc => by cases hc) w) (d := .input) h5
  have x6 := inb (x.trans (.of s5)) (new _ nN2) (o := .lst (nr.map V.ref ++ [.ref it]))
  generalize upd H5 NL (.lst (nr.map V.ref ++ [.ref it])) = H6 at *
  refine ⟨_, rfl, n, _, _, _, rfl, rfl, SqL.of g6.net, rfl, .inl ⟨rfl, _, .inl (.inl g6.len)⟩, _, rfl, n, _, _, _, rfl, rfl, SqL.of g6.net, rfl, LL, _, _, rfl, rfl, g6.len, (by show 0 < sizeLine; decide), ?_⟩
  have g7 := g6.addLen (1 + v1)
  have u7 := u.snoc (d := .input) (len := 1 + v1) (good_of True.intro (fun o h => by cases h) rfl (by omega) (by omega) True.intro)
  have x7 := inb x6 (new _ nL2) (o := .lst (([] : List Int).map V.int ++ [.int (1 + v1)]))
  generalize upd H6 LL (.lst (([] : List Int).map V.int ++ [.int (1 + v1)])) = H7 at *
  -- the nodes
  refine ⟨_, rfl, _, rfl, _, _, rfl, rfl, b, r, rs, most + 1, rfl, g7.box, by omega, fun w2 H8 w20 w21 B8 e8 => ?_⟩
  refine ⟨w2, rfl, by omega, by omega, ?_⟩
  refine for_range (fun (t : Nat) σ H' => ∃ (y4 y5 y6 y7 y8 : Option V) (nds : List Nd) (ls : List Int), σ = [some (.ref b), some (.int most), some (.int side), some (.ref n), y4, y5, y6, y7, y8] ∧ G H' b r rs n PL NL LL (1 + v1) (1 + v2) pms nds ls ∧ Built (1 + v1) (1 + v2) pms nds ls ∧ 1 ≤ nds.length ∧ nds.length ≤ 1 + t ∧ (∃ r, nds = .input :: r) ∧ Exc [b] H H')
    ⟨_, none, none, none, none, [.input], [1 + v1], rfl, g7.but B8 e8, u7, Nat.le_refl _, Nat.le_refl _, ⟨_, rfl⟩, x7.trans (.but e8 (.head _))⟩ (fun t σ H' ht hP => ?_) (fun σ H' hP => ?_)
  · obtain ⟨y4, y5, y6, y7, y8, nds, ls, rfl, g, u, l1, l2, hin, x⟩ := hP
    refine ⟨3, rfl, by decide, by decide, ?_⟩
    refine for_range (fun (s : Nat) σ H' => ∃ (y6 y7 y8 : Option V) (done : Bool) (nds : List Nd) (ls : List Int), σ = [some (.ref b), some (.int most), some (.int side), some (.ref n), some (.int (0 + (t : Int))), some (.bl done), y6, y7, y8] ∧ G H' b r rs n PL NL LL (1 + v1) (1 + v2) pms nds ls ∧ Built (1 + v1) (1 + v2) pms nds ls ∧ 1 ≤ nds.length ∧ nds.length ≤ (if done then 2 else 1) + t ∧ (∃ r, nds = .input :: r) ∧ Exc [b] H H')
      ⟨y6, y7, y8, false, nds, ls, rfl, g, u, l1, l2, hin, x⟩ (fun s σ H' hs hP => ?_) (fun σ H' hP => ?_)
    · obtain ⟨y6, y7, y8, done, nds, ls, rfl, g, u, l1, l2, hin, x⟩ := hP
      have l2' : nds.length ≤ 2 + t := Nat.le_trans l2 (by split <;> omega)
      refine ⟨_, rfl, _, rfl, b, r, rs, n, PL, NL, LL, _, _, pms, nds, ls, rfl, g, u, l1, by omega, lpm.1, fun nt d H9 g9 e9 hnt fit nc => ?_⟩
      refine ⟨_, rfl, _, rfl, b, r, rs, n, PL, NL, LL, nt, _, _, pms, nds, ls, d, rfl, g9, u, hnt, fit, nc, fun len H10 s10 hlen => ?_⟩
      have g10 := g9.same s10
      have x10 := (x.trans (.but e9 (.head _))).trans (.of s10)
      refine ⟨_, rfl, done, rfl, ?_⟩
      cases done with
      | true => exact iteF ⟨_, _, _, true, nds, ls, rfl, g10, u, l1, l2, hin, x10⟩
      | false =>
        refine iteT ?_
        refine ⟨_, rfl, chain01 ⟨_, rfl, ?_⟩⟩
        by_cases c : 1 ≤ len ∧ len ≤ 12
        · refine iteD c ?_
          obtain ⟨nr, n1, n2⟩ := g10.nod
          have gd : Good (1 + v1) (1 + v2) pms ls d len := ⟨by unfold Nd.lenOf; rw [if_pos (by rw [sides_len]; exact fit)]; exact hlen c.1, c.1, c.2, nc.tame'⟩
          refine ⟨_, rfl, n, _, _, _, rfl, rfl, SqL.of g10.net, rfl, .inl ⟨rfl, _, .inl (.inl n1)⟩, _, rfl, NL, _, _, rfl, rfl, n1, smaller (by rw [List.length_map, n2.length]; omega), ?_⟩
          have g11 := g10.addNd n1 n2 (s10 _ _ hnt)
          have x11 := inb x10 (new _ nN2) (o := .lst (nr.map V.ref ++ [.ref nt]))
          generalize upd H10 NL (.lst (nr.map V.ref ++ [.ref nt])) = H11 at *
          refine ⟨_, rfl, n, _, _, _, rfl, rfl, SqL.of g11.net, rfl, .inl ⟨rfl, _, .inl (.inl g11.len)⟩, _, rfl, LL, _, _, rfl, rfl, g11.len, smaller (by rw [List.length_map]; have := u.all; omega), ?_⟩
          obtain ⟨rr, hr⟩ := hin
          have l2 : nds.length ≤ 1 + t := l2
          exact ⟨_, _, _, true, _, _, rfl, g11.addLen len, u.snoc gd, by rw [List.length_append]; omega, by rw [List.length_append]; show nds.length + 1 ≤ 2 + t; omega, ⟨rr ++ [d], by rw [hr]; rfl⟩, inb x11 (new _ nL2)⟩
        · exact iteDN c ⟨_, _, _, false, nds, ls, rfl, g10, u, l1, l2, hin, x10⟩
    · obtain ⟨y6, y7, y8, done, nds, ls, rfl, g, u, l1, l2, hin, x⟩ := hP
      have l2' : nds.length ≤ 2 + t := Nat.le_trans l2 (by split <;> omega)
      exact ⟨_, _, _, _, _, nds, ls, rfl, g, u, l1, by omega, hin, x⟩
  · obtain ⟨y4, y5, y6, y7, y8, nds, ls, rfl, g, u, l1, l2, hin, x⟩ := hP
    have ul := u.all
    have hne : ls ≠ [] := fun z => by rw [z] at ul; have : nds.length = 0 := ul.symm; omega
    obtain ⟨l0, z, rfl⟩ : ∃ l0 z, ls = l0 ++ [z] := ⟨ls.dropLast, ls.getLast hne, (List.dropLast_concat_getLast hne).symm⟩
    have al : atI ((l0 ++ [z]).map V.int) (-1) = some (.int z) := by
      rw [List.map_append]
      exact atI_last _ _
    obtain ⟨nr, n1, n2⟩ := g.nod
    have ln : nr.length = nds.length := n2.length
    refine ⟨_, rfl, n, _, _, _, rfl, rfl, SqL.of g.net, rfl, 1, rfl, LL, _, _, _, rfl, rfl, SqL.of g.len, al, rfl, _, rfl, ?_⟩
    by_cases hz : z = 1
    · refine iteNS (congrArg V.int hz) ?_
      exact ⟨_, rfl, q n PL NL LL _ _ pms nds _ H' g u ⟨l0, by rw [hz]⟩ (by omega) ⟨lpm.1, lpm.2, sd3⟩ hin x (new _ nn2) (new _ nP) (new _ nN2) (new _ nL2)⟩
    · refine iteNN (fun w => hz (V.int.inj w)) ?_
      refine ⟨_, rfl, n, _, _, _, rfl, rfl, SqL.of g.net, rfl, .inl ⟨rfl, _, .inl (.inl n1)⟩, ?_⟩
      refine ⟨_, rfl, n, _, _, _, rfl, rfl, SqL.of g.net, rfl, NL, _, rfl, .inl (SqL.of n1), _, _, rfl, rfl, by show 2 ≤ sizeLine; decide, fun t1 nt1 => ?_⟩
      have ea : (((nr.map V.ref).length : Nat) : Int) - 1 = (nds.length : Int) - 1 := by rw [List.length_map, ln]
      have s5 := same_new nt1 (.tup [.str "sum", .int ((((nr.map V.ref).length : Nat) : Int) - 1)])
      have g5 := g.same s5
      have gd : Good (1 + v1) (1 + v2) pms (l0 ++ [z]) (.sum ((((nr.map V.ref).length : Nat) : Int) - 1)) 1 := good_of True.intro (fun o ho => by rw [List.mem_singleton.mp ho]; exact ⟨by rw [ea]; omega, by rw [ea]; omega⟩) rfl (by decide) (by decide) True.intro
      have h5 : NdT (upd H' t1 (.tup [.str "sum", .int ((((nr.map V.ref).length : Nat) : Int) - 1)])) t1 (.sum ((((nr.map V.ref).length : Nat) : Int) - 1)) := upd_same
      have x5 : Exc [b] H (upd H' t1 (.tup [.str "sum", .int ((((nr.map V.ref).length : Nat) : Int) - 1)])) := x.trans (.of s5)
      have n15 := s5 _ _ n1
      have n25 : All2 (NdT (upd H' t1 (.tup [.str "sum", .int ((((nr.map V.ref).length : Nat) : Int) - 1)]))) nr nds := n2.mono fun _ _ w => s5 _ _ w
      generalize upd H' t1 (.tup [.str "sum", .int ((((nr.map V.ref).length : Nat) : Int) - 1)]) = H5 at *
      refine ⟨NL, _, _, rfl, rfl, n15, smaller (by rw [List.length_map]; omega), ?_⟩
      have g6 := g5.addNd n15 n25 h5
      have x7 : Exc [b] H (upd H5 NL (.lst (nr.map V.ref ++ [.ref t1]))) := x5.fresh (exc_one NL _) fun c hc => by rw [List.mem_singleton.mp hc]; exact .inr (new _ nN2)
      generalize upd H5 NL (.lst (nr.map V.ref ++ [.ref t1])) = H6 at *
      refine ⟨_, rfl, n, _, _, _, rfl, rfl, SqL.of g6.net, rfl, .inl ⟨rfl, _, .inl (.inl g6.len)⟩, LL, _, _, rfl, rfl, g6.len, smaller (by rw [List.length_map]; omega), ?_⟩
      have x8 : Exc [b] H (upd H6 LL (.lst ((l0 ++ [z]).map V.int ++ [.int 1]))) := x7.fresh (exc_one LL _) fun c hc => by rw [List.mem_singleton.mp hc]; exact .inr (new _ nL2)
      exact ⟨_, rfl, q n PL NL LL _ _ pms _ _ _ (g6.addLen 1) (u.snoc gd) ⟨_, rfl⟩ (by rw [List.length_append, List.length_singleton]; omega) ⟨lpm.1, lpm.2, sd3⟩ (by obtain ⟨rr, hr⟩ := hin; exact ⟨rr ++ [_], by rw [hr]; rfl⟩) x8 (new _ nn2) (new _ nP) (new _ nN2) (new _ nL2)⟩

end

section
variable {P : Program} {w : World} {K : PySem.W.Frag} {mg : Str → Option Value} {cs : Cs} {base : Heap} {f : Addr} {fd : FuncData}
theorem ok__law_job (F : Fun K "_law_job" "_law_job" s__law_job f fd) (T : Txt K mg cs) (d__law_small_net : Def P w K mg base 4 "_law_small_net" ["box", "most"] (spSNet)) (d__law_draw : Def P w K mg base 1 "_law_draw" ["box", "many"] (spDraw)) (d__law_word : Def P w K mg base 2 "_law_word" ["box"] (spWord)) :
    FnOk P w K mg base CX0 5 f fd ["box", "most"] (spSJob) := by
  obtain ⟨f0, fd0, G__law_small_net, b__law_small_net, g__law_small_net, k__law_small_net⟩ := d__law_small_net.ex
  obtain ⟨f1, fd1, G__law_draw, b__law_draw, g__law_draw, k__law_draw⟩ := d__law_draw.ex
  obtain ⟨f2, fd2, G__law_word, b__law_word, g__law_word, k__law_word⟩ := d__law_word.ex
  refine F.ok sc__law_job (fun vs H Q E h => ?_) (fun cdv A outer s H vs Q E hr h => ?_)
  · obtain ⟨b, r, rs, most, rfl, B, m0, m9, q⟩ := h
    rfl
  obtain ⟨b, r, rs, most, rfl, B, m0, m9, q⟩ := h
  have hu := hr.units
  refine ⟨_, pss_cons (ps_set (i := 2) sc__law_job.nd rfl (.inl rfl) (pe_call G__law_small_net hr rfl g__law_small_net k__law_small_net b__law_small_net .nil pass0 (pa_cons (pv 0) (pa_cons (pv 1) pa_nil))))
 (pss_cons (ps_set (i := 3) sc__law_job.nd rfl (.inl rfl) (pe_lst pa_nil))
 (pss_cons (ps_for PassesOwn.never rfl (pi_range1 rfl T.z_range (pa_cons (pe_op op_add pe_int (pe_call G__law_draw (hr.mono (by decide)) rfl g__law_draw k__law_draw b__law_draw .nil pass0 (pa_cons (pv 0) (pa_cons pe_int pa_nil)))) pa_nil)) (pg_name (i := 4) sc__law_job.nd rfl (.inl rfl)) (pss_cons (ps_setLc (i := 5) (own := [("j", 7)]) (g := gName 7) (tt := tYes)  rfl sc__law_job.nd rfl rfl (sw_true rfl rfl rfl (by decide +kernel)) (pi_range1 rfl T.z_range (pa_cons (pe_ix (ixl_at (K := K) rfl) (pv 2) pe_int (fun _ _ => rfl)) pa_nil)) (blkOk_by (N := ["box", "most", "net", "data", "k", "inputs", "rates", "j"]) (sc := defScope s__law_job) (by decide +kernel)) (fun _ _ _ _ _ => (pg_name (i := 7) sc__law_job.nd rfl (.inl rfl))) (fun _ _ _ _ _ => pts_nil) (fun _ _ _ _ _ => (pe_call G__law_word (hr.mono (by decide)) rfl g__law_word k__law_word b__law_word .nil pass0 (pa_cons (pv 0) pa_nil))))
 (pss_one (ps_expr (pe_bm PySem.F.plainAttrs_list PySem.F.slot_list_append PySem.F.type_list_append mt_append (pv 3) (pa_cons (pe_tup (pa_cons (pv 5) (pa_cons (pe_lc (own := [("j", 7)]) (g := gName 7) (tt := tYes)  rfl sc__law_job.nd (pi_range1 rfl T.z_range (pa_cons (pe_ix (ixl_at (K := K) rfl) (pv 2) pe_int (fun _ _ => rfl)) pa_nil)) (blkOk_by (N := ["box", "most", "net", "data", "k", "inputs", "rates", "j"]) (sc := defScope s__law_job) (by decide +kernel)) (fun _ _ _ _ _ => (pg_name (i := 7) sc__law_job.nd rfl (.inl rfl))) (fun _ _ _ _ _ => pts_nil) (fun _ _ _ _ _ => (pe_call G__law_word (hr.mono (by decide)) rfl g__law_word k__law_word b__law_word .nil pass0 (pa_cons (pv 0) pa_nil)))) pa_nil))) pa_nil))))))
 (pss_cons (ps_set (i := 6) sc__law_job.nd rfl (.inl rfl) (pe_lst pa_nil))
 (pss_cons (ps_for PassesOwn.never rfl (pi_range1 rfl T.z_range (pa_cons (pe_call G__law_draw (hr.mono (by decide)) rfl g__law_draw k__law_draw b__law_draw .nil pass0 (pa_cons (pv 0) (pa_cons pe_int pa_nil))) pa_nil)) (pg_name (i := 4) sc__law_job.nd rfl (.inl rfl)) (pss_one (ps_expr (pe_bm PySem.F.plainAttrs_list PySem.F.slot_list_append PySem.F.type_list_append mt_append (pv 6) (pa_cons (pe_tup (pa_cons (pe_call G__law_draw (hr.mono (by decide)) rfl g__law_draw k__law_draw b__law_draw .nil pass0 (pa_cons (pv 0) (pa_cons pe_int pa_nil))) (pa_cons (pe_call G__law_word (hr.mono (by decide)) rfl g__law_word k__law_word b__law_word .nil pass0 (pa_cons (pv 0) pa_nil)) pa_nil))) pa_nil)))))
 (pss_one (ps_ret (pe_lst (pa_cons (pv 2) (pa_cons (pe_call G__law_word (hr.mono (by decide)) rfl g__law_word k__law_word b__law_word .nil pass0 (pa_cons (pv 0) pa_nil)) (pa_cons (pe_op op_add pe_int (pe_call G__law_draw (hr.mono (by decide)) rfl g__law_draw k__law_draw b__law_draw .nil pass0 (pa_cons (pv 0) (pa_cons pe_int pa_nil)))) (pa_cons (pe_call G__law_word (hr.mono (by decide)) rfl g__law_word k__law_word b__law_word .nil pass0 (pa_cons (pv 0) pa_nil)) (pa_cons (pe_call G__law_draw (hr.mono (by decide)) rfl g__law_draw k__law_draw b__law_draw .nil pass0 (pa_cons (pv 0) (pa_cons pe_int pa_nil))) (pa_cons (pv 6) (pa_cons (pv 3) pa_nil)))))))))))))), ?_⟩
  refine ⟨_, rfl, _, rfl, b, r, rs, most, rfl, B, m0, m9, fun n PL NL LL ni nt pms nds ls H1 g u hlast hlen ⟨lp1, lp3, sd3⟩ hin x1 nn nP nN nL => ?_⟩
  have e01 : But b H H1 := fun c o nc h => x1 c o (fun z => nc (List.mem_singleton.mp z)) h
  have u1 := u.ni1
  have u2 := u.ni3
  have u3 := u.nt1
  have u4 := u.nt2
  have nnb : n ≠ b := g.dis.bn.symm
  refine ⟨Nat.zero_le _, fun DL nD => ?_⟩
  obtain ⟨bx, hb⟩ := g.box.lst
  have nbD : DL ≠ b := (ne_of_none hb nD).symm
  have s2 := same_new nD (.lst [])
  refine ⟨_, rfl, b, r, rs, 4, rfl, g.box.same s2, by decide, fun m Hm v0 v4 Bm em => ⟨_, _, rfl, rfl, ?_⟩⟩
  refine ⟨1 + m, rfl, by omega, by omega, ?_⟩
  refine for_range (fun (t : Nat) σ H' => ∃ (y4 y5 : Option V) (data : List (List Int × List Int)) (us : List V), σ = [some (.ref b), some (.int most), some (.ref n), some (.ref DL), y4, y5, none, none] ∧ Box H' b r rs ∧ But b H1 H' ∧ H' DL = some (.lst us) ∧ All2 (DV (Off b DL) H' 3) us (data.map sampD) ∧ data.length = t ∧
      ∀ p ∈ data, (p.1.length : Int) = ni ∧ (p.2.length : Int) = nt ∧ (∀ x ∈ p.1, isW x) ∧ ∀ x ∈ p.2, isW x)
    ⟨none, none, [], [], rfl, Bm, (But.of s2).trans em, em _ _ nbD upd_same, .nil, rfl, fun p h => by cases h⟩ (fun t σ H' ht hP => ?_) (fun σ H' hP => ?_)
  · obtain ⟨y4, y5, data, us, rfl, B1, e1, hD, au, ld, okd⟩ := hP
    have lu : us.length = data.length := by rw [au.length, List.length_map]
    have gn := (g.but B1 e1).net
    refine ⟨_, rfl, n, _, _, _, rfl, rfl, SqL.of gn, rfl, ni, rfl, by omega, by omega, fun D nD2 => ?_⟩
    obtain ⟨bx1, hb1⟩ := B1.lst
    have DDb : D ≠ b := (ne_of_none hb1 nD2).symm
    have DDD : D ≠ DL := fun z => by rw [z, hD] at nD2; cases nD2
    refine lc_range (n := ni.toNat) (fun (t : Nat) H2 => ∃ xs : List Int, Box H2 b r rs ∧ But b H' H2 ∧ H2 D = some (.lst (xs.map V.int)) ∧ xs.length = t ∧ ∀ x ∈ xs, isW x) ⟨[], B1.same (same_new nD2 _), .of (same_new nD2 _), upd_same, rfl, fun x h => by cases h⟩ (fun k H2 hk hP => ?_) (fun H2 hP => ?_)
    · obtain ⟨xs, B2, e2, h2, lx, wx⟩ := hP
      refine ⟨rfl, _, rfl, b, r, rs, rfl, B2, fun v H3 v0 v1 B3 e3 => ?_⟩
      refine ⟨_, e3 _ _ DDb h2, smaller (by rw [List.length_map]; omega), xs ++ [v], B3.mut B1 nD2, (e2.trans e3).mut nD2, map_more _ _, by rw [List.length_append, lx]; rfl, all_snoc wx ⟨v0, v1⟩⟩
    obtain ⟨xs, B2, e2, hx, lx, wx⟩ := hP
    have hD2 := e2 _ _ nbD hD
    refine ⟨_, rfl, .inl ⟨rfl, _, .inl (.inl hD2)⟩, _, rfl, _, rfl, n, _, _, _, rfl, rfl, SqL.of (e2 _ _ nnb gn), rfl, nt, rfl, by omega, by omega, fun E nE => ?_⟩
    obtain ⟨bx2, hb2⟩ := B2.lst
    have EDb : E ≠ b := (ne_of_none hb2 nE).symm
    have EDD : E ≠ DL := fun z => by rw [z, hD2] at nE; cases nE
    refine lc_range (n := nt.toNat) (fun (t : Nat) H3 => ∃ ys : List Int, Box H3 b r rs ∧ But b H2 H3 ∧ H3 E = some (.lst (ys.map V.int)) ∧ ys.length = t ∧ ∀ x ∈ ys, isW x) ⟨[], B2.same (same_new nE _), .of (same_new nE _), upd_same, rfl, fun x h => by cases h⟩ (fun k H3 hk hP => ?_) (fun H3 hP => ?_)
    · obtain ⟨ys, B3, e3, h3, ly, wy⟩ := hP
      refine ⟨rfl, _, rfl, b, r, rs, rfl, B3, fun v H4 v0 v1 B4 e4 => ?_⟩
      refine ⟨_, e4 _ _ EDb h3, smaller (by rw [List.length_map]; omega), ys ++ [v], B4.mut B2 nE, (e3.trans e4).mut nE, map_more _ _, by rw [List.length_append, ly]; rfl, all_snoc wy ⟨v0, v1⟩⟩
    obtain ⟨ys, B3, e3, hy, ly, wy⟩ := hP
    have hD3 := e3 _ _ nbD hD2
    refine ⟨by show 2 ≤ sizeLine; decide, fun tp ntp => ?_⟩
    generalize eqH : upd H3 tp _ = H4
    obtain ⟨s4, h4⟩ := new_facts eqH ntp
    clear eqH
    have e14 : But b H' H4 := (e2.trans e3).trans (.of s4)
    obtain ⟨bx3, hb3⟩ := B3.lst
    have hD4 := s4 _ _ hD3
    have ntD : tp ≠ DL := fun z => by rw [z, hD3] at ntp; cases ntp
    have ntb : tp ≠ b := (ne_of_none hb3 ntp).symm
    refine ⟨DL, us, _, rfl, rfl, hD4, smaller (by omega), ?_⟩
    refine ⟨_, _, data ++ [(xs, ys)], us ++ [.ref tp], rfl, (B3.same s4).mut g.box nD, (e1.trans e14).mut nD, upd_same, ?_, by rw [List.length_append, ld]; rfl, fun p hp => ?_⟩
    · rw [List.map_append]
      have hv : DV (Off b DL) H4 3 (.ref tp) (sampD (xs, ys)) := samp_dv ⟨ntb, ntD⟩ ⟨DDb, DDD⟩ ⟨EDb, EDD⟩ h4 (s4 _ _ (e3 _ _ DDb hx)) (s4 _ _ hy) (by show xs.length ≤ 100000; omega) (by show ys.length ≤ 100000; omega)
      exact DV.grow (fun c o s h => e14 c o s.1 h) au hv _
    · rcases List.mem_append.mp hp with z | z
      · exact okd p z
      · rw [List.mem_singleton.mp z]; exact ⟨by show (xs.length : Int) = ni; omega, by show (ys.length : Int) = nt; omega, wx, wy⟩
  obtain ⟨y4, y5, data, us, rfl, B1, e1, hD, au, ld, okd⟩ := hP
  have lu : us.length = data.length := by rw [au.length, List.length_map]
  have dD : DV (· ≠ b) H' 4 (.ref DL) (.l (data.map sampD)) := ⟨DL, us, rfl, nbD, hD, by omega, au.mono fun _ _ w => w.keep fun a o s h => ⟨s.1, h⟩⟩
  -- rates
  refine ⟨Nat.zero_le _, fun RL nR => ?_⟩
  obtain ⟨bx1, hb1⟩ := B1.lst
  have nbR : RL ≠ b := (ne_of_none hb1 nR).symm
  have s3 := same_new nR (.lst [])
  refine ⟨_, rfl, b, r, rs, 3, rfl, B1.same s3, by decide, fun m2 Hm2 w0 w3 Bm2 em2 => ?_⟩
  refine ⟨m2, rfl, by omega, by omega, ?_⟩
  refine for_range (fun (t : Nat) σ H'' => ∃ (y4 : Option V) (rates : List (Int × Int)) (vs : List V), σ = [some (.ref b), some (.int most), some (.ref n), some (.ref DL), y4, y5, some (.ref RL), none] ∧ Box H'' b r rs ∧ But b H' H'' ∧ H'' RL = some (.lst vs) ∧
      All2 (DV (Off b RL) H'' 2) vs (rates.map rateD) ∧ rates.length ≤ t ∧ ∀ p ∈ rates, 0 ≤ p.1 ∧ p.1 ≤ 4294967295 ∧ isW p.2)
    ⟨y4, [], [], rfl, Bm2, (But.of s3).trans em2, em2 _ _ nbR upd_same, .nil, Nat.zero_le _, fun p h => by cases h⟩ (fun t σ H'' ht hP => ?_) (fun σ H'' hP => ?_)
  · obtain ⟨y4, rates, vs, rfl, B2, e2, hR, av, lr, okr⟩ := hP
    have lv : vs.length = rates.length := by rw [av.length, List.length_map]
    refine ⟨_, rfl, .inl ⟨rfl, _, .inl (.inl hR)⟩, _, rfl, b, r, rs, 3, rfl, B2, by decide, fun st H3 st0 st3 B3 e3 => ?_⟩
    refine ⟨_, rfl, b, r, rs, rfl, B3, fun v Hv v0 v1 Bv ev => ?_⟩
    refine ⟨by show 2 ≤ sizeLine; decide, fun tp ntp => ?_⟩
    generalize eqH : upd Hv tp _ = H4
    obtain ⟨s4, h4⟩ := new_facts eqH ntp
    clear eqH
    obtain ⟨bx2, hb2⟩ := Bv.lst
    have e3v := e3.trans ev
    have eo : But b H'' H4 := e3v.trans (.of s4)
    have hR4 := eo _ _ nbR hR
    refine ⟨RL, vs, _, rfl, rfl, hR4, smaller (by omega), ?_⟩
    have ntR : tp ≠ RL := fun z => by
      have w := e3v _ _ nbR hR
      rw [← z, ntp] at w
      cases w
    refine ⟨_, rates ++ [(st, v)], vs ++ [.ref tp], rfl, (Bv.same s4).mut B1 nR, (e2.trans eo).mut nR, upd_same, ?_, by rw [List.length_append, List.length_singleton]; omega, fun p hp => ?_⟩
    · rw [List.map_append]
      have hv : DV (Off b RL) H4 2 (.ref tp) (rateD (st, v)) := ⟨tp, _, rfl, ⟨(ne_of_none hb2 ntp).symm, ntR⟩, h4, by show 2 ≤ 100000; decide, .cons rfl (.cons rfl .nil)⟩
      exact DV.grow (fun c o s h => eo c o s.1 h) av hv _
    · rcases List.mem_append.mp hp with z | z
      · exact okr p z
      · rw [List.mem_singleton.mp z]; exact ⟨st0, by show st ≤ 4294967295; omega, v0, v1⟩
  obtain ⟨y4, rates, vs, rfl, B2, e2, hR, av, lr, okr⟩ := hP
  have lv : vs.length = rates.length := by rw [av.length, List.length_map]
  have dR : DV (· ≠ b) H'' 3 (.ref RL) (.l (rates.map rateD)) := ⟨RL, vs, rfl, nbR, hR, by omega, av.mono fun _ _ w => w.keep fun a o s h => ⟨s.1, h⟩⟩
  have dD2 := dD.but e2
  have e12 := e1.trans e2
  -- the list
  refine ⟨_, rfl, _, rfl, b, r, rs, rfl, B2, fun sd H3 sd0 sd1 B3 e3 => ?_⟩
  refine ⟨_, rfl, b, r, rs, 3, rfl, B3, by decide, fun bt H4 bt0 bt1 B4 e4 => ?_⟩
  refine ⟨_, _, rfl, rfl, _, rfl, b, r, rs, rfl, B4, fun fa H5 fa0 fa1 B5 e5 => ?_⟩
  refine ⟨_, rfl, b, r, rs, 32, rfl, B5, by decide, fun po H6 po0 po1 B6 e6 => ?_⟩
  refine ⟨_, rfl, _, rfl, by show 7 ≤ sizeLine; decide, fun jb nj => ?_⟩
  have e26 := ((e3.trans e4).trans e5).trans e6
  obtain ⟨bx6, hb6⟩ := B6.lst
  have s7 := same_new nj (.lst [.ref n, .int sd, .int (1 + bt), .int fa, .int po, .ref RL, .ref DL])
  refine q jb RL DL n PL NL LL ni nt pms nds ls sd (1 + bt) fa po rates data _ ⟨(g.but B6 (e12.trans e26)).same s7, (ne_of_none hb6 nj).symm, upd_same, (dR.but e26).same s7, (dD2.but e26).same s7⟩ u ⟨lp1, lp3, sd3, hlen, hin, by omega, by omega⟩ hlast ?_ ((e01.trans (e12.trans e26)).trans (.of s7))
  exact ⟨⟨sd0, sd1⟩, by omega, by omega, ⟨fa0, fa1⟩, po0, by omega, by omega, okr, by omega, by omega, okd⟩

end

theorem cutV_to {xs : List V} {i : Nat} (h1 : i ≤ xs.length) : cutV xs none (some (i : Int)) = xs.take i := by
  unfold cutV
  rw [HT.sIx_none, HT.sIx_nat, List.drop_zero, Nat.sub_zero, Nat.min_eq_left h1]
theorem cutV_from {xs : List V} {i : Nat} : cutV xs (some (i : Int)) none = xs.drop i := by
  unfold cutV
  rw [HT.sIx_none, HT.sIx_nat]
  rcases Nat.le_total i xs.length with h | h
  · rw [Nat.min_eq_left h, List.take_of_length_le (by rw [List.length_drop]; omega)]
  · rw [Nat.min_eq_right h, List.drop_of_length_le h, List.drop_of_length_le (Nat.le_refl _), List.take_nil]

theorem All2.take' {α β : Type} {R : α → β → Prop} {as : List α} {bs : List β} (h : All2 R as bs) : ∀ n, All2 R (as.take n) (bs.take n) := by
  induction h with
  | nil => intro n; rw [List.take_nil, List.take_nil]; exact .nil
  | cons r _ ih =>
    intro n
    cases n with
    | zero => exact .nil
    | succ n => exact .cons r (ih n)
theorem All2.drop' {α β : Type} {R : α → β → Prop} {as : List α} {bs : List β} (h : All2 R as bs) : ∀ n, All2 R (as.drop n) (bs.drop n) := by
  induction h with
  | nil => intro n; rw [List.drop_nil, List.drop_nil]; exact .nil
  | cons r t ih =>
    intro n
    cases n with
    | zero => exact .cons r t
    | succ n => exact ih n
theorem All2.app' {α β : Type} {R : α → β → Prop} {as : List α} {bs : List β} {cs : List α} {ds : List β} (h : All2 R as bs) (g : All2 R cs ds) : All2 R (as ++ cs) (bs ++ ds) := by
  induction h with
  | nil => exact g
  | cons r _ ih => exact .cons r ih
theorem All2.rep' {α β : Type} {R : α → β → Prop} {a : α} {b : β} (h : R a b) : ∀ n, All2 R (List.replicate n a) (List.replicate n b)
  | 0 => .nil
  | n + 1 => .cons h (All2.rep' h n)

theorem Built.pg {ni nt : Int} {pms : List (Int × Int × Str × Int)} {nds : List Nd} {ls : List Int} (u : Built ni nt pms nds ls) {p : Int} (h : inR p pms.length) : (1 ≤ (pget (sides pms) p).1 ∧ (pget (sides pms) p).1 ≤ 6) ∧ 1 ≤ (pget (sides pms) p).2 ∧ (pget (sides pms) p).2 ≤ 6 := by
  have hk : p.toNat < pms.length := by have := h.1; have := h.2; omega
  have em : pms[p.toNat]? = some pms[p.toNat] := List.getElem?_eq_getElem hk
  have ok := u.pok _ (List.getElem_mem hk)
  have eg : pget (sides pms) p = (pms[p.toNat].1, pms[p.toNat].2.1) := by
    unfold pget sides
    rw [List.getD_eq_getElem?_getD, List.getElem?_map, em]
    rfl
  rw [eg]
  exact ⟨⟨ok.1, ok.2.1⟩, ok.2.2.1, ok.2.2.2.1⟩

def TupS (H H' : Hp) : Prop := ∀ a xs, H a = some (.tup xs) → H' a = some (.tup xs)
theorem TupS.of {H H' : Hp} (e : Same H H') : TupS H H' := fun _ _ h => e _ _ h
theorem TupS.but {D : Addr} {H H' : Hp} {vs : List V} (e : But D H H') (h : H D = some (.lst vs)) : TupS H H' := fun a xs z => e _ _ (fun w => by rw [w, h] at z; cases z) z


theorem ifS {k x : Str} {A B : Prop} (y : k = x → A) (n : k ≠ x → B) : if decide (V.str k = V.str x) = true then A else B := by
  by_cases h : k = x
  · exact iteD (congrArg V.str h) (y h)
  · exact iteDN (fun z => h (V.str.inj z)) (n h)

/-! ### mixing -/
def un (n : Int) : Int := n % 4294967296
theorem un_un (n : Int) : un (un n) = un n := by unfold un; omega
theorem un_add (n c : Int) : un (un n + c) = un (n + c) := by unfold un; omega
theorem un_wr (n : Int) : un (wr n) = un n := by unfold un wr; omega
theorem wr_un (n : Int) : wr (un n) = wr n := by unfold un wr; omega
def mixI (a b : Int) : Int :=
  wr (Builtin.bitXor (un (Builtin.bitXor (un a) (un (b + 2654435769)) * 2246822507)) (un (Builtin.bitXor (un a) (un (b + 2654435769)) * 2246822507) / 2 ^ (15 : Int).toNat) * 3266489909)
def mixedI (seed : Int) (ns : List Int) : Int := ns.foldl (fun w n => mixI w (un n)) seed
def half (w n : Int) : Int := un (Builtin.bitXor w (un (n + 2654435769)) * 2246822507)
def lstep (w n : Int) : Int := un (Builtin.bitXor (half w n) (half w n / 32768) * 3266489909)
theorem p15 : (2 : Int) ^ (15 : Int).toNat = 32768 := by decide +kernel
theorem mix_step (a b : Int) : un (mixI a b) = lstep (un a) b := by
  unfold mixI lstep half
  rw [un_wr, p15]
theorem mixI_un (a b : Int) : mixI a (un b) = mixI a b := by
  unfold mixI
  rw [un_add]
theorem mixed_step : ∀ (ns : List Int) (seed : Int), un (mixedI seed ns) = ns.foldl lstep (un seed)
  | [], seed => rfl
  | n :: r, seed => by
    show un (mixedI (mixI seed (un n)) r) = r.foldl lstep (lstep (un seed) n)
    rw [mixed_step r, mixI_un, mix_step]
theorem mixI_word (a b : Int) : wr (mixI a b) = mixI a b := wr_same (wr_lo _) (wr_hi _)
theorem mixed_word : ∀ (ns : List Int) (seed : Int), wr seed = seed → wr (mixedI seed ns) = mixedI seed ns
  | [], _, h => h
  | n :: r, seed, _ => mixed_word r (mixI seed (un n)) (mixI_word _ _)
theorem mixed_is (ns : List Int) {seed : Int} (h : wr seed = seed) : mixedI seed ns = wr (ns.foldl lstep (un seed)) := by
  rw [← mixed_step, wr_un, mixed_word ns seed h]
theorem mix_is (a b : Int) : mixI a b = wr ([b].foldl lstep (un a)) := by
  show mixI a b = wr (lstep (un a) b)
  rw [← mix_step, wr_un, mixI_word]
def spUn : Sp := fun vs H Q _ => ∃ n : Int, vs = [.int n] ∧ Q (.int (un n)) H
def spMix : Sp := fun vs H Q _ => ∃ a b : Int, vs = [.int a, .int b] ∧ Q (.int (mixI a b)) H
def spMixed (K : PySem.W.Frag) : Sp := fun vs H Q _ => ∃ (seed : Int) (l : Addr) (ns : List Int), vs = [.int seed, .ref l] ∧ SqL K H l (ns.map V.int) ∧ Q (.int (mixedI seed ns)) H
def spLMixed (K : PySem.W.Frag) : Sp := fun vs H Q _ => ∃ (seed : Int) (l : Addr) (ns : List Int), vs = [.int seed, .ref l] ∧ SqL K H l (ns.map V.int) ∧ Q (.int (ns.foldl lstep (un seed))) H
theorem take_succ_foldl {α β : Type} (g : β → α → β) (b : β) {xs : List α} {i : Nat} {x : α} (h : xs[i]? = some x) : (xs.take (i + 1)).foldl g b = g ((xs.take i).foldl g b) x := by
  rw [List.take_add_one, h, List.foldl_append]
  rfl

/-! ### checksums -/
theorem nat_xor_and : ∀ (n a b : Nat), a ≤ n → a + b = (a ^^^ b) + 2 * (a &&& b)
  | 0, a, b, h => by
    obtain rfl : a = 0 := by omega
    simp
  | n + 1, a, b, h => by
    by_cases c : a = 0
    · subst c; simp
    · have ih := nat_xor_and n (a / 2) (b / 2) (by omega)
      have x1 : (a ^^^ b) / 2 = a / 2 ^^^ b / 2 := Nat.xor_div_two
      have x2 : (a &&& b) / 2 = a / 2 &&& b / 2 := Nat.and_div_two
      have x3 : (a ^^^ b) % 2 = 1 ↔ ¬ (a % 2 = 1 ↔ b % 2 = 1) := Nat.xor_mod_two_eq_one
      have x4 : (a &&& b) % 2 = 1 ↔ a % 2 = 1 ∧ b % 2 = 1 := Nat.and_mod_two_eq_one
      rw [← x1, ← x2] at ih
      omega
theorem bx {a b : Int} (ha : 0 ≤ a) (hb : 0 ≤ b) : Builtin.bitXor a b = ((a.toNat ^^^ b.toNat : Nat) : Int) := by
  have e := bitXor_and a b
  have h := nat_xor_and a.toNat a.toNat b.toNat (Nat.le_refl _)
  have o := bitAnd_pp ha hb
  rw [o] at e
  omega
def crcG (x : Nat) : Nat := (x / 2) ^^^ (if x % 2 = 1 then 3988292384 else 0)
def crcT : List Nat := [0, 498536548, 997073096, 651767980, 1994146192, 1802195444, 1303535960, 1342533948, 3988292384, 4027552580, 3604390888, 3412177804, 2607071920, 2262029012, 2685067896, 3183342108]
def crcH (x : Nat) : Nat := (x / 16) ^^^ crcT.getD (x % 16) 0
theorem crcG_xor (x y : Nat) : crcG (x ^^^ y) = crcG x ^^^ crcG y := by
  have x1 : (x ^^^ y) / 2 = x / 2 ^^^ y / 2 := Nat.xor_div_two
  have x3 : (x ^^^ y) % 2 = 1 ↔ ¬ (x % 2 = 1 ↔ y % 2 = 1) := Nat.xor_mod_two_eq_one
  unfold crcG
  rw [x1]
  by_cases c : x % 2 = 1 <;> by_cases d : y % 2 = 1
  · rw [if_neg (by rw [x3]; simp [c, d]), if_pos c, if_pos d]
    simp only [Nat.xor_zero]
    rw [Nat.xor_assoc, Nat.xor_comm 3988292384, Nat.xor_assoc (y / 2), Nat.xor_self, Nat.xor_zero]
  · rw [if_pos (by rw [x3]; simp [c, d]), if_pos c, if_neg d]
    simp only [Nat.xor_zero]
    rw [Nat.xor_assoc, Nat.xor_comm (y / 2), Nat.xor_assoc]
  · rw [if_pos (by rw [x3]; simp [c, d]), if_neg c, if_pos d]
    simp only [Nat.xor_zero]
    rw [Nat.xor_assoc]
  · rw [if_neg (by rw [x3]; simp [c, d]), if_neg c, if_neg d]
    simp only [Nat.xor_zero]
theorem crcG_two (m : Nat) : crcG (2 * m) = m := by
  unfold crcG
  rw [if_neg (by omega), Nat.xor_zero]
  omega
theorem crc_split (x : Nat) : x = 16 * (x / 16) ^^^ (x % 16) := by
  have h := nat_xor_and _ (16 * (x / 16)) (x % 16) (Nat.le_refl _)
  have z : 16 * (x / 16) &&& (x % 16) = 0 := by
    have e : x % 16 = x &&& 15 := (Nat.and_two_pow_sub_one_eq_mod x 4).symm
    rw [e, Nat.and_comm x 15, ← Nat.and_assoc]
    have e2 : 16 * (x / 16) &&& 15 = 0 := by
      rw [show (15 : Nat) = 2 ^ 4 - 1 by decide, Nat.and_two_pow_sub_one_eq_mod]
      omega
    rw [e2, Nat.zero_and]
  omega
theorem crc_four (x : Nat) : crcG (crcG (crcG (crcG x))) = crcH x := by
  have hs := crc_split x
  have hq : crcG (crcG (crcG (crcG (16 * (x / 16))))) = x / 16 := by
    rw [show 16 * (x / 16) = 2 * (2 * (2 * (2 * (x / 16)))) by omega]
    simp only [crcG_two]
  have ht : ∀ r : Fin 16, crcG (crcG (crcG (crcG r.val))) = crcT.getD r.val 0 := by decide
  have hr := ht ⟨x % 16, Nat.mod_lt _ (by decide)⟩
  conv => lhs; rw [hs]
  simp only [crcG_xor]
  rw [hq]
  exact congrArg _ hr
/-- one byte -/
def crcB (x b : Nat) : Nat := crcH (crcH (x ^^^ b))
def crcN (bs : List Nat) : Nat := bs.foldl crcB 4294967295
def itN (f : Nat → Nat) : Nat → Nat → Nat
  | 0, x => x
  | n + 1, x => f (itN f n x)
theorem crc_eight (x : Nat) : itN crcG 8 x = crcH (crcH x) := by
  rw [← crc_four, ← crc_four]
  rfl
theorem crc_and15 (x : Nat) : Builtin.bitAnd (x : Int) 15 = ((x % 16 : Nat) : Int) := by
  rw [bitAnd_m4]
  rfl
/-- the checksum of a list of bytes -/
def crcI (bs : List Int) : Int := ((crcN (bs.map Int.toNat) ^^^ 4294967295 : Nat) : Int)
def crcV : List V := [V.int 0, .int 498536548, .int 997073096, .int 651767980, .int 1994146192, .int 1802195444, .int 1303535960, .int 1342533948, .int 3988292384, .int 4027552580, .int 3604390888, .int 3412177804, .int 2607071920, .int 2262029012, .int 2685067896, .int 3183342108]
theorem crcV_eq : crcV = crcT.map fun n => V.int (n : Nat) := by decide +kernel

/-! ### names with numbers of any size, facts -/
inductive Kd where
  | par | mom | val | pre | inc | bac | grd | los
  deriving DecidableEq
def Kd.s : Kd → Str
  | .par => "par" | .mom => "mom" | .val => "val" | .pre => "pre" | .inc => "inc" | .bac => "bac" | .grd => "grd" | .los => "los"
def Kd.no : Kd → Nat
  | .par => 0 | .mom => 1 | .val => 2 | .pre => 3 | .inc => 4 | .bac => 5 | .grd => 6 | .los => 7
def Kd.size : Kd → Nat
  | .par => 4 | .mom => 4 | .val => 4 | .pre => 6 | .inc => 5 | .bac => 7 | .grd => 6 | .los => 3
/-- the place of the number that grows, in the tuple -/
def Kd.grow : Kd → Nat
  | .bac => 5 | .los => 1 | _ => 4
def kds : List Kd := [.par, .mom, .val, .pre, .inc, .bac, .grd, .los]
theorem Kd.grow_ok (k : Kd) : 1 ≤ k.grow ∧ k.grow < k.size + 1 ∧ k.grow ≤ 5 := by cases k <;> decide
theorem Kd.size_ok (k : Kd) : 3 ≤ k.size ∧ k.size ≤ 7 := by cases k <;> decide
theorem Kd.inj {a b : Kd} (h : a.s = b.s) : a = b := by revert h; cases a <;> cases b <;> decide
structure FN where
  k : Kd
  ns : List Int
  deriving DecidableEq
def FN.enc (n : FN) : List V := .str n.k.s :: n.ns.map V.int
def big : Int := 840 ^ 8
/-- a name; its numbers are at most so much greater than those that are drawn -/
structure FN.Ok (n : FN) (m : Nat) : Prop where
  len : n.ns.length = n.k.size
  bd : ∀ x ∈ n.ns, 0 ≤ x ∧ x < big + m
def FN.next (n : FN) : FN := ⟨n.k, n.ns.set (n.k.grow - 1) (n.ns.getD (n.k.grow - 1) 0 + 1)⟩
theorem FN.Ok.mono {n : FN} {m m' : Nat} (h : n.Ok m) (l : m ≤ m') : n.Ok m' := ⟨h.len, fun x hx => ⟨(h.bd x hx).1, by have := (h.bd x hx).2; omega⟩⟩
theorem FN.Ok.next {n : FN} {m : Nat} (h : n.Ok m) : n.next.Ok (m + 1) := by
  refine ⟨by show (n.ns.set _ _).length = _; rw [List.length_set]; exact h.len, fun x hx => ?_⟩
  rcases List.mem_or_eq_of_mem_set hx with z | z
  · have := h.bd x z; omega
  · have g := n.k.grow_ok
    have hl := h.len
    have e : n.ns.getD (n.k.grow - 1) 0 ∈ n.ns := by
      rw [List.getD_eq_getElem?_getD, List.getElem?_eq_getElem (by omega)]
      exact List.getElem_mem _
    have := h.bd _ e
    rw [z]; omega
theorem FN.len_enc {n : FN} {m : Nat} (h : n.Ok m) : n.enc.length = n.k.size + 1 := by
  unfold FN.enc
  rw [List.length_cons, List.length_map, h.len]
theorem FN.inj {a b : FN} (h : a.enc = b.enc) : a = b := by
  obtain ⟨k, ns⟩ := a
  obtain ⟨k', ns'⟩ := b
  unfold FN.enc at h
  injection h with h1 h2
  have e1 : k = k' := Kd.inj (V.str.inj h1)
  have e2 : ns = ns' := (List.map_inj_right (fun _ _ z => V.int.inj z)).mp h2
  rw [e1, e2]
/-! tuples with another item -/
theorem cut_set {xs : List V} {i : Nat} (v : V) (h : i < xs.length) : xs.take i ++ [v] ++ xs.drop (i + 1) = xs.set i v := by
  rw [List.set_eq_take_append_cons_drop, if_pos h, List.append_assoc]
  rfl
theorem FN.at_grow {n : FN} {m : Nat} (h : n.Ok m) : n.enc[n.k.grow]? = some (.int (n.ns.getD (n.k.grow - 1) 0)) := by
  have g := n.k.grow_ok
  have hl := h.len
  unfold FN.enc
  obtain ⟨j, ej⟩ : ∃ j, n.k.grow = j + 1 := ⟨n.k.grow - 1, by omega⟩
  rw [ej, List.getElem?_cons_succ, List.getElem?_map, List.getElem?_eq_getElem (by omega), List.getD_eq_getElem?_getD, Nat.add_sub_cancel, List.getElem?_eq_getElem (by omega)]
  rfl
theorem FN.at0 (n : FN) : atI n.enc 0 = some (.str n.k.s) := atI_nat (show n.enc[(0 : Nat)]? = _ from rfl)
theorem FN.set_grow {n : FN} {m : Nat} (h : n.Ok m) : n.enc.set n.k.grow (.int (n.ns.getD (n.k.grow - 1) 0 + 1)) = n.next.enc := by
  have g := n.k.grow_ok
  unfold FN.enc FN.next
  obtain ⟨j, ej⟩ : ∃ j, n.k.grow = j + 1 := ⟨n.k.grow - 1, by omega⟩
  rw [ej, List.set_cons_succ, List.map_set, Nat.add_sub_cancel]
/-! facts in the heap -/
def FA (H : Hp) (v : V) (f : FN × Int) : Prop := ∃ a b, v = .ref a ∧ H a = some (.tup [.ref b, .int f.2]) ∧ H b = some (.tup f.1.enc)
theorem FA.keep {H H' : Hp} {v : V} {f : FN × Int} (h : FA H v f) (e : TupS H H') : FA H' v f := by
  obtain ⟨a, b, h0, h1, h2⟩ := h
  exact ⟨a, b, h0, e _ _ h1, e _ _ h2⟩
def FL (H : Hp) (l : Addr) (fs : List (FN × Int)) : Prop := ∃ vs, H l = some (.lst vs) ∧ All2 (FA H) vs fs
theorem FL.same {H H' : Hp} {l : Addr} {fs : List (FN × Int)} (h : FL H l fs) (e : Same H H') : FL H' l fs := by
  obtain ⟨vs, h1, h2⟩ := h
  exact ⟨vs, e _ _ h1, h2.mono fun _ _ z => z.keep (.of e)⟩
/-- a list of facts is not the box -/
theorem FL.far {H : Hp} {b r l : Addr} {rs : List Int} {fs : List (FN × Int)} (h : FL H l fs) (B : Box H b r rs) : l ≠ b := fun e => by
  obtain ⟨vs, h1, h2⟩ := h
  obtain ⟨z, _, hb⟩ := B.ex
  rw [e, hb] at h1
  cases h1
  cases h2 with
  | cons x t => cases t with
    | cons y t' => obtain ⟨_, _, w, _⟩ := y; cases w
theorem FL.but {H H' : Hp} {b r l : Addr} {rs : List Int} {fs : List (FN × Int)} (h : FL H l fs) (B : Box H b r rs) (e : But b H H') : FL H' l fs := by
  have n := h.far B
  obtain ⟨vs, h1, h2⟩ := h
  obtain ⟨z, _, hb⟩ := B.ex
  exact ⟨vs, e _ _ n h1, h2.mono fun _ _ z => z.keep (.but e hb)⟩
/-- names as data -/
def FN.dat (n : FN) : PyData := .tuple (.str n.k.s :: n.ns.map PyData.int)
def fdat (f : FN × Int) : PyData := .tuple [f.1.dat, .int f.2]
theorem FN.dp {K : PySem.W.Frag} {H : Hp} {a : Addr} {n : FN} (h : H a = some (.tup n.enc)) : Dp K H (.ref a) n.dat := .tup (SqT.of h) (.cons (.str _) (dp_ints _))
theorem FA.dp {K : PySem.W.Frag} {H : Hp} {v : V} {f : FN × Int} (h : FA H v f) : Dp K H v (fdat f) := by
  obtain ⟨a, b, rfl, h1, h2⟩ := h
  exact .tup (SqT.of h1) (.cons (FN.dp h2) (.cons (.int _) .nil))
theorem dp_facts {K : PySem.W.Frag} {H : Hp} : ∀ {vs : List V} {fs : List (FN × Int)}, All2 (FA H) vs fs → DpAll K H vs (fs.map fdat)
  | _, _, .nil => .nil
  | _, _, .cons h t => .cons h.dp (dp_facts t)
theorem FN.can (n : FN) : PyData.canLay0 n.dat = true := by
  show (PyData.canLay0 (.str n.k.s) && PyData.canLayAll0 (n.ns.map PyData.int)) = true
  rw [can_ints, show PyData.canLay0 (.str n.k.s) = true by cases n.k <;> decide +kernel]
  rfl
theorem fdat_can (f : FN × Int) : PyData.canLay0 (fdat f) = true := by
  show (PyData.canLay0 f.1.dat && (PyData.canLay0 (.int f.2) && true)) = true
  rw [f.1.can]
  rfl
theorem can_facts : ∀ fs : List (FN × Int), PyData.canLayAll0 (fs.map fdat) = true
  | [] => rfl
  | f :: r => by
    show (PyData.canLay0 (fdat f) && PyData.canLayAll0 (r.map fdat)) = true
    rw [fdat_can, can_facts r]
    rfl
theorem depth_ints : ∀ ns : List Int, PyData.depthAll (ns.map PyData.int) ≤ 1
  | [] => by simp [PyData.depthAll]
  | n :: r => by
    have := depth_ints r
    simp only [List.map_cons, PyData.depthAll, PyData.depth]
    omega
theorem FN.depth (n : FN) : PyData.depth n.dat ≤ 4 := by
  have := depth_ints n.ns
  simp only [FN.dat, PyData.depth, PyData.depthAll]
  omega
theorem fdat_depth (f : FN × Int) : PyData.depth (fdat f) ≤ 7 := by
  have := f.1.depth
  simp only [fdat, PyData.depth, PyData.depthAll]
  omega
theorem depth_facts : ∀ fs : List (FN × Int), PyData.depthAll (fs.map fdat) ≤ 8
  | [] => by simp [PyData.depthAll]
  | f :: r => by
    have h1 := fdat_depth f
    have h2 := depth_facts r
    simp only [List.map_cons, PyData.depthAll]
    omega
theorem FN.shaped (n : FN) : SeqAt.shaped n.dat = true := by
  unfold SeqAt.shaped
  rw [n.can, decide_eq_true (Nat.le_trans n.depth (by decide))]
  rfl
theorem facts_shaped (fs : List (FN × Int)) : SeqAt.shaped (.list (fs.map fdat)) = true := by
  have h : PyData.depth (.list (fs.map fdat)) ≤ 10 := by
    have := depth_facts fs
    simp only [PyData.depth]
    omega
  have c : PyData.canLay0 (.list (fs.map fdat)) = true := can_facts fs
  unfold SeqAt.shaped
  rw [c, decide_eq_true (Nat.le_trans h (by decide))]
  rfl
theorem fdat_shaped (f : FN × Int) : SeqAt.shaped (fdat f) = true := by
  unfold SeqAt.shaped
  rw [fdat_can, decide_eq_true (Nat.le_trans (fdat_depth f) (by decide))]
  rfl
theorem eqv_ints : ∀ xs ys : List Int, PyData.eqvAll (xs.map PyData.int) (ys.map PyData.int) = decide (xs = ys)
  | [], [] => by simp [PyData.eqvAll]
  | [], _ :: _ => by simp [PyData.eqvAll]
  | _ :: _, [] => by simp [PyData.eqvAll]
  | x :: xs, y :: ys => by
    rw [List.map_cons, List.map_cons, PyData.eqvAll, eqv_ints xs ys]
    simp [PyData.eqv, Bool.decide_and]
    rw [Bool.eq_iff_iff]
    simp
theorem FN.eqv (a b : FN) : PyData.eqv a.dat b.dat = decide (a = b) := by
  obtain ⟨k, ns⟩ := a
  obtain ⟨k', ns'⟩ := b
  unfold FN.dat
  rw [PyData.eqv, PyData.eqvAll, eqv_ints]
  have e : PyData.eqv (.str k.s) (.str k'.s) = decide (k = k') := by
    rw [PyData.eqv, Bool.eq_iff_iff]
    simp only [beq_iff_eq, decide_eq_true_eq]
    exact ⟨Kd.inj, fun z => by rw [z]⟩
  rw [e, Bool.eq_iff_iff]
  simp
theorem fact_eqv (f : FN × Int) : PyData.eqv (fdat f) (fdat f) = true := PySem.SeqAt.eqv_refl _ (fdat_can f)
theorem eq_name {K : PySem.W.Frag} {H : Hp} {a b : Addr} {n m : FN} {Q : VK} (ha : H a = some (.tup n.enc)) (hb : H b = some (.tup m.enc)) (k : Q (.bl (decide (n = m))) H) : rEqD K (.ref a) (.ref b) H Q :=
  ⟨_, _, FN.dp ha, FN.dp hb, n.shaped, m.shaped, by rw [FN.eqv]; exact k⟩
theorem ne_name {K : PySem.W.Frag} {H : Hp} {a b : Addr} {n m : FN} {Q : VK} (ha : H a = some (.tup n.enc)) (hb : H b = some (.tup m.enc)) (k : Q (.bl (!decide (n = m))) H) : rNeD K (.ref a) (.ref b) H Q :=
  ⟨_, _, FN.dp ha, FN.dp hb, n.shaped, m.shaped, by rw [FN.eqv]; exact k⟩
theorem ne_none {K : PySem.W.Frag} {H : Hp} {a : Addr} {n : FN} {Q : VK} (ha : H a = some (.tup n.enc)) (k : Q (.bl true) H) : rNeD K (.ref a) .non H Q :=
  ⟨_, _, FN.dp ha, .non, n.shaped, rfl, by
    have e : PyData.eqv n.dat .none = false := by unfold FN.dat; rw [PyData.eqv]
    rw [e]
    exact k⟩
theorem eq_facts {K : PySem.W.Frag} {H : Hp} {a b : Addr} {fs : List (FN × Int)} {Q : VK} (ha : FL H a fs) (hb : FL H b fs) (k : Q (.bl true) H) : rEqD K (.ref a) (.ref b) H Q := by
  obtain ⟨vs, h1, h2⟩ := ha
  obtain ⟨us, h3, h4⟩ := hb
  refine ⟨_, _, .lst (SqL.of h1) (dp_facts h2), .lst (SqL.of h3) (dp_facts h4), facts_shaped _, facts_shaped _, ?_⟩
  rw [PySem.SeqAt.eqv_refl _ (show PyData.canLay0 (.list (fs.map fdat)) = true from can_facts fs)]
  exact k

/-! ### bytes -/
def numB (n : Nat) : List Int := if _h : n < 128 then [(n : Int)] else ((n % 128 + 128 : Nat) : Int) :: numB (n / 128)
termination_by n
decreasing_by omega
theorem numB_lo {n : Nat} (h : n < 128) : numB n = [(n : Int)] := by rw [numB, dif_pos h]
theorem numB_hi {n : Nat} (h : ¬ n < 128) : numB n = ((n % 128 + 128 : Nat) : Int) :: numB (n / 128) := by rw [numB, dif_neg h]
theorem numB_bd : ∀ (k n : Nat), n ≤ k → ∀ x ∈ numB n, 0 ≤ x ∧ x < 256
  | 0, n, h => by
    rw [numB_lo (by omega)]
    simp
    omega
  | k + 1, n, h => by
    by_cases c : n < 128
    · rw [numB_lo c]
      simp
      omega
    · rw [numB_hi c]
      intro x hx
      rcases List.mem_cons.mp hx with z | z
      · subst z; omega
      · exact numB_bd k _ (by omega) x z
theorem numB_len : ∀ (k n : Nat), n < 128 ^ (k + 1) → (numB n).length ≤ k + 1
  | 0, n, h => by rw [numB_lo (by omega)]; exact Nat.le_refl _
  | k + 1, n, h => by
    by_cases c : n < 128
    · rw [numB_lo c]; simp
    · rw [numB_hi c, List.length_cons]
      have : n / 128 < 128 ^ (k + 1) := Nat.div_lt_of_lt_mul (by rw [Nat.mul_comm]; rw [Nat.pow_succ] at h; exact h)
      have := numB_len k (n / 128) this
      omega
def fourB (w : Int) : List Int := [un w % 256, un w / 256 % 256, un w / 65536 % 256, un w / 16777216 % 256]
theorem fourB_bd (w : Int) : ∀ x ∈ fourB w, 0 ≤ x ∧ x < 256 := by
  unfold fourB un
  simp
  omega
/-! runs of facts -/
abbrev Fct := FN × Int
def fat (fs : List Fct) (t : Nat) : Fct := fs.getD t (⟨.par, []⟩, 0)
theorem fat_at {fs : List Fct} {t : Nat} (h : t < fs.length) : fs[t]? = some (fat fs t) := by
  unfold fat
  rw [List.getD_eq_getElem?_getD, List.getElem?_eq_getElem h]
  rfl
theorem fat_mem {fs : List Fct} {t : Nat} (h : t < fs.length) : fat fs t ∈ fs := List.mem_of_getElem? (fat_at h)
/-- the name that would go on with the run -/
def awaited (fs : List Fct) : Nat → Option FN
  | 0 => none
  | t + 1 => some (fat fs t).1.next
def runsT (fs : List Fct) : Nat → List (List Fct)
  | 0 => []
  | t + 1 => if awaited fs t = some (fat fs t).1 then (runsT fs t).dropLast ++ [(runsT fs t).getLastD [] ++ [fat fs t]] else runsT fs t ++ [[fat fs t]]
theorem runsT_ne (fs : List Fct) : ∀ t, 0 < t → runsT fs t ≠ []
  | t + 1, _ => by
    unfold runsT
    split <;> simp
theorem runsT_last {fs : List Fct} {t : Nat} (h : 0 < t) : runsT fs t = (runsT fs t).dropLast ++ [(runsT fs t).getLastD []] := by
  have n := runsT_ne fs t h
  rw [List.getLastD_eq_getLast?, List.getLast?_eq_some_getLast n]
  exact (List.dropLast_concat_getLast n).symm
theorem awaited_pos {fs : List Fct} {t : Nat} {n : FN} (h : awaited fs t = some n) : 0 < t := by
  cases t with
  | zero => cases h
  | succ t => omega
/-- each run: not empty, and taken from the facts -/
theorem runsT_ok (fs : List Fct) : ∀ t, t ≤ fs.length → (runsT fs t).length ≤ t ∧ (runsT fs t).flatten = fs.take t ∧ ∀ r ∈ runsT fs t, 0 < r.length ∧ r.length ≤ t ∧ ∀ f ∈ r, f ∈ fs
  | 0, _ => ⟨Nat.le_refl _, rfl, fun r h => by cases h⟩
  | t + 1, ht => by
    obtain ⟨h1, h2, h3⟩ := runsT_ok fs t (by omega)
    have hm := fat_mem (fs := fs) (t := t) (by omega)
    have hat := fat_at (fs := fs) (t := t) (by omega)
    unfold runsT
    by_cases c : awaited fs t = some (fat fs t).1
    · rw [if_pos c]
      have l := runsT_last (fs := fs) (awaited_pos c)
      have ln : (runsT fs t).dropLast.length + 1 = (runsT fs t).length := by
        conv => rhs; rw [l]
        simp
      refine ⟨by simp; omega, ?_, fun r hr => ?_⟩
      · have e := h2
        rw [l, List.flatten_append] at e
        rw [List.flatten_append, List.take_add_one, hat, ← e]
        simp
      · rcases List.mem_append.mp hr with z | z
        · obtain ⟨a1, a2, a3⟩ := h3 r ((List.dropLast_subset _) z)
          exact ⟨a1, by omega, a3⟩
        · rw [List.mem_singleton] at z
          subst z
          have lm : (runsT fs t).getLastD [] ∈ runsT fs t := by rw [l]; simp
          obtain ⟨a1, a2, a3⟩ := h3 _ lm
          refine ⟨by rw [List.length_append]; exact Nat.lt_of_lt_of_le (by decide : 0 < 1) (Nat.le_add_left _ _), by rw [List.length_append, List.length_singleton]; omega, fun f hf => ?_⟩
          rcases List.mem_append.mp hf with w | w
          · exact a3 f w
          · rw [List.mem_singleton] at w; subst w; exact hm
    · rw [if_neg c]
      refine ⟨by simp; omega, ?_, fun r hr => ?_⟩
      · rw [List.flatten_append, h2, List.take_add_one, hat]
        simp
      · rcases List.mem_append.mp hr with z | z
        · obtain ⟨a1, a2, a3⟩ := h3 r z
          exact ⟨a1, by omega, a3⟩
        · rw [List.mem_singleton] at z
          subst z
          exact ⟨by simp, by simp, fun f hf => by rw [List.mem_singleton] at hf; subst hf; exact hm⟩
def runB (r : List Fct) : List Int := [((r.headD (⟨.par, []⟩, 0)).1.k.no : Int)] ++ ((r.headD (⟨.par, []⟩, 0)).1.ns.map fun x => numB x.toNat).flatten ++ numB (r.length - 1) ++ (r.map fun f => fourB f.2).flatten
def bodyB (rs : List (List Fct)) : List Int := [79, 78, 82, 49] ++ numB rs.length ++ (rs.map runB).flatten
def fileB (fs : List Fct) : List Int := bodyB (runsT fs fs.length) ++ fourB (crcI (bodyB (runsT fs fs.length)))
/-! bounds -/
theorem flat_len {α : Type} {f : α → List Int} {c : Nat} : ∀ {l : List α}, (∀ x ∈ l, (f x).length ≤ c) → (l.map f).flatten.length ≤ c * l.length
  | [], _ => by simp
  | x :: t, h => by
    have h1 := h x (.head _)
    have h2 := flat_len (l := t) fun y hy => h y (.tail _ hy)
    rw [List.map_cons, List.flatten_cons, List.length_append, List.length_cons, Nat.mul_add]
    omega
theorem big_lt {x : Int} {m : Nat} (h0 : 0 ≤ x) (h : x < big + m) (hm : m ≤ 100000) : x.toNat < 128 ^ 12 := by
  have e : big = 247875891108249600000000 := by decide
  have e2 : (128 : Nat) ^ 12 = 19342813113834066795298816 := by decide
  rw [e] at h
  rw [e2]
  omega
structure FctOk (fs : List Fct) (m : Nat) : Prop where
  ok : ∀ f ∈ fs, f.1.Ok m
theorem runB_len {r : List Fct} {m : Nat} (h : FctOk r m) (hm : m ≤ 100000) (h0 : 0 < r.length) (h1 : r.length ≤ 1000) : (runB r).length ≤ 1 + 84 + 2 + 4 * r.length := by
  obtain ⟨f, t, rfl⟩ : ∃ f t, r = f :: t := by cases r with
    | nil => simp at h0
    | cons f t => exact ⟨f, t, rfl⟩
  have hf := h.ok f (.head _)
  have a1 : (f.1.ns.map fun x => numB x.toNat).flatten.length ≤ 12 * f.1.ns.length := flat_len fun x hx => numB_len 11 _ (big_lt (hf.bd x hx).1 (hf.bd x hx).2 hm)
  have a2 : (numB ((f :: t).length - 1)).length ≤ 2 := numB_len 1 _ (by have : (128 : Nat) ^ 2 = 16384 := by decide
                                                                        omega)
  have a3 : ((f :: t).map fun f => fourB f.2).flatten.length ≤ 4 * (f :: t).length := flat_len fun x _ => Nat.le_refl 4
  have sz := f.1.k.size_ok
  have hl := hf.len
  unfold runB
  simp only [List.length_append, List.length_singleton, List.headD_cons]
  omega
theorem runB_bd {r : List Fct} : ∀ x ∈ runB r, 0 ≤ x ∧ x < 256 := by
  intro x hx
  unfold runB at hx
  rcases List.mem_append.mp hx with hx | hx
  · rcases List.mem_append.mp hx with hx | hx
    · rcases List.mem_append.mp hx with hx | hx
      · rw [List.mem_singleton] at hx
        subst hx
        cases (r.headD (⟨.par, []⟩, 0)).1.k <;> decide
      · obtain ⟨l, hl, hx⟩ := List.mem_flatten.mp hx
        obtain ⟨y, _, rfl⟩ := List.mem_map.mp hl
        exact numB_bd _ _ (Nat.le_refl _) x hx
    · exact numB_bd _ _ (Nat.le_refl _) x hx
  · obtain ⟨l, hl, hx⟩ := List.mem_flatten.mp hx
    obtain ⟨y, _, rfl⟩ := List.mem_map.mp hl
    exact fourB_bd _ x hx
theorem bodyB_bd {rs : List (List Fct)} : ∀ x ∈ bodyB rs, 0 ≤ x ∧ x < 256 := by
  intro x hx
  unfold bodyB at hx
  rcases List.mem_append.mp hx with hx | hx
  · rcases List.mem_append.mp hx with hx | hx
    · simp at hx
      omega
    · exact numB_bd _ _ (Nat.le_refl _) x hx
  · obtain ⟨l, hl, hx⟩ := List.mem_flatten.mp hx
    obtain ⟨y, _, rfl⟩ := List.mem_map.mp hl
    exact runB_bd x hx
/-! ### promises -/
def spRenum (K : PySem.W.Frag) : Sp := fun vs H Q _ => ∃ (a : Addr) (xs : List V) (i : Nat) (x : Int), vs = [.ref a, .int i, .int x] ∧ SqT K H a xs ∧ 0 < i ∧ i < xs.length ∧ xs.length ≤ 100 ∧
  ∀ (p : Addr) (H' : Hp), Same H H' → H p = none → H' p = some (.tup (xs.set i (.int x))) → Q (.ref p) H'
def spFollows : Sp := fun vs H Q _ => ∃ (a : Addr) (n : FN) (m : Nat), vs = [.ref a] ∧ H a = some (.tup n.enc) ∧ n.Ok m ∧
  ∀ (p : Addr) (H' : Hp), Same H H' → H p = none → H' p = some (.tup n.next.enc) → Q (.ref p) H'
def spNumB : Sp := fun vs H Q _ => ∃ n : Int, vs = [.int n] ∧ 0 ≤ n ∧ n.toNat < 128 ^ 12 ∧
  ∀ (p : Addr) (H' : Hp), Same H H' → H p = none → H' p = some (.lst ((numB n.toNat).map V.int)) → Q (.ref p) H'
def spFour : Sp := fun vs H Q _ => ∃ n : Int, vs = [.int n] ∧
  ∀ (p : Addr) (H' : Hp), Same H H' → H p = none → H' p = some (.lst ((fourB n).map V.int)) → Q (.ref p) H'
def spCrc : Sp := fun vs H Q _ => ∃ (a : Addr) (bs : List Int), vs = [.ref a] ∧ H a = some (.lst (bs.map V.int)) ∧ (∀ x ∈ bs, 0 ≤ x) ∧ Q (.int (crcI bs)) H
def spRuns : Sp := fun vs H Q _ => ∃ (a : Addr) (fs : List Fct) (m : Nat), vs = [.ref a] ∧ FL H a fs ∧ FctOk fs m ∧ fs.length ≤ 1000 ∧
  ∀ (p : Addr) (as : List Addr) (H' : Hp), Same H H' → H p = none → H' p = some (.lst (as.map V.ref)) → All2 (FL H') as (runsT fs fs.length) → Q (.ref p) H'
def spRunB : Sp := fun vs H Q _ => ∃ (a : Addr) (fs : List Fct) (m : Nat), vs = [.ref a] ∧ FL H a fs ∧ FctOk fs m ∧ m ≤ 100000 ∧ 0 < fs.length ∧ fs.length ≤ 1000 ∧
  ∀ (p : Addr) (H' : Hp), Same H H' → H p = none → H' p = some (.lst ((runB fs).map V.int)) → Q (.ref p) H'
def spFile : Sp := fun vs H Q _ => ∃ (a : Addr) (fs : List Fct) (m : Nat), vs = [.ref a] ∧ FL H a fs ∧ FctOk fs m ∧ m ≤ 100000 ∧ fs.length ≤ 1000 ∧
  ∀ (p : Addr) (H' : Hp), Same H H' → H p = none → H' p = some (.lst ((fileB fs).map V.int)) → Q (.ref p) H'
/-! the law's draws -/
def spFields : Sp := fun vs H Q _ => vs = [] ∧ ∀ (p : Addr) (as : List Addr) (H' : Hp), Same H H' → H p = none → H' p = some (.lst (as.map V.ref)) → All2 (fun a (k : Kd) => H' a = some (.tup [.str k.s, .int k.size])) as kds → Q (.ref p) H'
def spNum : Sp := fun vs H Q _ => ∃ (b r : Addr) (rs : List Int), vs = [.ref b] ∧ Box H b r rs ∧ ∀ (v : Int) (H' : Hp), 0 ≤ v → v < big → Box H' b r rs → But b H H' → Q (.int v) H'
def spFName : Sp := fun vs H Q _ => ∃ (b r : Addr) (rs : List Int), vs = [.ref b] ∧ Box H b r rs ∧ ∀ (p : Addr) (n : FN) (H' : Hp), n.Ok 0 → Box H' b r rs → But b H H' → H p = none → H' p = some (.tup n.enc) → Q (.ref p) H'
def spFacts : Sp := fun vs H Q _ => ∃ (b r : Addr) (rs : List Int) (most : Int), vs = [.ref b, .int most] ∧ Box H b r rs ∧ 0 ≤ most ∧ most ≤ 100 ∧ ∀ (p : Addr) (fs : List Fct) (H' : Hp), FctOk fs 100 → (∀ f ∈ fs, -2147483648 ≤ f.2 ∧ f.2 ≤ 2147483647) → fs.length ≤ most → Box H' b r rs → But b H H' → H p = none → FL H' p fs → Q (.ref p) H'
def spMany : Sp := fun vs H Q _ => ∃ (b r a : Addr) (rs : List Int) (fs : List Fct), vs = [.ref b, .ref a] ∧ Box H b r rs ∧ FL H a fs ∧ FctOk fs 100 ∧ (∀ f ∈ fs, -2147483648 ≤ f.2 ∧ f.2 ≤ 2147483647) ∧ fs.length ≤ 100 ∧ ∀ (p : Addr) (gs : List Fct) (H' : Hp), FctOk gs 1000 → (∀ f ∈ gs, -2147483648 ≤ f.2 ∧ f.2 ≤ 2147483647) → gs.length ≤ 1000 → Box H' b r rs → But b H H' → FL H' p gs → Q (.ref p) H'
/-! runs that are being made -/
theorem All2.unsnoc {α β : Type} {R : α → β → Prop} : ∀ {as : List α} {bs : List β} {b : β}, All2 R as (bs ++ [b]) → ∃ as0 a, as = as0 ++ [a] ∧ All2 R as0 bs ∧ R a b
  | _, [], _, .cons r .nil => ⟨[], _, rfl, .nil, r⟩
  | _, _ :: _, _, .cons r t => by
    obtain ⟨as0, a, e, h1, h2⟩ := t.unsnoc
    exact ⟨_ :: as0, a, by rw [e]; rfl, .cons r h1, h2⟩
theorem All2.fwd {α β : Type} {R : α → β → Prop} {as : List α} {bs : List β} (h : All2 R as bs) {i : Nat} {a : α} (ha : as[i]? = some a) : ∃ b, bs[i]? = some b ∧ R a b := by
  have hi : i < bs.length := by
    have := (List.getElem?_eq_some_iff.mp ha).1
    rw [h.length] at this; exact this
  obtain ⟨a', e, r⟩ := h.get (List.getElem?_eq_getElem hi)
  rw [ha] at e
  cases e
  exact ⟨_, List.getElem?_eq_getElem hi, r⟩
theorem All2.mono_mem {α β : Type} {R S : α → β → Prop} {as : List α} {bs : List β} (h : All2 R as bs) : (∀ a b, a ∈ as → R a b → S a b) → All2 S as bs := by
  induction h with
  | nil => intro _; exact .nil
  | cons r _ ih => intro f; exact .cons (f _ _ (.head _) r) (ih fun a b m => f a b (.tail _ m))
theorem atI_last {α : Type} {xs : List α} {x : α} : atI (xs ++ [x]) (-1) = some x := by
  unfold atI ixN
  rw [if_neg (by omega), if_pos (by rw [List.length_append, List.length_singleton]; omega)]
  show (xs ++ [x])[(-1 + ((xs ++ [x]).length : Int)).toNat]? = some x
  rw [show (-1 + ((xs ++ [x]).length : Int)).toNat = xs.length by rw [List.length_append, List.length_singleton]; omega]
  simp
theorem FL.keepBut {H H' : Hp} {D l : Addr} {us : List V} {fs : List Fct} (h : FL H l fs) (n : l ≠ D) (hD : H D = some (.lst us)) (e : But D H H') : FL H' l fs := by
  obtain ⟨vs, h1, h2⟩ := h
  exact ⟨vs, e _ _ n h1, h2.mono fun _ _ z => z.keep (.but e hD)⟩
structure RB (H0 H : Hp) (R : Addr) (rs : List (List Fct)) : Prop where
  s : Same H0 H
  ex : ∃ as : List Addr, H R = some (.lst (as.map V.ref)) ∧ All2 (FL H) as rs ∧ (∀ a ∈ as, H0 a = none ∧ a ≠ R) ∧ as.Nodup
theorem RB.start {H0 : Hp} {R : Addr} (n : H0 R = none) : RB H0 (upd H0 R (.lst [])) R [] := ⟨same_new n _, [], upd_same, .nil, fun _ h => (List.not_mem_nil h).elim, List.nodup_nil⟩
theorem RB.same {H0 H H' : Hp} {R : Addr} {rs : List (List Fct)} (h : RB H0 H R rs) (e : Same H H') : RB H0 H' R rs := by
  obtain ⟨s, as, h1, h2, h3, h4⟩ := h
  exact ⟨s.trans e, as, e _ _ h1, h2.mono fun _ _ z => z.same e, h3, h4⟩
theorem RB.new {H0 H H1 : Hp} {R q : Addr} {rs : List (List Fct)} {fs : List Fct} (h : RB H0 H R rs) (nR : H0 R = none) (e : Same H H1) (nq : H q = none) (hf : FL H1 q fs) : ∃ as : List Addr, H1 R = some (.lst (as.map V.ref)) ∧ as.length = rs.length ∧ RB H0 (upd H1 R (.lst (as.map V.ref ++ [.ref q]))) R (rs ++ [fs]) := by
  obtain ⟨s, as, h1, h2, h3, h4⟩ := h
  have hR1 := e _ _ h1
  have b : But R H1 (upd H1 R (.lst (as.map V.ref ++ [.ref q]))) := fun c o n z => by rw [upd_ne n]; exact z
  have qR : q ≠ R := fun w => by rw [w, h1] at nq; cases nq
  refine ⟨as, hR1, h2.length, same_mut (s.trans e) nR, as ++ [q], by rw [upd_same, List.map_append]; rfl, ?_, fun a ha => ?_, ?_⟩
  · exact (h2.mono_mem fun a r ha z => (z.same e).keepBut (h3 a ha).2 hR1 b).snoc (hf.keepBut qR hR1 b)
  · rcases List.mem_append.mp ha with z | z
    · exact h3 a z
    · rw [List.mem_singleton] at z
      subst z
      exact ⟨none_of s nq, qR⟩
  · rw [List.nodup_append]
    refine ⟨h4, by simp, fun a ha b hb => ?_⟩
    rw [List.mem_singleton] at hb
    subst hb
    intro w
    subst w
    obtain ⟨i, hi⟩ := List.getElem?_of_mem ha
    obtain ⟨r, _, ⟨vs, hv, _⟩⟩ := h2.fwd hi
    rw [hv] at nq
    cases nq
theorem RB.last {H0 H : Hp} {R : Addr} {rs : List (List Fct)} {r : List Fct} (h : RB H0 H R (rs ++ [r])) : ∃ (as : List Addr) (a : Addr) (vs : List V), H R = some (.lst (as.map V.ref)) ∧ atI (as.map V.ref) (-1) = some (.ref a) ∧ H a = some (.lst vs) ∧ vs.length = r.length ∧
    ∀ (H2 : Hp) (v : V) (f : Fct), Same H H2 → FA H2 v f → RB H0 (upd H2 a (.lst (vs ++ [v]))) R (rs ++ [r ++ [f]]) := by
  obtain ⟨s, as, h1, h2, h3, h4⟩ := h
  obtain ⟨as0, a, rfl, h5, ⟨vs, h6, h7⟩⟩ := h2.unsnoc
  refine ⟨_, a, vs, h1, by rw [List.map_append]; exact atI_last, h6, h7.length, fun H2 v f e hv => ?_⟩
  have ha := h3 a (List.mem_append_right _ (.head _))
  have b : But a H2 (upd H2 a (.lst (vs ++ [v]))) := fun c o n z => by rw [upd_ne n]; exact z
  have ha2 := e _ _ h6
  rw [List.nodup_append] at h4
  refine ⟨same_mut (s.trans e) ha.1, as0 ++ [a], by rw [upd_ne ha.2.symm]; exact e _ _ h1, ?_, h3, ?_⟩
  · refine (h5.mono_mem fun c r hc z => (z.same e).keepBut (h4.2.2 c hc a (.head _)) ha2 b).snoc ⟨_, upd_same, ?_⟩
    exact (h7.mono fun _ _ z => (z.keep (.of e)).keep (.but b ha2)).snoc (hv.keep (.but b ha2))
  · rw [List.nodup_append]; exact h4
def AwAt (H : Hp) (aw : V) : Option FN → Prop
  | none => aw = .non
  | some n => ∃ p, aw = .ref p ∧ H p = some (.tup n.enc)
theorem kds_at {m : Nat} {k : Kd} (h : kds[m]? = some k) : k.no = m := by
  have hm : m < 8 := (List.getElem?_eq_some_iff.mp h).1
  match m, hm with
  | 0, _ => cases h; rfl
  | 1, _ => cases h; rfl
  | 2, _ => cases h; rfl
  | 3, _ => cases h; rfl
  | 4, _ => cases h; rfl
  | 5, _ => cases h; rfl
  | 6, _ => cases h; rfl
  | 7, _ => cases h; rfl
theorem kds_no (k : Kd) : kds[k.no]? = some k := by cases k <;> rfl
theorem kd_index (k : Kd) : ((kds.map fun k => V.str k.s)[k.no]? = some (.str k.s)) ∧ eqV (.str k.s) (.str k.s) = true ∧ ∀ (m : Nat) (z' : V), m < k.no → (kds.map fun k => V.str k.s)[m]? = some z' → eqV z' (.str k.s) = false := by
  refine ⟨by rw [List.getElem?_map, kds_no]; rfl, by show (k.s == k.s) = true; exact beq_self_eq_true _, fun m z' hm hz => ?_⟩
  rw [List.getElem?_map] at hz
  cases e : kds[m]? with
  | none => rw [e] at hz; cases hz
  | some k' =>
    rw [e] at hz
    cases hz
    show (k'.s == k.s) = false
    rw [beq_eq_false_iff_ne]
    intro w
    have := Kd.inj w
    subst this
    have := kds_at e
    omega
theorem bodyB_len {rs : List (List Fct)} {m : Nat} (hm : m ≤ 100000) (h : ∀ r ∈ rs, FctOk r m ∧ 0 < r.length ∧ r.length ≤ 1000) (hl : rs.length ≤ 1000) : ∀ t, ([79, 78, 82, 49] ++ numB rs.length ++ ((rs.take t).map runB).flatten : List Int).length ≤ 6 + 87 * (rs.take t).length + 4 * (rs.take t).flatten.length := by
  intro t
  have a2 : (numB rs.length).length ≤ 2 := numB_len 1 _ (by have p2 : (128 : Nat) ^ 2 = 16384 := by decide
                                                            omega)
  have key : ∀ qs : List (List Fct), (∀ r ∈ qs, FctOk r m ∧ 0 < r.length ∧ r.length ≤ 1000) → (qs.map runB).flatten.length ≤ 87 * qs.length + 4 * qs.flatten.length := by
    intro qs
    induction qs with
    | nil => intro _; simp
    | cons r t ih =>
      intro h
      have h1 := h r (.head _)
      have h2 := ih fun x hx => h x (.tail _ hx)
      have h3 := runB_len h1.1 hm h1.2.1 h1.2.2
      rw [List.map_cons, List.flatten_cons, List.length_append, List.length_cons, List.flatten_cons, List.length_append]
      omega
  have := key (rs.take t) fun r hr => h r (List.mem_of_mem_take hr)
  simp only [List.length_append, List.length_cons, List.length_nil]
  omega
theorem take_flat_len {α : Type} : ∀ (t : Nat) (rs : List (List α)), (rs.take t).flatten.length ≤ rs.flatten.length
  | 0, _ => by simp
  | _ + 1, [] => by simp
  | t + 1, r :: rs => by
    have := take_flat_len t rs
    rw [List.take_succ_cons, List.flatten_cons, List.flatten_cons, List.length_append, List.length_append]
    omega
/-- what the runs of a file give -/
theorem runs_all {fs : List Fct} {m : Nat} (ok : FctOk fs m) (lf : fs.length ≤ 1000) : (runsT fs fs.length).length ≤ 1000 ∧ (∀ r ∈ runsT fs fs.length, FctOk r m ∧ 0 < r.length ∧ r.length ≤ 1000) ∧ (runsT fs fs.length).flatten.length ≤ 1000 := by
  obtain ⟨h1, h2, h3⟩ := runsT_ok fs fs.length (Nat.le_refl _)
  refine ⟨by omega, fun r hr => ?_, by rw [h2, List.take_length]; exact lf⟩
  obtain ⟨a1, a2, a3⟩ := h3 r hr
  exact ⟨⟨fun f hf => ok.ok f (a3 f hf)⟩, a1, by omega⟩
theorem body_small {fs : List Fct} {m : Nat} (ok : FctOk fs m) (hm : m ≤ 100000) (lf : fs.length ≤ 1000) (t : Nat) : ([79, 78, 82, 49] ++ numB (runsT fs fs.length).length ++ (((runsT fs fs.length).take t).map runB).flatten : List Int).length ≤ 95000 := by
  obtain ⟨r1, r2, r3⟩ := runs_all ok lf
  have h := bodyB_len hm r2 r1 t
  have := take_flat_len t (runsT fs fs.length)
  have : ((runsT fs fs.length).take t).length ≤ 1000 := by rw [List.length_take]; omega
  omega

/-! ### in and not in over lists and tuples of tuples; max with default -/
def rInN (K : PySem.W.Frag) (tup neg : Bool) : R2 := fun x y H Q => ∃ d ds, Dp K H x d ∧ Dp K H y (if tup = true then .tuple ds else .list ds) ∧ d.canLay0 = true ∧ PyData.canLayAll0 ds = true ∧ d.depth ≤ 60 ∧ Q (.bl (if neg = true then !(ds.any fun z => PyData.eqv z d) else ds.any fun z => PyData.eqv z d)) H
section
variable {X : Cx} {K : PySem.W.Frag}
theorem room60 {A : Around} {d : PyData} {xs : List PyData} (hd : d.depth ≤ 60) (hu : A.units + 64 < cLine) : A.units + 1 + min (PyData.depthAll xs) d.depth < cLine := by
  have := Nat.min_le_right (PyData.depthAll xs) d.depth
  omega
theorem inD_at (h : X.K = K) (hu : X.A.units + 64 < cLine) : OpR X (compareOp .In) (rInN K false false) := by
  subst h
  intro pins s σ H x y v u Q I rx ry h
  obtain ⟨d, ds, hd, he, sd, se, dp, q⟩ := h
  obtain ⟨as, r1⟩ := Dp.reads I d x v hd rx
  obtain ⟨bs, r2⟩ := Dp.reads I (.list ds) y u he ry
  exact SeqAt.in_list_reads r2 r1 se sd (room60 dp hu) ⟨.bl _, H, I, rfl, q⟩
theorem notInD_at (h : X.K = K) (hu : X.A.units + 64 < cLine) : OpR X (compareOp .NotIn) (rInN K false true) := by
  subst h
  intro pins s σ H x y v u Q I rx ry h
  obtain ⟨d, ds, hd, he, sd, se, dp, q⟩ := h
  obtain ⟨as, r1⟩ := Dp.reads I d x v hd rx
  obtain ⟨bs, r2⟩ := Dp.reads I (.list ds) y u he ry
  exact SeqAt.notIn_list_reads r2 r1 se sd (room60 dp hu) ⟨.bl _, H, I, rfl, q⟩
theorem inDT_at (h : X.K = K) (hu : X.A.units + 64 < cLine) : OpR X (compareOp .In) (rInN K true false) := by
  subst h
  intro pins s σ H x y v u Q I rx ry h
  obtain ⟨d, ds, hd, he, sd, se, dp, q⟩ := h
  obtain ⟨as, r1⟩ := Dp.reads I d x v hd rx
  obtain ⟨bs, r2⟩ := Dp.reads I (.tuple ds) y u he ry
  exact SeqAt.in_tuple_reads r2 r1 se sd (room60 dp hu) ⟨.bl _, H, I, rfl, q⟩
theorem notInDT_at (h : X.K = K) (hu : X.A.units + 64 < cLine) : OpR X (compareOp .NotIn) (rInN K true true) := by
  subst h
  intro pins s σ H x y v u Q I rx ry h
  obtain ⟨d, ds, hd, he, sd, se, dp, q⟩ := h
  obtain ⟨as, r1⟩ := Dp.reads I d x v hd rx
  obtain ⟨bs, r2⟩ := Dp.reads I (.tuple ds) y u he ry
  exact SeqAt.notIn_tuple_reads r2 r1 se sd (room60 dp hu) ⟨.bl _, H, I, rfl, q⟩
def rMaxD (K : PySem.W.Frag) : List V → List V → Hp → VK → Prop := fun vs zs H Q => ∃ (a : Addr) (ns : List Int) (d : V), vs = [.ref a] ∧ zs = [d] ∧ SqL K H a (ns.map V.int) ∧ (ns = [] → Q d H) ∧ ∀ m, m ∈ ns → (∀ y, y ∈ ns → y ≤ m) → Q (.int m) H
theorem ints_hold {h : Heap} : ∀ {us : List Value} {ns : List Int}, Vals (ns.map V.int) us → PySem.W.HoldAll h us ns
  | [], [], _ => PySem.W.HoldAll.nil
  | _ :: _, _ :: _, .cons r t => by
    obtain ⟨tk, rfl⟩ := r
    exact PySem.W.HoldAll.cons (PySem.W.holds_int _ _) (ints_hold t)
theorem maxOf_mem : ∀ (ys : List Int) (y : Int), PySem.W.maxOf y ys ∈ y :: ys ∧ ∀ z ∈ y :: ys, z ≤ PySem.W.maxOf y ys
  | [], y => ⟨.head _, fun z h => by rw [List.mem_singleton] at h; subst h; exact Int.le_refl _⟩
  | x :: t, y => by
    have e : PySem.W.maxOf y (x :: t) = PySem.W.maxOf (if PySem.W.DatumOrd.lt y x = true then x else y) t := rfl
    have hlt : (PySem.W.DatumOrd.lt y x = true) ↔ y < x := by
      show (decide (y < x) = true) ↔ _
      exact decide_eq_true_iff
    rw [e]
    obtain ⟨h1, h2⟩ := maxOf_mem t (if PySem.W.DatumOrd.lt y x = true then x else y)
    by_cases c : y < x
    · rw [if_pos (hlt.mpr c)] at h1 h2 ⊢
      refine ⟨.tail _ h1, fun z hz => ?_⟩
      rcases List.mem_cons.mp hz with w | w
      · subst w
        have := h2 x (.head _)
        omega
      · exact h2 z w
    · rw [if_neg (fun z => c (hlt.mp z))] at h1 h2 ⊢
      refine ⟨?_, fun z hz => ?_⟩
      · rcases List.mem_cons.mp h1 with w | w
        · rw [w]; exact .head _
        · exact .tail _ (.tail _ w)
      · rcases List.mem_cons.mp hz with w | w
        · subst w; exact h2 _ (.head _)
        · rcases List.mem_cons.mp w with w | w
          · subst w
            have := h2 y (.head _)
            omega
          · exact h2 z (.tail _ w)
theorem maxd_at (h : X.K = K) (hu : X.A.units + 64 < cLine) (hc : X.calm = true := by rfl) : CallRK X (.builtin "max") ["default"] (rMaxD K) := by
  subst h
  intro pins s σ H vs zs us ws Q I r rz h
  obtain ⟨a, ns, d, rfl, rfl, hs, q0, q⟩ := h
  obtain ⟨its, rv, hl, _⟩ := I.list hs
  rw [Vals.ref1 r]
  obtain ⟨w1, rfl, e1⟩ := vals1 rz
  have hh := ints_hold (h := s.heap) rv
  refine PySem.W.max_list_datum_default (α := Int) (xs := ns) (I.ok.hd hc) hl.isList (by simpa using hh) (by show _ + 1 + 0 < _; omega) (fun e h' tk hk => ⟨d, H, I.kept hk, e1, q0 e⟩) fun y ys i v h' tk e hi hv hk => ?_
  subst e
  obtain ⟨m1, m2⟩ := maxOf_mem ys y
  have ev : ∃ t, v = .int (PySem.W.maxOf y ys) t := by
    obtain ⟨as, rd⟩ := hv
    cases rd with
    | int => exact ⟨_, rfl⟩
  obtain ⟨t, rfl⟩ := ev
  exact ⟨.int _, H, I.kept hk, ⟨_, rfl⟩, q _ m1 m2⟩
end

/-! ### the list of the cells -/
abbrev Cel := Int × Int × Int
def CelV (H : Hp) (v : V) (c : Cel) : Prop := ∃ a, v = .ref a ∧ H a = some (.tup [.int c.1, .int c.2.1, .int c.2.2])
def CelL (H : Hp) (D : Addr) (cs : List Cel) : Prop := ∃ vs, H D = some (.lst vs) ∧ All2 (CelV H) vs cs
theorem CelV.same {H H' : Hp} (e : Same H H') {v : V} {c : Cel} (h : CelV H v c) : CelV H' v c := by
  obtain ⟨a, h1, h2⟩ := h
  exact ⟨a, h1, e _ _ h2⟩
theorem CelL.same {H H' : Hp} {D : Addr} {cs : List Cel} (e : Same H H') (h : CelL H D cs) : CelL H' D cs := by
  obtain ⟨vs, h1, h2⟩ := h
  exact ⟨vs, e _ _ h1, h2.mono fun _ _ r => r.same e⟩
theorem CelL.next {H : Hp} {D a : Addr} {vs : List V} {cs : List Cel} {p i j : Int} (h1 : H D = some (.lst vs)) (h2 : All2 (CelV H) vs cs) (na : H a = none) : CelL (upd (upd H a (.tup [.int p, .int i, .int j])) D (.lst (vs ++ [.ref a]))) D (cs ++ [(p, i, j)]) := by
  have aD : a ≠ D := fun z => by rw [z, h1] at na; cases na
  refine ⟨_, upd_same, All2.snoc (h2.mono fun v c r => ?_) ⟨a, rfl, by rw [upd_ne aD]; exact upd_same⟩⟩
  obtain ⟨x, rfl, hx⟩ := r
  have xD : x ≠ D := fun z => by rw [z, h1] at hx; cases hx
  exact ⟨x, rfl, by rw [upd_ne xD, upd_ne (ne_of_none hx na)]; exact hx⟩
theorem CelL.dv {H : Hp} {D : Addr} {cs : List Cel} (h : CelL H D cs) (l : cs.length ≤ 100000) {m : Nat} : DV anyA H (m + 3) (.ref D) (.l (cs.map fun c => .t [.i c.1, .i c.2.1, .i c.2.2])) := by
  obtain ⟨vs, h1, h2⟩ := h
  refine ⟨D, vs, rfl, trivial, h1, by rw [h2.length]; exact l, ?_⟩
  clear h1 l
  induction h2 with
  | nil => exact .nil
  | cons r _ ih =>
    obtain ⟨a, rfl, ha⟩ := r
    exact .cons ⟨a, _, rfl, trivial, ha, by show 3 ≤ 100000; decide, .cons rfl (.cons rfl (.cons rfl .nil))⟩ ih
def rowC (p i c : Nat) : List Cel := (List.range c).map fun (j : Nat) => ((p : Int), (i : Int), (j : Int))
def parC (p r c : Nat) : List Cel := (List.range r).flatMap fun i => rowC p i c
def cellsC (pms : List (Int × Int × Str × Int)) (P : Nat) : List Cel := (List.range P).flatMap fun p => parC p (pget (sides pms) (p : Nat)).1.toNat (pget (sides pms) (p : Nat)).2.toNat
theorem rowC_succ (p i c : Nat) : rowC p i (c + 1) = rowC p i c ++ [((p : Int), (i : Int), (c : Int))] := by unfold rowC; rw [List.range_succ, List.map_append]; rfl
theorem parC_succ (p r c : Nat) : parC p (r + 1) c = parC p r c ++ rowC p r c := by unfold parC; rw [List.range_succ, List.flatMap_append, List.flatMap_singleton]
theorem cellsC_succ (pms : List (Int × Int × Str × Int)) (P : Nat) : cellsC pms (P + 1) = cellsC pms P ++ parC P (pget (sides pms) (P : Nat)).1.toNat (pget (sides pms) (P : Nat)).2.toNat := by unfold cellsC; rw [List.range_succ, List.flatMap_append, List.flatMap_singleton]
theorem rowC_len (p i c : Nat) : (rowC p i c).length = c := by unfold rowC; rw [List.length_map, List.length_range]
theorem parC_len (p : Nat) {c : Nat} (h : c ≤ 6) : ∀ r, (parC p r c).length ≤ 6 * r
  | 0 => Nat.zero_le _
  | r + 1 => by
    rw [parC_succ, List.length_append, rowC_len]
    have := parC_len p h r
    omega
theorem cellsC_len {ni nt : Int} {pms : List (Int × Int × Str × Int)} {nds : List Nd} {ls : List Int} (u : Built ni nt pms nds ls) : ∀ P, P ≤ pms.length → (cellsC pms P).length ≤ 36 * P
  | 0, _ => Nat.zero_le _
  | P + 1, h => by
    rw [cellsC_succ, List.length_append]
    have := cellsC_len u P (by omega)
    have g := u.pg (p := (P : Int)) ⟨by omega, by omega⟩
    have := parC_len P (c := (pget (sides pms) (P : Nat)).2.toNat) (by omega) (pget (sides pms) (P : Nat)).1.toNat
    omega
def spLCells : Sp := fun vs H Q _ => ∃ (b r : Addr) (rs : List Int) (jb RL DL n PL NL LL : Addr) (ni nt : Int) (pms : List (Int × Int × Str × Int)) (nds : List Nd) (ls : List Int) (seed batch factor point : Int) (rates : List (Int × Int)) (data : List (List Int × List Int)), vs = [.ref jb] ∧
  JobG H b r rs jb RL DL n PL NL LL ni nt pms nds ls seed batch factor point rates data ∧ Built ni nt pms nds ls ∧ ∀ (D : Addr) (H' : Hp), H D = none → Same H H' → CelL H' D (cellsC pms pms.length) → Q (.ref D) H'

/-! ### drawn acts -/
inductive Act where
  | load (ns : List FN) | make (ns : List FN) | send (r : Int) (ns : List FN) | recv (r : Int) (ns : List FN) | save (ns : List FN) | tell (n : Int) | drop (ns : List FN)
def Act.kind : Act → Str
  | .load .. => "load" | .make .. => "make" | .send .. => "send" | .recv .. => "recv" | .save .. => "save" | .tell .. => "tell" | .drop .. => "drop"
def Act.ns : Act → List FN
  | .load ns => ns | .make ns => ns | .send _ ns => ns | .recv _ ns => ns | .save ns => ns | .tell _ => [] | .drop ns => ns
def Act.gives : Act → List FN
  | .load ns => ns | .make ns => ns | .recv _ ns => ns | _ => []
def NmA (H : Hp) (v : V) (n : FN) : Prop := ∃ a, v = .ref a ∧ H a = some (.tup n.enc)
theorem NmA.keep {H H' : Hp} {v : V} {n : FN} (h : NmA H v n) (e : TupS H H') : NmA H' v n := by
  obtain ⟨a, h0, h1⟩ := h
  exact ⟨a, h0, e _ _ h1⟩
def NmsA (H : Hp) (t : Addr) (ns : List FN) : Prop := ∃ vs, H t = some (.tup vs) ∧ All2 (NmA H) vs ns
theorem NmsA.keep {H H' : Hp} {t : Addr} {ns : List FN} (h : NmsA H t ns) (e : TupS H H') : NmsA H' t ns := by
  obtain ⟨vs, h0, h1⟩ := h
  exact ⟨vs, e _ _ h0, h1.mono fun _ _ z => z.keep e⟩
/-- an entry: a name and the way in which it is made -/
def EntA (H : Hp) (v : V) (n : FN) : Prop := ∃ a b c, v = .ref a ∧ H a = some (.tup [.ref b, .ref c]) ∧ H b = some (.tup n.enc) ∧ H c = some (.tup [.str "direct"])
theorem EntA.keep {H H' : Hp} {v : V} {n : FN} (h : EntA H v n) (e : TupS H H') : EntA H' v n := by
  obtain ⟨a, b, c, h0, h1, h2, h3⟩ := h
  exact ⟨a, b, c, h0, e _ _ h1, e _ _ h2, e _ _ h3⟩
def EntsA (H : Hp) (t : Addr) (ns : List FN) : Prop := ∃ vs, H t = some (.tup vs) ∧ All2 (EntA H) vs ns
theorem EntsA.keep {H H' : Hp} {t : Addr} {ns : List FN} (h : EntsA H t ns) (e : TupS H H') : EntsA H' t ns := by
  obtain ⟨vs, h0, h1⟩ := h
  exact ⟨vs, e _ _ h0, h1.mono fun _ _ z => z.keep e⟩
def ActA (H : Hp) (a : Addr) : Act → Prop
  | .load ns => ∃ t, H a = some (.tup [.str "load", .ref t]) ∧ NmsA H t ns
  | .make ns => ∃ t, H a = some (.tup [.str "make", .ref t]) ∧ EntsA H t ns
  | .send r ns => ∃ t, H a = some (.tup [.str "send", .int r, .ref t]) ∧ NmsA H t ns
  | .recv r ns => ∃ t, H a = some (.tup [.str "recv", .int r, .ref t]) ∧ NmsA H t ns
  | .save ns => ∃ t, H a = some (.tup [.str "save", .ref t]) ∧ NmsA H t ns
  | .tell n => H a = some (.tup [.str "tell", .int n])
  | .drop ns => ∃ t, H a = some (.tup [.str "drop", .ref t]) ∧ NmsA H t ns
theorem ActA.keep {H H' : Hp} {a : Addr} {c : Act} (h : ActA H a c) (e : TupS H H') : ActA H' a c := by
  cases c with
  | load ns => obtain ⟨t, h1, h2⟩ := h; exact ⟨t, e _ _ h1, h2.keep e⟩
  | make ns => obtain ⟨t, h1, h2⟩ := h; exact ⟨t, e _ _ h1, h2.keep e⟩
  | send r ns => obtain ⟨t, h1, h2⟩ := h; exact ⟨t, e _ _ h1, h2.keep e⟩
  | recv r ns => obtain ⟨t, h1, h2⟩ := h; exact ⟨t, e _ _ h1, h2.keep e⟩
  | save ns => obtain ⟨t, h1, h2⟩ := h; exact ⟨t, e _ _ h1, h2.keep e⟩
  | tell n => exact e _ _ h
  | drop ns => obtain ⟨t, h1, h2⟩ := h; exact ⟨t, e _ _ h1, h2.keep e⟩
/-- the act's tuple: the kind first -/
theorem ActA.head {H : Hp} {a : Addr} {c : Act} (h : ActA H a c) : ∃ r, H a = some (.tup (.str c.kind :: r)) := by
  cases c with
  | load ns => obtain ⟨t, h1, h2⟩ := h; exact ⟨_, h1⟩
  | make ns => obtain ⟨t, h1, h2⟩ := h; exact ⟨_, h1⟩
  | send r ns => obtain ⟨t, h1, h2⟩ := h; exact ⟨_, h1⟩
  | recv r ns => obtain ⟨t, h1, h2⟩ := h; exact ⟨_, h1⟩
  | save ns => obtain ⟨t, h1, h2⟩ := h; exact ⟨_, h1⟩
  | tell n => exact ⟨_, h⟩
  | drop ns => obtain ⟨t, h1, h2⟩ := h; exact ⟨_, h1⟩
/-- the names at the end of an act's tuple -/
theorem ActA.tail {H : Hp} {a : Addr} {c : Act} (h : ActA H a c) (h1 : c.kind ≠ "make") (h2 : c.kind ≠ "tell") : ∃ xs t, H a = some (.tup (xs ++ [.ref t])) ∧ NmsA H t c.ns := by
  cases c with
  | load ns => obtain ⟨t, h1, h2⟩ := h; exact ⟨[_], t, h1, h2⟩
  | make ns => exact absurd rfl h1
  | send r ns => obtain ⟨t, h1, h2⟩ := h; exact ⟨[_, _], t, h1, h2⟩
  | recv r ns => obtain ⟨t, h1, h2⟩ := h; exact ⟨[_, _], t, h1, h2⟩
  | save ns => obtain ⟨t, h1, h2⟩ := h; exact ⟨[_], t, h1, h2⟩
  | tell n => exact absurd rfl h2
  | drop ns => obtain ⟨t, h1, h2⟩ := h; exact ⟨[_], t, h1, h2⟩
/-- lists of names, of acts -/
def NL (H : Hp) (l : Addr) (ns : List FN) : Prop := ∃ vs, H l = some (.lst vs) ∧ All2 (NmA H) vs ns
theorem NL.same {H H' : Hp} {l : Addr} {ns : List FN} (h : NL H l ns) (e : Same H H') : NL H' l ns := by
  obtain ⟨vs, h1, h2⟩ := h
  exact ⟨vs, e _ _ h1, h2.mono fun _ _ z => z.keep (.of e)⟩
theorem NL.far {H : Hp} {b r l : Addr} {rs : List Int} {ns : List FN} (h : NL H l ns) (B : Box H b r rs) : l ≠ b := fun e => by
  obtain ⟨vs, h1, h2⟩ := h
  obtain ⟨z, _, hb⟩ := B.ex
  rw [e, hb] at h1
  cases h1
  cases h2 with
  | cons x t => cases t with
    | cons y t' => obtain ⟨_, w, _⟩ := y; cases w
theorem NL.but {H H' : Hp} {b r l : Addr} {rs : List Int} {ns : List FN} (h : NL H l ns) (B : Box H b r rs) (e : But b H H') : NL H' l ns := by
  have n := h.far B
  obtain ⟨vs, h1, h2⟩ := h
  obtain ⟨z, _, hb⟩ := B.ex
  exact ⟨vs, e _ _ n h1, h2.mono fun _ _ z => z.keep (.but e hb)⟩
/-- an act as an item of a list -/
def ActV (H : Hp) (v : V) (c : Act) : Prop := ∃ a, v = .ref a ∧ ActA H a c
theorem ActV.keep {H H' : Hp} {v : V} {c : Act} (h : ActV H v c) (e : TupS H H') : ActV H' v c := by
  obtain ⟨a, h0, h1⟩ := h
  exact ⟨a, h0, h1.keep e⟩
def AL (H : Hp) (l : Addr) (as : List Act) : Prop := ∃ vs, H l = some (.lst vs) ∧ All2 (ActV H) vs as
theorem AL.same {H H' : Hp} {l : Addr} {as : List Act} (h : AL H l as) (e : Same H H') : AL H' l as := by
  obtain ⟨vs, h1, h2⟩ := h
  exact ⟨vs, e _ _ h1, h2.mono fun _ _ z => z.keep (.of e)⟩
/-- a pair of a rank and an act -/
def PairA (H : Hp) (v : V) (p : Int × Act) : Prop := ∃ a b, v = .ref a ∧ H a = some (.tup [.int p.1, .ref b]) ∧ ActA H b p.2
theorem PairA.keep {H H' : Hp} {v : V} {p : Int × Act} (h : PairA H v p) (e : TupS H H') : PairA H' v p := by
  obtain ⟨a, b, h0, h1, h2⟩ := h
  exact ⟨a, b, h0, e _ _ h1, h2.keep e⟩
def PL' (H : Hp) (l : Addr) (ps : List (Int × Act)) : Prop := ∃ vs, H l = some (.lst vs) ∧ All2 (PairA H) vs ps
theorem PL'.same {H H' : Hp} {l : Addr} {ps : List (Int × Act)} (h : PL' H l ps) (e : Same H H') : PL' H' l ps := by
  obtain ⟨vs, h1, h2⟩ := h
  exact ⟨vs, e _ _ h1, h2.mono fun _ _ z => z.keep (.of e)⟩
theorem PL'.far {H : Hp} {b r l : Addr} {rs : List Int} {ps : List (Int × Act)} (h : PL' H l ps) (B : Box H b r rs) : l ≠ b := fun e => by
  obtain ⟨vs, h1, h2⟩ := h
  obtain ⟨z, _, hb⟩ := B.ex
  rw [e, hb] at h1
  cases h1
  cases h2 with
  | cons x t => cases t with
    | cons y t' => obtain ⟨_, _, w, _⟩ := y; cases w
theorem PL'.but {H H' : Hp} {b r l : Addr} {rs : List Int} {ps : List (Int × Act)} (h : PL' H l ps) (B : Box H b r rs) (e : But b H H') : PL' H' l ps := by
  have n := h.far B
  obtain ⟨vs, h1, h2⟩ := h
  obtain ⟨z, _, hb⟩ := B.ex
  exact ⟨vs, e _ _ n h1, h2.mono fun _ _ z => z.keep (.but e hb)⟩
/-! names in lists of names -/
theorem names_any (ns : List FN) (n : FN) : ((ns.map FN.dat).any fun z => PyData.eqv z n.dat) = decide (n ∈ ns) := by
  rw [List.any_map, Bool.eq_iff_iff, List.any_eq_true, decide_eq_true_iff]
  constructor
  · rintro ⟨x, hx, he⟩
    have he : PyData.eqv x.dat n.dat = true := he
    rw [FN.eqv] at he
    rw [← of_decide_eq_true he]
    exact hx
  · intro h
    exact ⟨n, h, by show PyData.eqv n.dat n.dat = true; rw [FN.eqv]; exact decide_eq_true rfl⟩
theorem names_can : ∀ ns : List FN, PyData.canLayAll0 (ns.map FN.dat) = true
  | [] => rfl
  | n :: r => by
    show (PyData.canLay0 n.dat && PyData.canLayAll0 (r.map FN.dat)) = true
    rw [n.can, names_can r]
    rfl
theorem names_dp {K : PySem.W.Frag} {H : Hp} : ∀ {vs : List V} {ns : List FN}, All2 (NmA H) vs ns → DpAll K H vs (ns.map FN.dat)
  | _, _, .nil => .nil
  | _, _, .cons h t => .cons (by obtain ⟨a, rfl, h1⟩ := h; exact FN.dp h1) (names_dp t)
theorem in_names {K : PySem.W.Frag} {H : Hp} {a t : Addr} {n : FN} {ns : List FN} {neg : Bool} {Q : VK} (h : H a = some (.tup n.enc)) (ht : NmsA H t ns) (q : Q (.bl (if neg = true then !decide (n ∈ ns) else decide (n ∈ ns))) H) : rInN K true neg (.ref a) (.ref t) H Q := by
  obtain ⟨vs, h1, h2⟩ := ht
  refine ⟨_, ns.map FN.dat, FN.dp h, .tup (SqT.of h1) (names_dp h2), n.can, names_can ns, Nat.le_trans n.depth (by decide), ?_⟩
  rw [names_any]
  exact q
theorem in_namesL {K : PySem.W.Frag} {H : Hp} {a l : Addr} {n : FN} {ns : List FN} {neg : Bool} {Q : VK} (h : H a = some (.tup n.enc)) (ht : NL H l ns) (q : Q (.bl (if neg = true then !decide (n ∈ ns) else decide (n ∈ ns))) H) : rInN K false neg (.ref a) (.ref l) H Q := by
  obtain ⟨vs, h1, h2⟩ := ht
  refine ⟨_, ns.map FN.dat, FN.dp h, .lst (SqL.of h1) (names_dp h2), n.can, names_can ns, Nat.le_trans n.depth (by decide), ?_⟩
  rw [names_any]
  exact q
/-! ### promises -/
def spNamesOf : Sp := fun vs H Q _ => ∃ (a : Addr) (c : Act), vs = [.ref a] ∧ ActA H a c ∧ c.ns.length ≤ 1000 ∧ ∀ (p : Addr) (H' : Hp), Same H H' → H p = none → NL H' p c.ns → Q (.ref p) H'
def spGives : Sp := fun vs H Q _ => ∃ (a : Addr) (c : Act), vs = [.ref a] ∧ ActA H a c ∧ c.ns.length ≤ 1000 ∧ ∀ (p : Addr) (H' : Hp), Same H H' → H p = none → NL H' p c.gives → Q (.ref p) H'
def spSome (n0 : Nat) : Sp := fun vs H Q _ => ∃ (b r l : Addr) (rs : List Int) (pool : List FN) (most : Int), vs = [.ref b, .ref l, .int most] ∧ Box H b r rs ∧ NL H l pool ∧ 0 < pool.length ∧ pool.length ≤ 1000 ∧ 1 ≤ most ∧ most ≤ n0 ∧
  ∀ (p : Addr) (ns : List FN) (H' : Hp), Box H' b r rs → But b H H' → 0 < ns.length → ns.length ≤ most → (∀ n ∈ ns, n ∈ pool) → H p = none → NmsA H' p ns → Q (.ref p) H'
def spDAct (n0 : Nat) : Sp := fun vs H Q _ => ∃ (b r l : Addr) (rs : List Int) (pool : List FN), vs = [.ref b, .ref l] ∧ Box H b r rs ∧ NL H l pool ∧ 0 < pool.length ∧ pool.length ≤ 1000 ∧
  ∀ (p : Addr) (c : Act) (H' : Hp), Box H' b r rs → But b H H' → c.ns.length ≤ n0 → ActA H' p c → Q (.ref p) H'
def spPool : Sp := fun vs H Q _ => ∃ (b r : Addr) (rs : List Int) (jb RL DL n PL NL' LL : Addr) (ni nt : Int) (pms : List (Int × Int × Str × Int)) (nds : List Nd) (ls : List Int) (seed batch factor point : Int) (rates : List (Int × Int)) (data : List (List Int × List Int)), vs = [.ref jb] ∧
  JobG H b r rs jb RL DL n PL NL' LL ni nt pms nds ls seed batch factor point rates data ∧ Built ni nt pms nds ls ∧ 1 ≤ pms.length ∧ ∀ (p : Addr) (pool : List FN) (H' : Hp), H p = none → Same H H' → NL H' p pool → 0 < pool.length → pool.length ≤ 100 → (∀ n ∈ pool, n.ns.length ≤ 100) → Q (.ref p) H'
theorem NmsA.nl {H H' : Hp} {t p : Addr} {vs : List V} {ns : List FN} (h : H t = some (.tup vs)) (hn : All2 (NmA H) vs ns) (e : Same H H') (hp : H' p = some (.lst vs)) : NL H' p ns := ⟨vs, hp, hn.mono fun _ _ z => z.keep (.of e)⟩
/-- what an act gives: by its kind -/
theorem Act.gives_yes {c : Act} (h : c.kind ∈ [("load" : Str), "make", "recv"]) : c.gives = c.ns := by cases c <;> first | rfl | (exfalso; revert h; dsimp only [Act.kind]; decide)
theorem Act.gives_no {c : Act} (h : c.kind ∉ [("load" : Str), "make", "recv"]) : c.gives = [] := by cases c <;> first | rfl | (exfalso; revert h; dsimp only [Act.kind]; decide)
theorem Act.is_tell {c : Act} (h : c.kind = "tell") : ∃ n, c = .tell n := by cases c <;> first | exact ⟨_, rfl⟩ | (exfalso; revert h; dsimp only [Act.kind]; decide)
theorem Act.is_make {c : Act} (h : c.kind = "make") : ∃ ns, c = .make ns := by cases c <;> first | exact ⟨_, rfl⟩ | (exfalso; revert h; dsimp only [Act.kind]; decide)
theorem Act.is_load {c : Act} (h : c.kind = "load") : ∃ ns, c = .load ns := by cases c <;> first | exact ⟨_, rfl⟩ | (exfalso; revert h; dsimp only [Act.kind]; decide)
theorem Act.is_drop {c : Act} (h : c.kind = "drop") : ∃ ns, c = .drop ns := by cases c <;> first | exact ⟨_, rfl⟩ | (exfalso; revert h; dsimp only [Act.kind]; decide)
theorem Act.is_recv {c : Act} (h : c.kind = "recv") : ∃ r ns, c = .recv r ns := by cases c <;> first | exact ⟨_, _, rfl⟩ | (exfalso; revert h; dsimp only [Act.kind]; decide)
theorem Act.is_send {c : Act} (h : c.kind = "send") : ∃ r ns, c = .send r ns := by cases c <;> first | exact ⟨_, _, rfl⟩ | (exfalso; revert h; dsimp only [Act.kind]; decide)

structure PlanAt (cs : Cs) (H : Hp) (x : Addr) (ps : List (Int × Act)) (ranks : Int) : Prop where
  ex : ∃ (dx : Addr) (fs : List (Str × V)) (D : Addr), H x = some (.ins cs.Plan dx fs) ∧ fs.lookup ("acts" : Str) = some (V.ref D) ∧ fs.lookup ("ranks" : Str) = some (V.int ranks) ∧ fs.lookup ("acts_of" : Str) = none ∧ PL' H D ps
theorem PlanAt.same {cs : Cs} {H H' : Hp} {x : Addr} {ps : List (Int × Act)} {ranks : Int} (h : PlanAt cs H x ps ranks) (e : Same H H') : PlanAt cs H' x ps ranks := by
  obtain ⟨dx, fs, D, h1, h2, h3, h4, h5⟩ := h.ex
  exact ⟨dx, fs, D, e _ _ h1, h2, h3, h4, h5.same e⟩
def ofRank (ps : List (Int × Act)) (rank : Int) : List Act := (ps.filter fun p => decide (p.1 = rank)).map Prod.snd
def spPlanInit (cs : Cs) : Sp := fun vs H Q _ => ∃ (x D dx : Addr) (ps : List (Int × Act)) (ranks : Int), vs = [.ref x, .ref D, .int ranks] ∧ H x = some (.ins cs.Plan dx []) ∧ PL' H D ps ∧ ps.length ≤ 1000 ∧ ∀ H', But x H H' → PlanAt cs H' x ps ranks → Q .non H'
theorem NL.keepBut {H H' : Hp} {D l : Addr} {us : List V} {ns : List FN} (h : NL H l ns) (n : l ≠ D) (hD : H D = some (.lst us)) (e : But D H H') : NL H' l ns := by
  obtain ⟨vs, h1, h2⟩ := h
  exact ⟨vs, e _ _ n h1, h2.mono fun _ _ z => z.keep (.but e hD)⟩

/-! ### enumerate(o): o's own __iter__ gives iter(self.f) -/
section
variable {prog : Program} {w : World} {A : Around} {E : Value → Shared → Prop} {s : Shared}
def EnQ (Q : Value → Shared → Prop) (u : Value) (s1 : Shared) : Prop := ∃ it, u = .ref it ∧ Q (.ref s1.heap.objs.size) { s1 with heap := s1.heap.push { cls := .type "enumerate", data := .fields #[.none, .bool false, .ref it, rawInt 0, .none, .none] } }
theorem enum_new {a : Addr} {Q : Value → Shared → Prop} (h : wpAny (model prog w) A (pyIter (.ref a)) (EnQ Q) E s) :
    wpAny (model prog w) A (Builtin.«enumerate.__new__» ⟨[.type "enumerate", .ref a], []⟩) (fun fin s' => ∃ v, fin = .done (.ret v) ∧ Q v s') E s := by
  have hsub := sub_enumerate
  obtain ⟨hp, g, d, tk, os⟩ := s
  have hi : ∀ {Q' : Value → Shared → Prop}, (∀ u s1, EnQ Q u s1 → Q' u s1) → wpAny (model prog w) A (pyIter (.ref a)) Q' E ⟨hp, g, d, tk, os⟩ := fun hq => wpAny_mono h hq fun _ _ e => e
  wp_walk
  refine wpAny_stack_any fun st => wpAny_pure ?_
  split
  · rename_i c _ _ _ _ _
    cases (c == Value.type "enumerate")
    · wp_walk using hi
      rintro u ⟨hp1, g1, d1, tk1, os1⟩ ⟨it, rfl, hq⟩
      wp_walk
      exact ⟨_, rfl, hq⟩
    · wp_walk using hi
      rintro u ⟨hp1, g1, d1, tk1, os1⟩ ⟨it, rfl, hq⟩
      wp_walk
      exact ⟨_, rfl, hq⟩
  · wp_walk using hi
    rintro u ⟨hp1, g1, d1, tk1, os1⟩ ⟨it, rfl, hq⟩
    wp_walk
    exact ⟨_, rfl, hq⟩
theorem call_enumO {a : Addr} {Q : Value → Shared → Prop} (h : wpAny (model prog w) A.in1.in1 (pyIter (.ref a)) (EnQ Q) E s) : wpAny (model prog w) A (call (.type "enumerate") [.ref a]) Q E s := by
  refine callType_codes (Q₁ := fun obj s₁ => s₁.TypeIs obj "enumerate" ∧ Q obj s₁) PySem.F.called_enumerate (PySem.F.typeCall_enumerate_1 _) PySem.F.entry_object_init ?_ fun obj s₁ h₁ =>
    ⟨h₁.1, PySem.F.args_object_init_2 obj _, object_init_meets PySem.F.called_enumerate.init.lookup PySem.F.called_enumerate.made (by decide) prog w A.in1 _ s₁ ⟨h₁.1, rfl, h₁.2⟩⟩
  refine codeAny_call_builtin PySem.F.called_enumerate.plain PySem.F.entry_enumerate_new (wpAny_of_eq (PySem.F.newCall_enumerate_1 _) ?_)
  refine wpAny_mono (enum_new (Q := fun obj s₁ => s₁.TypeIs obj "enumerate" ∧ Q obj s₁) (wpAny_mono h (fun u s1 hu => ?_) fun _ _ e => e)) (fun fin s' hf => ?_) fun _ _ e => e
  · obtain ⟨it, e, hq⟩ := hu
    exact ⟨it, e, ⟨_, Heap.get?_push_size _ rfl, rfl⟩, hq⟩
  · obtain ⟨v, rfl, hv⟩ := hf
    exact hv
end
section
variable {P : Program} {w : World} {K : PySem.W.Frag} {mg : Str → Option Value} {base : Heap}
/-- one run of a def, its promise told of the very state -/
theorem run_once {x qual : Str} {st : Stmt} {f : Addr} {fd : FuncData} {N ps : List Str} {k : Nat} (F : Fun K x qual st f fd) (S : FnScope N ps (defScope st)) {A : Around} {outer : List Env} {s : Shared} {H : Hp} {us : List Value} {vs : List V} {Q : VK}
    (hr : Room (k + 1) A) (e0 : Env0 P w K mg base A outer s H) (hb : BindsTo s fd ⟨us, []⟩ (ps.zip us)) (r : Vals vs us) (hl : vs.length = ps.length)
    (hbody : ∀ cdv, ∃ t, PSs (cxOf CX0 P w K mg base N qual (defScope st) f cdv A outer s H E0) (defBody st) t ∧ t { nx := fun _ H' => Q .non H', rt := Q } (start N vs) H) :
    codeAny (model P w) A (.call (.ref f) ⟨us, []⟩) (CR CX0 outer P w H s Q E0) s := by
  obtain ⟨oc, od, kV, doc, pm, an, cdv, ct, osl, rfl, lk, hcd⟩ := F.ex
  have KX : K.In s.heap := e0.mod.kin.keeps fun b o e => (e0.bs b o e).1
  have lim : s.heap.NoLimit := e0.mod.nolimit.keeps fun b o e => (e0.bs b o e).1
  have loc : ∀ y ∈ ps.zip us, (defScope st).names.lookup y.1 = some .local ∨ ((defScope st).names.lookup y.1 = some .cell ∧ ((cellsFrom (s.heap.objs.size + 1) (defScope st).names []).lookup y.1).isSome = true) := fun ⟨n, v⟩ hy =>
    (S.par n (List.of_mem_zip hy).1).elim .inl fun q => .inr ⟨q, PySem.W.cellsFrom_some _ _ _ (.inl q)⟩
  refine codeAny_call_function hr.depth (KX _ _ lk) rfl S.co S.gen rfl (PySem.W.codeRec_of KX hcd) (hb _ _ _ _ (wpAny_newFunctionEnv_cells S.kind loc fun env he s1 z => ?_))
  subst he
  refine ⟨lim.keeps z.toInCall.keep, codeAny_func ?_⟩
  obtain ⟨t, ht, hq⟩ := hbody cdv
  have I : Inv (cxOf CX0 P w K mg base N qual (defScope st) f cdv A outer s H E0) [] (start N vs) H s1 := inv_start S hr.hd e0 hl r z
  refine wpAny_mono (ht.run [] s1 (start N vs) H _ I hq) (fun fl s' hs => ?_) fun e s' hs => hs
  cases fl with
  | ret u =>
    obtain ⟨v, σ', H', J, rv, q⟩ := hs
    exact ⟨v, H', J.os, J.bare, J.base, J.hok, rv, q⟩
  | next =>
    obtain ⟨σ', H', J, q⟩ := hs
    exact ⟨V.non, H', J.os, J.bare, J.base, J.hok, rfl, q⟩
  | brk => exact False.elim hs.choose_spec.choose_spec.2
  | cont => exact False.elim hs.choose_spec.choose_spec.2
end
/-- what the text tells of such a class -/
structure OwnIt (P : Program) (w : World) (K : PySem.W.Frag) (mg : Str → Option Value) (base : Heap) (C : Addr) (fld : Str) : Prop where
  ex : ∃ (fi : Addr) (fd : FuncData) (qual : Str) (st : Stmt), PySem.W.findIn K (.ref C) "__iter__" = some (some (.ref fi)) ∧ PySem.W.isFn K (.ref fi) = true ∧ Fun K "__iter__" qual st fi fd ∧ FnScope ["self"] ["self"] (defScope st) ∧ L2.Binds K fd ["self"] [] ∧
    ∀ (a D dx : Addr) (fs : List (Str × V)) (xs : List V) (cdv : Value) (A : Around) (outer : List Env) (s : Shared) (H : Hp) (Q : VK), H a = some (.ins C dx fs) → fs.lookup fld = some (.ref D) → SqL K H D xs → (∀ it, H it = none → s.heap.objs.size ≤ it → Q (.ref it) (upd H it (ItO D it 0))) →
      ∃ t, PSs (cxOf CX0 P w K mg base ["self"] qual (defScope st) fi cdv A outer s H E0) (defBody st) t ∧ t { nx := fun _ H' => Q .non H', rt := Q } (start ["self"] [.ref a]) H
section
variable {X : Cx} {pins : List (Addr × Obj)} {σ : L2.St} {H : Hp} {s : Shared}
theorem iter_own {C a dx D : Addr} {fld : Str} {fs : List (Str × V)} {xs : List V} {A1 : Around} {Q : Value → Shared → Prop} (O : OwnIt X.prog X.w X.K X.mg X.base C fld) (sb : L2.Sub X 1 A1) (I : L2.Inv X pins σ H s) (ha : H a = some (.ins C dx fs)) (hf : fs.lookup fld = some (.ref D)) (hD : SqL X.K H D xs)
    (q : ∀ it s', L2.Inv X pins σ (upd H it (ItO D it 0)) s' → s.heap.objs.size ≤ it → H it = none → Q (.ref it) s') : wpAny (model X.prog X.w) A1 (pyIter (.ref a)) Q X.xe s := by
  obtain ⟨fi, fd, qual, st, h1, h2, F, S, bI, hb⟩ := O.ex
  obtain ⟨mA, J, _⟩ := ins_get I.hok ha
  obtain ⟨od, J, _⟩ := J.look
  obtain ⟨m, hF⟩ := I.fr
  have e0 : Env0 X.prog X.w X.K X.mg X.base A1 X.stack s H := by
    have e := I.env0
    exact ⟨by rw [sb.fr]; exact e.frames, e.mod, e.bs, e.bsz, e.funs, e.frf, e.hok, e.bare⟩
  have r2 : Vals [V.ref a] [Value.ref a] := .cons rfl .nil
  refine PySem.W.owit_iter hF I.ok.mod.kin J h1 h2 (wpAny_call (codeAny_mono (run_once (Q := fun v H' => ∃ it, v = .ref it ∧ H' = upd H it (ItO D it 0) ∧ s.heap.objs.size ≤ it ∧ H it = none) F S sb.room e0 (by
    have := bI s [.ref a] I.kIn rfl
    simpa using this) r2 rfl fun cdv => hb a D dx fs xs cdv A1 X.stack s H (fun v H' => ∃ it, v = .ref it ∧ H' = upd H it (ItO D it 0) ∧ s.heap.objs.size ≤ it ∧ H it = none) ha hf hD fun it n1 n2 => ⟨it, rfl, rfl, n2, n1⟩) fun r s' hq => ?_))
  cases r with
  | error e => exact hq.elim
  | ok fl =>
    cases fl with
    | next => exact hq.elim
    | brk => exact hq.elim
    | cont => exact hq.elim
    | ret u =>
      obtain ⟨v, H', I', rv, it, ev, eH, hn, hN⟩ := I.after hq
      subst ev
      subst eH
      cases rv
      have go := itO_get I' upd_same
      show PySem.W.OwitIt _ _ _ _ _ _
      unfold PySem.W.OwitIt
      exact wpAny_specialOf (name := Str.ofString "__next__") (⟨_, go, rfl⟩ : s'.TypeIs (.ref it) "list_iterator") slot_listiter_next.lookup (q it s' I' hn hN)
end
def iEnumO (K : PySem.W.Frag) (C : Addr) (fld : Str) (ta : TA) : TI := fun σ H R => ta σ H fun vs H1 => ∃ a dx fs D xs, vs = [.ref a] ∧ H1 a = some (.ins C dx fs) ∧ fs.lookup fld = some (.ref D) ∧ SqL K H1 D xs ∧ R (Ite K D) H1
theorem pi_enumO {X : Cx} {C : Addr} {fld : Str} {e : PySem.Expr} {ta : TA} {p pos tpos : Pos} {elts : List PySem.Expr} {kk : Nat} (O : OwnIt X.prog X.w X.K X.mg X.base C fld) (hr : Room 3 X.A) (hg : Gl X "enumerate") (hm : X.mg "enumerate" = none) (ha : PA X [e] ta)
    (hs : starEach [e] X.env = [(false, eval e X.env)] := by rfl) : PI X (.Tuple elts kk tpos) (.Call (.Name "enumerate" p) [e] [] pos) (iEnumO X.K C fld ta) := by
  refine ⟨fun pins s σ H R I h => ?_⟩
  refine Call_ (ld_blt I hg hm boot_enumerate (PyProof.Rows.callWith_type1 (thn (ha.run pos pins s σ H _ I h) fun us s1 ⟨vs, H1, I1, r1, q1⟩ => ?_) hs rfl))
  obtain ⟨a, dx, fs, D, xs, ev, h1, h2, h3, q⟩ := q1
  subst ev
  obtain ⟨u, rfl, ru⟩ := vals1 r1
  cases ru
  have sb : L2.Sub X 1 X.A.in1.in1 := L2.Sub.in1 (L2.Sub.in1 (⟨hr, rfl⟩ : L2.Sub X 3 X.A))
  refine call_enumO (iter_own O sb I1 h1 h2 h3 fun it s2 I2 hn hN => ⟨it, rfl, ?_⟩)
  have hit := itO_get I2 upd_same
  have he : (s2.heap.push { cls := .type "enumerate", data := .fields #[.none, .bool false, .ref it, rawInt 0, .none, .none] }).get? s2.heap.objs.size = some { cls := .type "enumerate", data := .fields #[.none, .bool false, .ref it, rawInt 0, .none, .none] } := Heap.get?_push_size _ rfl
  have I3 := I2.kept (t' := s2.toks) (h' := s2.heap.push { cls := .type "enumerate", data := .fields #[.none, .bool false, .ref it, rawInt 0, .none, .none] }) fun b o x => Heap.get?_push_of_some _ x
  have hne : s2.heap.objs.size ≠ it := Nat.ne_of_gt (Heap.lt_size hit)
  have hx : (upd H1 it (ItO D it 0)) it = some (ItO D it 0) := upd_same
  unfold ItO at hx
  have I4 := ItX.inv_drop I3 hx
  rw [show (upd H1 it (ItO D it 0)) = upd H1 it (ItO D it 0) from rfl, ItX.dropH_upd hN] at I4
  have fpI : FpOk X pins H1 it := by
    have z := ItX.inv_fp I3 hx (Nat.le_trans I1.sz hn)
    rw [ItX.dropH_upd hN] at z
    exact z
  refine wpAny_pyIter_enum he ⟨s2.heap.objs.size, [s2.heap.objs.size, it], _, _, H1, rfl, I4, turn_enum D s2.heap.objs.size it, ⟨⟨.none, he⟩, ⟨_, Heap.get?_push_of_some _ hit, rfl, rfl⟩, hne⟩, fun b hb => ?_, q⟩
  have e' : b = s2.heap.objs.size ∨ b = it := by simpa using hb
  rcases e' with rfl | rfl
  · have z := I2.fpOk (H' := H1) (Nat.le_refl _) (by
      have w := I2.hok.fresh (Nat.le_refl s2.heap.objs.size)
      rw [upd_ne hne] at w
      exact w)
    exact z
  · exact fpI

theorem eqD_at {X : Cx} {K : PySem.W.Frag} (h : X.K = K) (hu : X.A.units + 64 < cLine) : OpR X (compareOp .Eq) (rEqD K) := by
  subst h
  exact op_eqD hu
/-! ### traces -/
def Act.narrow (c : Act) (n : FN) : Act := match c with
  | .load ns => .load (ns.filter fun m => decide (m = n))
  | .make ns => .make (ns.filter fun m => decide (m = n))
  | .send r ns => .send r (ns.filter fun m => decide (m = n))
  | .recv r ns => .recv r (ns.filter fun m => decide (m = n))
  | .save ns => .save (ns.filter fun m => decide (m = n))
  | .tell k => .tell k
  | .drop ns => .drop (ns.filter fun m => decide (m = n))
def spNarrowed : Sp := fun vs H Q _ => ∃ (a : Addr) (c : Act) (n : Addr) (nm : FN), vs = [.ref a, .ref n] ∧ ActA H a c ∧ H n = some (.tup nm.enc) ∧ c.ns.length ≤ 1000 ∧ c.kind ≠ "tell" ∧ ∀ (p : Addr) (H' : Hp), Same H H' → H p = none → ActA H' p (c.narrow nm) → Q (.ref p) H'
/-- the k-th act, of which a name is part -/
def traceOf (nm : FN) (k : Nat) (p : Int × Act) : List (Nat × Int × Act) := if nm ∈ p.2.ns then [(k, p.1, p.2.narrow nm)] else []
def tracesOf (nm : FN) (ps : List (Int × Act)) : Nat → List (Nat × Int × Act)
  | 0 => []
  | k + 1 => tracesOf nm ps k ++ traceOf nm k (ps.getD k (0, .tell 0))
def TrA (H : Hp) (v : V) (t : Nat × Int × Act) : Prop := ∃ a b, v = .ref a ∧ H a = some (.tup [.int (t.1 : Nat), .int t.2.1, .ref b]) ∧ ActA H b t.2.2
def TrL (H : Hp) (l : Addr) (ts : List (Nat × Int × Act)) : Prop := ∃ vs, H l = some (.lst vs) ∧ All2 (TrA H) vs ts
def spTrace (cs : Cs) : Sp := fun vs H Q _ => ∃ (x : Addr) (ps : List (Int × Act)) (ranks : Int) (n : Addr) (nm : FN), vs = [.ref x, .ref n] ∧ PlanAt cs H x ps ranks ∧ H n = some (.tup nm.enc) ∧ (ps.length ≤ 100 ∧ ∀ p ∈ ps, p.2.ns.length ≤ 100) ∧
  ∀ (p : Addr) (H' : Hp), Same H H' → H p = none → TrL H' p (tracesOf nm ps ps.length) → Q (.ref p) H'
def spDueTrace : Sp := fun vs H Q _ => ∃ (l : Addr) (ps : List (Int × Act)) (n : Addr) (nm : FN), vs = [.ref l, .ref n] ∧ PL' H l ps ∧ H n = some (.tup nm.enc) ∧ (ps.length ≤ 100 ∧ ∀ p ∈ ps, p.2.ns.length ≤ 100) ∧
  ∀ (p : Addr) (H' : Hp), Same H H' → H p = none → TrL H' p (tracesOf nm ps ps.length) → Q (.ref p) H'
def spDAct2 : Sp := fun vs H Q _ => ∃ (b r l : Addr) (rs : List Int) (pool : List FN), vs = [.ref b, .ref l] ∧ Box H b r rs ∧ NL H l pool ∧ 0 < pool.length ∧ pool.length ≤ 1000 ∧
  ∀ (p : Addr) (c : Act) (H' : Hp), Box H' b r rs → But b H H' → c.ns.length ≤ 10 → (∀ n ∈ c.ns, n ∈ pool) → ActA H' p c → Q (.ref p) H'
theorem eq_nm {K : PySem.W.Frag} {H : Hp} {a b : Addr} {n m : FN} {Q : VK} (h : H a = some (.tup n.enc)) (h' : H b = some (.tup m.enc)) (q : Q (.bl (decide (n = m))) H) : rEqD K (.ref a) (.ref b) H Q := by
  refine ⟨_, _, FN.dp h, FN.dp h', FN.shaped _, FN.shaped _, ?_⟩
  rw [FN.eqv]
  exact q
theorem sIx_last (n : Nat) : HT.sIx (n + 1) (n + 1) (some (-1)) = n := by
  show (if (-1 : Int) < 0 then ((-1 : Int) + ((n + 1 : Nat) : Int)).toNat else min (-1 : Int).toNat (n + 1)) = n
  rw [if_pos (by decide)]
  omega
theorem cut_last {xs : List V} {v : V} : cutV (xs ++ [v]) none (some (-1)) = xs := by
  unfold cutV
  rw [HT.sIx_none, List.drop_zero, Nat.sub_zero, List.length_append]
  show (xs ++ [v]).take (HT.sIx (xs.length + 1) (xs.length + 1) (some (-1))) = xs
  rw [sIx_last]
  exact List.take_left ..
theorem at_last {xs : List V} {v : V} : atI (xs ++ [v]) (-1) = some v := by
  unfold atI ixN
  rw [if_neg (by decide), if_pos (by rw [List.length_append]; show -((xs.length + 1 : Nat) : Int) ≤ -1; omega)]
  have e : ((-1 : Int) + (((xs ++ [v]).length : Nat) : Int)).toNat = xs.length := by
    rw [List.length_append]
    show ((-1 : Int) + ((xs.length + 1 : Nat) : Int)).toNat = xs.length
    omega
  show (xs ++ [v])[((-1 : Int) + (((xs ++ [v]).length : Nat) : Int)).toNat]? = some v
  rw [e, List.getElem?_append_right (Nat.le_refl _), Nat.sub_self]
  rfl
/-- the end of an act's tuple put anew -/
theorem ActA.anew {H : Hp} {a : Addr} {c : Act} (h : ActA H a c) (h1 : c.kind ≠ "make") (h2 : c.kind ≠ "tell") (nm : FN) : ∃ xs t, xs ≠ [] ∧ xs.length ≤ 5 ∧ H a = some (.tup (xs ++ [.ref t])) ∧ NmsA H t c.ns ∧
    ∀ (H' : Hp) (z t' : Addr), H' z = some (.tup (xs ++ [.ref t'])) → NmsA H' t' (c.ns.filter fun m => decide (m = nm)) → ActA H' z (c.narrow nm) := by
  have ne : ∀ (x : V) (l : List V), x :: l ≠ [] := fun _ _ z => nomatch z
  cases c with
  | load ns => obtain ⟨t, g1, g2⟩ := h; exact ⟨[_], t, ne _ _, by show 1 ≤ 5; decide, g1, g2, fun H' z t' hz ht => ⟨t', hz, ht⟩⟩
  | make ns => exact absurd rfl h1
  | send r ns => obtain ⟨t, g1, g2⟩ := h; exact ⟨[_, _], t, ne _ _, by show 2 ≤ 5; decide, g1, g2, fun H' z t' hz ht => ⟨t', hz, ht⟩⟩
  | recv r ns => obtain ⟨t, g1, g2⟩ := h; exact ⟨[_, _], t, ne _ _, by show 2 ≤ 5; decide, g1, g2, fun H' z t' hz ht => ⟨t', hz, ht⟩⟩
  | save ns => obtain ⟨t, g1, g2⟩ := h; exact ⟨[_], t, ne _ _, by show 1 ≤ 5; decide, g1, g2, fun H' z t' hz ht => ⟨t', hz, ht⟩⟩
  | tell n => exact absurd rfl h2
  | drop ns => obtain ⟨t, g1, g2⟩ := h; exact ⟨[_], t, ne _ _, by show 1 ≤ 5; decide, g1, g2, fun H' z t' hz ht => ⟨t', hz, ht⟩⟩
theorem filt_succ {ns : List FN} {i : Nat} {n nm : FN} (h : ns[i]? = some n) : ((ns.take (i + 1)).filter fun m => decide (m = nm)) = ((ns.take i).filter fun m => decide (m = nm)) ++ (if n = nm then [n] else []) := by
  rw [List.take_add_one, h, List.filter_append]
  by_cases c : n = nm <;> simp [c]
theorem filt_le {ns : List FN} {i : Nat} {nm : FN} : ((ns.take i).filter fun m => decide (m = nm)).length ≤ ns.length := Nat.le_trans (List.length_filter_le _ _) (by rw [List.length_take]; exact Nat.min_le_right _ _)
/-! as nested data -/
def FN.dt (n : FN) : Dt := .t (.s n.k.s :: n.ns.map Dt.i)
def EntD (n : FN) : Dt := .t [n.dt, .t [.s "direct"]]
def Act.dt : Act → Dt
  | .load ns => .t [.s "load", .t (ns.map FN.dt)]
  | .make ns => .t [.s "make", .t (ns.map EntD)]
  | .send r ns => .t [.s "send", .i r, .t (ns.map FN.dt)]
  | .recv r ns => .t [.s "recv", .i r, .t (ns.map FN.dt)]
  | .save ns => .t [.s "save", .t (ns.map FN.dt)]
  | .tell n => .t [.s "tell", .i n]
  | .drop ns => .t [.s "drop", .t (ns.map FN.dt)]
theorem FN.dv {H : Hp} {v : V} {n : FN} {m : Nat} (h : NmA H v n) (l : n.ns.length ≤ 100) : DV anyA H (m + 2) v n.dt := by
  obtain ⟨a, rfl, h1⟩ := h
  exact ⟨a, _, rfl, trivial, h1, by show (n.ns.map V.int).length + 1 ≤ 100000; rw [List.length_map]; omega, .cons rfl (DV.ints n.ns)⟩
theorem nms_dv {H : Hp} {m : Nat} : ∀ {vs : List V} {ns : List FN}, All2 (NmA H) vs ns → (∀ n ∈ ns, n.ns.length ≤ 100) → All2 (DV anyA H (m + 2)) vs (ns.map FN.dt)
  | _, _, .nil, _ => .nil
  | _, _, .cons h t, l => .cons (FN.dv h (l _ (.head _))) (nms_dv t fun n z => l n (.tail _ z))
theorem ents_dv {H : Hp} {m : Nat} : ∀ {vs : List V} {ns : List FN}, All2 (EntA H) vs ns → (∀ n ∈ ns, n.ns.length ≤ 100) → All2 (DV anyA H (m + 3)) vs (ns.map EntD)
  | _, _, .nil, _ => .nil
  | _, _, .cons h t, l => by
    refine .cons ?_ (ents_dv t fun n z => l n (.tail _ z))
    obtain ⟨a, b, c, rfl, h1, h2, h3⟩ := h
    exact ⟨a, _, rfl, trivial, h1, by show 2 ≤ 100000; decide, .cons (FN.dv ⟨b, rfl, h2⟩ (l _ (.head _))) (.cons ⟨c, _, rfl, trivial, h3, by show 1 ≤ 100000; decide, .cons rfl .nil⟩ .nil)⟩
theorem NmsA.dv {H : Hp} {t : Addr} {ns : List FN} {m : Nat} (h : NmsA H t ns) (l : ∀ n ∈ ns, n.ns.length ≤ 100) (l2 : ns.length ≤ 100) : DV anyA H (m + 3) (.ref t) (.t (ns.map FN.dt)) := by
  obtain ⟨vs, h1, h2⟩ := h
  exact ⟨t, vs, rfl, trivial, h1, by rw [h2.length]; omega, nms_dv h2 l⟩
theorem ActA.dv {H : Hp} {a : Addr} {c : Act} (h : ActA H a c) (l : ∀ n ∈ c.ns, n.ns.length ≤ 100) (l2 : c.ns.length ≤ 100) : DV anyA H 5 (.ref a) c.dt := by
  have d2 : 2 ≤ 100000 := by decide
  have d3 : 3 ≤ 100000 := by decide
  cases c with
  | load ns => obtain ⟨t, h1, h2⟩ := h; exact ⟨a, _, rfl, trivial, h1, d2, .cons rfl (.cons (h2.dv l l2) .nil)⟩
  | make ns =>
    obtain ⟨t, h1, vs, h2, h3⟩ := h
    exact ⟨a, _, rfl, trivial, h1, d2, .cons rfl (.cons ⟨t, vs, rfl, trivial, h2, by rw [h3.length]; exact Nat.le_trans l2 (by decide), ents_dv h3 l⟩ .nil)⟩
  | send r ns => obtain ⟨t, h1, h2⟩ := h; exact ⟨a, _, rfl, trivial, h1, d3, .cons rfl (.cons rfl (.cons (h2.dv l l2) .nil))⟩
  | recv r ns => obtain ⟨t, h1, h2⟩ := h; exact ⟨a, _, rfl, trivial, h1, d3, .cons rfl (.cons rfl (.cons (h2.dv l l2) .nil))⟩
  | save ns => obtain ⟨t, h1, h2⟩ := h; exact ⟨a, _, rfl, trivial, h1, d2, .cons rfl (.cons (h2.dv l l2) .nil)⟩
  | tell n => exact ⟨a, _, rfl, trivial, h, d2, .cons rfl (.cons rfl .nil)⟩
  | drop ns => obtain ⟨t, h1, h2⟩ := h; exact ⟨a, _, rfl, trivial, h1, d2, .cons rfl (.cons (h2.dv l l2) .nil)⟩
def TrD (t : Nat × Int × Act) : Dt := .t [.i (t.1 : Nat), .i t.2.1, t.2.2.dt]
theorem TrL.dv {H : Hp} {l : Addr} {ts : List (Nat × Int × Act)} (h : TrL H l ts) (l1 : ts.length ≤ 100) (l2 : ∀ t ∈ ts, (∀ n ∈ t.2.2.ns, n.ns.length ≤ 100) ∧ t.2.2.ns.length ≤ 100) : DV anyA H 7 (.ref l) (.l (ts.map TrD)) := by
  obtain ⟨vs, h1, h2⟩ := h
  refine ⟨l, vs, rfl, trivial, h1, by rw [h2.length]; omega, ?_⟩
  clear h1 l1
  induction h2 with
  | nil => exact .nil
  | cons g _ ih =>
    refine .cons ?_ (ih fun t z => l2 t (.tail _ z))
    obtain ⟨a, b, rfl, g1, g2⟩ := g
    have w := l2 _ (.head _)
    exact ⟨a, _, rfl, trivial, g1, by show 3 ≤ 100000; decide, .cons rfl (.cons rfl (.cons (g2.dv w.1 w.2) .nil))⟩
theorem narrow_ns (c : Act) (nm : FN) : (c.narrow nm).ns = c.ns.filter fun m => decide (m = nm) := by cases c <;> rfl
theorem traces_mem {nm : FN} {ps : List (Int × Act)} : ∀ {k : Nat} {t : Nat × Int × Act}, k ≤ ps.length → t ∈ tracesOf nm ps k → ∃ p ∈ ps, t.2.2 = p.2.narrow nm
  | k + 1, t, hk, h => by
    rcases List.mem_append.mp h with z | z
    · exact traces_mem (by omega) z
    · unfold traceOf at z
      split at z
      · rw [List.mem_singleton.mp z]
        refine ⟨ps.getD k (0, .tell 0), ?_, rfl⟩
        rw [List.getD_eq_getElem?_getD, List.getElem?_eq_getElem (by omega)]
        exact List.getElem_mem _
      · cases z
theorem traces_len {nm : FN} {ps : List (Int × Act)} : ∀ k, (tracesOf nm ps k).length ≤ k
  | 0 => Nat.le_refl _
  | k + 1 => by
    have := traces_len (nm := nm) (ps := ps) k
    show (tracesOf nm ps k ++ traceOf nm k (ps.getD k (0, .tell 0))).length ≤ k + 1
    rw [List.length_append]
    have h : (traceOf nm k (ps.getD k (0, .tell 0))).length ≤ 1 := by unfold traceOf; split <;> simp
    omega
theorem TrA.keep {H H' : Hp} {v : V} {t : Nat × Int × Act} (h : TrA H v t) (e : TupS H H') : TrA H' v t := by
  obtain ⟨a, b, h0, h1, h2⟩ := h
  exact ⟨a, b, h0, e _ _ h1, h2.keep e⟩
theorem pairAt {ps : List (Int × Act)} {t : Nat} (h : t < ps.length) : ps[t]? = some (ps.getD t (0, .tell 0)) ∧ ps.getD t (0, .tell 0) ∈ ps := by
  have e : ps[t]? = some (ps.getD t (0, .tell 0)) := by
    rw [List.getD_eq_getElem?_getD, List.getElem?_eq_getElem h]
    rfl
  exact ⟨e, List.mem_of_getElem? e⟩
theorem ifNS {k x : Str} {A B : Prop} (n : k ≠ x → A) (y : k = x → B) : if (!decide (V.str k = V.str x)) = true then A else B := by
  by_cases h : k = x
  · exact iteNS (congrArg V.str h) (y h)
  · exact iteNN (fun z => h (V.str.inj z)) (n h)
theorem PlanAt.but {cs : Cs} {H H' : Hp} {x b r : Addr} {rs : List Int} {ps : List (Int × Act)} {ranks : Int} (h : PlanAt cs H x ps ranks) (B : Box H b r rs) (e : But b H H') : PlanAt cs H' x ps ranks := by
  obtain ⟨dx, fs, D, h1, h2, h3, h4, h5⟩ := h.ex
  obtain ⟨z, _, hb⟩ := B.ex
  exact ⟨dx, fs, D, e _ _ (fun w => by rw [w, hb] at h1; cases h1) h1, h2, h3, h4, h5.but B e⟩

section
variable {P : Program} {w : World} {K : PySem.W.Frag} {mg : Str → Option Value} {cs : Cs} {base : Heap} {f : Addr} {fd : FuncData}
theorem ok__law_same {rn : Nat} (F : Fun K "_law_same" "_law_same" s__law_same f fd) (T : Txt K mg cs) (d__law_is_integer : Def P w K mg base 1 "_law_is_integer" ["told"] (spIsInt)) (d__law_same : Def P w K mg base (rn + 1) "_law_same" ["told", "due"] (spSame rn)) :
    FnOk P w K mg base CX0 (rn + 2) f fd ["told", "due"] (spSame (rn + 1)) := by
  obtain ⟨f0, fd0, G__law_is_integer, b__law_is_integer, g__law_is_integer, k__law_is_integer⟩ := d__law_is_integer.ex
  obtain ⟨f1, fd1, G__law_same, b__law_same, g__law_same, k__law_same⟩ := d__law_same.ex
  refine F.ok sc__law_same (fun vs H Q E h => ?_) (fun cdv A outer s H vs Q E hr h => ?_)
  · obtain ⟨u, v, d, rfl, du, dv, q⟩ := h
    rfl
  obtain ⟨u, v, d, rfl, du, dv, q⟩ := h
  have hu := hr.units
  refine ⟨_, pss_cons (ps_if (pt_val (pe_callB call_isi (by rfl) T.z_isinstance (by decide +kernel) (pa_cons (pv 1) (pa_cons (pe_bltn (v := .ty "bool") rfl T.z_bool PyProof.Rows.boot_bool rfl) pa_nil)))) (pss_one (ps_ret (pe_and (pe_callB call_isi (by rfl) T.z_isinstance (by decide +kernel) (pa_cons (pv 0) (pa_cons (pe_bltn (v := .ty "bool") rfl T.z_bool PyProof.Rows.boot_bool rfl) pa_nil))) (pe_one (pe_cmpR op_eq (pv 0) (pv 1) (nomark _)))))) pss_nil)
 (pss_cons (ps_if (pt_val (pe_callB call_isi (by rfl) T.z_isinstance (by decide +kernel) (pa_cons (pv 1) (pa_cons (pe_bltn (v := .ty "int") rfl T.z_int PyProof.Rows.boot_int rfl) pa_nil)))) (pss_one (ps_ret (pe_and (pe_call G__law_is_integer (hr.mono (by omega)) rfl g__law_is_integer k__law_is_integer b__law_is_integer .nil pass0 (pa_cons (pv 0) pa_nil)) (pe_one (pe_cmpR op_eq (pv 0) (pv 1) (nomark _)))))) pss_nil)
 (pss_cons (ps_if (pt_val (pe_callB call_isi (by rfl) T.z_isinstance (by decide +kernel) (pa_cons (pv 1) (pa_cons (pe_bltn (v := .ty "str") rfl T.z_str PyProof.Rows.boot_str rfl) pa_nil)))) (pss_one (ps_ret (pe_and (pe_callB call_isi (by rfl) T.z_isinstance (by decide +kernel) (pa_cons (pv 0) (pa_cons (pe_bltn (v := .ty "str") rfl T.z_str PyProof.Rows.boot_str rfl) pa_nil))) (pe_one (pe_cmpR op_eq (pv 0) (pv 1) (nomark _)))))) pss_nil)
 (pss_cons (ps_if (pt_cmpR op_isN (pv 1) pe_non (nomark _)) (pss_one (ps_ret (pe_cmpR op_isN (pv 0) pe_non (nomark _)))) pss_nil)
 (pss_cons (ps_if (PW.pt (pw_and (pt_val (pe_callB call_isi (by rfl) T.z_isinstance (by decide +kernel) (pa_cons (pv 1) (pa_cons (pe_bltn (v := .ty "tuple") rfl T.z_tuple PyProof.Rows.boot_tuple rfl) pa_nil)))) (pw_and1 (pt_not (pt_val (pe_callB call_isi (by rfl) T.z_isinstance (by decide +kernel) (pa_cons (pv 0) (pa_cons (pe_bltn (v := .ty "tuple") rfl T.z_tuple PyProof.Rows.boot_tuple rfl) pa_nil)))))))) (pss_one (ps_ret pe_bl)) pss_nil)
 (pss_cons (ps_if (PW.pt (pw_and (pt_val (pe_callB call_isi (by rfl) T.z_isinstance (by decide +kernel) (pa_cons (pv 1) (pa_cons (pe_bltn (v := .ty "list") rfl T.z_list PyProof.Rows.boot_list rfl) pa_nil)))) (pw_and1 (pt_not (pt_val (pe_callB call_isi (by rfl) T.z_isinstance (by decide +kernel) (pa_cons (pv 0) (pa_cons (pe_bltn (v := .ty "list") rfl T.z_list PyProof.Rows.boot_list rfl) pa_nil)))))))) (pss_one (ps_ret pe_bl)) pss_nil)
 (pss_cons (ps_if (pt_cmpR op_ne (pe_callB (len_at (K := K) rfl) (by rfl) T.z_len PySem.boot_len (pa_cons (pv 0) pa_nil)) (pe_callB (len_at (K := K) rfl) (by rfl) T.z_len PySem.boot_len (pa_cons (pv 1) pa_nil)) (nomark _)) (pss_one (ps_ret pe_bl)) pss_nil)
 (pss_cons (ps_for PassesOwn.never rfl (pi_range1 rfl T.z_range (pa_cons (pe_callB (len_at (K := K) rfl) (by rfl) T.z_len PySem.boot_len (pa_cons (pv 1) pa_nil)) pa_nil)) (pg_name (i := 2) sc__law_same.nd rfl (.inl rfl)) (pss_one (ps_if (pt_not (pt_val (pe_call G__law_same hr rfl g__law_same k__law_same b__law_same .nil pass0 (pa_cons (pe_ix (ixs_at (K := K) rfl) (pv 0) (pv 2) (fun _ _ => rfl)) (pa_cons (pe_ix (ixs_at (K := K) rfl) (pv 1) (pv 2) (fun _ _ => rfl)) pa_nil))))) (pss_one (ps_ret pe_bl)) pss_nil)))
 (pss_one (ps_ret pe_bl))))))))), ?_⟩
  cases d with
  | i k =>
    cases du
    cases dv
    refine ⟨_, rfl, _, _, _, _, false, rfl, .ty _, .base (.int _), kit_ty (by decide +kernel), _, rfl, iteF ?_⟩
    refine ⟨_, rfl, _, _, _, _, true, rfl, .ty _, .base (.int _), kit_ty (by decide +kernel), _, rfl, iteT ?_⟩
    refine ⟨_, rfl, k, rfl, _, rfl, iteT ?_⟩
    exact ⟨_, rfl, _, rfl, rfl, by rw [decide_eq_true rfl]; exact q⟩
  | b x =>
    cases du
    cases dv
    refine ⟨_, rfl, _, _, _, _, true, rfl, .ty _, .base (.bl _), kit_ty (by decide +kernel), _, rfl, iteT ?_⟩
    refine ⟨_, rfl, _, _, _, _, true, rfl, .ty _, .base (.bl _), kit_ty (by decide +kernel), _, rfl, iteT ?_⟩
    exact ⟨_, rfl, _, rfl, by cases x <;> rfl, by rw [decide_eq_true rfl]; exact q⟩
  | s x =>
    cases du
    cases dv
    refine ⟨_, rfl, _, _, _, _, false, rfl, .ty _, .base (.str _), kit_ty (by decide +kernel), _, rfl, iteF ?_⟩
    refine ⟨_, rfl, _, _, _, _, false, rfl, .ty _, .base (.str _), kit_ty (by decide +kernel), _, rfl, iteF ?_⟩
    refine ⟨_, rfl, _, _, _, _, true, rfl, .ty _, .base (.str _), kit_ty (by decide +kernel), _, rfl, iteT ?_⟩
    refine ⟨_, rfl, _, _, _, _, true, rfl, .ty _, .base (.str _), kit_ty (by decide +kernel), _, rfl, iteT ?_⟩
    exact ⟨_, rfl, _, rfl, rfl, by rw [decide_eq_true rfl]; exact q⟩
  | n =>
    cases du
    cases dv
    refine ⟨_, rfl, _, _, _, _, false, rfl, .ty _, .base .non, kit_ty (by decide +kernel), _, rfl, iteF ?_⟩
    refine ⟨_, rfl, _, _, _, _, false, rfl, .ty _, .base .non, kit_ty (by decide +kernel), _, rfl, iteF ?_⟩
    refine ⟨_, rfl, _, _, _, _, false, rfl, .ty _, .base .non, kit_ty (by decide +kernel), _, rfl, iteF ?_⟩
    refine ⟨_, rfl, rfl, _, rfl, iteT ?_⟩
    exact ⟨_, rfl, rfl, q⟩
  | l ds =>
    obtain ⟨a, us, rfl, _, ha, la, as⟩ := du
    obtain ⟨c, vs, rfl, _, hc, lc, cs'⟩ := dv
    refine ⟨_, rfl, _, _, _, _, false, rfl, .ty _, .base (.lst hc), kit_ty (by decide +kernel), _, rfl, iteF ?_⟩
    refine ⟨_, rfl, _, _, _, _, false, rfl, .ty _, .base (.lst hc), kit_ty (by decide +kernel), _, rfl, iteF ?_⟩
    refine ⟨_, rfl, _, _, _, _, false, rfl, .ty _, .base (.lst hc), kit_ty (by decide +kernel), _, rfl, iteF ?_⟩
    refine ⟨_, rfl, rfl, _, rfl, iteF ?_⟩
    refine ⟨_, rfl, _, _, _, _, false, rfl, .ty _, .base (.lst hc), kit_ty (by decide +kernel), _, rfl, iteF ?_⟩
    refine ⟨_, rfl, _, _, _, _, true, rfl, .ty _, .base (.lst hc), kit_ty (by decide +kernel), _, rfl, iteT ?_⟩
    refine ⟨_, rfl, _, _, _, _, true, rfl, .ty _, .base (.lst ha), kit_ty (by decide +kernel), _, rfl, iteF ?_⟩
    have lu := as.length
    have lv := cs'.length
    refine ⟨_, rfl, a, _, rfl, .inl (SqL.of ha), _, rfl, c, _, rfl, .inl (SqL.of hc), rfl, _, rfl, ?_⟩
    refine iteNS (show V.int ((us.length : Nat) : Int) = V.int ((vs.length : Nat) : Int) by rw [lu, lv]) ?_
    refine ⟨_, rfl, c, _, rfl, .inl (SqL.of hc), ((vs.length : Nat) : Int), rfl, by omega, by omega, ?_⟩
    rw [Int.toNat_natCast]
    refine for_range (fun (t : Nat) σ H' => ∃ (y2 : Option V), σ = [some (.ref a), some (.ref c), y2] ∧ H' = H) ⟨none, rfl, rfl⟩ (fun t σ H' ht hP => ?_) (fun σ H' hP => ?_)
    · obtain ⟨y2, rfl, rfl⟩ := hP
      have ht : t < ds.length := by omega
      have ed : ds[t]? = some ds[t] := List.getElem?_eq_getElem ht
      obtain ⟨x, ex, dx⟩ := as.get ed
      obtain ⟨y, ey, dy⟩ := cs'.get ed
      have ax : atI us (0 + (t : Int)) = some x := by rw [Int.zero_add]; exact atI_nat ex
      have ay : atI vs (0 + (t : Int)) = some y := by rw [Int.zero_add]; exact atI_nat ey
      refine ⟨_, rfl, _, rfl, .inl ⟨a, _, _, _, rfl, rfl, SqL.of ha, ax, _, rfl, _, rfl, .inl ⟨c, _, _, _, rfl, rfl, SqL.of hc, ay, x, y, ds[t], rfl, dx, dy, _, rfl, ?_⟩⟩⟩
      exact iteF ⟨_, rfl, rfl⟩
    · obtain ⟨y2, rfl, rfl⟩ := hP
      exact q
  | t ds =>
    obtain ⟨a, us, rfl, _, ha, la, as⟩ := du
    obtain ⟨c, vs, rfl, _, hc, lc, cs'⟩ := dv
    refine ⟨_, rfl, _, _, _, _, false, rfl, .ty _, .base (.tup hc), kit_ty (by decide +kernel), _, rfl, iteF ?_⟩
    refine ⟨_, rfl, _, _, _, _, false, rfl, .ty _, .base (.tup hc), kit_ty (by decide +kernel), _, rfl, iteF ?_⟩
    refine ⟨_, rfl, _, _, _, _, false, rfl, .ty _, .base (.tup hc), kit_ty (by decide +kernel), _, rfl, iteF ?_⟩
    refine ⟨_, rfl, rfl, _, rfl, iteF ?_⟩
    refine ⟨_, rfl, _, _, _, _, true, rfl, .ty _, .base (.tup hc), kit_ty (by decide +kernel), _, rfl, iteT ?_⟩
    refine ⟨_, rfl, _, _, _, _, true, rfl, .ty _, .base (.tup ha), kit_ty (by decide +kernel), _, rfl, iteF ?_⟩
    refine ⟨_, rfl, _, _, _, _, false, rfl, .ty _, .base (.tup hc), kit_ty (by decide +kernel), _, rfl, iteF ?_⟩
    have lu := as.length
    have lv := cs'.length
    refine ⟨_, rfl, a, _, rfl, .inr (SqT.of ha), _, rfl, c, _, rfl, .inr (SqT.of hc), rfl, _, rfl, ?_⟩
    refine iteNS (show V.int ((us.length : Nat) : Int) = V.int ((vs.length : Nat) : Int) by rw [lu, lv]) ?_
    refine ⟨_, rfl, c, _, rfl, .inr (SqT.of hc), ((vs.length : Nat) : Int), rfl, by omega, by omega, ?_⟩
    rw [Int.toNat_natCast]
    refine for_range (fun (t : Nat) σ H' => ∃ (y2 : Option V), σ = [some (.ref a), some (.ref c), y2] ∧ H' = H) ⟨none, rfl, rfl⟩ (fun t σ H' ht hP => ?_) (fun σ H' hP => ?_)
    · obtain ⟨y2, rfl, rfl⟩ := hP
      have ht : t < ds.length := by omega
      have ed : ds[t]? = some ds[t] := List.getElem?_eq_getElem ht
      obtain ⟨x, ex, dx⟩ := as.get ed
      obtain ⟨y, ey, dy⟩ := cs'.get ed
      have ax : atI us (0 + (t : Int)) = some x := by rw [Int.zero_add]; exact atI_nat ex
      have ay : atI vs (0 + (t : Int)) = some y := by rw [Int.zero_add]; exact atI_nat ey
      refine ⟨_, rfl, _, rfl, .inr (.inl ⟨a, _, _, _, rfl, rfl, SqT.of ha, ax, _, rfl, _, rfl, .inr (.inl ⟨c, _, _, _, rfl, rfl, SqT.of hc, ay, x, y, ds[t], rfl, dx, dy, _, rfl, ?_⟩)⟩)⟩
      exact iteF ⟨_, rfl, rfl⟩
    · obtain ⟨y2, rfl, rfl⟩ := hP
      exact q
theorem rec__law_same (F : Fun K "_law_same" "_law_same" s__law_same f fd) (T : Txt K mg cs) (d__law_is_integer : Def P w K mg base 1 "_law_is_integer" ["told"] (spIsInt)) (hb : Binds K fd ["told", "due"] []) (hm : mg "_law_same" = some (.ref f)) : ∀ n : Nat, FnOk P w K mg base CX0 (n + 1) f fd ["told", "due"] (spSame n)
  | 0 => ⟨fun vs H Q E h => by obtain ⟨u, v, d, _, h, _⟩ := h; exact h.elim, fun A outer s H args us vs Q E _ _ _ _ h => by obtain ⟨u, v, d, _, h, _⟩ := h; exact h.elim⟩
  | n + 1 => ok__law_same F T (d__law_is_integer := d__law_is_integer) (d__law_same := ⟨_, _, rec__law_same F T d__law_is_integer hb hm n, hb, hm, F.kp⟩)

theorem ok__law_cells (F : Fun K "_law_cells" "_law_cells" s__law_cells f fd) (T : Txt K mg cs)  :
    FnOk P w K mg base CX0 1 f fd ["job"] (spLCells) := by
  refine F.ok sc__law_cells (fun vs H Q E h => ?_) (fun cdv A outer s H vs Q E hr h => ?_)
  · obtain ⟨b, r, rs, jb, RL, DL, n, PL, NL, LL, ni, nt, pms, nds, ls, seed, batch, factor, point, rates, data, rfl, J, u, q⟩ := h
    rfl
  obtain ⟨b, r, rs, jb, RL, DL, n, PL, NL, LL, ni, nt, pms, nds, ls, seed, batch, factor, point, rates, data, rfl, J, u, q⟩ := h
  have hu := hr.units
  refine ⟨_, pss_cons (ps_set (i := 1) sc__law_cells.nd rfl (.inl rfl) (pe_lst pa_nil))
 (pss_cons (ps_for PassesOwn.never rfl (pi_range1 rfl T.z_range (pa_cons (pe_callB (len_at (K := K) rfl) (by rfl) T.z_len PySem.boot_len (pa_cons (pe_ix (ixl_at (K := K) rfl) (pe_ix (ixl_at (K := K) rfl) (pv 0) pe_int (fun _ _ => rfl)) pe_int (fun _ _ => rfl)) pa_nil)) pa_nil)) (pg_name (i := 2) sc__law_cells.nd rfl (.inl rfl)) (pss_one (ps_for PassesOwn.never rfl (pi_range1 rfl T.z_range (pa_cons (pe_ix (ixt_at (K := K) rfl) (pe_ix (ixl_at (K := K) rfl) (pe_ix (ixl_at (K := K) rfl) (pe_ix (ixl_at (K := K) rfl) (pv 0) pe_int (fun _ _ => rfl)) pe_int (fun _ _ => rfl)) (pv 2) (fun _ _ => rfl)) pe_int (fun _ _ => rfl)) pa_nil)) (pg_name (i := 3) sc__law_cells.nd rfl (.inl rfl)) (pss_one (ps_for PassesOwn.never rfl (pi_range1 rfl T.z_range (pa_cons (pe_ix (ixt_at (K := K) rfl) (pe_ix (ixl_at (K := K) rfl) (pe_ix (ixl_at (K := K) rfl) (pe_ix (ixl_at (K := K) rfl) (pv 0) pe_int (fun _ _ => rfl)) pe_int (fun _ _ => rfl)) (pv 2) (fun _ _ => rfl)) pe_int (fun _ _ => rfl)) pa_nil)) (pg_name (i := 4) sc__law_cells.nd rfl (.inl rfl)) (pss_one (ps_expr (pe_bm PySem.F.plainAttrs_list PySem.F.slot_list_append PySem.F.type_list_append mt_append (pv 1) (pa_cons (pe_tup (pa_cons (pv 2) (pa_cons (pv 3) (pa_cons (pv 4) pa_nil)))) pa_nil)))))))))
 (pss_one (ps_ret (pv 1)))), ?_⟩
  have few := u.few
  obtain ⟨pr, q1, q2⟩ := J.g.par
  have lpr : (pr.map V.ref).length = pms.length := by rw [List.length_map, q2.length]
  refine ⟨Nat.zero_le _, fun o no => ?_⟩
  generalize eqH : upd H o _ = H1
  obtain ⟨s1, k1⟩ := new_facts eqH no
  clear eqH
  have J1 := J.same s1
  refine ⟨_, rfl, jb, _, _, _, rfl, rfl, SqL.of J1.jl, rfl, n, _, _, _, rfl, rfl, SqL.of J1.g.net, rfl, PL, _, rfl, .inl (SqL.of (s1 _ _ q1)), (pms.length : Int), (by rw [lpr]), by omega, by omega, ?_⟩
  refine for_range (n := (pms.length : Int).toNat) (fun (t : Nat) σ H' => ∃ (y2 y3 y4 : Option V), σ = [some (.ref jb), some (.ref o), y2, y3, y4] ∧ Same H H' ∧ CelL H' o (cellsC pms t)) ⟨none, none, none, rfl, s1, [], k1, .nil⟩ (fun t σ H' ht hP => ?_) (fun σ H' hP => ?_)
  · obtain ⟨y2, y3, y4, rfl, e, hC⟩ := hP
    have hp : inR (0 + (t : Int)) pms.length := ⟨by omega, by omega⟩
    have pg := u.pg hp
    have lc := cellsC_len u t (by omega)
    have Je := J.same e
    obtain ⟨pr1, pa, pf, mm, p1, ep, h4, h5, em⟩ := Je.g.at hp
    refine ⟨_, rfl, jb, _, _, _, rfl, rfl, SqL.of Je.jl, rfl, n, _, _, _, rfl, rfl, SqL.of Je.g.net, rfl, _, rfl, PL, _, _, _, rfl, rfl, SqL.of p1, ep, pa, _, _, _, rfl, rfl, SqT.of h4, rfl, _, rfl, by omega, by omega, ?_⟩
    rw [Int.zero_add] at pg h4 ep ⊢
    refine for_range (n := (pget (sides pms) (t : Int)).1.toNat) (fun (i : Nat) σ H2 => ∃ (y3 y4 : Option V), σ = [some (.ref jb), some (.ref o), some (.int (t : Int)), y3, y4] ∧ Same H H2 ∧ CelL H2 o (cellsC pms t ++ parC t i (pget (sides pms) (t : Int)).2.toNat)) ⟨y3, y4, rfl, e, by rw [show parC t 0 _ = [] from rfl, List.append_nil]; exact hC⟩ (fun i σ H2 hi hP => ?_) (fun σ H2 hP => ?_)
    · obtain ⟨y3, y4, rfl, e2, hC2⟩ := hP
      have Je2 := J.same e2
      obtain ⟨pr2, pa2, pf2, mm2, p2, ep2, h42, h52, em2⟩ := Je2.g.at (show inR (t : Int) pms.length from ⟨by omega, by omega⟩)
      have lp := parC_len t (c := (pget (sides pms) (t : Int)).2.toNat) (by omega) i
      refine ⟨_, rfl, jb, _, _, _, rfl, rfl, SqL.of Je2.jl, rfl, n, _, _, _, rfl, rfl, SqL.of Je2.g.net, rfl, _, rfl, PL, _, _, _, rfl, rfl, SqL.of p2, ep2, pa2, _, _, _, rfl, rfl, SqT.of h42, rfl, _, rfl, by omega, by omega, ?_⟩
      refine for_range (n := (pget (sides pms) (t : Int)).2.toNat) (fun (j : Nat) σ H3 => ∃ (y4 : Option V), σ = [some (.ref jb), some (.ref o), some (.int (t : Int)), some (.int (0 + (i : Int))), y4] ∧ Same H H3 ∧ CelL H3 o (cellsC pms t ++ parC t i (pget (sides pms) (t : Int)).2.toNat ++ rowC t i j)) ⟨y4, rfl, e2, by rw [show rowC t i 0 = [] from rfl, List.append_nil]; exact hC2⟩ (fun j σ H3 hj hP => ?_) (fun σ H3 hP => ?_)
      · obtain ⟨y4, rfl, e3, vs, hD, hA⟩ := hP
        refine ⟨_, rfl, .inl ⟨rfl, _, .inl (.inl hD)⟩, _, rfl, _, rfl, _, rfl, by show 3 ≤ sizeLine; decide, fun a na => ?_⟩
        have aD : a ≠ o := fun z => by rw [z, hD] at na; cases na
        have lv := hA.length
        rw [List.length_append, List.length_append, rowC_len] at lv
        refine ⟨o, _, _, rfl, rfl, by rw [upd_ne aD.symm]; exact hD, smaller (by omega), ?_⟩
        refine ⟨_, rfl, same_mut (e3.trans (same_new na _)) no, ?_⟩
        rw [rowC_succ, ← List.append_assoc, Int.zero_add, Int.zero_add]
        exact CelL.next hD hA na
      · obtain ⟨y4, rfl, e3, hC3⟩ := hP
        exact ⟨_, _, rfl, e3, by rw [parC_succ, ← List.append_assoc]; exact hC3⟩
    · obtain ⟨y3, y4, rfl, e2, hC2⟩ := hP
      exact ⟨_, _, _, rfl, e2, by rw [cellsC_succ]; exact hC2⟩
  · obtain ⟨y2, y3, y4, rfl, e, hC⟩ := hP
    exact ⟨_, rfl, q o H' no e (by rw [Int.toNat_natCast] at hC; exact hC)⟩

theorem ok_names_of (F : Fun K "names_of" "names_of" s_names_of f fd) (T : Txt K mg cs)  :
    FnOk P w K mg base CX0 1 f fd ["act"] (spNamesOf) := by
  refine F.ok sc_names_of (fun vs H Q E h => ?_) (fun cdv A outer s H vs Q E hr h => ?_)
  · obtain ⟨a, c, rfl, hc, lc, q⟩ := h
    rfl
  obtain ⟨a, c, rfl, hc, lc, q⟩ := h
  have hu := hr.units
  refine ⟨_, pss_cons (ps_if (pt_cmpR op_eq (pe_ix (ixt_at (K := K) rfl) (pv 0) pe_int (fun _ _ => rfl)) pe_str (nomark _)) (pss_one (ps_ret (pe_lst pa_nil))) pss_nil)
 (pss_cons (ps_if (pt_cmpR op_eq (pe_ix (ixt_at (K := K) rfl) (pv 0) pe_int (fun _ _ => rfl)) pe_str (nomark _)) (pss_one (ps_ret (pe_lc (own := [("name", 1), ("_", 2)]) (g := gTup K 2 (gCons (gName 1) (gCons (gName 2) gNil))) (tt := tYes)  rfl sc_names_of.nd (pi_tup (pe_ix (ixt_at (K := K) rfl) (pv 0) pe_int (fun _ _ => rfl))) (blkOk_by (N := ["act", "name", "_"]) (sc := defScope s_names_of) (by decide +kernel)) (fun _ _ _ _ _ => (pg_tup_at (K := K) (n := 2) rfl rfl (pgs_cons (pg_name (i := 1) sc_names_of.nd rfl (.inl rfl)) (pgs_cons (pg_name (i := 2) sc_names_of.nd rfl (.inl rfl)) pgs_nil)) rfl rfl)) (fun _ _ _ _ _ => pts_nil) (fun _ _ _ _ _ => (pv 1))))) pss_nil)
 (pss_one (ps_ret (pe_callTy (list_at (K := K) rfl) (by rfl) T.z_list PyProof.Rows.boot_list (pa_cons (pe_ix (ixt_at (K := K) rfl) (pv 0) (pe_un un_neg pe_int) (fun _ _ => rfl)) pa_nil))))), ?_⟩
  obtain ⟨r, hr⟩ := hc.head
  refine ⟨_, rfl, a, _, _, _, rfl, rfl, SqT.of hr, atI_nat (show (V.str c.kind :: r)[0]? = some (.str c.kind) from rfl), rfl, _, rfl, ?_⟩
  refine ifS (fun e1 => ?_) (fun n1 => ?_)
  · obtain ⟨n, rfl⟩ := Act.is_tell e1
    refine ⟨Nat.zero_le _, fun p np => ?_⟩
    exact q p _ (same_new np _) np ⟨[], upd_same, .nil⟩
  refine ⟨_, rfl, a, _, _, _, rfl, rfl, SqT.of hr, atI_nat (show (V.str c.kind :: r)[0]? = some (.str c.kind) from rfl), rfl, _, rfl, ?_⟩
  refine ifS (fun e2 => ?_) (fun n2 => ?_)
  · obtain ⟨ns, rfl⟩ := Act.is_make e2
    obtain ⟨t, h1, vs, h2, h3⟩ := hc
    have lv := h3.length
    have lc : ns.length ≤ 1000 := lc
    refine ⟨_, rfl, a, _, _, _, rfl, rfl, SqT.of h1, rfl, t, rfl, ⟨_, SqT.of h2⟩, fun D nD => ?_⟩
    refine lc_tup (xs := vs) (fun (i : Nat) H' => Same H H' ∧ ∃ us, H' D = some (.lst us) ∧ All2 (NmA H) us (ns.take i)) ⟨same_new nD _, [], upd_same, .nil⟩ (fun i H' _ hP => SqT.of (hP.1 _ _ h2)) (fun i x H' hx hP => ?_) (fun H' hP => ?_)
    · obtain ⟨e, us, hD, hu'⟩ := hP
      obtain ⟨n, hn, pa, pb, pc, rfl, g1, g2, g3⟩ := h3.fwd hx
      have lu := hu'.length
      refine ⟨pa, _, rfl, SqT.of (e _ _ g1), rfl, _, _, rfl, _, _, rfl, rfl, ⟨rfl, ?_⟩⟩
      refine ⟨_, rfl, _, hD, smaller (by rw [lu, List.length_take]; omega), same_mut e nD, _, upd_same, ?_⟩
      rw [List.take_add_one, hn]
      exact hu'.snoc ⟨pb, rfl, g2⟩
    · obtain ⟨e, us, hD, hu'⟩ := hP
      rw [lv, List.take_length] at hu'
      exact q D H' e nD ⟨us, hD, hu'.mono fun _ _ z => z.keep (.of e)⟩
  · obtain ⟨xs, t, h1, vs, h2, h3⟩ := hc.tail n2 n1
    refine ⟨_, rfl, 1, rfl, a, _, _, .ref t, rfl, rfl, SqT.of h1, atI_last, t, _, rfl, .inr (SqT.of h2), fun p np => ?_⟩
    exact q p _ (same_new np _) np (NmsA.nl h2 h3 (same_new np _) upd_same)
theorem ok__law_pool (F : Fun K "_law_pool" "_law_pool" s__law_pool f fd) (T : Txt K mg cs) (d__law_cells : Def P w K mg base 1 "_law_cells" ["job"] (spLCells)) :
    FnOk P w K mg base CX0 2 f fd ["job"] (spPool) := by
  obtain ⟨f0, fd0, G__law_cells, b__law_cells, g__law_cells, k__law_cells⟩ := d__law_cells.ex
  refine F.ok sc__law_pool (fun vs H Q E h => ?_) (fun cdv A outer s H vs Q E hr h => ?_)
  · obtain ⟨b, r, rs, jb, RL, DL, n, PL, NL', LL, ni, nt, pms, nds, ls, seed, batch, factor, point, rates, data, rfl, J, u, p1, q⟩ := h
    rfl
  obtain ⟨b, r, rs, jb, RL, DL, n, PL, NL', LL, ni, nt, pms, nds, ls, seed, batch, factor, point, rates, data, rfl, J, u, p1, q⟩ := h
  have hu := hr.units
  refine ⟨_, pss_cons (ps_set (i := 1) sc__law_pool.nd rfl (.inl rfl) (pe_lst pa_nil))
 (pss_cons (ps_for PassesOwn.never rfl (pi_range1 rfl T.z_range (pa_cons pe_int pa_nil)) (pg_name (i := 2) sc__law_pool.nd rfl (.inl rfl)) (pss_one (ps_for PassesOwn.never rfl (pi_list (pe_slice sl_list (pe_call G__law_cells hr rfl g__law_cells k__law_cells b__law_cells .nil pass0 (pa_cons (pv 0) pa_nil)) po_none (po_some pe_int))) (pg_name (i := 3) sc__law_pool.nd rfl (.inl rfl)) (pss_cons (ps_expr (pe_bm PySem.F.plainAttrs_list PySem.F.slot_list_append PySem.F.type_list_append mt_append (pv 1) (pa_cons (pe_op (catT_at (K := K) rfl) (pe_tup (pa_cons pe_str (pa_cons (pv 2) pa_nil))) (pv 3)) pa_nil)))
 (pss_one (ps_expr (pe_bm PySem.F.plainAttrs_list PySem.F.slot_list_append PySem.F.type_list_append mt_append (pv 1) (pa_cons (pe_op (catT_at (K := K) rfl) (pe_tup (pa_cons pe_str (pa_cons (pv 2) pa_nil))) (pv 3)) pa_nil))))))))
 (pss_one (ps_ret (pv 1)))), ?_⟩
  have cl := cellsC_len u pms.length (Nat.le_refl _)
  have few := u.few
  -- there is a cell
  have one : 0 < (cellsC pms pms.length).length := by
    have g := u.pg (p := ((pms.length - 1 : Nat) : Int)) ⟨by omega, by omega⟩
    obtain ⟨P, hP⟩ : ∃ P, pms.length = P + 1 := ⟨pms.length - 1, by omega⟩
    rw [hP, cellsC_succ, List.length_append]
    rw [hP, Nat.add_sub_cancel] at g
    obtain ⟨R, hR⟩ : ∃ R, (pget (sides pms) (P : Int)).1.toNat = R + 1 := ⟨(pget (sides pms) (P : Int)).1.toNat - 1, by omega⟩
    rw [hR, parC_succ, List.length_append, rowC_len]
    omega
  refine ⟨Nat.zero_le _, fun o no => ?_⟩
  have so := same_new no (.lst [])
  refine ⟨3, rfl, by decide, by decide, ?_⟩
  refine for_range (n := (3 : Int).toNat) (fun (t : Nat) σ H' => ∃ (y2 y3 : Option V) (pool : List FN), σ = [some (.ref jb), some (.ref o), y2, y3] ∧ Same H H' ∧ NL H' o pool ∧ pool.length = 2 * t * min 4 (cellsC pms pms.length).length ∧ ∀ n ∈ pool, n.ns.length ≤ 100) ⟨none, none, [], rfl, so, ⟨[], upd_same, .nil⟩, by simp, fun n h => nomatch h⟩ (fun t σ H' ht hP => ?_) (fun σ H' hP => ?_)
  · obtain ⟨y2, y3, pool, rfl, e, hN, lp, sm⟩ := hP
    have ht : t < 3 := ht
    refine ⟨_, rfl, b, r, rs, jb, RL, DL, n, PL, NL', LL, ni, nt, pms, nds, ls, seed, batch, factor, point, rates, data, rfl, J.same e, u, fun D H2 nD s2 hC => ?_⟩
    obtain ⟨vs, hD, hV⟩ := hC
    refine ⟨4, rfl, D, _, rfl, SqL.of hD, fun c nc => ?_⟩
    generalize eqH : upd H2 c _ = H3
    obtain ⟨s3, h3⟩ := new_facts eqH nc
    clear eqH
    have ec : cutV vs none (some 4) = vs.take 4 := by
      by_cases l4 : 4 ≤ vs.length
      · exact cutV_to (i := 4) l4
      · unfold cutV
        rw [HT.sIx_none, show (4 : Int) = ((4 : Nat) : Int) from rfl, HT.sIx_nat, List.drop_zero, Nat.sub_zero, Nat.min_eq_right (by omega), List.take_of_length_le (Nat.le_refl _), List.take_of_length_le (by omega)]
    rw [ec] at h3
    have e3 := e.trans (s2.trans s3)
    have hV3 := (hV.mono fun _ _ z => z.same s3).take' 4
    have lV := hV3.length
    have lc4 : ((cellsC pms pms.length).take 4).length = min 4 (cellsC pms pms.length).length := List.length_take
    refine ⟨c, rfl, ⟨_, SqL.of h3⟩, ?_⟩
    refine for_list (xs := vs.take 4) (fun (i : Nat) σ H' => ∃ (y3 : Option V) (pool : List FN), σ = [some (.ref jb), some (.ref o), some (.int (0 + (t : Int))), y3] ∧ Same H H' ∧ But o H3 H' ∧ NL H' o pool ∧ pool.length = 2 * t * min 4 (cellsC pms pms.length).length + 2 * i ∧ ∀ n ∈ pool, n.ns.length ≤ 100) ⟨y3, pool, rfl, e3, .refl _ _, hN.same (s2.trans s3), by omega, sm⟩ (fun i σ H' hi hP => ?_) (fun i x σ H' hx hP => ?_) (fun σ H' hP => ?_)
    · obtain ⟨y3, pool, rfl, e4, b4, hN4, l4, sm4⟩ := hP
      exact SqL.of (b4 _ _ (fun z => by
        have hN3 := hN.same (s2.trans s3)
        obtain ⟨us, hU, hA⟩ := hN
        rw [z, (s2 _ _ hU)] at nc; cases nc) h3)
    · obtain ⟨y3, pool, rfl, e4, b4, hN4, l4, sm4⟩ := hP
      have hi : i < (vs.take 4).length := (List.getElem?_eq_some_iff.mp hx).1
      obtain ⟨cc, hcc, pa, rfl, hpa⟩ := hV3.fwd hx
      have tS : TupS H3 H' := by
        obtain ⟨us, hU, hA⟩ := hN.same (s2.trans s3)
        exact .but b4 hU
      have hpa4 := tS _ _ hpa
      obtain ⟨us, hU, hA⟩ := id hN4
      have lu := hA.length
      have lb : pool.length ≤ 50 := by rw [l4]; have : min 4 (cellsC pms pms.length).length ≤ 4 := Nat.min_le_left _ _
                                       rcases (show t = 0 ∨ t = 1 ∨ t = 2 by omega) with z | z | z <;> subst z <;> omega
      refine ⟨_, rfl, .inl ⟨rfl, _, .inl (.inl hU)⟩, ?_⟩
      refine ⟨_, rfl, by show 2 ≤ sizeLine; decide, fun p1 n1 => ?_⟩
      generalize eqH : upd H' p1 _ = H5
      obtain ⟨s5, h5⟩ := new_facts eqH n1
      clear eqH
      refine ⟨_, rfl, p1, pa, _, _, rfl, rfl, SqT.of h5, SqT.of (s5 _ _ hpa4), (fun z => by cases z), by show 5 ≤ sizeLine; decide, (fun z => by cases z), fun _ p2 n2 => ?_⟩
      generalize eqH : upd H5 p2 _ = H6
      obtain ⟨s6, h6⟩ := new_facts eqH n2
      clear eqH
      have hU6 := (s5.trans s6) _ _ hU
      refine ⟨o, _, _, rfl, rfl, hU6, smaller (by omega), ?_⟩
      have b7 : But o H6 (upd H6 o (.lst (us ++ [.ref p2]))) := fun c o n h => by rw [upd_ne n]; exact h
      have n7 : NL (upd H6 o (.lst (us ++ [.ref p2]))) o (pool ++ [⟨.par, [0 + (t : Int), cc.1, cc.2.1, cc.2.2]⟩]) :=
        ⟨_, upd_same, (hA.mono fun _ _ z => (z.keep (.of (s5.trans s6))).keep (.but b7 hU6)).snoc (NmA.keep ⟨p2, rfl, h6⟩ (.but b7 hU6))⟩
      have hpa7 := (TupS.but b7 hU6) _ _ ((s5.trans s6) _ _ hpa4)
      have e7 : Same H (upd H6 o (.lst (us ++ [.ref p2]))) := same_mut (e4.trans (s5.trans s6)) no
      have b37 : But o H3 (upd H6 o (.lst (us ++ [.ref p2]))) := (b4.trans (.of (s5.trans s6))).trans b7
      generalize upd H6 o (.lst (us ++ [.ref p2])) = H7 at *
      obtain ⟨us7, hU7, hA7⟩ := id n7
      have lu7 := hA7.length
      rw [List.length_append, List.length_singleton] at lu7
      refine ⟨_, rfl, .inl ⟨rfl, _, .inl (.inl hU7)⟩, ?_⟩
      refine ⟨_, rfl, by show 2 ≤ sizeLine; decide, fun p3 n3 => ?_⟩
      generalize eqH : upd H7 p3 _ = H8
      obtain ⟨s8, h8⟩ := new_facts eqH n3
      clear eqH
      refine ⟨_, rfl, p3, pa, _, _, rfl, rfl, SqT.of h8, SqT.of (s8 _ _ hpa7), (fun z => by cases z), by show 5 ≤ sizeLine; decide, (fun z => by cases z), fun _ p4 n4 => ?_⟩
      generalize eqH : upd H8 p4 _ = H9
      obtain ⟨s9, h9⟩ := new_facts eqH n4
      clear eqH
      have hU9 := (s8.trans s9) _ _ hU7
      refine ⟨o, _, _, rfl, rfl, hU9, smaller (by omega), ?_⟩
      have b10 : But o H9 (upd H9 o (.lst (us7 ++ [.ref p4]))) := fun c o n h => by rw [upd_ne n]; exact h
      refine ⟨_, pool ++ [⟨.par, [0 + (t : Int), cc.1, cc.2.1, cc.2.2]⟩] ++ [⟨.mom, [0 + (t : Int), cc.1, cc.2.1, cc.2.2]⟩], rfl, same_mut (e7.trans (s8.trans s9)) no, (b37.trans (.of (s8.trans s9))).trans b10, ⟨_, upd_same, ?_⟩, by simp only [List.length_append, List.length_singleton, l4]; omega, fun n h => ?_⟩
      · exact (hA7.mono fun _ _ z => (z.keep (.of (s8.trans s9))).keep (.but b10 hU9)).snoc (NmA.keep ⟨p4, rfl, h9⟩ (.but b10 hU9))
      · rcases List.mem_append.mp h with h | h
        · rcases List.mem_append.mp h with h | h
          · exact sm4 n h
          · rw [List.mem_singleton.mp h]; show 4 ≤ 100; decide
        · rw [List.mem_singleton.mp h]; show 4 ≤ 100; decide
    · obtain ⟨y3, pool, rfl, e4, b4, hN4, l4, sm4⟩ := hP
      refine ⟨_, y3, pool, rfl, e4, hN4, ?_, sm4⟩
      rw [l4, lV, lc4]
      generalize min 4 (cellsC pms pms.length).length = m
      rw [show 2 * (t + 1) = 2 * t + 2 by omega, Nat.add_mul]
  · obtain ⟨y2, y3, pool, rfl, e, hN, lp, sm⟩ := hP
    have lp : pool.length = 2 * 3 * min 4 (cellsC pms pms.length).length := lp
    refine ⟨_, rfl, q o pool H' no e hN ?_ ?_ sm⟩
    · have : 1 ≤ min 4 (cellsC pms pms.length).length := by rw [Nat.le_min]; exact ⟨by decide, one⟩
      omega
    · have := Nat.min_le_left 4 (cellsC pms pms.length).length
      omega
theorem ok__law_some (F : Fun K "_law_some" "_law_some" s__law_some f fd) (T : Txt K mg cs) (d__law_draw : Def P w K mg base 1 "_law_draw" ["box", "many"] (spDraw)) :
    FnOk P w K mg base CX0 2 f fd ["box", "names", "most"] (spSome 5) := by
  obtain ⟨f0, fd0, G__law_draw, b__law_draw, g__law_draw, k__law_draw⟩ := d__law_draw.ex
  refine F.ok sc__law_some (fun vs H Q E h => ?_) (fun cdv A outer s H vs Q E hr h => ?_)
  · obtain ⟨b, r, l, rs, pool, most, rfl, B, hl, l0, l1, m0, m1, q⟩ := h
    rfl
  obtain ⟨b, r, l, rs, pool, most, rfl, B, hl, l0, l1, m0, m1, q⟩ := h
  have hu := hr.units
  refine ⟨_, pss_cons (ps_set (i := 3) sc__law_some.nd rfl (.inl rfl) (pe_lst pa_nil))
 (pss_cons (ps_for PassesOwn.never rfl (pi_range1 rfl T.z_range (pa_cons (pe_op op_add pe_int (pe_call G__law_draw hr rfl g__law_draw k__law_draw b__law_draw .nil pass0 (pa_cons (pv 0) (pa_cons (pv 2) pa_nil)))) pa_nil)) (pg_name (i := 4) sc__law_some.nd rfl (.inl rfl)) (pss_cons (ps_set (i := 5) sc__law_some.nd rfl (.inl rfl) (pe_ix (ixl_at (K := K) rfl) (pv 1) (pe_call G__law_draw hr rfl g__law_draw k__law_draw b__law_draw .nil pass0 (pa_cons (pv 0) (pa_cons (pe_callB (len_at (K := K) rfl) (by rfl) T.z_len PySem.boot_len (pa_cons (pv 1) pa_nil)) pa_nil))) (fun _ _ => rfl)))
 (pss_one (ps_if (pt_cmpR (notInD_at (K := K) rfl hu) (pv 5) (pv 3) (by with_unfolding_all rfl)) (pss_one (ps_expr (pe_bm PySem.F.plainAttrs_list PySem.F.slot_list_append PySem.F.type_list_append mt_append (pv 3) (pa_cons (pv 5) pa_nil)))) pss_nil))))
 (pss_one (ps_ret (pe_callTy call_tuple_of (by rfl) T.z_tuple PyProof.Rows.boot_tuple (pa_cons (pv 3) pa_nil))))), ?_⟩
  refine ⟨Nat.zero_le _, fun o no => ?_⟩
  have so := same_new no (.lst [])
  have nob : o ≠ b := fun w => by rw [w] at no; obtain ⟨_, _, h⟩ := B.ex; rw [h] at no; cases no
  refine ⟨_, rfl, _, rfl, b, r, rs, most, rfl, B.same so, by omega, fun v H1 v0 v1 B1 e1 => ?_⟩
  have ho1 := e1 _ _ nob (upd_same (H := H) (a := o) (o := .lst []))
  refine ⟨_, _, rfl, rfl, 1 + v, rfl, by omega, by omega, ?_⟩
  refine for_range (fun (t : Nat) σ H' => ∃ (y4 y5 : Option V) (ns : List FN), σ = [some (.ref b), some (.ref l), some (.int most), some (.ref o), y4, y5] ∧ Box H' b r rs ∧ But b H H' ∧ NL H' l pool ∧ NL H' o ns ∧ (0 < t → 0 < ns.length) ∧ ns.length ≤ t ∧ (∀ n ∈ ns, n ∈ pool))
    ⟨none, none, [], rfl, B1, (But.of so).trans e1, (hl.same so).but (B.same so) e1, ⟨[], ho1, .nil⟩, fun h => absurd h (by decide), Nat.le_refl _, fun n h => (List.not_mem_nil h).elim⟩ (fun t σ H' ht hP => ?_) (fun σ H' hP => ?_)
  · obtain ⟨y4, y5, ns, rfl, B2, e2, hl2, hn2, z0, z1, z2⟩ := hP
    have ht : t < (1 + v).toNat := ht
    obtain ⟨ps, hps, hpA⟩ := id hl2
    have lp := hpA.length
    refine ⟨_, rfl, _, rfl, _, rfl, l, _, rfl, .inl (SqL.of hps), b, r, rs, (ps.length : Nat), rfl, B2, by omega, fun k H3 k0 k1 B3 e3 => ?_⟩
    have hl3 := hl2.but B2 e3
    have hn3 := hn2.but B2 e3
    obtain ⟨ps3, hps3, hpA3⟩ := id hl3
    have lp3 := hpA3.length
    have hk : k.toNat < ps3.length := by omega
    have hx := List.getElem?_eq_getElem hk
    obtain ⟨n, hn, pa, ex, hpa⟩ := hpA3.fwd hx
    rw [ex] at hx
    have ek : k = ((k.toNat : Nat) : Int) := by omega
    have hat : atI ps3 k = some (.ref pa) := by rw [ek]; exact atI_nat hx
    refine ⟨l, _, _, _, rfl, rfl, SqL.of hps3, hat, ?_⟩
    obtain ⟨us, hU, hA⟩ := id hn3
    have lu := hA.length
    refine ⟨_, rfl, _, rfl, in_namesL (neg := true) hpa hn3 ⟨_, rfl, ?_⟩⟩
    show if (!decide (n ∈ ns)) = true then _ else _
    by_cases c : n ∈ ns
    · refine iteNS c ?_
      refine ⟨_, _, ns, rfl, B3, e2.trans e3, hl3, hn3, fun _ => ?_, by omega, z2⟩
      exact List.length_pos_of_mem c
    · refine iteNN c ?_
      refine ⟨_, rfl, .inl ⟨rfl, _, .inl (.inl hU)⟩, _, rfl, o, _, _, rfl, rfl, hU, smaller (by omega), ?_⟩
      have b4 : But o H3 (upd H3 o (.lst (us ++ [.ref pa]))) := fun c o n h => by rw [upd_ne n]; exact h
      have lo : l ≠ o := fun w => by
        obtain ⟨qs, hq, _⟩ := hl
        rw [w, no] at hq; cases hq
      refine ⟨_, _, ns ++ [n], rfl, B3.mut B no, (e2.trans e3).mut no, ?_, ?_, fun _ => by simp, by simp; omega, fun m hm => ?_⟩
      · exact ⟨ps3, by rw [upd_ne lo]; exact hps3, hpA3.mono fun _ _ z => z.keep (.but b4 hU)⟩
      · exact ⟨_, upd_same, (hA.mono fun _ _ z => z.keep (.but b4 hU)).snoc (NmA.keep ⟨pa, rfl, hpa⟩ (.but b4 hU))⟩
      · rcases List.mem_append.mp hm with w | w
        · exact z2 m w
        · rw [List.mem_singleton] at w
          subst w
          exact List.mem_of_getElem? hn
  · obtain ⟨y4, y5, ns, rfl, B2, e2, hl2, hn2, z0, z1, z2⟩ := hP
    obtain ⟨us, hU, hA⟩ := id hn2
    have z1 : ns.length ≤ (1 + v).toNat := z1
    have z0 : 0 < (1 + v).toNat → 0 < ns.length := z0
    refine ⟨_, rfl, o, _, rfl, .inl ⟨SqL.of hU, fun p np => ?_⟩⟩
    have sp := same_new np (.tup us)
    have np' : H p = none := by
      have pb : p ≠ b := fun w => by rw [w] at np; obtain ⟨_, _, h⟩ := B2.ex; rw [h] at np; cases np
      cases h : H p with
      | none => rfl
      | some o => rw [e2 _ _ pb h] at np; cases np
    exact q p ns _ (B2.same sp) (e2.trans (.of sp)) (z0 (by omega)) (by omega) z2 np' ⟨us, upd_same, hA.mono fun _ _ z => z.keep (.of sp)⟩
theorem ok_Plan___init__ (F : Fun K "__init__" "Plan.__init__" s_Plan___init__ f fd) (T : Txt K mg cs)  :
    FnOk P w K mg base CX0 1 f fd ["self", "acts", "ranks"] (spPlanInit cs) := by
  refine F.ok sc_Plan___init__ (fun vs H Q E h => ?_) (fun cdv A outer s H vs Q E hr h => ?_)
  · obtain ⟨x, D, dx, ps, ranks, rfl, hx, hD, lp, q⟩ := h
    rfl
  obtain ⟨x, D, dx, ps, ranks, rfl, hx, hD, lp, q⟩ := h
  have hu := hr.units
  refine ⟨_, pss_cons (ps_fld (pv 0) (pe_callTy (list_at (K := K) rfl) (by rfl) T.z_list PyProof.Rows.boot_list (pa_cons (pv 1) pa_nil)) rfl)
 (pss_one (ps_fld (pv 0) (pv 2) rfl)), ?_⟩
  obtain ⟨vs, h1, h2⟩ := id hD
  have Dx : D ≠ x := fun z => by rw [z, hx] at h1; cases h1
  have l1 : ∀ v, (putF "acts" v []).length ≤ 1 := fun v => length_putF _ _ _
  refine ⟨_, rfl, D, _, rfl, .inl (SqL.of h1), fun C nC => ?_⟩
  have Cx : C ≠ x := fun z => by rw [z, hx] at nC; cases nC
  generalize eqH : upd H C _ = H1
  obtain ⟨s1, k1⟩ := new_facts eqH nC
  clear eqH
  refine ⟨_, rfl, x, _, dx, _, rfl, s1 _ _ hx, T.C_Plan, T.na_Plan_acts, (by decide), ?_⟩
  refine ⟨_, rfl, _, rfl, x, _, dx, _, rfl, upd_same, T.C_Plan, T.na_Plan_ranks, Nat.lt_of_le_of_lt (l1 _) (by decide), ?_⟩
  have e1 : But x H1 (upd (upd H1 x (.ins cs.Plan dx (putF "acts" (.ref C) []))) x (.ins cs.Plan dx (putF "ranks" (.int ranks) (putF "acts" (.ref C) [])))) := fun c o n h => by rw [upd_ne n, upd_ne n]; exact h
  refine q _ (.trans (.of s1) e1) ⟨dx, _, C, upd_same, ?_, ?_, ?_, vs, e1 _ _ Cx k1, h2.mono fun _ _ z => z.keep fun a xs ha => e1 _ _ (fun w => by rw [w, hx] at ha; cases ha) (s1 _ _ ha)⟩
  · rw [lookup_putF, if_neg (by decide), lookup_putF, if_pos rfl]
  · rw [lookup_putF, if_pos rfl]
  · rw [lookup_putF, if_neg (by decide), lookup_putF, if_neg (by decide)]
    rfl

theorem own_Plan___iter__ {fi : Addr} {fd2 : FuncData} (h1 : PySem.W.findIn K (.ref cs.Plan) "__iter__" = some (some (.ref fi))) (h2 : PySem.W.isFn K (.ref fi) = true) (F : Fun K "__iter__" "Plan.__iter__" s_Plan___iter__ fi fd2) (b : L2.Binds K fd2 ["self"] []) (T : Txt K mg cs) : OwnIt P w K mg base cs.Plan "acts" := by
  refine ⟨fi, fd2, "Plan.__iter__", s_Plan___iter__, h1, h2, F, sc_Plan___iter__, b, fun a D dx fs xs cdv A outer s H Q ha hf hD q => ?_⟩
  refine ⟨_, pss_one (ps_ret (pe_callB ItX.call_iterN (by rfl) T.z_iter (by decide +kernel) (pa_cons (pe_fld_at (K := K) rfl (pv 0) rfl) pa_nil))), ?_⟩
  exact ⟨_, rfl, a, _, dx, fs, _, rfl, ha, T.C_Plan, T.na_Plan_acts, hf, D, xs, rfl, hD, fun it n1 n2 => q it n1 n2⟩
theorem ok_narrowed (F : Fun K "narrowed" "narrowed" s_narrowed f fd) (T : Txt K mg cs)  :
    FnOk P w K mg base CX0 1 f fd ["act", "name"] (spNarrowed) := by
  refine F.ok sc_narrowed (fun vs H Q E h => ?_) (fun cdv A outer s H vs Q E hr h => ?_)
  · obtain ⟨a, c, n, nm, rfl, hc, hn, lc, nt, q⟩ := h
    rfl
  obtain ⟨a, c, n, nm, rfl, hc, hn, lc, nt, q⟩ := h
  have hu := hr.units
  refine ⟨_, pss_cons (ps_if (pt_cmpR op_eq (pe_ix (ixt_at (K := K) rfl) (pv 0) pe_int (fun _ _ => rfl)) pe_str (nomark _)) (pss_one (ps_ret (pe_tup (pa_cons pe_str (pa_cons (pe_callTy call_tuple_of (by rfl) T.z_tuple PyProof.Rows.boot_tuple (pa_cons (pe_lc (own := [("entry", 2)]) (g := gName 2)  rfl sc_narrowed.nd (pi_tup (pe_ix (ixt_at (K := K) rfl) (pv 0) pe_int (fun _ _ => rfl))) (blkOk_by (N := ["act", "name", "entry", "one"]) (sc := defScope s_narrowed) (by decide +kernel)) (fun _ _ _ _ _ => (pg_name (i := 2) sc_narrowed.nd rfl (.inl rfl))) (fun _ _ _ _ _ => pts_one (pt_cmpR (eqD_at (K := K) rfl hu) (pe_ix (ixt_at (K := K) rfl) (pv 2) pe_int (fun _ _ => rfl)) (pv 1) (nomark _))) (fun _ _ _ _ _ => (pv 2))) pa_nil)) pa_nil))))) pss_nil)
 (pss_one (ps_ret (pe_op (catT_at (K := K) rfl) (pe_slice (slt_at (K := K) rfl) (pv 0) po_none (po_some (pe_un un_neg pe_int))) (pe_tup (pa_cons (pe_callTy call_tuple_of (by rfl) T.z_tuple PyProof.Rows.boot_tuple (pa_cons (pe_lc (own := [("one", 3)]) (g := gName 3)  rfl sc_narrowed.nd (pi_tup (pe_ix (ixt_at (K := K) rfl) (pv 0) (pe_un un_neg pe_int) (fun _ _ => rfl))) (blkOk_by (N := ["act", "name", "entry", "one"]) (sc := defScope s_narrowed) (by decide +kernel)) (fun _ _ _ _ _ => (pg_name (i := 3) sc_narrowed.nd rfl (.inl rfl))) (fun _ _ _ _ _ => pts_one (pt_cmpR (eqD_at (K := K) rfl hu) (pv 3) (pv 1) (nomark _))) (fun _ _ _ _ _ => (pv 3))) pa_nil)) pa_nil))))), ?_⟩
  obtain ⟨r, hr⟩ := hc.head
  have h0 : atI (V.str c.kind :: r) 0 = some (.str c.kind) := atI_nat (show (V.str c.kind :: r)[0]? = some (.str c.kind) from rfl)
  refine ⟨_, rfl, a, _, _, _, rfl, rfl, SqT.of hr, h0, rfl, _, rfl, ?_⟩
  refine ifS (fun ek => ?_) (fun nk => ?_)
  · obtain ⟨ns, rfl⟩ := Act.is_make ek
    obtain ⟨t, h1, vs, h2, h3⟩ := hc
    have lc : ns.length ≤ 1000 := lc
    have lv := h3.length
    refine ⟨_, rfl, a, _, _, _, rfl, rfl, SqT.of h1, rfl, t, rfl, ⟨_, SqT.of h2⟩, fun D nD => ?_⟩
    refine lc_tup (xs := vs) (fun (i : Nat) H' => Same H H' ∧ ∃ us, H' D = some (.lst us) ∧ All2 (EntA H') us ((ns.take i).filter fun m => decide (m = nm))) ⟨same_new nD _, [], upd_same, .nil⟩ (fun i H' _ hP => SqT.of (hP.1 _ _ h2)) (fun i x H' hx hP => ?_) (fun H' hP => ?_)
    · obtain ⟨e, us, hD, hu'⟩ := hP
      obtain ⟨m, hm, pa, pb, pc, rfl, g1, g2, g3⟩ := h3.fwd hx
      have lu := hu'.length
      have lf := filt_le (ns := ns) (i := i) (nm := nm)
      rw [filt_succ hm]
      refine ⟨rfl, _, rfl, pa, _, _, _, rfl, rfl, SqT.of (e _ _ g1), rfl, _, rfl, eq_nm (e _ _ g2) (e _ _ hn) ⟨_, rfl, ?_⟩⟩
      by_cases cm : m = nm
      · refine iteD cm ?_
        rw [if_pos cm]
        have b6 : But D H' (upd H' D (.lst (us ++ [.ref pa]))) := fun c o n h => by rw [upd_ne n]; exact h
        exact ⟨_, rfl, _, hD, smaller (by omega), same_mut e nD, _, upd_same, (hu'.mono fun _ _ z => z.keep (.but b6 hD)).snoc (EntA.keep ⟨pa, pb, pc, rfl, e _ _ g1, e _ _ g2, e _ _ g3⟩ (.but b6 hD))⟩
      · refine iteDN cm ?_
        rw [if_neg cm, List.append_nil]
        exact ⟨e, us, hD, hu'⟩
    · obtain ⟨e, us, hD, hu'⟩ := hP
      rw [lv, List.take_length] at hu'
      refine ⟨D, us, rfl, .inl ⟨SqL.of hD, fun p1 np1 => ?_⟩⟩
      generalize eqH : upd H' p1 _ = H4
      obtain ⟨s4, h4⟩ := new_facts eqH np1
      clear eqH
      refine ⟨by show 2 ≤ sizeLine; decide, fun p np => ?_⟩
      have s5 := same_new np (.tup [.str "make", .ref p1])
      have e5 := e.trans (s4.trans s5)
      exact q p _ e5 (none_of (e.trans s4) np) ⟨p1, upd_same, us, s5 _ _ h4, (hu'.mono fun _ _ z => z.keep (.of (s4.trans s5)))⟩
  · obtain ⟨xs, t, xne, xl, h1, ⟨vs, h2, h3⟩, re⟩ := hc.anew nk nt nm
    have lv := h3.length
    refine ⟨_, rfl, _, rfl, _, rfl, a, _, rfl, SqT.of h1, ?_, fun p1 np1 => ?_⟩
    · intro z
      have w : HT.sIx (xs ++ [V.ref t]).length (xs ++ [V.ref t]).length (some (-1)) = (xs ++ [V.ref t]).length := z.2
      rw [List.length_append] at w
      have w : HT.sIx (xs.length + 1) (xs.length + 1) (some (-1)) = xs.length + 1 := w
      rw [sIx_last] at w
      omega
    generalize eqH : upd H p1 _ = H1
    obtain ⟨s1, k1⟩ := new_facts eqH np1
    clear eqH
    have k1 : H1 p1 = some (.tup xs) := by rw [k1]; exact congrArg (fun z => some (HO.tup z)) cut_last
    refine ⟨_, rfl, _, rfl, a, _, _, _, rfl, rfl, SqT.of (s1 _ _ h1), at_last, t, rfl, ⟨_, SqT.of (s1 _ _ h2)⟩, fun D nD => ?_⟩
    refine lc_tup (xs := vs) (fun (i : Nat) H' => Same H1 H' ∧ ∃ us, H' D = some (.lst us) ∧ All2 (NmA H') us ((c.ns.take i).filter fun m => decide (m = nm))) ⟨same_new nD _, [], upd_same, .nil⟩ (fun i H' _ hP => SqT.of (hP.1 _ _ (s1 _ _ h2))) (fun i x H' hx hP => ?_) (fun H' hP => ?_)
    · obtain ⟨e, us, hD, hu'⟩ := hP
      obtain ⟨m, hm, pa, rfl, g1⟩ := h3.fwd hx
      have lu := hu'.length
      have lf := filt_le (ns := c.ns) (i := i) (nm := nm)
      rw [filt_succ hm]
      refine ⟨rfl, _, rfl, _, rfl, eq_nm (e _ _ (s1 _ _ g1)) (e _ _ (s1 _ _ hn)) ⟨_, rfl, ?_⟩⟩
      by_cases cm : m = nm
      · refine iteD cm ?_
        rw [if_pos cm]
        have b6 : But D H' (upd H' D (.lst (us ++ [.ref pa]))) := fun c o n h => by rw [upd_ne n]; exact h
        exact ⟨_, rfl, _, hD, smaller (by omega), same_mut e nD, _, upd_same, (hu'.mono fun _ _ z => z.keep (.but b6 hD)).snoc (NmA.keep ⟨pa, rfl, e _ _ (s1 _ _ g1)⟩ (.but b6 hD))⟩
      · refine iteDN cm ?_
        rw [if_neg cm, List.append_nil]
        exact ⟨e, us, hD, hu'⟩
    · obtain ⟨e, us, hD, hu'⟩ := hP
      rw [lv, List.take_length] at hu'
      refine ⟨D, us, rfl, .inl ⟨SqL.of hD, fun p2 np2 => ?_⟩⟩
      generalize eqH : upd H' p2 _ = H4
      obtain ⟨s4, h4⟩ := new_facts eqH np2
      clear eqH
      refine ⟨by show 1 ≤ sizeLine; decide, fun p3 np3 => ?_⟩
      generalize eqH : upd H4 p3 _ = H5
      obtain ⟨s5, h5⟩ := new_facts eqH np3
      clear eqH
      refine ⟨p1, p3, _, _, rfl, rfl, SqT.of (s5 _ _ (s4 _ _ (e _ _ k1))), SqT.of h5, xne, Nat.le_of_lt (smaller (by show xs.length + 1 < 100000; omega)), (fun z => nomatch z), fun _ p np => ?_⟩
      have s6 := same_new np (.tup (xs ++ [.ref p2]))
      have eA := s1.trans (e.trans (s4.trans s5))
      exact q p _ (eA.trans s6) (none_of eA np) (re _ p p2 upd_same ⟨us, s6 _ _ (s5 _ _ h4), hu'.mono fun _ _ z => z.keep (.of (s4.trans (s5.trans s6)))⟩)
theorem ok_trace (F : Fun K "trace" "trace" s_trace f fd) (T : Txt K mg cs) (d_Plan___iter__ : OwnIt P w K mg base cs.Plan "acts") (d_names_of : Def P w K mg base 1 "names_of" ["act"] (spNamesOf)) (d_narrowed : Def P w K mg base 1 "narrowed" ["act", "name"] (spNarrowed)) :
    FnOk P w K mg base CX0 4 f fd ["plan", "name"] (spTrace cs) := by
  obtain ⟨f1, fd1, G_names_of, b_names_of, g_names_of, k_names_of⟩ := d_names_of.ex
  obtain ⟨f2, fd2, G_narrowed, b_narrowed, g_narrowed, k_narrowed⟩ := d_narrowed.ex
  refine F.ok sc_trace (fun vs H Q E h => ?_) (fun cdv A outer s H vs Q E hr h => ?_)
  · obtain ⟨x, ps, ranks, n, nm, rfl, hP, hn, few, q⟩ := h
    rfl
  obtain ⟨x, ps, ranks, n, nm, rfl, hP, hn, few, q⟩ := h
  have hu := hr.units
  refine ⟨_, pss_one (ps_ret (pe_lc (own := [("at", 2), ("rank", 3), ("act", 4)]) (g := gTup K 2 (gCons (gName 2) (gCons (gTup K 2 (gCons (gName 3) (gCons (gName 4) gNil))) gNil)))  rfl sc_trace.nd (pi_enumO d_Plan___iter__ hr rfl T.z_enumerate (pa_cons (pv 0) pa_nil)) (blkOk_by (N := ["plan", "name", "at", "rank", "act"]) (sc := defScope s_trace) (by decide +kernel)) (fun _ _ _ _ _ => (pg_tup_at (K := K) (n := 2) rfl rfl (pgs_cons (pg_name (i := 2) sc_trace.nd rfl (.inl rfl)) (pgs_cons (pg_tup_at (K := K) (n := 2) rfl rfl (pgs_cons (pg_name (i := 3) sc_trace.nd rfl (.inl rfl)) (pgs_cons (pg_name (i := 4) sc_trace.nd rfl (.inl rfl)) pgs_nil)) rfl rfl) pgs_nil)) rfl rfl)) (fun _ _ _ _ _ => pts_one (pt_cmpR (inD_at (K := K) rfl hu) (pv 1) (pe_call G_names_of (hr.mono (by decide)) rfl g_names_of k_names_of b_names_of .nil pass0 (pa_cons (pv 4) pa_nil)) (by with_unfolding_all rfl))) (fun _ _ _ _ _ => (pe_tup (pa_cons (pv 2) (pa_cons (pv 3) (pa_cons (pe_call G_narrowed (hr.mono (by decide)) rfl g_narrowed k_narrowed b_narrowed .nil pass0 (pa_cons (pv 4) (pa_cons (pv 1) pa_nil))) pa_nil))))))), ?_⟩
  obtain ⟨dx, fs, D, h1, h2, h3, h4, vs, h5, h6⟩ := hP.ex
  have lv := h6.length
  have f1 := few.1
  refine ⟨_, rfl, x, dx, fs, D, vs, rfl, h1, h2, SqL.of h5, fun C nC => ?_⟩
  refine lc_it (walk_enum (xs := vs)) (fun (i : Nat) H' => Same H H' ∧ TrL H' C (tracesOf nm ps i)) ⟨same_new nC _, [], upd_same, .nil⟩ (fun i H' _ hP => SqL.of (hP.1 _ _ h5)) (fun i v H' H3 hi hP hy => ?_) (fun H' hP => ?_)
  · obtain ⟨e, us, hC, hA⟩ := hP
    obtain ⟨T', x', y', rfl, nT, eH3, e1, e2⟩ := hy
    cases e1
    obtain ⟨p, hp, a, b, rfl, g1, g2⟩ := h6.fwd e2
    have lu := hA.length
    have lt := traces_len (nm := nm) (ps := ps) i
    have hg : ps.getD i (0, .tell 0) = p := by
      have w := (pairAt (ps := ps) (t := i) (by omega)).1
      rw [hp] at w
      exact (Option.some.inj w).symm
    have lc := few.2 p (List.mem_of_getElem? hp)
    obtain ⟨s3, k3⟩ := new_facts eH3.symm nT
    have e3 := e.trans s3
    have nx : tracesOf nm ps (i + 1) = tracesOf nm ps i ++ traceOf nm i p := by rw [← hg]; rfl
    rw [nx]
    refine ⟨T', _, rfl, SqT.of k3, rfl, _, _, rfl, _, _, rfl, a, _, rfl, SqT.of (e3 _ _ g1), rfl, _, _, rfl, _, _, rfl, rfl, rfl, ⟨rfl, ?_⟩⟩
    refine ⟨_, rfl, _, rfl, b, p.2, rfl, g2.keep (.of e3), by omega, fun l H4 s4 nl hNl => in_namesL (neg := false) (s4 _ _ (e3 _ _ hn)) hNl ⟨_, rfl, ?_⟩⟩
    have e4 := e3.trans s4
    refine ite2 (fun cm => ?_) (fun cm => ?_)
    · have cm : nm ∈ p.2.ns := by simpa using cm
      have nt : p.2.kind ≠ "tell" := fun z => by
        obtain ⟨k, w⟩ := Act.is_tell z
        rw [w] at cm
        cases cm
      refine ⟨_, rfl, _, rfl, _, rfl, _, rfl, b, p.2, n, nm, rfl, g2.keep (.of e4), e4 _ _ hn, by omega, nt, fun z H5 s5 nz hz => ?_⟩
      refine ⟨by show 3 ≤ sizeLine; decide, fun q1 nq1 => ?_⟩
      generalize eqH : upd H5 q1 _ = H6
      obtain ⟨s6, k6⟩ := new_facts eqH nq1
      clear eqH
      have s36 := s3.trans (s4.trans (s5.trans s6))
      have hC6 := s36 _ _ hC
      have b7 : But C H6 (upd H6 C (.lst (us ++ [.ref q1]))) := fun c o n h => by rw [upd_ne n]; exact h
      refine ⟨us, hC6, smaller (by omega), same_mut (e.trans s36) nC, us ++ [.ref q1], upd_same, ?_⟩
      have tr : traceOf nm i p = [(i, p.1, p.2.narrow nm)] := if_pos cm
      rw [tr]
      exact (hA.mono fun _ _ z => (z.keep (.of s36)).keep (.but b7 hC6)).snoc (TrA.keep ⟨q1, z, rfl, k6, hz.keep (.of s6)⟩ (.but b7 hC6))
    · have cm : nm ∉ p.2.ns := by simpa using cm
      have tr : traceOf nm i p = [] := if_neg cm
      rw [tr, List.append_nil]
      exact ⟨e4, us, (s3.trans s4) _ _ hC, hA.mono fun _ _ z => z.keep (.of (s3.trans s4))⟩
  · obtain ⟨e, hT⟩ := hP
    rw [lv] at hT
    exact q C H' e nC hT
theorem ok__law_due_trace (F : Fun K "_law_due_trace" "_law_due_trace" s__law_due_trace f fd) (T : Txt K mg cs)  :
    FnOk P w K mg base CX0 1 f fd ["acts", "name"] (spDueTrace) := by
  refine F.ok sc__law_due_trace (fun vs H Q E h => ?_) (fun cdv A outer s H vs Q E hr h => ?_)
  · obtain ⟨l, ps, n, nm, rfl, hl, hn, few, q⟩ := h
    rfl
  obtain ⟨l, ps, n, nm, rfl, hl, hn, few, q⟩ := h
  have hu := hr.units
  refine ⟨_, pss_cons (ps_set (i := 2) sc__law_due_trace.nd rfl (.inl rfl) (pe_lst pa_nil))
 (pss_cons (ps_for PassesOwn.never rfl (pi_range1 rfl T.z_range (pa_cons (pe_callB (len_at (K := K) rfl) (by rfl) T.z_len PySem.boot_len (pa_cons (pv 0) pa_nil)) pa_nil)) (pg_name (i := 3) sc__law_due_trace.nd rfl (.inl rfl)) (pss_cons (ps_set (i := 4) sc__law_due_trace.nd rfl (.inl rfl) (pe_ix (ixt_at (K := K) rfl) (pe_ix (ixl_at (K := K) rfl) (pv 0) (pv 3) (fun _ _ => rfl)) pe_int (fun _ _ => rfl)))
 (pss_cons (ps_set (i := 5) sc__law_due_trace.nd rfl (.inl rfl) (pe_tup pa_nil))
 (pss_cons (ps_if (pt_cmpR op_eq (pe_ix (ixt_at (K := K) rfl) (pv 4) pe_int (fun _ _ => rfl)) pe_str (nomark _)) (pss_one (ps_set (i := 5) sc__law_due_trace.nd rfl (.inl rfl) (pe_callTy call_tuple_of (by rfl) T.z_tuple PyProof.Rows.boot_tuple (pa_cons (pe_lc (own := [("entry", 6)]) (g := gName 6)  rfl sc__law_due_trace.nd (pi_tup (pe_ix (ixt_at (K := K) rfl) (pv 4) pe_int (fun _ _ => rfl))) (blkOk_by (N := ["acts", "name", "out", "k", "act", "mine", "entry", "one"]) (sc := defScope s__law_due_trace) (by decide +kernel)) (fun _ _ _ _ _ => (pg_name (i := 6) sc__law_due_trace.nd rfl (.inl rfl))) (fun _ _ _ _ _ => pts_one (pt_cmpR (eqD_at (K := K) rfl hu) (pe_ix (ixt_at (K := K) rfl) (pv 6) pe_int (fun _ _ => rfl)) (pv 1) (nomark _))) (fun _ _ _ _ _ => (pv 6))) pa_nil)))) (pss_one (ps_if (pt_cmpR op_ne (pe_ix (ixt_at (K := K) rfl) (pv 4) pe_int (fun _ _ => rfl)) pe_str (nomark _)) (pss_one (ps_set (i := 5) sc__law_due_trace.nd rfl (.inl rfl) (pe_callTy call_tuple_of (by rfl) T.z_tuple PyProof.Rows.boot_tuple (pa_cons (pe_lc (own := [("one", 7)]) (g := gName 7)  rfl sc__law_due_trace.nd (pi_tup (pe_ix (ixt_at (K := K) rfl) (pv 4) (pe_un un_neg pe_int) (fun _ _ => rfl))) (blkOk_by (N := ["acts", "name", "out", "k", "act", "mine", "entry", "one"]) (sc := defScope s__law_due_trace) (by decide +kernel)) (fun _ _ _ _ _ => (pg_name (i := 7) sc__law_due_trace.nd rfl (.inl rfl))) (fun _ _ _ _ _ => pts_one (pt_cmpR (eqD_at (K := K) rfl hu) (pv 7) (pv 1) (nomark _))) (fun _ _ _ _ _ => (pv 7))) pa_nil)))) pss_nil)))
 (pss_one (ps_if (pt_cmpR op_gt (pe_callB (len_at (K := K) rfl) (by rfl) T.z_len PySem.boot_len (pa_cons (pv 5) pa_nil)) pe_int (nomark _)) (pss_one (ps_expr (pe_bm PySem.F.plainAttrs_list PySem.F.slot_list_append PySem.F.type_list_append mt_append (pv 2) (pa_cons (pe_tup (pa_cons (pv 3) (pa_cons (pe_ix (ixt_at (K := K) rfl) (pe_ix (ixl_at (K := K) rfl) (pv 0) (pv 3) (fun _ _ => rfl)) pe_int (fun _ _ => rfl)) (pa_cons (pe_op (catT_at (K := K) rfl) (pe_slice (slt_at (K := K) rfl) (pv 4) po_none (po_some (pe_un un_neg pe_int))) (pe_tup (pa_cons (pv 5) pa_nil))) pa_nil)))) pa_nil)))) pss_nil))))))
 (pss_one (ps_ret (pv 2)))), ?_⟩
  obtain ⟨vs, h1, h2⟩ := id hl
  have lv := h2.length
  have f1 := few.1
  refine ⟨Nat.zero_le _, fun O nO => ?_⟩
  have sO := same_new nO (.lst [])
  refine ⟨_, rfl, l, _, rfl, .inl (SqL.of (sO _ _ h1)), _, rfl, by omega, by omega, ?_⟩
  refine for_range (lo := 0) (n := ((vs.length : Nat) : Int).toNat) (fun (t : Nat) σ H' => ∃ (y3 y4 y5 : Option V), σ = [some (.ref l), some (.ref n), some (.ref O), y3, y4, y5, none, none] ∧ Same H H' ∧ TrL H' O (tracesOf nm ps t)) ⟨none, none, none, rfl, sO, [], upd_same, .nil⟩ (fun t σ H' ht hP => ?_) (fun σ H' hP => ?_)
  · obtain ⟨y3, y4, y5, rfl, e, us, hO, hA⟩ := hP
    have ht : t < vs.length := by omega
    obtain ⟨v, hv⟩ : ∃ v, vs[t]? = some v := ⟨_, List.getElem?_eq_getElem ht⟩
    obtain ⟨p, hp, a, b, rfl, g1, g2⟩ := h2.fwd hv
    have lu := hA.length
    have lt := traces_len (nm := nm) (ps := ps) t
    have hg : ps.getD t (0, .tell 0) = p := by
      have w := (pairAt (ps := ps) (t := t) (by omega)).1
      rw [hp] at w
      exact (Option.some.inj w).symm
    have lc := few.2 p (List.mem_of_getElem? hp)
    have nx : tracesOf nm ps (t + 1) = tracesOf nm ps t ++ traceOf nm t p := by rw [← hg]; rfl
    rw [nx, Int.zero_add]
    refine ⟨_, rfl, _, rfl, l, _, _, _, rfl, rfl, SqL.of (e _ _ h1), atI_nat hv, a, _, _, _, rfl, rfl, SqT.of (e _ _ g1), rfl, ?_⟩
    refine ⟨Nat.zero_le _, fun m0 nm0 => ?_⟩
    generalize eqH : upd H' m0 _ = H1
    obtain ⟨s1, k1⟩ := new_facts eqH nm0
    clear eqH
    have e1 := e.trans s1
    have hc1 := g2.keep (.of e1)
    obtain ⟨r, hr⟩ := hc1.head
    have h0 : atI (V.str p.2.kind :: r) 0 = some (.str p.2.kind) := atI_nat (show (V.str p.2.kind :: r)[0]? = some (.str p.2.kind) from rfl)
    refine ⟨_, rfl, b, _, _, _, rfl, rfl, SqT.of hr, h0, rfl, _, rfl, ?_⟩
    refine ifS (fun ek => ?_) (fun nk => ?_)
    · obtain ⟨ns, ecn⟩ := Act.is_make ek
      have hact := hc1
      rw [ecn] at hact
      obtain ⟨t', q1, ws, q2, q3⟩ := hact
      have lw := q3.length
      have lns : ns.length ≤ 100 := by rw [ecn] at lc; exact lc
      have ens : p.2.ns = ns := by rw [ecn]; rfl
      refine ⟨_, rfl, b, _, _, _, rfl, rfl, SqT.of q1, rfl, t', rfl, ⟨_, SqT.of q2⟩, fun D nD => ?_⟩
      refine lc_tup (xs := ws) (fun (i : Nat) H' => Same H1 H' ∧ ∃ us, H' D = some (.lst us) ∧ All2 (EntA H') us ((ns.take i).filter fun m => decide (m = nm))) ⟨same_new nD _, [], upd_same, .nil⟩ (fun i H' _ hP => SqT.of (hP.1 _ _ q2)) (fun i x H' hx hP => ?_) (fun H3 hP => ?_)
      · obtain ⟨e, us, hD, hu'⟩ := hP
        obtain ⟨m, hm, pa, pb, pc, rfl, w1, w2, w3⟩ := q3.fwd hx
        have lu := hu'.length
        have lf := filt_le (ns := ns) (i := i) (nm := nm)
        rw [filt_succ hm]
        refine ⟨rfl, _, rfl, pa, _, _, _, rfl, rfl, SqT.of (e _ _ w1), rfl, _, rfl, eq_nm (e _ _ w2) (e _ _ (e1 _ _ hn)) ⟨_, rfl, ?_⟩⟩
        by_cases cm : m = nm
        · refine iteD cm ?_
          rw [if_pos cm]
          have b6 : But D H' (upd H' D (.lst (us ++ [.ref pa]))) := fun c o n h => by rw [upd_ne n]; exact h
          exact ⟨_, rfl, _, hD, smaller (by omega), same_mut e nD, _, upd_same, (hu'.mono fun _ _ z => z.keep (.but b6 hD)).snoc (EntA.keep ⟨pa, pb, pc, rfl, e _ _ w1, e _ _ w2, e _ _ w3⟩ (.but b6 hD))⟩
        · refine iteDN cm ?_
          rw [if_neg cm, List.append_nil]
          exact ⟨e, us, hD, hu'⟩
      · obtain ⟨e3, us5, hD, hu'⟩ := hP
        rw [lw, List.take_length] at hu'
        refine ⟨D, us5, rfl, .inl ⟨SqL.of hD, fun m nm' => ?_⟩⟩
        generalize eqH : upd H3 m _ = H5
        obtain ⟨s5, hm⟩ := new_facts eqH nm'
        clear eqH
        have s15 := e3.trans s5
        have e5 := e1.trans s15
        have hO5 := (s1.trans s15) _ _ hO
        have hA5 := hA.mono fun _ _ z => z.keep (.of (s1.trans s15))
        have lu5 : us5.length = (p.2.ns.filter fun m => decide (m = nm)).length := by rw [ens]; exact hu'.length
        have hb5 : H5 b = some (.tup ([V.str "make"] ++ [.ref t'])) := s15 _ _ q1
        have re : ∀ (H' : Hp) (z : Addr), Same H5 H' → H' z = some (.tup ([V.str "make"] ++ [.ref m])) → ActA H' z (p.2.narrow nm) := fun H' z sz hz => by
          rw [ecn]
          exact ⟨m, hz, us5, sz _ _ hm, hu'.mono fun _ _ w => w.keep (.of (s5.trans sz))⟩
        have xne : [V.str "make"] ≠ [] := fun z => nomatch z
        have xl : [V.str "make"].length ≤ 5 := by show 1 ≤ 5; decide
        generalize [V.str "make"] = xs at *
        have s4 := e5
        refine ⟨_, rfl, m, _, rfl, .inr (SqT.of hm), _, _, rfl, rfl, _, rfl, ?_⟩
        by_cases cm : nm ∈ p.2.ns
        · have pos : 0 < us5.length := by
            rw [lu5]
            exact List.length_pos_of_mem (List.mem_filter.mpr ⟨cm, by simp⟩)
          refine iteD (by omega) ?_
          refine ⟨_, rfl, .inl ⟨rfl, _, .inl (.inl hO5)⟩, _, rfl, _, rfl, _, rfl, l, _, _, _, rfl, rfl, SqL.of (e5 _ _ h1), atI_nat hv, a, _, _, _, rfl, rfl, SqT.of (e5 _ _ g1), rfl, _, rfl, _, rfl, _, rfl, b, _, rfl, SqT.of hb5, ?_, fun p1 np1 => ?_⟩
          · intro z
            have w : HT.sIx (xs ++ [V.ref t']).length (xs ++ [V.ref t']).length (some (-1)) = (xs ++ [V.ref t']).length := z.2
            rw [List.length_append] at w
            have w : HT.sIx (xs.length + 1) (xs.length + 1) (some (-1)) = xs.length + 1 := w
            rw [sIx_last] at w
            omega
          generalize eqH : upd H5 p1 _ = H6
          obtain ⟨s6, k6⟩ := new_facts eqH np1
          clear eqH
          have k6 : H6 p1 = some (.tup xs) := by rw [k6]; exact congrArg (fun z => some (HO.tup z)) cut_last
          refine ⟨_, rfl, by show 1 ≤ sizeLine; decide, fun p2 np2 => ?_⟩
          generalize eqH : upd H6 p2 _ = H7
          obtain ⟨s7, k7⟩ := new_facts eqH np2
          clear eqH
          refine ⟨p1, p2, _, _, rfl, rfl, SqT.of (s7 _ _ k6), SqT.of k7, xne, Nat.le_of_lt (smaller (by show xs.length + 1 < 100000; omega)), (fun z => nomatch z), fun _ p3 np3 => ?_⟩
          generalize eqH : upd H7 p3 _ = H8
          obtain ⟨s8, k8⟩ := new_facts eqH np3
          clear eqH
          refine ⟨by show 3 ≤ sizeLine; decide, fun p4 np4 => ?_⟩
          generalize eqH : upd H8 p4 _ = H9
          obtain ⟨s9, k9⟩ := new_facts eqH np4
          clear eqH
          have s59 := s6.trans (s7.trans (s8.trans s9))
          have hO9 := s59 _ _ hO5
          refine ⟨O, us, _, rfl, rfl, hO9, smaller (by omega), ?_⟩
          have b10 : But O H9 (upd H9 O (.lst (us ++ [.ref p4]))) := fun c o n h => by rw [upd_ne n]; exact h
          refine ⟨_, _, _, rfl, same_mut (e5.trans s59) nO, us ++ [.ref p4], upd_same, ?_⟩
          have tr : traceOf nm t p = [(t, p.1, p.2.narrow nm)] := if_pos cm
          rw [tr]
          exact (hA5.mono fun _ _ z => (z.keep (.of s59)).keep (.but b10 hO9)).snoc (TrA.keep ⟨p4, p3, rfl, k9, re H9 p3 s59 (s9 _ _ k8)⟩ (.but b10 hO9))
        · have zero : us5.length = 0 := by
            rw [lu5, List.length_eq_zero_iff, List.filter_eq_nil_iff]
            intro m hm z
            exact cm ((of_decide_eq_true z) ▸ hm)
          refine iteDN (by omega) ?_
          have tr : traceOf nm t p = [] := if_neg cm
          refine ⟨_, _, _, rfl, e5, us, hO5, ?_⟩
          rw [tr, List.append_nil]
          exact hA5
    · refine ⟨_, rfl, b, _, _, _, rfl, rfl, SqT.of hr, h0, rfl, _, rfl, ?_⟩
      refine ifNS (fun nt => ?_) (fun et => ?_)
      · obtain ⟨xs, t', xne, xl, q1, ⟨ws, q2, q3⟩, re0⟩ := hc1.anew nk nt nm
        have lw := q3.length
        refine ⟨_, rfl, _, rfl, b, _, _, _, rfl, rfl, SqT.of q1, at_last, t', rfl, ⟨_, SqT.of q2⟩, fun D nD => ?_⟩
        refine lc_tup (xs := ws) (fun (i : Nat) H' => Same H1 H' ∧ ∃ us, H' D = some (.lst us) ∧ All2 (NmA H') us ((p.2.ns.take i).filter fun m => decide (m = nm))) ⟨same_new nD _, [], upd_same, .nil⟩ (fun i H' _ hP => SqT.of (hP.1 _ _ q2)) (fun i x H' hx hP => ?_) (fun H3 hP => ?_)
        · obtain ⟨e, us, hD, hu'⟩ := hP
          obtain ⟨m, hm, pa, rfl, w1⟩ := q3.fwd hx
          have lu := hu'.length
          have lf := filt_le (ns := p.2.ns) (i := i) (nm := nm)
          rw [filt_succ hm]
          refine ⟨rfl, _, rfl, _, rfl, eq_nm (e _ _ w1) (e _ _ (e1 _ _ hn)) ⟨_, rfl, ?_⟩⟩
          by_cases cm : m = nm
          · refine iteD cm ?_
            rw [if_pos cm]
            have b6 : But D H' (upd H' D (.lst (us ++ [.ref pa]))) := fun c o n h => by rw [upd_ne n]; exact h
            exact ⟨_, rfl, _, hD, smaller (by omega), same_mut e nD, _, upd_same, (hu'.mono fun _ _ z => z.keep (.but b6 hD)).snoc (NmA.keep ⟨pa, rfl, e _ _ w1⟩ (.but b6 hD))⟩
          · refine iteDN cm ?_
            rw [if_neg cm, List.append_nil]
            exact ⟨e, us, hD, hu'⟩
        · obtain ⟨e3, us5, hD, hu'⟩ := hP
          rw [lw, List.take_length] at hu'
          refine ⟨D, us5, rfl, .inl ⟨SqL.of hD, fun m nm' => ?_⟩⟩
          generalize eqH : upd H3 m _ = H5
          obtain ⟨s5, hm⟩ := new_facts eqH nm'
          clear eqH
          have s15 := e3.trans s5
          have e5 := e1.trans s15
          have hO5 := (s1.trans s15) _ _ hO
          have hA5 := hA.mono fun _ _ z => z.keep (.of (s1.trans s15))
          have lu5 : us5.length = (p.2.ns.filter fun m => decide (m = nm)).length := hu'.length
          have hb5 := s15 _ _ q1
          have re : ∀ (H' : Hp) (z : Addr), Same H5 H' → H' z = some (.tup (xs ++ [.ref m])) → ActA H' z (p.2.narrow nm) := fun H' z sz hz => re0 H' z m hz ⟨us5, sz _ _ hm, hu'.mono fun _ _ w => w.keep (.of (s5.trans sz))⟩
          have s4 := e5
          refine ⟨_, rfl, m, _, rfl, .inr (SqT.of hm), _, _, rfl, rfl, _, rfl, ?_⟩
          by_cases cm : nm ∈ p.2.ns
          · have pos : 0 < us5.length := by
              rw [lu5]
              exact List.length_pos_of_mem (List.mem_filter.mpr ⟨cm, by simp⟩)
            refine iteD (by omega) ?_
            refine ⟨_, rfl, .inl ⟨rfl, _, .inl (.inl hO5)⟩, _, rfl, _, rfl, _, rfl, l, _, _, _, rfl, rfl, SqL.of (e5 _ _ h1), atI_nat hv, a, _, _, _, rfl, rfl, SqT.of (e5 _ _ g1), rfl, _, rfl, _, rfl, _, rfl, b, _, rfl, SqT.of hb5, ?_, fun p1 np1 => ?_⟩
            · intro z
              have w : HT.sIx (xs ++ [V.ref t']).length (xs ++ [V.ref t']).length (some (-1)) = (xs ++ [V.ref t']).length := z.2
              rw [List.length_append] at w
              have w : HT.sIx (xs.length + 1) (xs.length + 1) (some (-1)) = xs.length + 1 := w
              rw [sIx_last] at w
              omega
            generalize eqH : upd H5 p1 _ = H6
            obtain ⟨s6, k6⟩ := new_facts eqH np1
            clear eqH
            have k6 : H6 p1 = some (.tup xs) := by rw [k6]; exact congrArg (fun z => some (HO.tup z)) cut_last
            refine ⟨_, rfl, by show 1 ≤ sizeLine; decide, fun p2 np2 => ?_⟩
            generalize eqH : upd H6 p2 _ = H7
            obtain ⟨s7, k7⟩ := new_facts eqH np2
            clear eqH
            refine ⟨p1, p2, _, _, rfl, rfl, SqT.of (s7 _ _ k6), SqT.of k7, xne, Nat.le_of_lt (smaller (by show xs.length + 1 < 100000; omega)), (fun z => nomatch z), fun _ p3 np3 => ?_⟩
            generalize eqH : upd H7 p3 _ = H8
            obtain ⟨s8, k8⟩ := new_facts eqH np3
            clear eqH
            refine ⟨by show 3 ≤ sizeLine; decide, fun p4 np4 => ?_⟩
            generalize eqH : upd H8 p4 _ = H9
            obtain ⟨s9, k9⟩ := new_facts eqH np4
            clear eqH
            have s59 := s6.trans (s7.trans (s8.trans s9))
            have hO9 := s59 _ _ hO5
            refine ⟨O, us, _, rfl, rfl, hO9, smaller (by omega), ?_⟩
            have b10 : But O H9 (upd H9 O (.lst (us ++ [.ref p4]))) := fun c o n h => by rw [upd_ne n]; exact h
            refine ⟨_, _, _, rfl, same_mut (e5.trans s59) nO, us ++ [.ref p4], upd_same, ?_⟩
            have tr : traceOf nm t p = [(t, p.1, p.2.narrow nm)] := if_pos cm
            rw [tr]
            exact (hA5.mono fun _ _ z => (z.keep (.of s59)).keep (.but b10 hO9)).snoc (TrA.keep ⟨p4, p3, rfl, k9, re H9 p3 s59 (s9 _ _ k8)⟩ (.but b10 hO9))
          · have zero : us5.length = 0 := by
              rw [lu5, List.length_eq_zero_iff, List.filter_eq_nil_iff]
              intro m hm z
              exact cm ((of_decide_eq_true z) ▸ hm)
            refine iteDN (by omega) ?_
            have tr : traceOf nm t p = [] := if_neg cm
            refine ⟨_, _, _, rfl, e5, us, hO5, ?_⟩
            rw [tr, List.append_nil]
            exact hA5
      · refine ⟨_, rfl, m0, _, rfl, .inr (SqT.of k1), _, _, rfl, rfl, _, rfl, ?_⟩
        refine iteDN (by decide) ?_
        have cm : nm ∉ p.2.ns := fun z => by
          obtain ⟨k, w⟩ := Act.is_tell et
          rw [w] at z
          cases z
        have tr : traceOf nm t p = [] := if_neg cm
        refine ⟨_, _, _, rfl, e1, us, s1 _ _ hO, ?_⟩
        rw [tr, List.append_nil]
        exact hA.mono fun _ _ z => z.keep (.of s1)
  · obtain ⟨y3, y4, y5, rfl, e, hT⟩ := hP
    have en : ((vs.length : Nat) : Int).toNat = ps.length := by omega
    rw [en] at hT
    exact ⟨_, rfl, q O H' e nO hT⟩
theorem ok__law_drawn_act (F : Fun K "_law_drawn_act" "_law_drawn_act" s__law_drawn_act f fd) (T : Txt K mg cs) (d__law_draw : Def P w K mg base 1 "_law_draw" ["box", "many"] (spDraw)) (d__law_some : Def P w K mg base 2 "_law_some" ["box", "names", "most"] (spSome 5)) :
    FnOk P w K mg base CX0 3 f fd ["box", "pool"] (spDAct2) := by
  obtain ⟨f0, fd0, G__law_draw, b__law_draw, g__law_draw, k__law_draw⟩ := d__law_draw.ex
  obtain ⟨f1, fd1, G__law_some, b__law_some, g__law_some, k__law_some⟩ := d__law_some.ex
  refine F.ok sc__law_drawn_act (fun vs H Q E h => ?_) (fun cdv A outer s H vs Q E hr h => ?_)
  · obtain ⟨b, r, l, rs, pool, rfl, B, hl, l0, l1, q⟩ := h
    rfl
  obtain ⟨b, r, l, rs, pool, rfl, B, hl, l0, l1, q⟩ := h
  have hu := hr.units
  refine ⟨_, pss_cons (ps_set (i := 2) sc__law_drawn_act.nd rfl (.inl rfl) (pe_call G__law_draw (hr.mono (by decide)) rfl g__law_draw k__law_draw b__law_draw .nil pass0 (pa_cons (pv 0) (pa_cons pe_int pa_nil))))
 (pss_cons (ps_set (i := 3) sc__law_drawn_act.nd rfl (.inl rfl) (pe_call G__law_some hr rfl g__law_some k__law_some b__law_some .nil pass0 (pa_cons (pv 0) (pa_cons (pv 1) (pa_cons pe_int pa_nil)))))
 (pss_cons (ps_if (pt_cmpR op_eq (pe_call G__law_draw (hr.mono (by decide)) rfl g__law_draw k__law_draw b__law_draw .nil pass0 (pa_cons (pv 0) (pa_cons pe_int pa_nil))) pe_int (nomark _)) (pss_one (ps_set (i := 3) sc__law_drawn_act.nd rfl (.inl rfl) (pe_op (catT_at (K := K) rfl) (pv 3) (pe_tup (pa_cons (pe_ix (ixt_at (K := K) rfl) (pv 3) pe_int (fun _ _ => rfl)) pa_nil))))) pss_nil)
 (pss_cons (ps_if (pt_cmpR op_eq (pv 2) pe_int (nomark _)) (pss_one (ps_ret (pe_tup (pa_cons pe_str (pa_cons (pv 3) pa_nil))))) pss_nil)
 (pss_cons (ps_if (pt_cmpR op_eq (pv 2) pe_int (nomark _)) (pss_one (ps_ret (pe_tup (pa_cons pe_str (pa_cons (pe_callTy call_tuple_of (by rfl) T.z_tuple PyProof.Rows.boot_tuple (pa_cons (pe_lc (own := [("name", 4)]) (g := gName 4) (tt := tYes)  rfl sc__law_drawn_act.nd (pi_tup (pv 3)) (blkOk_by (N := ["box", "pool", "kind", "names", "name"]) (sc := defScope s__law_drawn_act) (by decide +kernel)) (fun _ _ _ _ _ => (pg_name (i := 4) sc__law_drawn_act.nd rfl (.inl rfl))) (fun _ _ _ _ _ => pts_nil) (fun _ _ _ _ _ => (pe_tup (pa_cons (pv 4) (pa_cons (pe_tup (pa_cons pe_str pa_nil)) pa_nil))))) pa_nil)) pa_nil))))) pss_nil)
 (pss_cons (ps_if (pt_cmpR op_eq (pv 2) pe_int (nomark _)) (pss_one (ps_ret (pe_tup (pa_cons pe_str (pa_cons (pe_call G__law_draw (hr.mono (by decide)) rfl g__law_draw k__law_draw b__law_draw .nil pass0 (pa_cons (pv 0) (pa_cons pe_int pa_nil))) (pa_cons (pv 3) pa_nil)))))) pss_nil)
 (pss_cons (ps_if (pt_cmpR op_eq (pv 2) pe_int (nomark _)) (pss_one (ps_ret (pe_tup (pa_cons pe_str (pa_cons (pe_call G__law_draw (hr.mono (by decide)) rfl g__law_draw k__law_draw b__law_draw .nil pass0 (pa_cons (pv 0) (pa_cons pe_int pa_nil))) (pa_cons (pv 3) pa_nil)))))) pss_nil)
 (pss_cons (ps_if (pt_cmpR op_eq (pv 2) pe_int (nomark _)) (pss_one (ps_ret (pe_tup (pa_cons pe_str (pa_cons (pv 3) pa_nil))))) pss_nil)
 (pss_cons (ps_if (pt_cmpR op_eq (pv 2) pe_int (nomark _)) (pss_one (ps_ret (pe_tup (pa_cons pe_str (pa_cons (pe_call G__law_draw (hr.mono (by decide)) rfl g__law_draw k__law_draw b__law_draw .nil pass0 (pa_cons (pv 0) (pa_cons pe_int pa_nil))) pa_nil))))) pss_nil)
 (pss_one (ps_ret (pe_tup (pa_cons pe_str (pa_cons (pv 3) pa_nil))))))))))))), ?_⟩
  refine ⟨_, rfl, b, r, rs, 7, rfl, B, by decide, fun kind H1 k0 k1 B1 e1 => ?_⟩
  have hl1 := hl.but B e1
  refine ⟨_, rfl, _, rfl, b, r, l, rs, pool, 3, rfl, B1, hl1, l0, l1, by decide, by decide, fun t0 ns0 H0 B0 e0 n0 n1 hin0 nt hns0 => ?_⟩
  refine ⟨_, rfl, b, r, rs, 4, rfl, B0, by decide, fun kd H2 kd0 kd1 B2 e2' => ?_⟩
  obtain ⟨z0, _, hb0⟩ := B0.ex
  have hns2 := hns0.keep (.but e2' hb0)
  have e02 := (e1.trans e0).trans e2'
  refine ⟨rfl, _, rfl, ?_⟩
  refine ite2 (fun _ => ?_) (fun _ => ?_)
  · obtain ⟨vs, g1, g2⟩ := id hns2
    have lv := g2.length
    have hx : vs[0]? = some vs[0] := List.getElem?_eq_getElem (by omega)
    obtain ⟨n, hn, pa, ex, hpa⟩ := g2.fwd hx
    rw [ex] at hx
    refine ⟨_, rfl, _, rfl, t0, _, _, _, rfl, rfl, SqT.of g1, atI_nat (j := 0) hx, by show 1 ≤ sizeLine; decide, fun t1 nt1 => ?_⟩
    generalize eqH : upd H2 t1 _ = Ha
    obtain ⟨sa, ka⟩ := new_facts eqH nt1
    clear eqH
    refine ⟨t0, t1, _, _, rfl, rfl, SqT.of (sa _ _ g1), SqT.of ka, (fun z => by rw [z] at lv; simp at lv; omega), Nat.le_of_lt (smaller (by show vs.length + 1 < 100000; omega)), (fun z => nomatch z), fun _ t nt => ?_⟩
    generalize eqH : upd Ha t _ = Hz
    obtain ⟨sb, kb⟩ := new_facts eqH nt
    clear eqH
    have sab := sa.trans sb
    have B2 := B2.same sab
    have e12 := e02.trans (.of sab)
    have ln : (ns0 ++ [n]).length ≤ 10 := by rw [List.length_append]; show ns0.length + 1 ≤ 10; omega
    have hin : ∀ m ∈ ns0 ++ [n], m ∈ pool := fun m h => by
      rcases List.mem_append.mp h with z | z
      · exact hin0 m z
      · rw [List.mem_singleton.mp z]; exact hin0 n (List.mem_of_getElem? hn)
    have hns : NmsA Hz t (ns0 ++ [n]) := ⟨_, kb, (g2.mono fun _ _ z => z.keep (.of sab)).snoc (NmA.keep ⟨pa, rfl, hpa⟩ (.of sab))⟩
    clear hns2 g1 g2 ka kb sa sb sab nt1
    generalize ns0 ++ [n] = ns at *
    have hk : ∀ H3, But b Hz H3 → NmsA H3 t ns := fun H3 e3 => by
      obtain ⟨z, _, hb⟩ := B2.ex
      exact hns.keep (.but e3 hb)
    have fin : ∀ (H3 : Hp) (c : Act) (p : Addr) (xs : List V), Box H3 b r rs → But b H H3 → H3 p = none → c.ns.length ≤ 10 → (∀ n ∈ c.ns, n ∈ pool) → ActA (upd H3 p (.tup xs)) p c → Q (.ref p) (upd H3 p (.tup xs)) := fun H3 c p xs B3 e3 np lc li ha => q p c _ (B3.same (same_new np _)) (e3.trans (.of (same_new np _))) lc li ha
    refine ⟨_, rfl, rfl, _, rfl, ?_⟩
    refine ite2 (fun _ => ?_) (fun _ => ?_)
    · refine ⟨_, rfl, by show 2 ≤ sizeLine; decide, fun p np => ?_⟩
      exact fin Hz (.load ns) p _ B2 e12 np ln hin ⟨t, upd_same, hns.keep (.of (same_new np _))⟩
    refine ⟨_, rfl, rfl, _, rfl, ?_⟩
    refine ite2 (fun _ => ?_) (fun _ => ?_)
    · obtain ⟨vs, h2, h3⟩ := id hns
      have lv := h3.length
      refine ⟨_, rfl, t, rfl, ⟨_, SqT.of h2⟩, fun D nD => ?_⟩
      refine lc_tup (xs := vs) (fun (i : Nat) H' => Same Hz H' ∧ ∃ us, H' D = some (.lst us) ∧ All2 (EntA H') us (ns.take i)) ⟨same_new nD _, [], upd_same, .nil⟩ (fun i H' _ hP => SqT.of (hP.1 _ _ h2)) (fun i x H' hx hP => ?_) (fun H' hP => ?_)
      · obtain ⟨e, us, hD, hu'⟩ := hP
        obtain ⟨n, hn, pa, rfl, g1⟩ := h3.fwd hx
        have lu := hu'.length
        refine ⟨rfl, _, rfl, by show 1 ≤ sizeLine; decide, fun p1 np1 => ?_⟩
        generalize eqH : upd H' p1 _ = H4
        obtain ⟨s4, h4⟩ := new_facts eqH np1
        clear eqH
        refine ⟨by show 2 ≤ sizeLine; decide, fun p2' np2 => ?_⟩
        generalize eqH : upd H4 p2' _ = H5
        obtain ⟨s5, h5⟩ := new_facts eqH np2
        clear eqH
        have hD5 := (s4.trans s5) _ _ hD
        have b6 : But D H5 (upd H5 D (.lst (us ++ [.ref p2']))) := fun c o n h => by rw [upd_ne n]; exact h
        refine ⟨_, hD5, smaller (by rw [lu, List.length_take]; omega), same_mut (e.trans (s4.trans s5)) nD, _, upd_same, ?_⟩
        rw [List.take_add_one, hn]
        exact (hu'.mono fun _ _ z => (z.keep (.of (s4.trans s5))).keep (.but b6 hD5)).snoc (EntA.keep ⟨p2', pa, p1, rfl, h5, (s4.trans s5) _ _ (e _ _ g1), s5 _ _ h4⟩ (.but b6 hD5))
      · obtain ⟨e, us, hD, hu'⟩ := hP
        rw [lv, List.take_length] at hu'
        refine ⟨D, _, rfl, .inl ⟨SqL.of hD, fun p1 np1 => ?_⟩⟩
        generalize eqH : upd H' p1 _ = H4
        obtain ⟨s4, h4⟩ := new_facts eqH np1
        clear eqH
        refine ⟨by show 2 ≤ sizeLine; decide, fun p np => ?_⟩
        have e4 := e.trans s4
        exact fin H4 (.make ns) p _ (B2.same e4) (e12.trans (.of e4)) np ln hin ⟨p1, upd_same, us, same_new np _ _ _ h4, (hu'.mono fun _ _ z => (z.keep (.of s4)).keep (.of (same_new np _)))⟩
    refine ⟨_, rfl, rfl, _, rfl, ?_⟩
    refine ite2 (fun _ => ?_) (fun _ => ?_)
    · refine ⟨_, rfl, b, r, rs, 5, rfl, B2, by decide, fun v H3 v0 v1 B3 e3' => ?_⟩
      have e3 := e12.trans e3'
      have hns3 := hk H3 e3'
      refine ⟨_, rfl, by show 3 ≤ sizeLine; decide, fun p np => ?_⟩
      exact fin H3 (.send v ns) p _ B3 e3 np ln hin ⟨t, upd_same, hns3.keep (.of (same_new np _))⟩
    refine ⟨_, rfl, rfl, _, rfl, ?_⟩
    refine ite2 (fun _ => ?_) (fun _ => ?_)
    · refine ⟨_, rfl, b, r, rs, 5, rfl, B2, by decide, fun v H3 v0 v1 B3 e3' => ?_⟩
      have e3 := e12.trans e3'
      have hns3 := hk H3 e3'
      refine ⟨_, rfl, by show 3 ≤ sizeLine; decide, fun p np => ?_⟩
      exact fin H3 (.recv v ns) p _ B3 e3 np ln hin ⟨t, upd_same, hns3.keep (.of (same_new np _))⟩
    refine ⟨_, rfl, rfl, _, rfl, ?_⟩
    refine ite2 (fun _ => ?_) (fun _ => ?_)
    · refine ⟨_, rfl, by show 2 ≤ sizeLine; decide, fun p np => ?_⟩
      exact fin Hz (.save ns) p _ B2 e12 np ln hin ⟨t, upd_same, hns.keep (.of (same_new np _))⟩
    refine ⟨_, rfl, rfl, _, rfl, ?_⟩
    refine ite2 (fun _ => ?_) (fun _ => ?_)
    · refine ⟨_, rfl, b, r, rs, 4, rfl, B2, by decide, fun v H3 v0 v1 B3 e3' => ?_⟩
      have e3 := e12.trans e3'
      have hns3 := hk H3 e3'
      refine ⟨by show 2 ≤ sizeLine; decide, fun p np => ?_⟩
      exact fin H3 (.tell v) p _ B3 e3 np (by show 0 ≤ 10; decide) (fun n h => nomatch h) upd_same
    · refine ⟨_, rfl, by show 2 ≤ sizeLine; decide, fun p np => ?_⟩
      exact fin Hz (.drop ns) p _ B2 e12 np ln hin ⟨t, upd_same, hns.keep (.of (same_new np _))⟩
  · have e12 := e02
    have ln : ns0.length ≤ 10 := by omega
    have hin := hin0
    have hns := hns2
    have hk : ∀ H3, But b H2 H3 → NmsA H3 t0 ns0 := fun H3 e3 => by
      obtain ⟨z, _, hb⟩ := B2.ex
      exact hns.keep (.but e3 hb)
    have fin : ∀ (H3 : Hp) (c : Act) (p : Addr) (xs : List V), Box H3 b r rs → But b H H3 → H3 p = none → c.ns.length ≤ 10 → (∀ n ∈ c.ns, n ∈ pool) → ActA (upd H3 p (.tup xs)) p c → Q (.ref p) (upd H3 p (.tup xs)) := fun H3 c p xs B3 e3 np lc li ha => q p c _ (B3.same (same_new np _)) (e3.trans (.of (same_new np _))) lc li ha
    refine ⟨_, rfl, rfl, _, rfl, ?_⟩
    refine ite2 (fun _ => ?_) (fun _ => ?_)
    · refine ⟨_, rfl, by show 2 ≤ sizeLine; decide, fun p np => ?_⟩
      exact fin H2 (.load ns0) p _ B2 e12 np ln hin ⟨t0, upd_same, hns.keep (.of (same_new np _))⟩
    refine ⟨_, rfl, rfl, _, rfl, ?_⟩
    refine ite2 (fun _ => ?_) (fun _ => ?_)
    · obtain ⟨vs, h2, h3⟩ := id hns
      have lv := h3.length
      refine ⟨_, rfl, t0, rfl, ⟨_, SqT.of h2⟩, fun D nD => ?_⟩
      refine lc_tup (xs := vs) (fun (i : Nat) H' => Same H2 H' ∧ ∃ us, H' D = some (.lst us) ∧ All2 (EntA H') us (ns0.take i)) ⟨same_new nD _, [], upd_same, .nil⟩ (fun i H' _ hP => SqT.of (hP.1 _ _ h2)) (fun i x H' hx hP => ?_) (fun H' hP => ?_)
      · obtain ⟨e, us, hD, hu'⟩ := hP
        obtain ⟨n, hn, pa, rfl, g1⟩ := h3.fwd hx
        have lu := hu'.length
        refine ⟨rfl, _, rfl, by show 1 ≤ sizeLine; decide, fun p1 np1 => ?_⟩
        generalize eqH : upd H' p1 _ = H4
        obtain ⟨s4, h4⟩ := new_facts eqH np1
        clear eqH
        refine ⟨by show 2 ≤ sizeLine; decide, fun p2' np2 => ?_⟩
        generalize eqH : upd H4 p2' _ = H5
        obtain ⟨s5, h5⟩ := new_facts eqH np2
        clear eqH
        have hD5 := (s4.trans s5) _ _ hD
        have b6 : But D H5 (upd H5 D (.lst (us ++ [.ref p2']))) := fun c o n h => by rw [upd_ne n]; exact h
        refine ⟨_, hD5, smaller (by rw [lu, List.length_take]; omega), same_mut (e.trans (s4.trans s5)) nD, _, upd_same, ?_⟩
        rw [List.take_add_one, hn]
        exact (hu'.mono fun _ _ z => (z.keep (.of (s4.trans s5))).keep (.but b6 hD5)).snoc (EntA.keep ⟨p2', pa, p1, rfl, h5, (s4.trans s5) _ _ (e _ _ g1), s5 _ _ h4⟩ (.but b6 hD5))
      · obtain ⟨e, us, hD, hu'⟩ := hP
        rw [lv, List.take_length] at hu'
        refine ⟨D, _, rfl, .inl ⟨SqL.of hD, fun p1 np1 => ?_⟩⟩
        generalize eqH : upd H' p1 _ = H4
        obtain ⟨s4, h4⟩ := new_facts eqH np1
        clear eqH
        refine ⟨by show 2 ≤ sizeLine; decide, fun p np => ?_⟩
        have e4 := e.trans s4
        exact fin H4 (.make ns0) p _ (B2.same e4) (e12.trans (.of e4)) np ln hin ⟨p1, upd_same, us, same_new np _ _ _ h4, (hu'.mono fun _ _ z => (z.keep (.of s4)).keep (.of (same_new np _)))⟩
    refine ⟨_, rfl, rfl, _, rfl, ?_⟩
    refine ite2 (fun _ => ?_) (fun _ => ?_)
    · refine ⟨_, rfl, b, r, rs, 5, rfl, B2, by decide, fun v H3 v0 v1 B3 e3' => ?_⟩
      have e3 := e12.trans e3'
      have hns3 := hk H3 e3'
      refine ⟨_, rfl, by show 3 ≤ sizeLine; decide, fun p np => ?_⟩
      exact fin H3 (.send v ns0) p _ B3 e3 np ln hin ⟨t0, upd_same, hns3.keep (.of (same_new np _))⟩
    refine ⟨_, rfl, rfl, _, rfl, ?_⟩
    refine ite2 (fun _ => ?_) (fun _ => ?_)
    · refine ⟨_, rfl, b, r, rs, 5, rfl, B2, by decide, fun v H3 v0 v1 B3 e3' => ?_⟩
      have e3 := e12.trans e3'
      have hns3 := hk H3 e3'
      refine ⟨_, rfl, by show 3 ≤ sizeLine; decide, fun p np => ?_⟩
      exact fin H3 (.recv v ns0) p _ B3 e3 np ln hin ⟨t0, upd_same, hns3.keep (.of (same_new np _))⟩
    refine ⟨_, rfl, rfl, _, rfl, ?_⟩
    refine ite2 (fun _ => ?_) (fun _ => ?_)
    · refine ⟨_, rfl, by show 2 ≤ sizeLine; decide, fun p np => ?_⟩
      exact fin H2 (.save ns0) p _ B2 e12 np ln hin ⟨t0, upd_same, hns.keep (.of (same_new np _))⟩
    refine ⟨_, rfl, rfl, _, rfl, ?_⟩
    refine ite2 (fun _ => ?_) (fun _ => ?_)
    · refine ⟨_, rfl, b, r, rs, 4, rfl, B2, by decide, fun v H3 v0 v1 B3 e3' => ?_⟩
      have e3 := e12.trans e3'
      have hns3 := hk H3 e3'
      refine ⟨by show 2 ≤ sizeLine; decide, fun p np => ?_⟩
      exact fin H3 (.tell v) p _ B3 e3 np (by show 0 ≤ 10; decide) (fun n h => nomatch h) upd_same
    · refine ⟨_, rfl, by show 2 ≤ sizeLine; decide, fun p np => ?_⟩
      exact fin H2 (.drop ns0) p _ B2 e12 np ln hin ⟨t0, upd_same, hns.keep (.of (same_new np _))⟩

theorem ok_law (F : Fun K "law" "law" s_law f fd) (T : Txt K mg cs) (d__law_row : Def P w K mg base 2 "_law_row" ["script", "first", "last"] (spRow K)) (d__law_job : Def P w K mg base 5 "_law_job" ["box", "most"] (spSJob)) (d__law_pool : Def P w K mg base 2 "_law_pool" ["job"] (spPool)) (d__law_draw : Def P w K mg base 1 "_law_draw" ["box", "many"] (spDraw)) (d__law_drawn_act : Def P w K mg base 3 "_law_drawn_act" ["box", "pool"] (spDAct2)) (d_Plan___init__ : IDef P w K mg base 1 cs.Plan ["self", "acts", "ranks"] (spPlanInit cs)) (d__law_same : Def P w K mg base 10 "_law_same" ["told", "due"] (spSame 9)) (d__law_due_trace : Def P w K mg base 1 "_law_due_trace" ["acts", "name"] (spDueTrace)) (d_trace : Def P w K mg base 4 "trace" ["plan", "name"] (spTrace cs)) :
    FnOk P w K mg base CX0 11 f fd ["script"] (spLaw K) := by
  obtain ⟨f0, fd0, G__law_row, b__law_row, g__law_row, k__law_row⟩ := d__law_row.ex
  obtain ⟨f1, fd1, G__law_job, b__law_job, g__law_job, k__law_job⟩ := d__law_job.ex
  obtain ⟨f2, fd2, G__law_pool, b__law_pool, g__law_pool, k__law_pool⟩ := d__law_pool.ex
  obtain ⟨f3, fd3, G__law_draw, b__law_draw, g__law_draw, k__law_draw⟩ := d__law_draw.ex
  obtain ⟨f4, fd4, G__law_drawn_act, b__law_drawn_act, g__law_drawn_act, k__law_drawn_act⟩ := d__law_drawn_act.ex
  obtain ⟨f5, fd5, G_Plan___init__, b_Plan___init__, M_Plan⟩ := d_Plan___init__.ex
  obtain ⟨f6, fd6, G__law_same, b__law_same, g__law_same, k__law_same⟩ := d__law_same.ex
  obtain ⟨f7, fd7, G__law_due_trace, b__law_due_trace, g__law_due_trace, k__law_due_trace⟩ := d__law_due_trace.ex
  obtain ⟨f8, fd8, G_trace, b_trace, g_trace, k_trace⟩ := d_trace.ex
  refine F.ok sc_law (fun vs H Q E h => ?_) (fun cdv A outer s H vs Q E hr h => ?_)
  · obtain ⟨a, ns, rfl, hS, h63, q⟩ := h
    rfl
  obtain ⟨a, ns, rfl, hS, h63, q⟩ := h
  have hu := hr.units
  refine ⟨_, pss_cons (ps_set (i := 1) sc_law.nd rfl (.inl rfl) (pe_lst (pa_cons (pe_call G__law_row (hr.mono (by decide)) rfl g__law_row k__law_row b__law_row .nil pass0 (pa_cons (pv 0) (pa_cons pe_int (pa_cons pe_int pa_nil)))) (pa_cons pe_int pa_nil))))
 (pss_cons (ps_set (i := 2) sc_law.nd rfl (.inl rfl) (pe_call G__law_job (hr.mono (by decide)) rfl g__law_job k__law_job b__law_job .nil pass0 (pa_cons (pv 1) (pa_cons pe_int pa_nil))))
 (pss_cons (ps_set (i := 3) sc_law.nd rfl (.inl rfl) (pe_call G__law_pool (hr.mono (by decide)) rfl g__law_pool k__law_pool b__law_pool .nil pass0 (pa_cons (pv 2) pa_nil)))
 (pss_cons (ps_set (i := 4) sc_law.nd rfl (.inl rfl) (pe_op op_add pe_int (pe_call G__law_draw (hr.mono (by decide)) rfl g__law_draw k__law_draw b__law_draw .nil pass0 (pa_cons (pv 1) (pa_cons pe_int pa_nil)))))
 (pss_cons (ps_set (i := 5) sc_law.nd rfl (.inl rfl) (pe_lst pa_nil))
 (pss_cons (ps_for PassesOwn.never rfl (pi_range1 rfl T.z_range (pa_cons (pe_call G__law_draw (hr.mono (by decide)) rfl g__law_draw k__law_draw b__law_draw .nil pass0 (pa_cons (pv 1) (pa_cons pe_int pa_nil))) pa_nil)) (pg_name (i := 6) sc_law.nd rfl (.inl rfl)) (pss_one (ps_expr (pe_bm PySem.F.plainAttrs_list PySem.F.slot_list_append PySem.F.type_list_append mt_append (pv 5) (pa_cons (pe_tup (pa_cons (pe_call G__law_draw (hr.mono (by decide)) rfl g__law_draw k__law_draw b__law_draw .nil pass0 (pa_cons (pv 1) (pa_cons (pv 4) pa_nil))) (pa_cons (pe_call G__law_drawn_act (hr.mono (by decide)) rfl g__law_drawn_act k__law_drawn_act b__law_drawn_act .nil pass0 (pa_cons (pv 1) (pa_cons (pv 3) pa_nil))) pa_nil))) pa_nil)))))
 (pss_cons (ps_set (i := 7) sc_law.nd rfl (.inl rfl) (pe_make M_Plan G_Plan___init__ (hr.mono (by decide)) rfl T.c_Plan b_Plan___init__ .nil pass0 (pa_cons (pe_callTy (list_at (K := K) rfl) (by rfl) T.z_list PyProof.Rows.boot_list (pa_cons (pv 5) pa_nil)) (pa_cons (pv 4) pa_nil))))
 (pss_cons (ps_for PassesOwn.never rfl (pi_range1 rfl T.z_range (pa_cons pe_int pa_nil)) (pg_name (i := 6) sc_law.nd rfl (.inl rfl)) (pss_cons (ps_set (i := 8) sc_law.nd rfl (.inl rfl) (pe_ix (ixl_at (K := K) rfl) (pv 3) (pe_call G__law_draw (hr.mono (by decide)) rfl g__law_draw k__law_draw b__law_draw .nil pass0 (pa_cons (pv 1) (pa_cons (pe_callB (len_at (K := K) rfl) (by rfl) T.z_len PySem.boot_len (pa_cons (pv 3) pa_nil)) pa_nil))) (fun _ _ => rfl)))
 (pss_one (ps_if (pt_not (pt_val (pe_call G__law_same hr rfl g__law_same k__law_same b__law_same .nil pass0 (pa_cons (pe_call G_trace (hr.mono (by decide)) rfl g_trace k_trace b_trace .nil pass0 (pa_cons (pv 7) (pa_cons (pv 8) pa_nil))) (pa_cons (pe_call G__law_due_trace (hr.mono (by decide)) rfl g__law_due_trace k__law_due_trace b__law_due_trace .nil pass0 (pa_cons (pv 5) (pa_cons (pv 8) pa_nil))) pa_nil))))) (pss_one (ps_ret pe_bl)) pss_nil))))
 (pss_one (ps_ret pe_bl))))))))), ?_⟩
  refine ⟨_, rfl, a, ns, 0, 30, rfl, hS, by decide, by decide, by decide, fun r rs H1 nr sm hr1 => ?_⟩
  refine ⟨by show 2 ≤ sizeLine; decide, fun b nb => ?_⟩
  have B0 : Box (upd H1 b (.lst [.ref r, .int 0])) b r rs := ⟨⟨0, by decide, upd_same⟩, same_new nb _ _ _ hr1⟩
  generalize upd H1 b (.lst [.ref r, .int 0]) = H2 at *
  refine ⟨_, rfl, b, r, rs, 1, rfl, B0, by decide, by decide, fun jb RL DL n PL NL' LL ni nt pms nds ls seed batch factor point rates data H3 J u sml _ _ e3 => ?_⟩
  refine ⟨_, rfl, b, r, rs, jb, RL, DL, n, PL, NL', LL, ni, nt, pms, nds, ls, seed, batch, factor, point, rates, data, rfl, J, u, sml.p1, fun pl pool H4 npl s4 hl4 l0 l1 sm => ?_⟩
  have B4 := J.g.box.same s4
  refine ⟨_, rfl, b, r, rs, 5, rfl, B4, by decide, fun d5 H5 d0 d1 B5 e5 => ?_⟩
  have hl5 := hl4.but B4 e5
  refine ⟨_, _, rfl, rfl, ?_⟩
  obtain ⟨rk, erk⟩ : ∃ rk : Nat, 1 + d5 = rk := ⟨(1 + d5).toNat, by omega⟩
  have rk1 : 1 ≤ rk := by omega
  have rk5 : rk ≤ 5 := by omega
  dsimp only
  rw [erk]
  refine ⟨Nat.zero_le _, fun O nO => ?_⟩
  generalize eqH : upd H5 O _ = H6
  obtain ⟨s6, k6⟩ := new_facts eqH nO
  clear eqH
  have Opl : pl ≠ O := fun w => by obtain ⟨_, h, _⟩ := hl5; rw [w, nO] at h; cases h
  have rO : r ≠ O := fun w => by have h := B5.row; rw [w, nO] at h; cases h
  refine ⟨_, rfl, b, r, rs, 31, rfl, B5.same s6, by decide, fun v H7 v0 v1 B7 e7 => ⟨v, rfl, by omega, by omega, ?_⟩⟩
  refine for_range (lo := 0) (n := v.toNat) (fun (t : Nat) σ H' => ∃ (y6 : Option V) (ps : List (Int × Act)), σ = [some (.ref a), some (.ref b), some (.ref jb), some (.ref pl), some (.int (rk : Nat)), some (.ref O), y6, none, none] ∧ Box H' b r rs ∧ NL H' pl pool ∧ PL' H' O ps ∧ ps.length ≤ t ∧ ∀ p ∈ ps, p.2.ns.length ≤ 10 ∧ ∀ m ∈ p.2.ns, m ∈ pool)
    ⟨none, [], rfl, B7, (hl5.same s6).but (B5.same s6) e7, PL'.but ⟨[], k6, .nil⟩ (B5.same s6) e7, Nat.le_refl _, fun p h => nomatch h⟩ (fun t σ H8 ht hP => ?_) (fun σ H8 hP => ?_)
  · obtain ⟨y6, ps, rfl, B8, hl8, hO8, lt, few⟩ := hP
    obtain ⟨vs, h1, _⟩ := id hO8
    refine ⟨_, rfl, .inl ⟨rfl, _, .inl (.inl h1)⟩, _, rfl, _, rfl, b, r, rs, (rk : Nat), rfl, B8, by omega, fun z H9 z0 z1 B9 e9 => ?_⟩
    refine ⟨_, rfl, _, rfl, b, r, pl, rs, pool, rfl, B9, hl8.but B8 e9, l0, by omega, fun pa c H10 B10 e10 lc li ha => ?_⟩
    refine ⟨by show 2 ≤ sizeLine; decide, fun pp npp => ?_⟩
    generalize eqH : upd H10 pp _ = H11
    obtain ⟨s11, k11⟩ := new_facts eqH npp
    clear eqH
    have hO10 := (hO8.but B8 e9).but B9 e10
    obtain ⟨us, g1, g2⟩ := hO10.same s11
    have lu := g2.length
    have hl11 := ((hl8.but B8 e9).but B9 e10).same s11
    have B11 := B10.same s11
    have Ob : O ≠ b := hO10.far B10
    refine ⟨O, us, _, rfl, rfl, g1, smaller (by omega), ?_⟩
    have bO : But O H11 (upd H11 O (.lst (us ++ [.ref pp]))) := fun c o n h => by rw [upd_ne n]; exact h
    have k12 : (upd H11 O (.lst (us ++ [.ref pp]))) O = some (.lst (us ++ [.ref pp])) := upd_same
    obtain ⟨zb, hzb, hbb⟩ := B11.ex
    refine ⟨_, ps ++ [(z, c)], rfl, ⟨⟨zb, hzb, bO _ _ Ob.symm hbb⟩, bO _ _ rO B11.row⟩, hl11.keepBut Opl g1 bO, ⟨_, k12, (g2.mono fun _ _ w => w.keep (.but bO g1)).snoc ⟨pp, pa, rfl, TupS.but bO g1 _ _ k11, (ha.keep (.of s11)).keep (.but bO g1)⟩⟩, by rw [List.length_append]; exact Nat.add_le_add_right lt 1, fun p hp => ?_⟩
    rcases List.mem_append.mp hp with w | w
    · exact few p w
    · rw [List.mem_singleton] at w
      subst w
      exact ⟨lc, li⟩
  · obtain ⟨y6, ps, rfl, B8, hl8, hO8, lt, few⟩ := hP
    have few' : ps.length ≤ 100 ∧ ∀ p ∈ ps, p.2.ns.length ≤ 100 := ⟨by omega, fun p h => Nat.le_trans (few p h).1 (by decide)⟩
    have f1 := few'.1
    obtain ⟨vs, h1, h2⟩ := id hO8
    have lv := h2.length
    refine ⟨_, rfl, O, vs, rfl, .inl (SqL.of h1), fun D nD => ?_⟩
    generalize eqH : upd H8 D _ = H9
    obtain ⟨s9, k9⟩ := new_facts eqH nD
    clear eqH
    refine ⟨_, rfl, fun x dx nx ndx ne => ?_⟩
    have hD9 : PL' H9 D ps := ⟨vs, k9, h2.mono fun _ _ w => w.keep (.of s9)⟩
    generalize eqH : upd H9 dx _ = H10
    obtain ⟨s10, k10⟩ := new_facts eqH ndx
    have nx10 : H10 x = none := by rw [← eqH, upd_ne (fun z => ne z.symm)]; exact nx
    clear eqH
    generalize eqH : upd H10 x _ = H11
    obtain ⟨s11, k11⟩ := new_facts eqH nx10
    clear eqH
    refine ⟨x, D, dx, ps, (rk : Nat), rfl, k11, (hD9.same s10).same s11, by omega, fun H12 b12 hPl => ⟨rfl, ?_⟩⟩
    have s12 : Same H8 H12 := fun c o hc => b12 _ _ (fun w => by rw [w, (none_of s9 nx : H8 x = none)] at hc; cases hc) (s11 _ _ (s10 _ _ (s9 _ _ hc)))
    have hO12 := hO8.same s12
    have B12 := B8.same s12
    have hl12 := hl8.same s12
    refine ⟨4, rfl, by decide, by decide, ?_⟩
    refine for_range (lo := 0) (n := (4 : Int).toNat) (fun (t : Nat) σ H' => ∃ (y6 y8 : Option V), σ = [some (.ref a), some (.ref b), some (.ref jb), some (.ref pl), some (.int (rk : Nat)), some (.ref O), y6, some (.ref x), y8] ∧ Box H' b r rs ∧ NL H' pl pool ∧ PL' H' O ps ∧ PlanAt cs H' x ps (rk : Nat))
      ⟨y6, none, rfl, B12, hl12, hO12, hPl⟩ (fun t σ H14 ht hP => ?_) (fun σ H14 hP => ?_)
    · obtain ⟨y6, y8, rfl, B14, hl14, hO14, hP14⟩ := hP
      obtain ⟨ws, w1, w2⟩ := id hl14
      have lw := w2.length
      refine ⟨_, rfl, _, rfl, _, rfl, pl, _, rfl, .inl (SqL.of w1), b, r, rs, (ws.length : Nat), rfl, B14, by omega, fun k H15 k0 k1 B15 e15 => ?_⟩
      have hl15 := hl14.but B14 e15
      have hO15 := hO14.but B14 e15
      have hP15 := hP14.but B14 e15
      obtain ⟨ws, w1, w2⟩ := id hl15
      have lw := w2.length
      have hk : k.toNat < ws.length := by omega
      have hx := List.getElem?_eq_getElem hk
      obtain ⟨nm, hnm, pa, ex, hpa⟩ := w2.fwd hx
      rw [ex] at hx
      have ek : k = ((k.toNat : Nat) : Int) := by omega
      have hat : atI ws k = some (.ref pa) := by rw [ek]; exact atI_nat hx
      refine ⟨pl, _, _, _, rfl, rfl, SqL.of w1, hat, ?_⟩
      refine ⟨_, rfl, _, rfl, x, ps, (rk : Nat), pa, nm, rfl, hP15, hpa, few', fun p1 H16 s16 np1 h16 => ?_⟩
      refine ⟨_, rfl, _, rfl, O, ps, pa, nm, rfl, hO15.same s16, s16 _ _ hpa, few', fun p2 H17 s17 np2 h17 => ?_⟩
      have h16' : TrL H17 p1 (tracesOf nm ps ps.length) := by
        obtain ⟨us, u1, u2⟩ := h16
        exact ⟨us, s17 _ _ u1, u2.mono fun _ _ z => z.keep (.of s17)⟩
      have lt := traces_len (nm := nm) (ps := ps) ps.length
      have l2 : ∀ t ∈ tracesOf nm ps ps.length, (∀ n ∈ t.2.2.ns, n.ns.length ≤ 100) ∧ t.2.2.ns.length ≤ 100 := fun t ht => by
        obtain ⟨p, hp, e⟩ := traces_mem (Nat.le_refl _) ht
        rw [e, narrow_ns]
        have g := few p hp
        exact ⟨fun n hn => sm n (g.2 n (List.mem_filter.mp hn).1), Nat.le_trans (List.length_filter_le _ _) (Nat.le_trans g.1 (by decide))⟩
      refine ⟨_, _, .l ((tracesOf nm ps ps.length).map TrD), rfl, (h16'.dv (by omega) l2).more.more, (h17.dv (by omega) l2).more.more, _, rfl, iteF ?_⟩
      have s57 := s16.trans s17
      exact ⟨_, _, rfl, B15.same s57, hl15.same s57, hO15.same s57, hP15.same s57⟩
    · exact q _
end
theorem all_mk {l : PySem.W.OpenLaw} {w : World} {K : PySem.W.Frag} {h : Heap} {mg : Str → Option Value} {fa : Addr} (X : K.In h) (G : h.Ns mainGlobals mg) (hfa : mg "law" = some (.ref fa)) (c : SaysM h_fa h_fx h_fn h_ts w K)
    : ∃ fd : FuncData, (∀ (s : Shared) (v : Value), BindsTo s fd ⟨[v], []⟩ [("script", v)]) ∧ ∀ base : Heap, K.In base → base.Ns mainGlobals mg → FnOk l.prog w K mg base CX0 11 fa fd ["script"] (spLaw K) := by
  have m_fa0 := fun f (h : f ∈ h_fa0) => c.fa_ f (List.mem_append_left _ h)
  have m_fa1 := fun f (h : f ∈ h_fa1) => c.fa_ f (List.mem_append_right _ h)
  have m_fx0 := fun f (h : f ∈ h_fx0) => c.fx_ f h
  have m_fn0 := fun f (h : f ∈ h_fn0) => c.fn_ f h
  have e := hfa.symm.trans (He.glo_ok X G (m_fa0 (.glo "law") (mem_at 16 rfl)))
  cases e
  let cs : Cs := ⟨He.ga K "Plan", 0, 0, 0⟩
  have T : Txt K mg cs := ⟨He.free_ok X G (m_fa0 (.free "abs") (mem_at 0 rfl)),
    He.free_ok X G (m_fa0 (.free "bool") (mem_at 1 rfl)),
    He.free_ok X G (m_fa0 (.free "enumerate") (mem_at 2 rfl)),
    He.free_ok X G (m_fa0 (.free "int") (mem_at 3 rfl)),
    He.free_ok X G (m_fa0 (.free "isinstance") (mem_at 4 rfl)),
    He.free_ok X G (m_fa0 (.free "iter") (mem_at 5 rfl)),
    He.free_ok X G (m_fa0 (.free "len") (mem_at 6 rfl)),
    He.free_ok X G (m_fa0 (.free "list") (mem_at 7 rfl)),
    He.free_ok X G (m_fa0 (.free "range") (mem_at 8 rfl)),
    He.free_ok X G (m_fa0 (.free "str") (mem_at 9 rfl)),
    He.free_ok X G (m_fa0 (.free "tuple") (mem_at 10 rfl)),
    He.cls_ok (m_fa0 (.cls "Plan") (mem_at 11 rfl)),
    (He.glo_ok X G (m_fa0 (.glo "Plan") (mem_at 12 rfl))),
    (fun z => ⟨z.1, z.2.2.2⟩) (fx_mkr (m_fa0 (.mkr "Plan") (mem_at 13 rfl))),
    He.noat_ok (m_fa0 (.noat "Plan" "acts") (mem_at 14 rfl)),
    He.noat_ok (m_fa0 (.noat "Plan" "ranks") (mem_at 15 rfl))⟩
  obtain ⟨oc_0, od_0, sl_0, kV_0, dc_0, pm_0, an_0, cd_0, ct_0, l_0, c_0⟩ := m_fn0 ⟨("narrowed", none), "narrowed", "narrowed", defArgs s_narrowed, defBody s_narrowed, defScope s_narrowed⟩ (mem_at 0 rfl)
  have k_0 := He.keep_ok (m_fa0 (.keep "narrowed") (mem_at 17 rfl))
  obtain ⟨oc_1, od_1, sl_1, kV_1, dc_1, pm_1, an_1, cd_1, ct_1, l_1, c_1⟩ := m_fn0 ⟨("names_of", none), "names_of", "names_of", defArgs s_names_of, defBody s_names_of, defScope s_names_of⟩ (mem_at 1 rfl)
  have k_1 := He.keep_ok (m_fa0 (.keep "names_of") (mem_at 18 rfl))
  obtain ⟨oc_2, od_2, sl_2, kV_2, dc_2, pm_2, an_2, cd_2, ct_2, l_2, c_2⟩ := m_fn0 ⟨("_law_due_trace", none), "_law_due_trace", "_law_due_trace", defArgs s__law_due_trace, defBody s__law_due_trace, defScope s__law_due_trace⟩ (mem_at 2 rfl)
  have k_2 := He.keep_ok (m_fa0 (.keep "_law_due_trace") (mem_at 19 rfl))
  obtain ⟨oc_3, od_3, sl_3, kV_3, dc_3, pm_3, an_3, cd_3, ct_3, l_3, c_3⟩ := m_fn0 ⟨("_law_is_integer", none), "_law_is_integer", "_law_is_integer", defArgs s__law_is_integer, defBody s__law_is_integer, defScope s__law_is_integer⟩ (mem_at 3 rfl)
  have k_3 := He.keep_ok (m_fa0 (.keep "_law_is_integer") (mem_at 20 rfl))
  obtain ⟨oc_4, od_4, sl_4, kV_4, dc_4, pm_4, an_4, cd_4, ct_4, l_4, c_4⟩ := m_fn0 ⟨("Plan", some "__init__"), "__init__", "Plan.__init__", defArgs s_Plan___init__, defBody s_Plan___init__, defScope s_Plan___init__⟩ (mem_at 4 rfl)
  obtain ⟨a_4, i_4, k_4⟩ := fx_meth (m_fa0 (.meth "Plan" "__init__") (mem_at 21 rfl))
  obtain ⟨oc_5, od_5, sl_5, kV_5, dc_5, pm_5, an_5, cd_5, ct_5, l_5, c_5⟩ := m_fn0 ⟨("_law_draw", none), "_law_draw", "_law_draw", defArgs s__law_draw, defBody s__law_draw, defScope s__law_draw⟩ (mem_at 5 rfl)
  have k_5 := He.keep_ok (m_fa0 (.keep "_law_draw") (mem_at 22 rfl))
  obtain ⟨oc_6, od_6, sl_6, kV_6, dc_6, pm_6, an_6, cd_6, ct_6, l_6, c_6⟩ := m_fn0 ⟨("_law_cells", none), "_law_cells", "_law_cells", defArgs s__law_cells, defBody s__law_cells, defScope s__law_cells⟩ (mem_at 6 rfl)
  have k_6 := He.keep_ok (m_fa0 (.keep "_law_cells") (mem_at 23 rfl))
  obtain ⟨oc_7, od_7, sl_7, kV_7, dc_7, pm_7, an_7, cd_7, ct_7, l_7, c_7⟩ := m_fn0 ⟨("_law_wrap", none), "_law_wrap", "_law_wrap", defArgs s__law_wrap, defBody s__law_wrap, defScope s__law_wrap⟩ (mem_at 7 rfl)
  have k_7 := He.keep_ok (m_fa0 (.keep "_law_wrap") (mem_at 24 rfl))
  obtain ⟨oc_8, od_8, sl_8, kV_8, dc_8, pm_8, an_8, cd_8, ct_8, l_8, c_8⟩ := m_fn0 ⟨("_law_length", none), "_law_length", "_law_length", defArgs s__law_length, defBody s__law_length, defScope s__law_length⟩ (mem_at 8 rfl)
  have k_8 := He.keep_ok (m_fa0 (.keep "_law_length") (mem_at 25 rfl))
  obtain ⟨oc_9, od_9, sl_9, kV_9, dc_9, pm_9, an_9, cd_9, ct_9, l_9, c_9⟩ := m_fn0 ⟨("_law_cell", none), "_law_cell", "_law_cell", defArgs s__law_cell, defBody s__law_cell, defScope s__law_cell⟩ (mem_at 9 rfl)
  have k_9 := He.keep_ok (m_fa0 (.keep "_law_cell") (mem_at 26 rfl))
  obtain ⟨oc_10, od_10, sl_10, kV_10, dc_10, pm_10, an_10, cd_10, ct_10, l_10, c_10⟩ := m_fn0 ⟨("_law_some", none), "_law_some", "_law_some", defArgs s__law_some, defBody s__law_some, defScope s__law_some⟩ (mem_at 10 rfl)
  have k_10 := He.keep_ok (m_fa0 (.keep "_law_some") (mem_at 27 rfl))
  obtain ⟨oc_11, od_11, sl_11, kV_11, dc_11, pm_11, an_11, cd_11, ct_11, l_11, c_11⟩ := m_fn0 ⟨("_law_pool", none), "_law_pool", "_law_pool", defArgs s__law_pool, defBody s__law_pool, defScope s__law_pool⟩ (mem_at 11 rfl)
  have k_11 := He.keep_ok (m_fa0 (.keep "_law_pool") (mem_at 28 rfl))
  obtain ⟨oc_12, od_12, sl_12, kV_12, dc_12, pm_12, an_12, cd_12, ct_12, l_12, c_12⟩ := m_fn0 ⟨("_law_word", none), "_law_word", "_law_word", defArgs s__law_word, defBody s__law_word, defScope s__law_word⟩ (mem_at 12 rfl)
  have k_12 := He.keep_ok (m_fa0 (.keep "_law_word") (mem_at 29 rfl))
  obtain ⟨oc_13, od_13, sl_13, kV_13, dc_13, pm_13, an_13, cd_13, ct_13, l_13, c_13⟩ := m_fn0 ⟨("_law_row", none), "_law_row", "_law_row", defArgs s__law_row, defBody s__law_row, defScope s__law_row⟩ (mem_at 13 rfl)
  have k_13 := He.keep_ok (m_fa1 (.keep "_law_row") (mem_at 0 rfl))
  obtain ⟨oc_14, od_14, sl_14, kV_14, dc_14, pm_14, an_14, cd_14, ct_14, l_14, c_14⟩ := m_fn0 ⟨("Plan", some "__iter__"), "__iter__", "Plan.__iter__", defArgs s_Plan___iter__, defBody s_Plan___iter__, defScope s_Plan___iter__⟩ (mem_at 14 rfl)
  obtain ⟨a_14, i_14, k_14⟩ := fx_meth (m_fa1 (.meth "Plan" "__iter__") (mem_at 1 rfl))
  obtain ⟨oc_15, od_15, sl_15, kV_15, dc_15, pm_15, an_15, cd_15, ct_15, l_15, c_15⟩ := m_fn0 ⟨("_law_drawn_act", none), "_law_drawn_act", "_law_drawn_act", defArgs s__law_drawn_act, defBody s__law_drawn_act, defScope s__law_drawn_act⟩ (mem_at 15 rfl)
  have k_15 := He.keep_ok (m_fa1 (.keep "_law_drawn_act") (mem_at 2 rfl))
  obtain ⟨oc_16, od_16, sl_16, kV_16, dc_16, pm_16, an_16, cd_16, ct_16, l_16, c_16⟩ := m_fn0 ⟨("_law_try", none), "_law_try", "_law_try", defArgs s__law_try, defBody s__law_try, defScope s__law_try⟩ (mem_at 16 rfl)
  have k_16 := He.keep_ok (m_fa1 (.keep "_law_try") (mem_at 3 rfl))
  obtain ⟨oc_17, od_17, sl_17, kV_17, dc_17, pm_17, an_17, cd_17, ct_17, l_17, c_17⟩ := m_fn0 ⟨("_law_fill", none), "_law_fill", "_law_fill", defArgs s__law_fill, defBody s__law_fill, defScope s__law_fill⟩ (mem_at 17 rfl)
  have k_17 := He.keep_ok (m_fa1 (.keep "_law_fill") (mem_at 4 rfl))
  obtain ⟨oc_18, od_18, sl_18, kV_18, dc_18, pm_18, an_18, cd_18, ct_18, l_18, c_18⟩ := m_fn0 ⟨("trace", none), "trace", "trace", defArgs s_trace, defBody s_trace, defScope s_trace⟩ (mem_at 18 rfl)
  have k_18 := He.keep_ok (m_fa1 (.keep "trace") (mem_at 5 rfl))
  obtain ⟨oc_19, od_19, sl_19, kV_19, dc_19, pm_19, an_19, cd_19, ct_19, l_19, c_19⟩ := m_fn0 ⟨("_law_small_net", none), "_law_small_net", "_law_small_net", defArgs s__law_small_net, defBody s__law_small_net, defScope s__law_small_net⟩ (mem_at 19 rfl)
  have k_19 := He.keep_ok (m_fa1 (.keep "_law_small_net") (mem_at 6 rfl))
  obtain ⟨oc_20, od_20, sl_20, kV_20, dc_20, pm_20, an_20, cd_20, ct_20, l_20, c_20⟩ := m_fn0 ⟨("_law_job", none), "_law_job", "_law_job", defArgs s__law_job, defBody s__law_job, defScope s__law_job⟩ (mem_at 20 rfl)
  have k_20 := He.keep_ok (m_fa1 (.keep "_law_job") (mem_at 7 rfl))
  obtain ⟨oc_21, od_21, sl_21, kV_21, dc_21, pm_21, an_21, cd_21, ct_21, l_21, c_21⟩ := m_fn0 ⟨("_law_same", none), "_law_same", "_law_same", defArgs s__law_same, defBody s__law_same, defScope s__law_same⟩ (mem_at 21 rfl)
  have k_21 := He.keep_ok (m_fa1 (.keep "_law_same") (mem_at 8 rfl))
  obtain ⟨oc_22, od_22, sl_22, kV_22, dc_22, pm_22, an_22, cd_22, ct_22, l_22, c_22⟩ := m_fn0 ⟨("law", none), "law", "law", defArgs s_law, defBody s_law, defScope s_law⟩ (mem_at 22 rfl)
  have k_22 := He.keep_ok (m_fa1 (.keep "law") (mem_at 9 rfl))
  refine ⟨PySem.W.fnOf "law" "law" (defArgs s_law) (defBody s_law) (defScope s_law) .none kV_22 dc_22 pm_22 an_22 cd_22 ct_22, fun s v => .of_eq rfl, fun base _ _ => ?_⟩
  have F_0 := fun_mk (st := s_narrowed) l_0 c_0 k_0
  have B_0 : Binds K _ ["act", "name"] [] := F_0.binds (ps := ["act", "name"]) fun _ _ _ _ _ _ us hl => match us, hl with | [_, _], _ => rfl
  have O_0 := ok_narrowed (P := l.prog) (w := w) (base := base) F_0 T 
  have D_narrowed : Def l.prog w K mg base 1 "narrowed" ["act", "name"] (spNarrowed) := ⟨_, _, O_0, B_0, (He.glo_ok X G (m_fa1 (.glo "narrowed") (mem_at 10 rfl))), k_0⟩
  have F_1 := fun_mk (st := s_names_of) l_1 c_1 k_1
  have B_1 : Binds K _ ["act"] [] := F_1.binds (ps := ["act"]) fun _ _ _ _ _ _ us hl => match us, hl with | [_], _ => rfl
  have O_1 := ok_names_of (P := l.prog) (w := w) (base := base) F_1 T 
  have D_names_of : Def l.prog w K mg base 1 "names_of" ["act"] (spNamesOf) := ⟨_, _, O_1, B_1, (He.glo_ok X G (m_fa1 (.glo "names_of") (mem_at 11 rfl))), k_1⟩
  have F_2 := fun_mk (st := s__law_due_trace) l_2 c_2 k_2
  have B_2 : Binds K _ ["acts", "name"] [] := F_2.binds (ps := ["acts", "name"]) fun _ _ _ _ _ _ us hl => match us, hl with | [_, _], _ => rfl
  have O_2 := ok__law_due_trace (P := l.prog) (w := w) (base := base) F_2 T 
  have D__law_due_trace : Def l.prog w K mg base 1 "_law_due_trace" ["acts", "name"] (spDueTrace) := ⟨_, _, O_2, B_2, (He.glo_ok X G (m_fa1 (.glo "_law_due_trace") (mem_at 12 rfl))), k_2⟩
  have F_3 := fun_mk (st := s__law_is_integer) l_3 c_3 k_3
  have B_3 : Binds K _ ["told"] [] := F_3.binds (ps := ["told"]) fun _ _ _ _ _ _ us hl => match us, hl with | [_], _ => rfl
  have O_3 := ok__law_is_integer (P := l.prog) (w := w) (base := base) F_3 T 
  have D__law_is_integer : Def l.prog w K mg base 1 "_law_is_integer" ["told"] (spIsInt) := ⟨_, _, O_3, B_3, (He.glo_ok X G (m_fa1 (.glo "_law_is_integer") (mem_at 13 rfl))), k_3⟩
  have F_4 := fun_mk (st := s_Plan___init__) l_4 c_4 k_4
  have B_4 : Binds K _ ["self", "acts", "ranks"] [] := F_4.binds (ps := ["self", "acts", "ranks"]) fun _ _ _ _ _ _ us hl => match us, hl with | [_, _, _], _ => rfl
  have O_4 := ok_Plan___init__ (P := l.prog) (w := w) (base := base) F_4 T 
  have D_Plan___init__ : IDef l.prog w K mg base 1 (He.ga K "Plan") ["self", "acts", "ranks"] (spPlanInit cs) := ⟨_, _, O_4, B_4, ⟨(fx_mkr (m_fa0 (.mkr "Plan") (mem_at 13 rfl))).1, a_4, i_4, (fx_mkr (m_fa0 (.mkr "Plan") (mem_at 13 rfl))).2.2.2⟩⟩
  have F_5 := fun_mk (st := s__law_draw) l_5 c_5 k_5
  have B_5 : Binds K _ ["box", "many"] [] := F_5.binds (ps := ["box", "many"]) fun _ _ _ _ _ _ us hl => match us, hl with | [_, _], _ => rfl
  have O_5 := ok__law_draw (P := l.prog) (w := w) (base := base) F_5 T 
  have D__law_draw : Def l.prog w K mg base 1 "_law_draw" ["box", "many"] (spDraw) := ⟨_, _, O_5, B_5, (He.glo_ok X G (m_fa1 (.glo "_law_draw") (mem_at 14 rfl))), k_5⟩
  have F_6 := fun_mk (st := s__law_cells) l_6 c_6 k_6
  have B_6 : Binds K _ ["job"] [] := F_6.binds (ps := ["job"]) fun _ _ _ _ _ _ us hl => match us, hl with | [_], _ => rfl
  have O_6 := ok__law_cells (P := l.prog) (w := w) (base := base) F_6 T 
  have D__law_cells : Def l.prog w K mg base 1 "_law_cells" ["job"] (spLCells) := ⟨_, _, O_6, B_6, (He.glo_ok X G (m_fa1 (.glo "_law_cells") (mem_at 15 rfl))), k_6⟩
  have F_7 := fun_mk (st := s__law_wrap) l_7 c_7 k_7
  have B_7 : Binds K _ ["n"] [] := F_7.binds (ps := ["n"]) fun _ _ _ _ _ _ us hl => match us, hl with | [_], _ => rfl
  have O_7 := ok__law_wrap (P := l.prog) (w := w) (base := base) F_7 T 
  have D__law_wrap : Def l.prog w K mg base 1 "_law_wrap" ["n"] (spWrap) := ⟨_, _, O_7, B_7, (He.glo_ok X G (m_fa1 (.glo "_law_wrap") (mem_at 16 rfl))), k_7⟩
  have F_8 := fun_mk (st := s__law_length) l_8 c_8 k_8
  have B_8 : Binds K _ ["net", "node"] [] := F_8.binds (ps := ["net", "node"]) fun _ _ _ _ _ _ us hl => match us, hl with | [_, _], _ => rfl
  have O_8 := ok__law_length (P := l.prog) (w := w) (base := base) F_8 T 
  have D__law_length : Def l.prog w K mg base 1 "_law_length" ["net", "node"] (spLLen) := ⟨_, _, O_8, B_8, (He.glo_ok X G (m_fa1 (.glo "_law_length") (mem_at 17 rfl))), k_8⟩
  have F_9 := fun_mk (st := s__law_cell) l_9 c_9 k_9
  have B_9 : Binds K _ ["script", "k"] [] := F_9.binds (ps := ["script", "k"]) fun _ _ _ _ _ _ us hl => match us, hl with | [_, _], _ => rfl
  have O_9 := ok__law_cell (P := l.prog) (w := w) (base := base) F_9 T 
  have D__law_cell : Def l.prog w K mg base 1 "_law_cell" ["script", "k"] (spCell K) := ⟨_, _, O_9, B_9, (He.glo_ok X G (m_fa1 (.glo "_law_cell") (mem_at 18 rfl))), k_9⟩
  have F_10 := fun_mk (st := s__law_some) l_10 c_10 k_10
  have B_10 : Binds K _ ["box", "names", "most"] [] := F_10.binds (ps := ["box", "names", "most"]) fun _ _ _ _ _ _ us hl => match us, hl with | [_, _, _], _ => rfl
  have O_10 := ok__law_some (P := l.prog) (w := w) (base := base) F_10 T (d__law_draw := D__law_draw)
  have D__law_some : Def l.prog w K mg base 2 "_law_some" ["box", "names", "most"] (spSome 5) := ⟨_, _, O_10, B_10, (He.glo_ok X G (m_fa1 (.glo "_law_some") (mem_at 19 rfl))), k_10⟩
  have F_11 := fun_mk (st := s__law_pool) l_11 c_11 k_11
  have B_11 : Binds K _ ["job"] [] := F_11.binds (ps := ["job"]) fun _ _ _ _ _ _ us hl => match us, hl with | [_], _ => rfl
  have O_11 := ok__law_pool (P := l.prog) (w := w) (base := base) F_11 T (d__law_cells := D__law_cells)
  have D__law_pool : Def l.prog w K mg base 2 "_law_pool" ["job"] (spPool) := ⟨_, _, O_11, B_11, (He.glo_ok X G (m_fa1 (.glo "_law_pool") (mem_at 20 rfl))), k_11⟩
  have F_12 := fun_mk (st := s__law_word) l_12 c_12 k_12
  have B_12 : Binds K _ ["box"] [] := F_12.binds (ps := ["box"]) fun _ _ _ _ _ _ us hl => match us, hl with | [_], _ => rfl
  have O_12 := ok__law_word (P := l.prog) (w := w) (base := base) F_12 T (d__law_draw := D__law_draw) (d__law_wrap := D__law_wrap)
  have D__law_word : Def l.prog w K mg base 2 "_law_word" ["box"] (spWord) := ⟨_, _, O_12, B_12, (He.glo_ok X G (m_fa1 (.glo "_law_word") (mem_at 21 rfl))), k_12⟩
  have F_13 := fun_mk (st := s__law_row) l_13 c_13 k_13
  have B_13 : Binds K _ ["script", "first", "last"] [] := F_13.binds (ps := ["script", "first", "last"]) fun _ _ _ _ _ _ us hl => match us, hl with | [_, _, _], _ => rfl
  have O_13 := ok__law_row (P := l.prog) (w := w) (base := base) F_13 T (d__law_cell := D__law_cell)
  have D__law_row : Def l.prog w K mg base 2 "_law_row" ["script", "first", "last"] (spRow K) := ⟨_, _, O_13, B_13, (He.glo_ok X G (m_fa1 (.glo "_law_row") (mem_at 22 rfl))), k_13⟩
  have F_14 := fun_mk (st := s_Plan___iter__) l_14 c_14 k_14
  have B_14 : Binds K _ ["self"] [] := F_14.binds (ps := ["self"]) fun _ _ _ _ _ _ us hl => match us, hl with | [_], _ => rfl
  have D_Plan___iter__ : OwnIt l.prog w K mg base (He.ga K "Plan") "acts" := own_Plan___iter__ a_14 i_14 F_14 B_14 T
  have F_15 := fun_mk (st := s__law_drawn_act) l_15 c_15 k_15
  have B_15 : Binds K _ ["box", "pool"] [] := F_15.binds (ps := ["box", "pool"]) fun _ _ _ _ _ _ us hl => match us, hl with | [_, _], _ => rfl
  have O_15 := ok__law_drawn_act (P := l.prog) (w := w) (base := base) F_15 T (d__law_draw := D__law_draw) (d__law_some := D__law_some)
  have D__law_drawn_act : Def l.prog w K mg base 3 "_law_drawn_act" ["box", "pool"] (spDAct2) := ⟨_, _, O_15, B_15, (He.glo_ok X G (m_fa1 (.glo "_law_drawn_act") (mem_at 23 rfl))), k_15⟩
  have F_16 := fun_mk (st := s__law_try) l_16 c_16 k_16
  have B_16 : Binds K _ ["box", "net"] [] := F_16.binds (ps := ["box", "net"]) fun _ _ _ _ _ _ us hl => match us, hl with | [_, _], _ => rfl
  have O_16 := ok__law_try (P := l.prog) (w := w) (base := base) F_16 T (d__law_draw := D__law_draw) (d__law_word := D__law_word)
  have D__law_try : Def l.prog w K mg base 3 "_law_try" ["box", "net"] (spTry) := ⟨_, _, O_16, B_16, (He.glo_ok X G (m_fa1 (.glo "_law_try") (mem_at 24 rfl))), k_16⟩
  have F_17 := fun_mk (st := s__law_fill) l_17 c_17 k_17
  have B_17 : Binds K _ ["box"] [] := F_17.binds (ps := ["box"]) fun _ _ _ _ _ _ us hl => match us, hl with | [_], _ => rfl
  have O_17 := ok__law_fill (P := l.prog) (w := w) (base := base) F_17 T (d__law_draw := D__law_draw) (d__law_word := D__law_word)
  have D__law_fill : Def l.prog w K mg base 3 "_law_fill" ["box"] (spFill) := ⟨_, _, O_17, B_17, (He.glo_ok X G (m_fa1 (.glo "_law_fill") (mem_at 25 rfl))), k_17⟩
  have F_18 := fun_mk (st := s_trace) l_18 c_18 k_18
  have B_18 : Binds K _ ["plan", "name"] [] := F_18.binds (ps := ["plan", "name"]) fun _ _ _ _ _ _ us hl => match us, hl with | [_, _], _ => rfl
  have O_18 := ok_trace (P := l.prog) (w := w) (base := base) F_18 T (d_Plan___iter__ := D_Plan___iter__) (d_names_of := D_names_of) (d_narrowed := D_narrowed)
  have D_trace : Def l.prog w K mg base 4 "trace" ["plan", "name"] (spTrace cs) := ⟨_, _, O_18, B_18, (He.glo_ok X G (m_fa1 (.glo "trace") (mem_at 26 rfl))), k_18⟩
  have F_19 := fun_mk (st := s__law_small_net) l_19 c_19 k_19
  have B_19 : Binds K _ ["box", "most"] [] := F_19.binds (ps := ["box", "most"]) fun _ _ _ _ _ _ us hl => match us, hl with | [_, _], _ => rfl
  have O_19 := ok__law_small_net (P := l.prog) (w := w) (base := base) F_19 T (d__law_draw := D__law_draw) (d__law_fill := D__law_fill) (d__law_try := D__law_try) (d__law_length := D__law_length)
  have D__law_small_net : Def l.prog w K mg base 4 "_law_small_net" ["box", "most"] (spSNet) := ⟨_, _, O_19, B_19, (He.glo_ok X G (m_fa1 (.glo "_law_small_net") (mem_at 27 rfl))), k_19⟩
  have F_20 := fun_mk (st := s__law_job) l_20 c_20 k_20
  have B_20 : Binds K _ ["box", "most"] [] := F_20.binds (ps := ["box", "most"]) fun _ _ _ _ _ _ us hl => match us, hl with | [_, _], _ => rfl
  have O_20 := ok__law_job (P := l.prog) (w := w) (base := base) F_20 T (d__law_small_net := D__law_small_net) (d__law_draw := D__law_draw) (d__law_word := D__law_word)
  have D__law_job : Def l.prog w K mg base 5 "_law_job" ["box", "most"] (spSJob) := ⟨_, _, O_20, B_20, (He.glo_ok X G (m_fa1 (.glo "_law_job") (mem_at 28 rfl))), k_20⟩
  have F_21 := fun_mk (st := s__law_same) l_21 c_21 k_21
  have B_21 : Binds K _ ["told", "due"] [] := F_21.binds (ps := ["told", "due"]) fun _ _ _ _ _ _ us hl => match us, hl with | [_, _], _ => rfl
  have O_21 := rec__law_same (P := l.prog) (w := w) (base := base) F_21 T (d__law_is_integer := D__law_is_integer) (hb := B_21) (hm := (He.glo_ok X G (m_fa1 (.glo "_law_same") (mem_at 29 rfl)))) 9
  have D__law_same : Def l.prog w K mg base 10 "_law_same" ["told", "due"] (spSame 9) := ⟨_, _, O_21, B_21, (He.glo_ok X G (m_fa1 (.glo "_law_same") (mem_at 29 rfl))), k_21⟩
  exact ok_law (fun_mk (st := s_law) l_22 c_22 k_22) T (d__law_row := D__law_row) (d__law_job := D__law_job) (d__law_pool := D__law_pool) (d__law_draw := D__law_draw) (d__law_drawn_act := D__law_drawn_act) (d_Plan___init__ := D_Plan___init__) (d__law_same := D__law_same) (d__law_due_trace := D__law_due_trace) (d_trace := D_trace)
end My
open PySem PySem.W PySem.Calls PyProof.Rows
set_option maxHeartbeats 0 in
theorem PySem.Challenge.cw_asifone_k66_traces_of_names_holds : PySem.Challenge.rw_asifone_k66_traces_of_names.Holds := by
  w_on; o_law
  refine HandSHeadRun.head_any (r := OpenLaw.row PySem.Challenge.rw_asifone_k66_traces_of_names) (q := view (OpenLaw.row PySem.Challenge.rw_asifone_k66_traces_of_names).prog [25]) (H := My.h_k) (ob := My.h_ob) (M := 30000) (loose := My.h_loose) (d := HandSHeadRun.topDef (OpenLaw.row PySem.Challenge.rw_asifone_k66_traces_of_names).prog 25) (kwd := []) My.h_ob_eq
    (by kernel_rfl) (fun s => by kernel_rfl) My.h_run (by kernel_rfl) (by kernel_rfl) (by kernel_rfl) (by rfl) (by first | assumption | decide +kernel) (by decide +kernel) ⟨rfl, rfl, rfl, rfl, rfl, by decide +kernel⟩ ?hw ?hc
  case hw => w_witness2
  case hc =>
    refine L2.walk_ofE (l := PySem.Challenge.rw_asifone_k66_traces_of_names) (n := 63) (k := 11) (x := "script") (CX := L2.CX0) rfl (by decide) (by kernel_rfl) ⟨rfl, by decide, by decide⟩ ?F (fun _ _ _ _ z => z)
    intro w mg fa h Y G hmg0
    obtain ⟨K, KX, c⟩ := Y
    have hmg : mg ("law" : PySem.Str) = some (.ref fa) := by
      have e : (HandSHeadRun.topDef (OpenLaw.row PySem.Challenge.rw_asifone_k66_traces_of_names).prog 25).name = ("law" : PySem.Str) := by kernel_rfl
      rw [← e]
      exact hmg0
    obtain ⟨fd, hb, hF⟩ := My.all_mk (l := PySem.Challenge.rw_asifone_k66_traces_of_names) (w := w) KX G hmg c
    exact ⟨K, fd, My.spLaw K, KX, hb, fun H a ns hl _ hS => ⟨a, ns, rfl, hS, hl, fun _ => rfl⟩, hF⟩
